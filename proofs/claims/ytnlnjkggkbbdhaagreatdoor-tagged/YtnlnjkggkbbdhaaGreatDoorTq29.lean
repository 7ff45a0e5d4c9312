import Derived.Test.YtnlnjkggkbbdhaaGreatDoorTq27
import Derived.Test.YtnlnjkggkbbdhaaGreatDoorTq28
set_option maxRecDepth 100000
set_option maxHeartbeats 8000000
set_option linter.all false
namespace Go.Proofs.YtnlnjkggkbbdhaaGreatDoor
open Go.Proofs.Tryz
open Go.Value renaming int->I,slice->G
open Option renaming some->U,none->Y
open Go.IntKind renaming i64->K
open Go renaming World->O
open Go.Obj renaming cells->E
open Go.Proofs.Tryz renaming prog->X
open Go.Value renaming int->A6,slice->A7,pointer->A8,string->A9,tuple->Aa,bool->Ac,iface->Ad
open Go.Obj renaming cells->Ae
open Go.Ending renaming returned->Af
open Go.IntKind renaming i64->Ag
open Go renaming World->Ak,Value->Al,Calls->Am
variable{c:BX}{A L b b0 base cap g j k mn n p2 p3 p4 p5 p6 p7 sc:Nat}{fed l:A1}{V V' W W' W0 w:O}{q:Cs}{bv sv v:Al}{sts:List ((Nat->Nat)×Int×Int)}{ba ea sa:A4}{mf nf:Lit->Option Nat}{cs d:A3}{B:List Int}{z:Cz}{P:Program}{o:Obj}
section
open Go.RowKit Go.Lib
structure KH(c:BX):Prop where
 lab:1<=c.labels/\c.labels<=6
 dfl:0<=c.dflt/\c.dflt<(c.labels.toNat:Int)
 clr:0<=c.clr/\c.clr<(c.labels.toNat:Int)
 inn:c.inn=1\/c.inn=2\/c.inn=3
 out:c.out=1\/c.out=2\/c.out=3
 dep:1<=c.depth/\c.depth<=16
 byt:1<=c.bytes/\c.bytes<=4096
 b8:c.B.length<=8
 b6:∀i (h:i<c.B.length),c.B[i]<=65536
 pol:Eu c.labels.toNat c.pol.data.toList=0
def bf{f:Int}(h:EN f=true):f=1\/f=2\/f=3:=by
 unfold EN at h;simp only[Mq,KU]at h;omega
def Pz(h:CB c=0):KH c:=by
 have k:=b9 h;rw[<-(Uw c).1]at h;unfold FX at h;split at h
 ·next hh=>exact absurd h hh
 next hh =>
 have g:Em c.labels c.L c.dflt c.clr=0:=Sr hh;split at h
 ·cases h
 next a =>
 split at h
 ·cases h
 next d =>
 have a:EG c.inn c.out c.depth c.bytes=true:=AO
 have d:Gy c.B=true:=keB
 unfold Em at g;split at g
 ·next hn =>
  simp only[Dw]at hn;obtain⟨⟨b,e⟩,f⟩:=hn;unfold E9 at b;rw[Dw]at b;have b:=CD b.1;have e:=CD e;have f:=CD f;unfold EG at a;simp only[Dw,KQ]at a;unfold Gy at d;rw[Dw]at d;refine⟨⟨b.1,b.2.1⟩,e,f,bf a.1.1.1.1.1,bf a.1.1.1.1.2,⟨a.1.1.1.2,a.1.1.2⟩,⟨a.1.2,a.2⟩,CD d.1,λi j=>?_,k⟩;have:=CD (E8.1 d.2 i (CV.2 j));rw[Mh,C6 j]at this;exact this.2
 cases g
def r8(h:Eu n l=0):∀x∈(Dd l).map DP,∃m:Nat,x.2.1=(m:Int)/\m<n:=by
 have g:Dc n l<0:=by
  unfold Eu at h;split at h
  ·cases h
  omega
 intro x k;obtain⟨r,f,rfl⟩:=Mt.1 k;unfold Dc at g;unfold Dd at f;split at g
 ·omega
 split at g
 ·next h0 =>
  rw[BA h0]at f;cases f
 next h0 =>
 rw[Bz h0]at f;obtain⟨i,_⟩:=UF (Cn 10 l) 0 g J;obtain⟨y,o,rfl⟩:=Mt.1 f;have e:=i y o;unfold CG at e;show∃m:Nat,(DU y).2.1=(m:Int)/\m<n;unfold DU
 match hs:Cn 32 y,e with
 |[a,b,c],e =>
  unfold LW at e;simp only[Dw]at e;have e:=e.2.1
  match b,e with
  |[d],e =>
   unfold Gh at e;rw[Dw]at e;have j:=CD e.1;have p:=CD e.2;refine⟨d.toNat-48,?_,J⟩;show(if 48<=d.toNat/\d.toNat<=57 then(d.toNat:Int)-48 else 0)=_;rw[BA j];omega
structure G2(b:Nat)(W:World):Prop where
 rd:JU W
 st:P9 b W
 db:W.cell? ⟨8,15,none⟩=some (.int .u8 4)
 gl:Iq W
 big:9<=b/\b<=W.heap.size
def J2(a:∀q,q<9->V.heap[q]?=W.heap[q]?){q off:Nat}(b:q<9)(h:W.cell? ⟨q,off,Y⟩=U v):V.cell? ⟨q,off,Y⟩=U v:=(Im (w:=W) (a q b)).trans h
def U8.low(a:∀q,q<9->V.heap[q]?=W.heap[q]?)(h:U8 W):U8 V :=
 ⟨λc d=>J2 a Ay (h.1 c d),λi b=>⟨J2 a Ay (h.2 i b).1,J2 a Ay (h.2 i b).2⟩⟩
def G2.below(h:G2 b W)(hb:Below b W V):G2 b V:=by
 have a:∀q,q<9->V.heap[q]?=W.heap[q]?:=λq g=>hb.block q (Ao h.big.1);have i:=hb.size;refine⟨⟨h.rd.u8.low a,⟨λu c=>J2 a Ay (h.rd.hd.cb u c),λu c=>⟨J2 a Ay (h.rd.hd.pk u c).1,J2 a Ay (h.rd.hd.pk u c).2.1,J2 a Ay (h.rd.hd.pk u c).2.2⟩⟩,?_⟩,h.st.on hb,J2 a Ay h.db,?_,h.big.1,?_⟩
 ·have:=h.rd.big;omega
 ·obtain⟨t,d,e⟩:=h.gl.signs;obtain⟨m,f⟩:=h.gl.mlen;exact⟨⟨t,d,(a _ Ay).trans e⟩,U8.low a h.gl.tabs,m,J2 a Ay f⟩
 have:=h.big.2;omega
def G2.up(h:G2 b W)(hb:Below b W V):P9 V.heap.size V:=λc a=>h.st c (hb.trans (a.mono (Aq h.big.2 hb.size)))
def Eh(c:BX):Rv:=⟨Fz c,c.dflt,CU c.labels.toNat c.L,c.clr.toNat,c.key⟩
def kC(c:BX):Nat:=c.depth.toNat+1
def Lr(c:BX)(A:Nat):A3:=Cp c.labels.toNat (CU c.labels.toNat c.L)++#[A6 Ag c.clr,A6 Ag c.key,A8 (some ⟨A,0,none⟩)]
def Fm(c:BX)(A:Nat)(bv:Al):Gt:=⟨c.inn,c.out,c.depth,c.bytes.toNat,Lr c A,bv⟩
def Vd(c:BX)(A:Nat):(Lr c A).size=40:=by unfold Lr;rw[SJ,Cr];rfl
def r9(ck:KH c)(A:Nat)(a:Al):O8 c A a=Ck (Fm c A a) (G Y 0 0) false:=by
 have h:((c.bytes.toNat:Nat):Int)=c.bytes:=LE (Ao ck.byt);unfold O8 Ck Fm Lr;dsimp only;rw[h]
def Xc(A:Nat)(q:Cs)(own0:Option Nat)(j:Nat):Prop:=j≠A/\j≠q.nb/\j≠q.mb/\some j≠own0
def re(ck:KH c){U:O}(h:KG c W0 L A q sts sa sc nf mf bv V)(g:G2 b W0)(f:W0.heap.size<=U.heap.size)(i:Option Nat):GL ⟨Eh c,W0,A,q,U.heap.size+2,Cp c.labels.toNat (CU c.labels.toNat c.L),c.labels.toNat,U,i⟩:=by
 obtain⟨a,d,e⟩:=UG ck.pol;refine⟨h.cp.ers,h.cp.edf,h.cp.elf,h.cp.eL,h.cp.ly,a,d,e,GU _ _,?_,?_,?_,C7 f (Nm _ _),Nm _ _,g.db⟩
 ·show c.labels.toNat<=6;have:=ck.lab;omega
 ·show c.clr.toNat<c.labels.toNat;have:=ck.clr;omega
 refine be ⟨c.dflt.toNat,?_,?_⟩ (Fz c) (r8 ck.pol)
 ·show c.dflt=_;have:=ck.dfl;omega
 show c.dflt.toNat<c.labels.toNat;have:=ck.dfl;omega
def rf(ck:KH c){D:A2->Prop}(z:∀r:Rc,GL r->r.v=Eh c->MZ D r (kC c) []){U:O}(h:KG c W0 L A q sts sa sc nf mf bv V)(F:G2 b W0)(k:A0 V U){t:TypeId}{y:Al}{d:A2}(u:BQ (kC c) V (λj=>j<V.heap.size) (Ad t y) d)(aa:Ex (kC c) d<=2000000)(s:D d):Am X 59 #[.agg (Lr c A),Ad t y] U (UX (Xc A q (Value.slice sa sts.length sc).ownBlock) V.heap.size (kC c) U (De (Eh c) (kC c) [] d (0,0,0,0)).2 ((De (Eh c) (kC c) [] d (0,0,0,0)).1.getD .nil)):=by
 have f:CZ W0 A q sts (G sa sts.length sc) nf 0 mf U:=h.cp.au.next k
 have B:W0.heap.size<=U.heap.size:=f.below.size;have ok:=re (U:=U) ck h F B (Value.slice sa sts.length sc).ownBlock;have w:=(UG ck.pol).1;have C:IZ ⟨Eh c,W0,A,q,U.heap.size+2,Cp c.labels.toNat (CU c.labels.toNat c.L),c.labels.toNat,U,(Value.slice sa sts.length sc).ownBlock⟩ sts 0 []:=by
  obtain⟨x,R,l,i,m⟩:=h.cp.first
  exact⟨x,l,ZZ (pC h.cp.ly i) w m⟩
 have W:=UT (kC c) d;have S:=US (kC c) d;have n:=qm ⟨Eh c,W0,A,q,U.heap.size+2,Cp c.labels.toNat (CU c.labels.toNat c.L),c.labels.toNat,U,(Value.slice sa sts.length sc).ownBlock⟩ ok Z U Z Z (kC c) (z _ ok Z) (λj=>j<V.heap.size) (Ad t y) d s 0 sts sa sc nf 0 mf f h.cp.mv (BM _) h.cp.few Z C (λj g=>CA g k.size) (u.same (λ_ g=>g) (λj g=>k.block j g)) J J;have o:FZ ⟨Eh c,W0,A,q,U.heap.size+2,Cp c.labels.toNat (CU c.labels.toNat c.L),c.labels.toNat,U,(Value.slice sa sts.length sc).ownBlock⟩=Lr c A:=by
  have p:((c.clr.toNat:Nat):Int)=c.clr:=LE ck.clr.1;unfold FZ Lr Eh;dsimp only;rw[p]
 rw[o]at n;refine n.mono ?_;rintro e Q ⟨N,P,rfl,l,i,m,H⟩;refine⟨N,P,Z,⟨⟨i.os.trans f.below.os.symm,i.tape.trans f.below.tape.symm,i.output.trans f.below.output.symm⟩,l,λj a b=>m j a b.1 b.2.1 b.2.2.1 b.2.2.2⟩,H⟩
def rg{F:Nat->Prop}{bc:Nat}(h:Dj W 3 1 F (G ba B.length bc) B.length (B.map (Value.int K))):IN W ba B:=by
 refine⟨λi p=>?_⟩;rcases h.2 with⟨_,l⟩|⟨g,k,c,e,_,a,m,n,o,d⟩
 ·omega
 injection e with e1 _ _;refine⟨g,0,e1,(BC a),λj f=>?_⟩;rw[DY];refine(BB a j).trans ?_;have b:(c.toList.take (B.length*1))[j]?=(B.map (Value.int K))[j]?:=by rw[d]
 rw[KM J,Jc,C6 f]at b;simpa using b
def IB(c:BX)(l:A1):Cz:=match Cj c.inn l c.depth c.bytes with
 |.error e=>.error e
 |.ok d=>.ok ((De (Eh c) (kC c) [] d (0,0,0,0)).2,KE c.out (kC c) ((De (Eh c) (kC c) [] d (0,0,0,0)).1.getD .nil) c.B)
def rh(X:Nat->Prop)(k:Nat)(W:O)(L:Nat)(g:Gt)(D:g.rc.size=40)(a:A4)(c b:Nat)(a1:(Ck g (G a c b) false).all (·.oneCell')=true)(hg:W.heap[L]?=U (E (Ck g (G a c b) false) 96))(r:Except (Int×Int) (DataW Unit))(am:∀C pl,r=.error (C,pl)->C≠0)(ae:Cz)(cD:∀l,Below (E6 W L g (G a c b)).heap.size (E6 W L g (G a c b)) l->Am prog 18 #[I K g.inF,.agg #[I K g.depth,I K g.bytes],G a c b] l (He k l r))(hz:∀e,r=.error e->ae=.error e)(cP:∀d,r=.ok d->∃R n,ae=.ok (R,n)/\∀V t y,Below (E6 W L g (G a c b)).heap.size (E6 W L g (G a c b)) V->BQ k V (λj=>(E6 W L g (G a c b)).heap.size<=j/\j<V.heap.size) (Ad t y) d->∀l,A0 V l->Am prog 34 #[A8 (U ⟨W.heap.size+1,0,Y⟩),Ad t y] l (RI X l R n)):Am prog 14 #[A8 (U ⟨L,0,Y⟩)] W (qS X W L ae):=by
 have hL:=BC hg;have av:(W.alloc (E #[I K 0,I K 0,I K 0,I K 0] 30)).cell? ⟨L,46,Y⟩=U (Ac false):=(BB ((BT _ _ _ hL).trans hg) 46).trans (Kt D _ _ 2);have x:Hid ((W.alloc (E #[I K 0,I K 0,I K 0,I K 0] 30)).heap[L]?=U (E (Ck g (G a c b) false) 96)):=(BT _ _ _ hL).trans hg;have F:Hid (((W.alloc (E #[I K 0,I K 0,I K 0,I K 0] 30)).alloc (E (Ck g (G a c b) false) 96)).heap[L]?=U (E (Ck g (G a c b) false) 96)):=(BT _ _ _ kfg).trans x;have ad:Hid (((W.alloc (E #[I K 0,I K 0,I K 0,I K 0] 30)).alloc (E (Ck Fl (G Y 0 0) false) 96)).heap[W.heap.size+1]?=U (E (Ck Fl (G Y 0 0) false) 96)):=by
  have h:=BI (W.alloc (E #[I K 0,I K 0,I K 0,I K 0] 30)) (E (Ck Fl (G Y 0 0) false) 96);rw[BU]at h;exact h
 have z:Hid (((W.alloc (E #[I K 0,I K 0,I K 0,I K 0] 30)).alloc (E (Ck Fl (G Y 0 0) false) 96)).setRow (W.heap.size+1) (Ck g (G a c b) false)=(W.alloc (E #[I K 0,I K 0,I K 0,I K 0] 30)).alloc (E (Ck g (G a c b) false) 96)):=by
  have h:=FP (W.alloc (E #[I K 0,I K 0,I K 0,I K 0] 30)) (Ck Fl (G Y 0 0) false) (Ck g (G a c b) false) 96;rw[BU]at h;exact h
 have P:Hid ((Ck g (G a c b) false).size=47):=O6 D _ _;have ak:Hid ((Ck Fl (G Y 0 0) true).size=47):=O6 Vb _ _;have Q:Hid ((Ck Fl (G Y 0 0) false).size=(Ck g (G a c b) false).size):=by show _=_;rw[O6 D,O6 Vb]
 have A:Hid ((Ck g (G a c b) false).size=(Ck Fl (G Y 0 0) true).size):=by show _=_;rw[O6 D,O6 Vb]
 have ah:Hid ((Ck g (G a c b) false).all (·.oneCell')=true):=a1;have ai:Hid ((Ck Fl (G Y 0 0) true).all (·.oneCell')=true):=by show _=_;kernel_rfl
 have w:Hid (E6 W L g (G a c b)=((W.alloc (E #[I K 0,I K 0,I K 0,I K 0] 30)).alloc (E (Ck g (G a c b) false) 96)).setRow L (Ck Fl (G Y 0 0) true)):=rfl;have v:Hid ((E6 W L g (G a c b)).heap[W.heap.size]?=U (E (C4 (0,0,0,0)) 30)):=qT W L g _ hL;have p:Hid ((E6 W L g (G a c b)).heap[L]?=U (E (Ck Fl (G Y 0 0) true) 96)):=qU W L g _ hg;have ap:Hid ((E6 W L g (G a c b)).heap.size=W.heap.size+2):=RJ W L g _;have cR:=Zn k (E6 W L g (G a c b)) (W.heap.size+1) g D a c b false r (aZ W L g _ hL) cD;have HP:Hid (∀d,r=.ok d->∃R n,ae=.ok (R,n)/\∀V t y,Below (E6 W L g (G a c b)).heap.size (E6 W L g (G a c b)) V->BQ k V (λj=>(E6 W L g (G a c b)).heap.size<=j/\j<V.heap.size) (Ad t y) d->∀l,A0 V l->Am prog 34 #[A8 (U ⟨W.heap.size+1,0,Y⟩),Ad t y] l (RI X l R n)):=cP;clear hg D cD cP a1;have af:Hid (prog.built 96 [(6,Ac true)]=U (Ck Fl (G Y 0 0) true)):=qR;obtain⟨q,au⟩:∃q,Hid (E6 W L g (G a c b)=q):=⟨_,rfl⟩
 have ag:Hid (∀V,Dq X (E6 W L g (G a c b)) V->M1 X L W V):=λV h=>M1.of h;rw[au.out]at w v p ap cR HP ag;clear au;have ax:L≠W.heap.size:=J
 obtain⟨GA,a3⟩:∃GA,Hid (Ck g (G a c b) false=GA):=⟨_,rfl⟩
 obtain⟨s,H⟩:∃s,Hid (Ck Fl (G Y 0 0) true=s):=⟨_,rfl⟩
 rw[a3.out]at x F z P Q A ah w;rw[H.out]at w p ak A ai af;rcases r with⟨C,pl⟩|d
 ·obtain rfl:=hz _ rfl;have a0:=am C pl Z;have e1:(C==0)=false:=by simpa using a0
  have e2:(C != 0)=true:=by simpa using a0
  clear hz am HP;go_enter func14,ntmps14
  go_wp2_with(first
   |(refine C8 Z 96 _ Z L Z _ _ _ _ x underlying96 Z (O7 P) ?_)
   |(refine aY Z Z _ Z (W.heap.size+1) ?hN ?_;case hN=>(simp only[BU,A0];done))
   |(refine Co Z 96 _ _ Z (W.heap.size+1) GA Z Z 96 _ ad (O7 P) Q ah ?_;rw[z.out];clear ad z)
   |(refine Gb Z 96 _ Z _ Z _ [(6,Ac true)] ?hl af ?_;case hl=>simp[go_sem])
   |(refine Co Z 96 _ _ Z L s Z Z 96 _ F (O7 ak) A ai ?_;rw[<-w.out];clear av x F Q A w)
   |(go_at_call 33;refine cR.mono ?_;clear cR;rintro e o ⟨m,hF⟩;obtain rfl:=hF;have ab:Hid (Dq X q o):=Dq.of_below m;have N:Hid (o.heap[W.heap.size]?=U (E (C4 (0,0,0,0)) 30)):=(m.block _ (BC v)).trans v;have ac:Hid (o.heap[L]?=U (E s 96)):=(m.block _ (BC p)).trans p;clear m v p)
   |(refine Co Z 30 _ _ Z W.heap.size #[I K 0,I K 0,I K 0,I K 0] Z Z 30 _ N O0 Z UZ ?_))
  refine Cc (Zo results14 _ _ W.heap.size 30 #[I K 0,I K 0,I K 0,I K 0] (0,0) _ Z (Ca _ _ _ _ _ _ N) underlying30 Z O0 _ _ _ Z Z Z) Z ?_;exact⟨Y,0,0,Z,(ag _ ab).set (BM _) _,by rw[H.out];exact(CQ _ _ _ _ ax).trans ac,Z⟩
 obtain⟨R,n,rfl,ay⟩:=HP.out d rfl;have ao:Hid (∀V t y,A0 q V->BQ k V (λj=>q.heap.size<=j/\j<V.heap.size) (Ad t y) d->∀l,A0 V l->Am prog 34 #[A8 (U ⟨W.heap.size+1,0,Y⟩),Ad t y] l (RI X l R n)):=ay;clear hz am HP ay;obtain⟨f,aq⟩:∃f,Hid (UV R n=f):=⟨_,rfl⟩
 obtain⟨E1,an⟩:∃E1,Hid (UW n=E1):=⟨_,rfl⟩
 go_enter func14,ntmps14
 go_wp2_with(first
  |(refine C8 Z 96 _ Z L Z _ _ _ _ x underlying96 Z (O7 P) ?_)
  |(refine aY Z Z _ Z (W.heap.size+1) ?hN ?_;case hN=>(simp only[BU,A0];done))
  |(refine Co Z 96 _ _ Z (W.heap.size+1) GA Z Z 96 _ ad (O7 P) Q ah ?_;rw[z.out];clear ad z)
  |(refine Gb Z 96 _ Z _ Z _ [(6,Ac true)] ?hl af ?_;case hl=>simp[go_sem])
  |(refine Co Z 96 _ _ Z L s Z Z 96 _ F (O7 ak) A ai ?_;rw[<-w.out];clear av x F Q A w)
  |(go_at_call 33;refine cR.mono ?_;clear cR;rintro e o ⟨m,hF⟩;obtain⟨t,y,rfl,hT⟩:=hF;have cP:=ao.out o t y m hT o Cm;have ab:Hid (Dq X q o):=Dq.of_below m;have N:Hid (o.heap[W.heap.size]?=U (E (C4 (0,0,0,0)) 30)):=(m.block _ (BC v)).trans v;have ac:Hid (o.heap[L]?=U (E s 96)):=(m.block _ (BC p)).trans p;have ar:Hid (W.heap.size<o.heap.size):=by{have h:=m.size;have h2:=ap.out;show _<_;omega};clear m v p ao hT)
  |(go_at_call 34;refine cP.mono ?_;clear cP;rintro e i ⟨va,vn,vc,rfl,aw,az⟩;have u:Hid (b7 X W q L i.heap.size f (G va vn vc) n (i.alloc (E (C4 f) 30))):=qW ar ab aw N (by rw[H.out];exact ac) az;clear aw az ab N ac ar;rw[aq.out,an.out])
  |(refine Co Z 30 _ _ Z i.heap.size (C4 f) Z Z 30 _ (BI i _) (G0 f) Z (O5 f) ?_;rw[FP]))
 have aa:(λB:O=>B.heap[i.heap.size]?=U (E (C4 f) 30)) { (i.alloc (E (C4 f) 30))with drawn:=(i.alloc (E (C4 f) 30)).drawn+1}:=u.rep;refine Ec (S:=λB=>B.heap[i.heap.size]?=U (E (C4 f) 30)) M ?_;have a4:Hid (Dq X q { (i.alloc (E (C4 f) 30))with drawn:=(i.alloc (E (C4 f) 30)).drawn+1}):=u.fr.drew;have aj:Hid (({ (i.alloc (E (C4 f) 30))with drawn:=(i.alloc (E (C4 f) 30)).drawn+1}:O).heap[W.heap.size]?=U (E (C4 (0,0,0,0)) 30)):=u.res;have a2:Hid (({ (i.alloc (E (C4 f) 30))with drawn:=(i.alloc (E (C4 f) 30)).drawn+1}:O).heap[L]?=U (E s 96)):=by show _=_;rw[<-H.out];exact u.gate
 have a5:Hid (Lq { (i.alloc (E (C4 f) 30))with drawn:=(i.alloc (E (C4 f) 30)).drawn+1} W.heap.size (G va vn vc) n):=u.val.same λ_ h=>h;have a9:W.heap.size<i.heap.size:=u.lt;clear u;generalize({ (i.alloc (E (C4 f) 30))with drawn:=(i.alloc (E (C4 f) 30)).drawn+1}:O)=w6 at *;generalize i.heap.size=N8 at *;refine BE 0 39 (G va vn vc) aa ?_;refine BL 1 40 (.agg (C4 f)) Z (λB hZ=>?y1) aa ?_
 case y1=>exact Le 30 (.tmp 11) M N8 M _ _ _ _ hZ underlying30 M (G0 f)
 refine BE 2 41 (I K E1) aa ?_;refine BE 3 2 (G va vn vc) aa ?_;refine C9 4 (λa8 hK=>?_);refine Kw M ?_;refine Hp 30 (.tmp 3) (.tmp 40) Z W.heap.size (C4 f) M M 30 (C4 (0,0,0,0)) aj (G0 f) (aW _ _) (O5 f) ?_;have al:(λB:O=>B.heap[N8]?=U (E (C4 f) 30)) (w6.setRow W.heap.size (C4 f)):=sx J aa;refine hK.out _ _ al (λ_=>?_);clear hK;refine BE 5 4 (I K E1) al ?_;refine BE 6 5 (I K 0) al ?_;refine Cv ?_;go_simp
 go_wp2_with fail
 refine Cc (Zo results14 _ _ W.heap.size 30 (C4 f) (0,0) _ Z (Ca _ _ _ _ _ _ aj) underlying30 Z (G0 f) _ _ _ Z Z Z) Z ?_;have a7:=aq.out;have a6:=an.out;subst a7;subst a6;exact⟨va,vn,vc,Z,(ag _ a4).set (BM _) _,by rw[H.out];exact(CQ _ _ _ _ ax).trans a2,a5.same λ_ h=>aX h aj⟩
def RM(A:Nat)(q:Cs)(own0:Option Nat)(j:Nat):Prop:=j=A\/j=q.lm\/j=q.tb\/j=q.nb\/j=q.mb\/own0=some j
def bm(h:CZ W0 A q sts sv nf mn mf W)(a:W.heap[L]?=U (E cs 96))(b:RM A q sv.ownBlock j):j≠L:=by
 intro e;subst e;rcases b with rfl|rfl|rfl|rfl|rfl|b
 ·rw[h.row]at a;injection a with a;injection a with _ a _;exact absurd a Ay
 ·exact KA h.letters a
 ·obtain⟨d,c,_⟩:=h.takes;rw[c]at a;injection a with a;injection a with _ a _;exact absurd a Ay
 ·exact KA h.numbers a
 ·exact KA h.moves a
 exact absurd (RD h.states b a) Ay
def RN(h:CZ W0 A q sts sv nf mn mf W)(a:RM A q sv.ownBlock j):j<W.heap.size:=by
 have c:∀{d:TypeId} {m n:Nat} {f:Lit->Option Nat},Dv W d m n f->m<W.heap.size:=by
  rintro d m n f ⟨D,⟨r,p,i,_⟩,_⟩;exact BC i
 rcases a with rfl|rfl|rfl|rfl|rfl|a
 ·exact BC h.row
 ·exact c h.letters
 ·obtain⟨e,l,_⟩:=h.takes;exact BC l
 ·exact c h.numbers
 ·exact c h.moves
 rcases h.states.2 with⟨b,_⟩|⟨g,o,e,b,_,k,_⟩
 ·rw[b]at a;cases a
 rw[b]at a;injection a with a;have a:g=j:=a;rw[<-a];exact BC k
def KG.step(h:KG c W0 L A q sts sa sc nf mf bv W)(l:W0.heap.size<=L)(d:W'.os=W.os/\W'.tape=W.tape/\W'.output=W.output)(k:W.heap.size<=W'.heap.size)(e:∀j,j<L->W'.heap[j]?=W.heap[j]?)(i:∀j,RM A q (Value.slice sa sts.length sc).ownBlock j->W'.heap[j]?=W.heap[j]?):KG c W0 L A q sts sa sc nf mf bv W':=by
 have a:=h.cp.au.below;refine⟨{h.cp with au:=h.cp.au.rebase Z ⟨d.1.trans a.os,d.2.1.trans a.tape,d.2.2.trans a.output,C7 a.size k,λj f=>(e j J).trans (a.block j f)⟩ h.cp.au.rules i},h.bk.same (λ_ b=>b) (λg b=>e g b.2),h.bs⟩
def Hz(c:BX)(b0 L b:Nat)(fed:A1)(W:Ak):Prop :=
 ∃W0 A q sts sa sc nf mf bv fa fn fc,KG c W0 L A q sts sa sc nf mf bv W/\(b0<=W0.heap.size/\W0.heap.size<=L/\L<b/\b<=W.heap.size)/\G2 b0 W0/\W.heap[L]?=some (Ae (Ck (Fm c A bv) (A7 fa fn fc) false) 96)/\BG W b (A7 fa fn fc) fed/\(∀j,RM A q (Value.slice sa sts.length sc).ownBlock j->j<b)/\fed.length<=c.bytes.toNat+1
def Hz.tab(h:Hz c b0 L b fed W):G2 b0 W:=by
 obtain⟨f,A,q,p,n,o,m,l,g,i,k,j,a,d,e,_⟩:=h;exact e.below (a.cp.au.below.mono d.1)
def Hz.step(h:Hz c b0 L b fed W)(hb:A0 W W'):Hz c b0 L b fed W':=by
 obtain⟨g,A,q,x,v,w,u,t,i,k,m,l,d,a,n,e,o,p,r⟩:=h;have s:=BC e;refine⟨g,A,q,x,v,w,u,t,i,k,m,l,d.step a.2.1 ⟨hb.os,hb.tape,hb.output⟩ hb.size (λj f=>hb.block j J) (λj f=>hb.block j (RN d.cp.au f)),⟨a.1,a.2.1,a.2.2.1,C7 a.2.2.2 hb.size⟩,n,(hb.block L s).trans e,NM o hb,p,r⟩
def rt(c:BX)(w:O)(o:FF w c)(i:G2 w.heap.size w):Am X 12 #[.agg c.arr] w λe f=>A0 w f/\((¬CB c=0/\e=Af (Aa #[A8 Y,I K (CB c)]))\/(CB c=0/\∃L,e=Af (Aa #[A8 (U ⟨L,0,Y⟩),I K 0])/\Hz c w.heap.size L f.heap.size [] f)):=by
 refine(r7 c w o i.gl (λh=>(Pz h).b8)).mono ?_;rintro e f ⟨a,b⟩;refine⟨a,?_⟩;rcases b with b|⟨b,l,L,A,q,x,u,v,t,s,n,rfl,m,p,C,r,k⟩
 ·exact .inl b
 refine .inr ⟨b,L,Z,l,A,q,x,u,v,t,s,n,Y,0,0,k,⟨m,p,J,BM _⟩,?_,?_,QN f,λj g=>RN k.cp.au g,DK _⟩
 ·have d:=k.cp.au.below;have z:∀q,q<9->l.heap[q]?=w.heap[q]?:=λq B=>by
   have y:=i.big.1;rw[<-d.block q J];exact a.block q J
  refine i.below ⟨d.os.symm.trans a.os,d.tape.symm.trans a.tape,d.output.symm.trans a.output,m,λj g=>?_⟩;rw[<-d.block j J];exact a.block j g
 rw[<-r9 (Pz b)];exact r
def bo(a:∀q,q<9->V.heap[q]?=W.heap[q]?)(h:JU W):JU V:=by
 refine⟨h.u8.low a,⟨λu b=>J2 a Ay (h.hd.cb u b),λu b=>⟨J2 a Ay (h.hd.pk u b).1,J2 a Ay (h.hd.pk u b).2.1,J2 a Ay (h.hd.pk u b).2.2⟩⟩,?_⟩;have c:=a 8 J;have d:=h.big;rw[Array.getElem?_eq_getElem (show 8<W.heap.size by omega)]at c;exact BC c
def ru(ck:KH c){U:O}(f:JU U)(b:A4)(d:Nat)(l:A1)(g:l.length<=4097)(hb:Er U b l)(A:Nat)(a:Al):Am X 18 #[I K (Fm c A a).inF,.agg #[I K (Fm c A a).depth,I K (Fm c A a).bytes],G b l.length d] U (He (kC c) U (Cj c.inn l c.depth c.bytes)):=by
 have e:((c.bytes.toNat:Nat):Int)=c.bytes:=LE (Ao ck.byt);have h:=lC U c.inn b l d c.depth c.bytes ck.inn hb f kfa kfa J;rw[<-e]at h;rw[e]at h;unfold Fm;dsimp only;rw[e];exact h
structure PC(c:BX):Prop where
 doc:∀{U:World},JU U->∀(fa:A4) (fc:Nat) (l:A1),l.length<=4097->Er U fa l->∀(A:Nat) (bv:Value),Calls prog 18 #[.int .i64 (Fm c A bv).inF,.agg #[.int .i64 (Fm c A bv).depth,.int .i64 (Fm c A bv).bytes],.slice fa l.length fc] U (He (kC c) U (Cj c.inn l c.depth c.bytes))
 bad:∀l,CK (Cj c.inn l c.depth c.bytes)
 size:∀l x,Cj c.inn l c.depth c.bytes=.ok x->∀k,Ex k x+30<=400*l.length
def rv(ck:KH c):PC c:=⟨λg b d l f e A a=>ru ck g b d l f e A a,λl=>rq _ _ _ _ kfa,λl x h k=>qE _ _ _ _ kfa h k⟩
def Lt(c:BX)(fed bs:A1):A1:=fed++bs.take (c.bytes.toNat+1-fed.length)
def rz(ck:KH c)(u:PC c)(h:Hz c b0 L b fed W)(i:A4)(g:Nat)(bs:A1)(hb:Er W i bs)(V:i=Y->g=0)(N:bs.length<=g):Am X 13 #[A8 (U ⟨L,0,Y⟩),G i bs.length g] W λe f=>e=Af (I K (Pm (Cj c.inn (Lt c fed bs) c.depth c.bytes) (Lt c fed bs).length))/\Hz c b0 L b (Lt c fed bs) f/\W.heap.size<=f.heap.size/\Below b0 W f:=by
 have aa:=h.tab;obtain⟨B,A,q,ab,sa,sc,nf,mf,l,r,t,s,v,d,w,x,y,z,D⟩:=h;have ad:=ck.byt;have Q:(Lt c fed bs).length<=c.bytes.toNat+1:=by
  unfold Lt;rw[BK,In];omega
 have P:=ns (kC c) W L b (Fm c A l) (Vd c A) (G r t s) fed i g bs (Lt c fed bs) Z x y d.2.2.1 hb V N (by show c.bytes.toNat<=4096;omega) D (Cj c.inn (Lt c fed bs) c.depth c.bytes) (u.bad _) (λac m n H F=>u.doc (bo (λq hq=>H q (Ao w.big.1)) aa.rd) m n _ J F A l);refine P.mono ?_;rintro e f ⟨m,C,n,rfl,k1,k2,k,p,k5⟩;have S:∀j,j<b->U j≠(Value.slice r t s).ownBlock:=λj a e=>Ao (Fa y.1 e.symm)
 have o:∀j,j<b->j≠L->f.heap[j]?=W.heap[j]?:=λj a R=>k5 j J R (S j a);refine⟨Z,⟨B,A,q,ab,sa,sc,nf,mf,l,m,C,n,v.step d.2.1 k p (λj a=>o j J J) (λj a=>o j (z j a) (bm v.cp.au x a)),⟨d.1,d.2.1,d.2.2.1,C7 d.2.2.2 p⟩,w,k2,k1,z,Q⟩,p,k.1,k.2.1,k.2.2,J,λj a=>o j J J⟩
def rA(hb:∃a b,bv=G a c.B.length b)(e:A4)(g f:Nat)(d:Bool):(Ck (Fm c A bv) (G e g f) d).all (·.oneCell')=true:=by
 obtain⟨a,b,rfl⟩:=hb;unfold Ck Fm Lr;dsimp only;rw[Qi,Qi,Qi,Ut];simp[Value.oneCell']
def bp(h:BG W b v l)(c:W.heap.size<=W'.heap.size)(a:∀g,v.ownBlock=U g->W'.heap[g]?=W.heap[g]?):BG W' b v l:=⟨Pk h.1 a,C7 h.2.1 c,h.2.2⟩
def rB(h:BG W b v l)(e:v.ownBlock=U g):g<W.heap.size:=by
 rcases h.1.2 with⟨a,_⟩|⟨c,f,i,a,_,d,_⟩
 ·rw[a]at e;cases e
 rw[a]at e;injection e with e;have e:c=g:=e;rw[<-e];exact BC d
def bq(c:BX)(b0 L:Nat)(l:A1)(W:Ak)(e:Ending)(V':Ak):Prop :=
 ∃va vn vc,e=Af (Aa #[A7 va vn vc,.agg (C4 (Pv (IB c l))),A6 Ag (Pw (IB c l)),A6 Ag (Px (IB c l))])/\Below b0 W V'/\W.heap.size<=V'.heap.size/\V'.heap[L]?=some (Ae (Ck Fl (A7 none 0 0) true) 96)/\Py V' W.heap.size (A7 va vn vc) (IB c l)
structure Vm(c:BX)(l:A1):Prop where
 rw:∀{b:Nat} {W0:World} {L A:Nat} {q:Cs} {sts:List ((Nat->Nat)×Int×Int)} {sa:A4} {sc:Nat} {nf mf:Lit->Option Nat} {bv:Value} {V U:World} (_h:KG c W0 L A q sts sa sc nf mf bv V) (_ht:G2 b W0) (_hU:A0 V U) {t:TypeId} {y:Value} {d:A2} (_hl:Cj c.inn l c.depth c.bytes=.ok d) (_hd:BQ (kC c) V (λj=>j<V.heap.size) (.iface t y) d) (_hsz:Ex (kC c) d<=2000000),Calls prog 59 #[.agg (Lr c A),.iface t y] U (UX (Xc A q (Value.slice sa sts.length sc).ownBlock) V.heap.size (kC c) U (De (Eh c) (kC c) [] d (0,0,0,0)).2 ((De (Eh c) (kC c) [] d (0,0,0,0)).1.getD .nil))
 fl:U4 c.out c.B
 wr:∀d,l.length<=4097->Cj c.inn l c.depth c.bytes=.ok d->UY c.out (kC c) ((De (Eh c) (kC c) [] d (0,0,0,0)).1.getD .nil)
def rC(ck:KH c)(Q:PC c)(R:Vm c fed)(h:Hz c b0 L b fed W):Am X 14 #[A8 (U ⟨L,0,Y⟩)] W (bq c b0 L fed W):=by
 have ao:=h.tab;obtain⟨C,A,q,z,w,x,nf,mf,f,i,fn,k,n,S,D,V,F,h6,h7⟩:=h;have aw:=ck.byt;have hL:=BC V;have y:fed.length<=4097:=J
 obtain⟨ae,af,P,av⟩:=MG F;injection P with e1 e2 e3;subst e1;subst e2;subst e3;have H:∀j,j<W.heap.size->j≠L->(E6 W L (Fm c A f) (G i fed.length k)).heap[j]?=W.heap[j]?:=λj ad b=>Vc _ _ _ _ j ad b;have ax:=RJ W L (Fm c A f) (G i fed.length k);have ah:BG (E6 W L (Fm c A f) (G i fed.length k)) b (G i fed.length k) fed:=bp F J (λag e=>H ag (rB F e) (Ao (Fa F.1 e)));have a:KG c C L A q z w x nf mf f (E6 W L (Fm c A f) (G i fed.length k)):=n.step S.2.1 (qV _ _ _ _) J (λj l=>H j J J) (λj l=>H j (RN n.cp.au l) (bm n.cp.au V l));have ai:JU (E6 W L (Fm c A f) (G i fed.length k)):=bo (λq hq=>H q (Ao D.big.1) (Ao D.big.1)) ao.rd;have am:=aZ W L (Fm c A f) (G i fed.length k) hL;have al:=rh (Xc A q (Value.slice w z.length x).ownBlock) (kC c) W L (Fm c A f) (Vd c A) i fed.length k (rA n.bs i fed.length k false) V (Cj c.inn fed c.depth c.bytes) (Q.bad _) (IB c fed)
  (λm s=>by
   obtain⟨ae,af,P,ak⟩:=MG (NM ah s);injection P with e1 e2 e3;subst e1;exact Q.doc (ai.below s) i k fed y ak A f)
  (λe he=>by unfold IB;rw[he])
  (λd N=>by
   refine⟨_,_,(by unfold IB;rw[N]),λar ab ac g ap m s=>?_⟩;have ay:=Q.size fed _ N (kC c);have r:Below (E6 W L (Fm c A f) (G i fed.length k)).heap.size (E6 W L (Fm c A f) (G i fed.length k)) m:=g.trans (s.mono g.size);have o:KG c C L A q z w x nf mf f m:=a.step S.2.1 ⟨r.os,r.tape,r.output⟩ r.size (λj l=>r.block j J) (λj l=>r.block j (RN a.cp.au l));have aq:BQ (kC c) m (λj=>j<m.heap.size) (Ad ab ac) d:=ap.same (λj l=>CA l.2 s.size) (λj l=>s.block j l.2);obtain⟨ba,bc,t⟩:=o.bs;have u:Below b0 C m:=o.cp.au.below.mono S.1;have an:∀p,Dq (Xc A q (Value.slice w z.length x).ownBlock) m p->Below b0 C p:=λp hF=>by
    refine⟨hF.world.1.trans u.os,hF.world.2.1.trans u.tape,hF.world.2.2.trans u.output,C7 u.size hF.rows.size,λj l=>(hF.block j (Ao u.size) ⟨?_,?_,?_,?_⟩).trans (u.block j l)⟩
    ·have:=o.cp.au.high.1;omega
    ·have:=o.cp.au.high.2.2.2.1;omega
    ·have:=o.cp.au.high.2.2.2.2;omega
    intro e;have:=Fa o.cp.au.states e.symm;omega
   refine qP (Xc A q (Value.slice w z.length x).ownBlock) (kC c) m (W.heap.size+1) (Fm c A f) (Vd c A) (G i fed.length k) false ((r.block _ J).trans am) ab ac _ _ ba bc c.B t R.fl (R.wr d y N) (λp hF=>?_) (λp hF=>D.up (an p hF)) (λU' aj=>R.rw o D aj N aq J);have aa:=o.bk;rw[t]at aa;exact rg (aa.kept (λ_ hg=>hg) hF.rows Ay Ay Ay))
 refine al.mono ?_;rintro e p ⟨va,vn,vc,rfl,v,k2,k3⟩;refine⟨va,vn,vc,Z,⟨v.world.1,v.world.2.1,v.world.2.2,C7 J v.size,λj l=>v.block j J J ⟨?_,?_,?_,?_⟩⟩,v.size,k2,k3⟩
 ·have:=n.cp.au.high.1;omega
 ·have:=n.cp.au.high.2.2.2.1;omega
 ·have:=n.cp.au.high.2.2.2.2;omega
 intro e;have:=Fa n.cp.au.states e.symm;omega
def rE(c:Int)(n:Nat)(w:O)(i:1<=n)(f:n<=maxLen)(j : -9223372036854775808<=c)(k:c<=9223372036854775807):Am X 4 #[I K c,I K n] w λe g=>e=Af (I K (D7 c n))/\g=w:=by
 unfold maxLen at f;have l:(0:Int)<n:=J
 by_cases h:c<0
 ·have a:Hid ((D7 c n:Int)=(-(c+1))%n):=by
   have b:=SM (-(c+1)) (show(n:Int)≠0 by omega);show _=_;unfold D7;rw[BA h,LE b]
  go_enter func4,ntmps4;go_wp2;go_ret;have d : -((c+1).tmod n)=(-(c+1))%n:=by rw[<-Int.neg_tmod,Wh J]
  exact⟨by rw[a.out,<-d];rfl,rfl⟩
 have a:Hid ((D7 c n:Int)=c%n):=by
  have b:=SM c (show(n:Int)≠0 by omega);show _=_;unfold D7;rw[Bz h,LE b]
 go_enter func4,ntmps4;go_wp2;go_ret;exact⟨Bb,Z⟩
def Vn(W:O)(l:A1)(d:l.length<=maxLen):∃a V,(convert 9 38 (A9 ⟨l.toArray⟩)).run X W=.ok (G (U ⟨W.heap.size,0,Y⟩) l.length a) V/\A0 W V/\Er V (U ⟨W.heap.size,0,Y⟩) l/\l.length<=a:=by
 have h:=run_bytes_of_string (P:=X) W 9 38 5 ⟨l.toArray⟩ underlying9 underlying38 underlying5;have b:(⟨l.toArray⟩:ByteArray).size=l.length:=Hm ..;refine⟨_,_,by rw[<-b];exact h,((C5 _ _).drew).alloc (BM _) _,⟨λi c=>⟨W.heap.size,0,Z,by rw[BU];exact Qh _,?_⟩,d⟩,by rw[b];exact grownCap_ge _ _ _ _⟩;rw[DY];refine(World.cell?_alloc_mark W.drew _ _ _ i).trans ((bytesRow_at ⟨l.toArray⟩ _ i Be).trans ?_);simp
def rG(s:ByteArray)(p:Nat)(d:p<=s.size)(w:O):(Instr.sliceAt 9 (.string s) Y (U (I K p)) Y).run X w=.ok (.string (s.extract 0 p)) w:=by
 have a:(0:Int)<=(p:Int):=J
 have b:(p:Int)<=(s.size:Int):=J
 have c:=underlying9;simp only[go_sem,c,a,b,I3]
def rH(s:ByteArray)(p:Nat)(d:p<=s.size)(w:O):(Instr.sliceAt 9 (.string s) (U (I K p)) Y Y).run X w=.ok (.string (s.extract p s.size)) w:=by
 have a:(0:Int)<=(p:Int):=J
 have b:(p:Int)<=(s.size:Int):=J
 have c:=underlying9;simp only[go_sem,c,a,b,I3]
def rI(s:ByteArray)(p q:Nat)(e:p<=q)(f:q<=s.size)(w:O):(Instr.sliceAt 9 (.string s) (U (I K p)) (U (I K q)) Y).run X w=.ok (.string (s.extract p q)) w:=by
 have a:(0:Int)<=(p:Int):=J
 have b:(p:Int)<=(q:Int):=J
 have c:(q:Int)<=(s.size:Int):=J
 have d:=underlying9;simp only[go_sem,d,a,b,c,I3]
def Vo(l:A1)(p q:Nat):(⟨l.toArray⟩:ByteArray).extract p q=⟨((l.take q).drop p).toArray⟩:=by
 apply Mr;rw[Q6];apply Mu;rw[Q9,Q2];show(l.drop p).take (q-p)=(l.take q).drop p;rw[List.drop_take]
def RO(l:A1):(⟨l.toArray⟩:ByteArray).size=l.length:=Hm ..
def rJ(l:A1)(p:Nat)(a:p<=l.length)(w:O):(Instr.sliceAt 9 (A9 ⟨l.toArray⟩) Y (U (I K p)) Y).run X w=.ok (A9 ⟨(l.take p).toArray⟩) w:=by
 have h:=rG ⟨l.toArray⟩ p (by rw[RO];exact a) w;rw[Vo]at h;exact h
def rK(l:A1)(p:Nat)(a:p<=l.length)(w:O):(Instr.sliceAt 9 (A9 ⟨l.toArray⟩) (U (I K p)) Y Y).run X w=.ok (A9 ⟨(l.drop p).toArray⟩) w:=by
 have h:=rH ⟨l.toArray⟩ p (by rw[RO];exact a) w;rw[Vo,RO,LG]at h;exact h
def rL(l:A1)(p q:Nat)(a:p<=q)(b:q<=l.length)(w:O):(Instr.sliceAt 9 (A9 ⟨l.toArray⟩) (U (I K p)) (U (I K q)) Y).run X w=.ok (A9 ⟨((l.take q).drop p).toArray⟩) w:=by
 have h:=rI ⟨l.toArray⟩ p q a (by rw[RO];exact b) w;rw[Vo]at h;exact h
def G2.top(h:G2 b W):G2 W.heap.size W:=⟨h.rd,h.up Cm,h.db,h.gl,Ao h.big,BM _⟩
def rM(c:BX)(l bs:A1):Lt c (l.take (c.bytes.toNat+1)) bs=(l++bs).take (c.bytes.toNat+1):=by
 unfold Lt;rw[List.take_append,In];by_cases h:l.length<=c.bytes.toNat+1
 ·rw[Nat.min_eq_right h]
 rw[Nat.min_eq_left J,LJ,show c.bytes.toNat+1-l.length=0 by omega]
def RP(z:Cz):A1:=match z with
 |.ok (_,.ok l)=>l
 |_=>[]
def rN(h:Py V base v z):(convert 38 9 v).run X V=.ok (A9 ⟨(RP z).toArray⟩) V:=by
 match z,h with
 |.ok (_,.ok l),h=>exact P4 h
 |.ok (_,.error _),h =>
  have h:v=G Y 0 0:=h;rw[h];exact TO V
 |.error _,h =>
  have h:v=G Y 0 0:=h;rw[h];exact TO V
def DQ(s:A1)(R:Cl)(e p:Int):A3:=#[A9 ⟨s.toArray⟩,A6 Ag R.1,A6 Ag R.2.1,A6 Ag R.2.2.1,A6 Ag R.2.2.2,A6 Ag e,A6 Ag p]
def PD:A3:=DQ [] (0,0,0,0) 0 0
def rO(e:Int):prog.built 33 [(2,I K e)]=U (DQ [] (0,0,0,0) e 0):=M
def rP(s:A1)(R:Cl)(e p:Int):prog.built 33 [(0,A9 ⟨s.toArray⟩),(1,.agg (C4 R)),(2,I K e),(3,I K p)]=U (DQ s R e p):=M
def O9(s:A1)(R:Cl)(e p:Int):(prog.info? 33).map (·.size)=U (DQ s R e p).size:=M
def RQ(s:A1)(R:Cl)(e p:Int):(DQ s R e p).all (·.oneCell')=true:=by simp[DQ,Value.oneCell']
def K1(c:BX)(l:A1):A3:=if CB c=0 then DQ (RP (IB c (l.take (c.bytes.toNat+1)))) (Pv (IB c (l.take (c.bytes.toNat+1)))) (Pw (IB c (l.take (c.bytes.toNat+1)))) (Px (IB c (l.take (c.bytes.toNat+1))))else DQ [] (0,0,0,0) (CB c) 0
def bt{fn:Func}{p u:Tmp}{ty:TypeId}(h:fn.results=#[.cell p ty,.tmp u])(b:A3)(w:O)(g:Nat)(t:TypeId)(cs:A3)(c:Nat×Nat)(d:TypeDesc)(j:b.getD p undef=A8 (U ⟨g,0,Y⟩))(i:w.heap[g]?=U (E cs t c))(k:P.underlying ty=U d)(f:(match d with|.struct _|.array _ _=>true|_=>false)=true)(hi:(P.info? ty).map (·.size)=U cs.size)(v:Al)(l:b.getD u undef=v):(results fn b).run P w=.ok (Aa #[.agg cs,v]) w:=by
 have e:(results fn b).run P w=((asAddr (b.getD p undef)).run P w).andThen λa m=>((loadVar ty a).run P m).andThen λv n=>.ok (Aa #[v,b.getD u undef]) n:=by
  simp only[results,h];simp[Ei,Result.andThen]
 subst l;rw[e,j];simp only[asAddr,Fq,EA,I5 w g t ty cs c d i k f hi]
structure Fo(w:World)(c:BX)(V:World):Prop where
 below:A0 w V
 cfg:V.heap[w.heap.size]?=some (.cells c.arr 25)
 told:V.heap[w.heap.size+1]?=some (.cells PD 33)
def Fo.step(h:Fo w c V)(hb:Below b V V')(a:w.heap.size+2<=b):Fo w c V' :=
 ⟨h.below.trans (hb.mono J),(hb.block _ J).trans h.cfg,(hb.block _ J).trans h.told⟩
def Fo.next(h:Fo w c V)(hb:A0 V V'):Fo w c V' :=
 h.step hb (Ao (BC h.told))
def rQ(w:O)(c:BX):Fo w c ((w.alloc (E c.arr 25)).alloc (E PD 33)):=by
 have h:=BI (w.alloc (E c.arr 25)) (E PD 33);rw[BU]at h;exact⟨(BN).alloc kfg _,(BT _ _ _ kfg).trans (BI w _),h⟩
def rR(w:Ak)(c:BX)(b0 L b:Nat)(l:A1)(e:Ending)(V':Ak):Prop :=
 ∃en,e=Af (A6 Ag en)/\Fo w c V'/\Hz c b0 L b (l.take (c.bytes.toNat+1)) V'
def bu(ck:KH c)(d:PC c){bs:A1}(h:Fo w c V)(g:Hz c b0 L b (l.take (c.bytes.toNat+1)) V)(i:w.heap.size+2<=b0){ia:A4}(hb:Er V ia bs)(k:ia≠Y)(j:bs.length<=cap):Am X 13 #[A8 (U ⟨L,0,Y⟩),G ia bs.length cap] V (rR w c b0 L b (l++bs)):=by
 refine(rz ck d g ia cap bs hb (λe=>absurd e k) j).mono ?_;rintro e m ⟨rfl,a,_,f⟩;rw[rM]at a;exact⟨_,Z,h.step f i,a⟩
def rS(h:Py V b v z)(hb:A0 V V'):Py V' b v z:=by
 match z,h with
 |.ok (_,r),h=>exact Lq.same (r:=r) h λl k=>NM k hb
 |.error _,h=>exact h
def rT(c:BX)(w:O)(hc:FF w c)(ht:G2 w.heap.size w)(s:A1)(gp:CB c=0->PC c/\Vm c (s.take (c.bytes.toNat+1)))(hs:s.length<=maxLen)(pc:Nat)(a3:1<=pc)(a4:pc<=maxLen+1):Am X 7 #[.agg c.arr,A9 ⟨s.toArray⟩,I K pc] w λe d=>e=Af (Aa #[.agg (K1 c s),Ac true])/\A0 w d:=by
 have HS:Hid (c.arr.size=11):=c.size;have HC:Hid (FF w c):=hc;have HT:Hid (G2 w.heap.size w):=ht;have k:Hid (Fo w c ((w.alloc (Ae c.arr 25)).alloc (Ae PD 33))):=rQ w c;have B:=br c ((w.alloc (Ae c.arr 25)).alloc (Ae PD 33)) (hc.below k.below) (ht.below k.below).gl;have aa:Hid (∀V,Fo w c V->Am X 12 #[.agg c.arr] V λe d=>A0 V d/\((¬CB c=0/\e=Af (Aa #[A8 Y,I K (CB c)]))\/(CB c=0/\∃L,e=Af (Aa #[A8 (U ⟨L,0,Y⟩),I K 0])/\Hz c V.heap.size L d.heap.size [] d))):=λV m=>rt c V (hc.below m.below) (ht.below m.below).top;clear hc ht;by_cases i:CB c=0
 ·have ac:Hid (KH c):=Pz i;have h:=T (gp i);obtain⟨z,HZ⟩:∃z,Hid (IB c (s.take (c.bytes.toNat+1))=z):=⟨_,rfl⟩
  have x:Hid (K1 c s=DQ (RP z) (Pv z) (Pw z) (Px z)):=by show _=_;unfold K1;rw[BA i,HZ.out]
  rw[x.out];have A:Hid (∀V,Fo w c V->Am X 12 #[.agg c.arr] V λe d=>∃L,e=Af (Aa #[A8 (U ⟨L,0,Y⟩),I K 0])/\Fo w c d/\Hz c V.heap.size L d.heap.size [] d):=λV m=>(aa V m).mono (by
   rintro e d ⟨h1,j⟩;rcases j with⟨j,_⟩|⟨_,L,h3,h4⟩
   ·exact absurd i j
   exact⟨L,h3,m.next h1,h4⟩)
  rw[i]at B;clear x aa i gp;go_enter func7,ntmps7
  go_wp2_with(first
   |(refine C8 Z 25 _ Z w.heap.size Z _ _ _ _ k.cfg underlying25 Z (El HS) ?_)
   |(go_at_call 10;refine B.mono ?_;clear B;rintro e n ⟨rfl,a⟩;have l:Hid (Fo w c n):=k.next a;clear a k;have C:=A.out n l;clear A;have ab:Hid (w.heap.size+2<=n.heap.size):=(Wg.1 l.told).1)
   |(refine C8 Z 25 _ Z w.heap.size Z _ _ _ _ l.cfg underlying25 Z (El HS) ?_)
   |(go_at_call 12;refine C.mono ?_;clear C;rintro e v ⟨L,rfl,H,ap⟩;have q:Hid (Fo w c v):=H;have ak:Hid (Hz c n.heap.size L v.heap.size [] v):=ap;clear H ap l))
  generalize v.heap.size=b3 at *;generalize n.heap.size=b2 at *
  go_loopg[1] s.length (λag a1 V=>∃D b:A1,a1=A9 ⟨b.toArray⟩/\Hid (D++b=s)/\Hid (b.length<=ag)/\Hid (Fo w c V)/\Hid (Hz c b2 L b3 (D.take (c.bytes.toNat+1)) V))
  case atStart=>exact⟨[],s,rfl,rfl,BM _,q,by rw[List.take_nil];exact ak⟩
  case round =>
   clear q ak;obtain⟨D,b,rfl,S,HR,y,W⟩:=hrel;have ay:b.length<=maxLen:=by have av:=congrArg List.length S;rw[BK]at av;omega
   by_cases a2:(pc:Int)<(b.length:Int)
   ·cases gk with
    |zero=>have:=HR.out;omega
    |succ ag =>
     have ah:pc<=b.length:=J
     have az:=λw=>rJ b pc ah w;have a0:=λw=>rK b pc ah w;have ai:(b.take pc).length<=maxLen:=kfm
     obtain⟨R,af⟩:∃R,Hid (b.take pc=R):=⟨_,rfl⟩
     obtain⟨dp,ad⟩:∃dp,Hid (b.drop pc=dp):=⟨_,rfl⟩
     rw[af.out]at ai;simp only[af.out]at az;simp only[ad.out]at a0;obtain⟨au,V2,ax,a,P,Q⟩:=Vn wr R ai;have u:=bu ac h.1 (y.next a) (W.step a) ab P Az Q;clear ah ai P a Q y W
     go_wp2_with(first
      |(go_at_call 13;refine u.mono ?_;clear u;rintro e w5 ⟨en,rfl,N,F⟩;have g:Hid (Fo w c w5):=N;have ar:Hid (Hz c b2 L b3 ((D++R).take (c.bytes.toNat+1)) w5):=F;clear N F))
     go_roundg ag
     case measure=>omega
     case rel=>exact⟨D++R,dp,rfl,by show _=_;rw[<-af.out,<-ad.out,CN,Kb];exact S,by show _<=_;rw[<-ad.out,Eb];have:=HR.out;omega,g,ar⟩
   obtain⟨au,V2,ax,a,P,Q⟩:=Vn wr b ay;have u:=bu ac h.1 (y.next a) (W.step a) ab P Az Q;rw[S.out]at u;clear P a Q y W S HR;obtain⟨f,am⟩:∃f,Hid (Pv z=f):=⟨_,rfl⟩
   obtain⟨p,aj⟩:∃p,Hid (Pw z=p):=⟨_,rfl⟩
   obtain⟨r,al⟩:∃r,Hid (Px z=r):=⟨_,rfl⟩
   obtain⟨t,an⟩:∃t,Hid (RP z=t):=⟨_,rfl⟩
   go_wp2_with(first
    |(go_at_call 13;refine u.mono ?_;clear u;rintro e w5 ⟨en,rfl,N,F⟩;have g:Hid (Fo w c w5):=N;have cC:=rC ac h.1 h.2 F;clear N F;unfold bq at cC;rw[HZ.out,am.out,aj.out,al.out]at cC)
    |(go_at_call 14;refine cC.mono ?_;clear cC;rintro e o ⟨va,vn,vc,rfl,ao,_,_,aq⟩;have aw:=rN (rS aq ((C5 o.heap.size o).alloc (BM _) (Ae (C4 f) 30)));rw[an.out]at aw;have ae:Hid (Fo w c (o.alloc (Ae (C4 f) 30))):=(g.step ao ab).next BN;clear ao aq g)
    |(refine Co Z 30 _ _ Z o.heap.size (C4 f) Z Z 30 _ (BI o _) (G0 f) Z (O5 f) ?_;rw[FP])
    |(refine C8 Z 30 _ Z o.heap.size Z _ _ _ _ (BI o _) underlying30 Z (G0 f) ?_)
    |(refine Gb Z 33 _ Z _ Z _ [(0,A9 ⟨t.toArray⟩),(1,.agg (C4 f)),(2,I K p),(3,I K r)] ?hl (rP t f p r) ?_;case hl=>simp[go_sem])
    |(refine Co Z 33 _ _ Z (w.heap.size+1) (DQ t f p r) Z Z 33 _ ae.told (O9 _ _ _ _) Z (RQ _ _ _ _) ?_))
   refine Cc (bt results7 _ _ (w.heap.size+1) 33 (DQ t f p r) (0,0) _ Z (Ca _ _ _ _ _ _ ae.told) underlying33 Z (O9 _ _ _ _) _ Z) Z ?_;rw[am.out,aj.out,al.out,an.out];exact⟨Z,CF ae.below J _⟩
 have x:Hid (K1 c s=DQ [] (0,0,0,0) (CB c) 0):=Bz i;rw[x.out];have A:Hid (∀V,Fo w c V->Am X 12 #[.agg c.arr] V λe d=>e=Af (Aa #[A8 Y,I K (CB c)])/\Fo w c d):=λV m=>(aa V m).mono (by
  rintro e d ⟨h1,j⟩;rcases j with⟨_,j⟩|⟨j,_⟩
  ·exact⟨j,m.next h1⟩
  exact absurd j i)
 generalize CB c=E at *;have e1:(E==0)=false:=by simpa using i
 have e2:(E != E)=false:=Az
 have e3:(E==E)=true:=Az
 clear x aa i gp;go_enter func7,ntmps7
 go_wp2_with(first
  |(refine C8 Z 25 _ Z w.heap.size Z _ _ _ _ k.cfg underlying25 Z (El HS) ?_)
  |(go_at_call 10;refine B.mono ?_;clear B;rintro e n ⟨rfl,a⟩;have l:Hid (Fo w c n):=k.next a;clear a k;have C:=A.out n l;clear A)
  |(refine C8 Z 25 _ Z w.heap.size Z _ _ _ _ l.cfg underlying25 Z (El HS) ?_)
  |(go_at_call 12;refine C.mono ?_;clear C;rintro e v ⟨rfl,H⟩;have q:Hid (Fo w c v):=H;clear H l)
  |(refine Gb Z 33 _ Z _ Z _ [(2,I K E)] ?hl (rO E) ?_;case hl=>simp[go_sem])
  |(refine Co Z 33 _ _ Z (w.heap.size+1) (DQ [] (0,0,0,0) E 0) Z Z 33 _ q.told (O9 _ _ _ _) Z (RQ _ _ _ _) ?_))
 refine Cc (bt results7 _ _ (w.heap.size+1) 33 (DQ [] (0,0,0,0) E 0) (0,0) _ Z (Ca _ _ _ _ _ _ q.told) underlying33 Z (O9 _ _ _ _) _ Z) Z ?_;exact⟨Z,CF q.below J _⟩
def FM:Nat->List (Int×Int)
 |0=>[]
 |k+1=>FM k++[((k:Int),(k:Int)+1)]
def PH:∀k,(FM k).length=k
 |0=>rfl
 |k+1=>by rw[FM,BK,PH k];rfl
def sm{L:List (Int×Int)}(h:w.ownsRow base 43 2 (G ea L.length cap) L.length (qIO L)):FR w ea L:=by
 refine⟨λi d=>?_⟩;rcases h.2 with⟨_,k⟩|⟨g,f,j,e,_,a,l,_,m,c⟩
 ·omega
 injection e with e1 _ _;have b:=X1 L i d;rw[<-c,KM J,KM J]at b;refine⟨g,0,e1,BC a,?_,?_⟩
 ·rw[DY,BB a];simpa using b.1
 rw[DY,BB a];simpa using b.2
def Tryz.infoEdge:(prog.info? 43).map (λi=>(i.zero,i.size,i.bytes))=U (U (.agg #[I K 0,I K 0]),2,16):=M
structure N7(w:World)(c:BX)(z:A3)(k:Nat)(v:Value)(V:World):Prop where
 below:A0 w V
 cfg:V.heap[w.heap.size]?=some (.cells c.arr 25)
 res:V.heap[w.heap.size+1]?=some (.cells z 25)
 own:V.ownsRow (w.heap.size+2) 43 2 v k (qIO (FM k))
def K4:A3:=#[A6 Ag 0,A7 none 0 0,A6 Ag 0,A9 ⟨#[]⟩,A6 Ag 0,A6 Ag 0,A6 Ag 0,A6 Ag 0,A6 Ag 0,A6 Ag 0,A7 none 0 0]
def sn(w:O)(c:BX):N7 w c K4 0 (G Y 0 0) ((w.alloc (E c.arr 25)).alloc (E K4 25)) :=
 ⟨BN.trans (BN.mono Az),(BT _ _ _ Az).trans (BI _ _),Au (BI (w.alloc (E c.arr 25)) (E K4 25)),FQ _ _ _ _⟩
def N7.app{z:A3}{v':Al}(h:N7 w c z k v V)(g:V'.ownsRow (w.heap.size+2) 43 2 v' (k+1) (qIO (FM k)++[I K k,I K ((k:Int)+1)]))(a:(V.alloc o).grownBy V' v.ownBlock):N7 w c z (k+1) v' V':=by
 have f:∀j,j<w.heap.size+2->U j≠v.ownBlock:=λj b e=>Ao (Fa h.own e.symm)
 have i:=BC h.res;have d:∀j,j<w.heap.size+2->V'.heap[j]?=V.heap[j]?:=λj b=>(a.block j Ax (f j b)).trans (BT _ _ _ J);refine⟨⟨a.os.trans h.below.os,a.tape.trans h.below.tape,a.output.trans h.below.output,?_,λj b=>(d j J).trans (h.below.block j b)⟩,(d _ J).trans h.cfg,(d _ J).trans h.res,?_⟩
 ·have:=a.size;have:=h.below.size;simp at *;omega
 rw[FM,fA];exact g
def sq{md:Region.Mode}{ops:Array Oper}{Q:Exit->Act->O->Prop}{S:O->Prop}{fuel:Nat}{listed:Array Bool}{a:Act}(L:Array Bool)(b:Nat)(c:List (Nat×Al))(W':O)(d:wpAnyH P md ops Q S b L (c.foldl (λa p=>a.put (U p.1) p.2) a) W'->wpAnyH P md ops Q S fuel listed a w)(e:∀A,c.foldl (λa p=>a.put (U p.1) p.2) a=A->wpAnyH P md ops Q S b L A W'):wpAnyH P md ops Q S fuel listed a w:=d (e _ rfl)
def Lw(x:Int):Prop := -9223372036854775808<=x/\x<=9223372036854775807
def bB(c:BX):Prop:=Lw c.labels/\Lw c.dflt/\Lw c.clr/\Lw c.inn/\Lw c.out/\Lw c.depth/\Lw c.bytes
def Lx(x:Int)(n:Nat)(b:1<=n)(d:n<=4096)(a:Lw x)(V:O):Am X 4 #[I K x,I K (n:Int)] V λe c=>e=Af (I K (D7 x n))/\V=c:=(rE x n V b AC a.1 a.2).mono λ_ _ h=>⟨h.1,h.2.symm⟩
def sr{t:TypeId}{size:Nat}{xs:List Al}(h:W.ownsRow base t size v n xs):∃a b,v=G a n b:=by
 rcases h.2 with⟨rfl,rfl⟩|⟨g,b,_,rfl,_⟩
 ·exact⟨Y,0,Z⟩
 exact⟨_,b,Z⟩
def su{x:Obj}(h:V.heap[g]?=U x):(V.alloc o).heap[g]?=U x:=(BT _ _ _ (BC h)).trans h
def GM(c:BX)(k:Nat)(ea:A4)(ecap p2 p3 p4 p5 p6 p7:Nat)(pol:ByteArray)(bv:Al):A3:=#[A6 Ag (1+(k:Int)),A7 ea k ecap,A6 Ag p2,.string pol,A6 Ag p3,A6 Ag c.key,A6 Ag (1+(p4:Int)),A6 Ag (1+(p5:Int)),A6 Ag (1+(p6:Int)),A6 Ag (1+(p7:Int)),bv]
def Vr(c:BX)(k:Nat)(b:A4)(d e f g h i j:Nat)(l:ByteArray)(a:A4)(n m:Nat):(GM c k b d e f g h i j l (G a n m)).all (·.oneCell')=true:=by simp[GM,Value.oneCell']
def Ly(c:BX)(k:Nat)(ea:A4)(ecap p2 p3 p4 p5 p6 p7:Nat)(pol:ByteArray)(B:List Int)(ba:A4)(bcap:Nat):BX:=⟨1+(k:Int),FM k,ea,ecap,p2,pol,p3,c.key,1+(p4:Int),1+(p5:Int),1+(p6:Int),1+(p7:Int),B,ba,bcap⟩
def Vs(c:BX)(k:Nat)(a:A4)(b d e f g h i:Nat)(j:ByteArray)(B:List Int)(ba:A4)(bcap:Nat):(Ly c k a b d e f g h i j B ba bcap).arr=GM c k a b d e f g h i j (G ba B.length bcap):=by
 unfold Ly BX.arr GM;dsimp only;rw[PH]
def Vu(c:BX)(ea:A4)(ecap:Nat):ByteArray->List Int->A4->Nat->BX:=Ly c (D7 c.labels 6) ea ecap (D7 c.dflt (1+D7 c.labels 6)) (D7 c.clr (1+D7 c.labels 6)) (D7 c.inn 3) (D7 c.out 3) (D7 c.depth 16) (D7 c.bytes 4096)
def PI(c:BX)(rules:A1):ByteArray:=if c.pol.toList.isEmpty=true then⟨rules.toArray⟩else⟨rules.toArray⟩++⟨#[10]⟩++c.pol
def PJ(c:BX)(rules:A1)(d:BX):Prop:=∃ea ecap,(d=Vu c ea ecap (PI c rules) c.B c.ba c.bcap/\CB d=0)\/(d=Vu c ea ecap ⟨rules.toArray⟩ [] none 0/\¬CB (Vu c ea ecap (PI c rules) c.B c.ba c.bcap)=0)
def Vv{U:O}{z:A3}{ecap:Nat}(h:N7 w c z k (G ea k ecap) U)(o:∀j,j<U.heap.size->j≠w.heap.size+1->V.heap[j]?=U.heap[j]?)(q:A0 w V)(r:k<=6){pol:ByteArray}{bcap:Nat}(hi:IN w ba B)(p:ba=Y->B.length=0/\bcap=0)(n:(B.length+8)*8<=281474976710656):FF V (Ly c k ea ecap p2 p3 p4 p5 p6 p7 pol B ba bcap):=by
 have l:V.ownsRow (w.heap.size+2) 43 2 (G ea k ecap) k (qIO (FM k)):=by
  refine⟨h.own.1,?_⟩;rcases h.own.2 with a|⟨g,f,i,a,d,b,m⟩
  ·exact .inl a
  exact .inr ⟨g,f,i,a,d,(o g (BC b) J).trans b,m⟩
 refine⟨sm (show V.ownsRow (w.heap.size+2) 43 2 (G ea (FM k).length ecap) (FM k).length (qIO (FM k)) by rw[PH];exact l),hi.below q,λe=>?_,p,?_,n⟩
 ·show(FM k).length=0/\ecap=0;rw[PH];have e:ea=Y:=e;subst e;rcases l.2 with⟨a,d⟩|⟨g,f,i,a,_⟩
  ·injection a with _ _ b;exact⟨d,b⟩
  injection a with a;cases a
 show((FM k).length+8)*16<=_;rw[PH];omega
def bC{rules:A1}{P:ByteArray}(a:A4)(b:Nat)(d:D7 c.labels 6=k)(e:D7 c.dflt (1+k)=p2)(f:D7 c.clr (1+k)=p3)(g:D7 c.inn 3=p4)(i:D7 c.out 3=p5)(j:D7 c.depth 16=p6)(l:D7 c.bytes 4096=p7)(n:PI c rules=P){E:Int}(m:CB (Ly c k a b p2 p3 p4 p5 p6 p7 P c.B c.ba c.bcap)=E):(E=0->PJ c rules (Ly c k a b p2 p3 p4 p5 p6 p7 P c.B c.ba c.bcap))/\(¬E=0->PJ c rules (Ly c k a b p2 p3 p4 p5 p6 p7 ⟨rules.toArray⟩ [] Y 0)):=by
 subst d e f g i j l n m;exact⟨λh=>⟨a,b,.inl ⟨Z,h⟩⟩,λh=>⟨a,b,.inr ⟨Z,h⟩⟩⟩
structure Ik(U:World)(d:A3)(V:World):Prop where
 below:A0 U V
 box:V.heap[U.heap.size]?=some (.cells d 25)
def sw(U:O)(d:A3):Ik U d ((({U with drawn:=U.drawn+1}:O).alloc (E K4 25)).setRow U.heap.size d) :=
 ⟨CF (((C5 U.heap.size U).drew).alloc (BM _) _) (BM _) _,Ca _ _ _ _ _ _ (BI {U with drawn:=U.drawn+1} _)⟩
def Ik.set{U:O}(h:Ik U d V)(j:Nat)(v:Al):Ik U (d.setIfInBounds j v) (V.setCell ⟨U.heap.size,j,Y⟩ v) :=
 ⟨⟨h.below.os,h.below.tape,h.below.output,by have:=h.below.size;simpa[World.setCell]using this,λk a=>(CP _ _ _ _ (by show k≠U.heap.size;omega)).trans (h.below.block k a)⟩,ET _ _ _ _ _ _ h.box⟩
def Ik.next{U:O}(h:Ik U d V)(hb:A0 V V'):Ik U d V' :=
 ⟨h.below.trans (hb.mono h.below.size),(hb.block _ (BC h.box)).trans h.box⟩
def Ik.old{U:O}(h:Ik U d V)(e:U.heap[g]?=some (E cs 25))(j:Nat):V.cell? ⟨g,j,Y⟩=cs[j]?:=BB ((h.below.block g (BC e)).trans e) j
def M7{U:O}(h:N7 w c K4 k v U)(a:Ik U d V):(V.setRow (w.heap.size+1) d).heap[w.heap.size+1]?=some (E d 25)/\A0 w (V.setRow (w.heap.size+1) d)/\∀j,j<U.heap.size->j≠w.heap.size+1->(V.setRow (w.heap.size+1) d).heap[j]?=U.heap[j]? :=
 ⟨Ca _ _ _ _ _ _ ((a.below.block _ (BC h.res)).trans h.res),CF (h.below.trans (a.below.mono h.below.size)) J _,λj b e=>(CQ _ _ _ _ e).trans (a.below.block j b)⟩
def sy(c:BX)(w:O)(h:FF w c)(hk:bB c)(ht:G2 w.heap.size w)(L:A1)(hr:L.length<=100)(bt:c.pol.size<=281474976710656):Am X 5 #[.agg c.arr,A9 ⟨L.toArray⟩] w λe V=>∃an,e=Af (.agg an.arr)/\FF V an/\A0 w V/\PJ c L an:=by
 have HS:=T c.size;have f:=T (sn w c);have ak:=Lx c.labels 6 J J hk.1;obtain⟨m,HM⟩:∃m,Hid (D7 c.labels 6=m):=⟨_,show _=_ from rfl⟩
 simp only[HM.out]at ak;have hm:m<6:=by rw[<-HM.out];exact Kh _ _ J
 have al:=Lx c.dflt (1+m) J J hk.2.1;have am:=Lx c.clr (1+m) J J hk.2.2.1;have au:=Lx c.inn 3 J J hk.2.2.2.1;have av:=Lx c.out 3 J J hk.2.2.2.2.1;have aw:=Lx c.depth 16 J J hk.2.2.2.2.2.1;have ax:=Lx c.bytes 4096 J J hk.2.2.2.2.2.2;have ay:(((1+m:Nat):Int))=1+(m:Int):=J
 rw[ay]at al am;obtain⟨D,aa⟩:∃p,Hid (D7 c.dflt (1+m)=p):=⟨_,show _=_ from rfl⟩
 have bl:D<(1+m):=by rw[<-aa.out];exact Kh _ _ J
 simp only[aa.out]at al;obtain⟨F,ab⟩:∃p,Hid (D7 c.clr (1+m)=p):=⟨_,show _=_ from rfl⟩
 have bm:F<(1+m):=by rw[<-ab.out];exact Kh _ _ J
 simp only[ab.out]at am;obtain⟨r,ac⟩:∃p,Hid (D7 c.inn 3=p):=⟨_,show _=_ from rfl⟩
 have bo:r<3:=by rw[<-ac.out];exact Kh _ _ J
 simp only[ac.out]at au;obtain⟨s,ad⟩:∃p,Hid (D7 c.out 3=p):=⟨_,show _=_ from rfl⟩
 have bp:s<3:=by rw[<-ad.out];exact Kh _ _ J
 simp only[ad.out]at av;obtain⟨t,ae⟩:∃p,Hid (D7 c.depth 16=p):=⟨_,show _=_ from rfl⟩
 have bq:t<16:=by rw[<-ae.out];exact Kh _ _ J
 simp only[ae.out]at aw;obtain⟨v,af⟩:∃p,Hid (D7 c.bytes 4096=p):=⟨_,show _=_ from rfl⟩
 have bs:v<4096:=by rw[<-af.out];exact Kh _ _ J
 simp only[af.out]at ax;have a6:=T (I0 (1+(r:Int)) J);have a7:=T (I0 (1+(s:Int)) J);have a8:=T (I0 (1+(t:Int)) J);have a9:=T (I0 (1+(v:Int)) J);clear hk ay;go_enter func5,ntmps5;have c0:_=U (Value.int K c.labels):=BB f.cfg 0;unfold K4 at c0
 go_wp2_with(first
  |(go_at_call 4;refine(ak _).mono ?_;clear ak;rintro e w2 ⟨rfl,rfl⟩))
 clear c0
 go_loopg[6,7] m (λao ye yi V=>∃k:Nat,yi=I K ((k:Int)+1)/\Hid (k<=m/\m<=k+ao)/\Hid (N7 w c K4 k ye V))
 case atStart=>exact⟨0,rfl,⟨DK _,J⟩,f⟩
 case round =>
  clear f;obtain⟨k,rfl,A,f⟩:=hrel;by_cases bc:(k:Int)+1<1+(m:Int)
  ·cases gk with
   |zero=>have:=A.out;omega
   |succ ao =>
    have bk:k<=5:=Ao A.out
    have bv:((k:Int)+1-1)=(k:Int):=J
    obtain⟨i0,hi,be,bf,bg⟩:=DZ Tryz.infoEdge
    go_wp2_with(first
     |(at_builtin;refine JG _ Z _ _ 22 Z (w.heap.size+2) 43 i0 (.agg #[I K 0,I K 0]) 2 16 underlying22 hi be bf bg Z Ay _ _ _ Z (f.own.alloc _) ⟨wr.heap.size,0,Y⟩ 1 1 [I K k,I K ((k:Int)+1)] Z Z (EE _ _ _) (λbw hu=>Bv) AC J (As (BC f.res)) ?_;intro v' w5 a2 a1 bd;clear bd;have a5:=T (f.app a2 a1);clear a2 a1 f))
    go_roundg ao
    case measure=>omega
    case rel=>exact⟨k+1,congrArg (Value.int K) J,by have:=A.out;show _/\_;omega,a5⟩
  have hk:k=m:=Ao A.out
  subst hk
  go_wp2_with fail
  obtain⟨y,C,rfl⟩:=sr f.own;refine DA (S:=λQ=>Q.heap[w.heap.size]?=U (E c.arr 25)) f.cfg M ?_;intro n;have R:=(su (o:=E K4 25) n)
  refine BE 0 27 (I K (1+(k:Int))) n ?_;refine BE 1 28 (G y k C) n ?_;refine BE 4 31 (I K (1+(k:Int))) n ?_;refine BE 8 35 (I K (1+(k:Int))) n ?_;refine BE 2 29 (A8 (U ⟨w.heap.size,2,Y⟩)) n ?_;refine BE 6 33 (A8 (U ⟨w.heap.size,4,Y⟩)) n ?_;refine BE 10 37 (A8 (U ⟨w.heap.size,5,Y⟩)) n ?_;refine BE 12 39 (A8 (U ⟨w.heap.size,6,Y⟩)) n ?_;refine BE 16 43 (A8 (U ⟨w.heap.size,7,Y⟩)) n ?_;refine BE 20 47 (A8 (U ⟨w.heap.size,8,Y⟩)) n ?_;refine BE 24 51 (A8 (U ⟨w.heap.size,9,Y⟩)) n ?_;refine BE 28 55 (A8 (U ⟨w.heap.size,10,Y⟩)) n ?_;refine BL 3 30 (I K c.dflt) Z (λQ N=>by have z:_=U (Value.int K c.dflt):=BB N 2;go_simp) n ?_;refine BL 7 34 (I K c.clr) Z (λQ N=>by have z:_=U (Value.int K c.clr):=BB N 4;go_simp) n ?_;refine BL 11 38 (I K c.key) Z (λQ N=>by have z:_=U (Value.int K c.key):=BB N 5;go_simp) n ?_;refine BL 13 40 (I K c.inn) Z (λQ N=>by have z:_=U (Value.int K c.inn):=BB N 6;go_simp) n ?_;refine BL 17 44 (I K c.out) Z (λQ N=>by have z:_=U (Value.int K c.out):=BB N 7;go_simp) n ?_;refine BL 21 48 (I K c.depth) Z (λQ N=>by have z:_=U (Value.int K c.depth):=BB N 8;go_simp) n ?_;refine BL 25 52 (I K c.bytes) Z (λQ N=>by have z:_=U (Value.int K c.bytes):=BB N 9;go_simp) n ?_;refine BL 29 56 (G c.ba c.B.length c.bcap) Z (λQ N=>by have z:_=U (Value.slice c.ba c.B.length c.bcap):=BB N 10;go_simp) n ?_;refine sq #[true,true,true,true,true,true,true,true,true,true,true,true,true,true,true,true,true,true,true,true,true,true,true,true,true,true,true,true,true,true,true,true,false] 1 [(32,I K D),(36,I K F),(41,I K r),(45,I K s),(49,I K t),(53,I K v),(42,I K (1+(r:Int))),(46,I K (1+(s:Int))),(50,I K (1+(t:Int))),(54,I K (1+(v:Int))),(57,.agg (GM c k y C D F r s t v ⟨#[]⟩ (G c.ba c.B.length c.bcap))),(8,A8 (U ⟨wr.heap.size,0,Y⟩))] (({wr with drawn:=wr.drawn+1}:O).alloc (E K4 25)) (λa3=>?reg) ?tail
  case reg =>
   clear h ht f A bc hm;have q:=n
   all_goals
    first
    |(have _:=H;refine C9 5 (λl b=>?_))
    |(refine Hq 5 31 (λl b=>?_) (λl b=>?_);rotate_left;(go_simp;refine b.out _ _ R (λ_=>?_);clear b q;have q:=R;have H:=Mv;refine C9 5 (λl b=>?_)))
   all_goals
    go_simp;refine(al _).mono ?_;rintro e i ⟨rfl,rfl⟩;refine b.out _ _ q (λ_=>?_);clear b
   all_goals
    first
    |(have _:=H;refine C9 9 (λl b=>?_))
    |(refine Hq 9 31 (λl b=>?_) (λl b=>?_);rotate_left;(go_simp;refine b.out _ _ R (λ_=>?_);clear b q;have q:=R;have H:=Mv;refine C9 9 (λl b=>?_)))
   all_goals
    go_simp;refine(am _).mono ?_;rintro e i ⟨rfl,rfl⟩;refine b.out _ _ q (λ_=>?_);clear b
   all_goals
    first
    |(have _:=H;refine C9 14 (λl b=>?_))
    |(refine Hq 14 31 (λl b=>?_) (λl b=>?_);rotate_left;(go_simp;refine b.out _ _ R (λ_=>?_);clear b q;have q:=R;have H:=Mv;refine C9 14 (λl b=>?_)))
   all_goals
    go_simp;refine(au _).mono ?_;rintro e i ⟨rfl,rfl⟩;refine b.out _ _ q (λ_=>?_);clear b;refine BL 15 42 (I K (1+(r:Int))) Z (λQ _=>by go_simp<;>exact a6) q ?_
   all_goals
    first
    |(have _:=H;refine C9 18 (λl b=>?_))
    |(refine Hq 18 31 (λl b=>?_) (λl b=>?_);rotate_left;(go_simp;refine b.out _ _ R (λ_=>?_);clear b q;have q:=R;have H:=Mv;refine C9 18 (λl b=>?_)))
   all_goals
    go_simp;refine(av _).mono ?_;rintro e i ⟨rfl,rfl⟩;refine b.out _ _ q (λ_=>?_);clear b;refine BL 19 46 (I K (1+(s:Int))) Z (λQ _=>by go_simp<;>exact a7) q ?_
   all_goals
    first
    |(have _:=H;refine C9 22 (λl b=>?_))
    |(refine Hq 22 31 (λl b=>?_) (λl b=>?_);rotate_left;(go_simp;refine b.out _ _ R (λ_=>?_);clear b q;have q:=R;have H:=Mv;refine C9 22 (λl b=>?_)))
   all_goals
    go_simp;refine(aw _).mono ?_;rintro e i ⟨rfl,rfl⟩;refine b.out _ _ q (λ_=>?_);clear b;refine BL 23 50 (I K (1+(t:Int))) Z (λQ _=>by go_simp<;>exact a8) q ?_
   all_goals
    first
    |(have _:=H;refine C9 26 (λl b=>?_))
    |(refine Hq 26 31 (λl b=>?_) (λl b=>?_);rotate_left;(go_simp;refine b.out _ _ R (λ_=>?_);clear b q;have q:=R;have H:=Mv;refine C9 26 (λl b=>?_)))
   all_goals
    go_simp;refine(ax _).mono ?_;rintro e i ⟨rfl,rfl⟩;refine b.out _ _ q (λ_=>?_);clear b;refine BL 27 54 (I K (1+(v:Int))) Z (λQ _=>by go_simp<;>exact a9) q ?_;refine BL 30 57 (.agg (GM c k y C D F r s t v ⟨#[]⟩ (G c.ba c.B.length c.bcap))) Z (λQ _=>M) q ?_
   all_goals
    first
    |(have _:=H;exact cast M a3)
    |(refine C9 31 (λl b=>?_);go_simp;refine b.out _ _ R (λ_=>?_);exact cast M a3)
  case tail =>
   have d:=T (sw wr (GM c k y C D F r s t v ⟨#[]⟩ (G c.ba c.B.length c.bcap)));intro ap H;have h8:ap.eval (.tmp 8)=A8 (U ⟨wr.heap.size,0,Y⟩):=by rw[<-H];kernel_rfl
   have a0:ap.eval (.tmp 57)=.agg (GM c k y C D F r s t v ⟨#[]⟩ (G c.ba c.B.length c.bcap)):=by rw[<-H];kernel_rfl
   refine OI (fuel:=0) (rs:=[32]) M Az (Np (o := ?o) ?hi ?hk OG)
   case hi=>exact rfl
   intro l b;rw[BA M];refine Hp 25 (.tmp 8) (.tmp 57) Z wr.heap.size (GM c k y C D F r s t v ⟨#[]⟩ (G c.ba c.B.length c.bcap)) h8 a0 25 K4 (BI {wr with drawn:=wr.drawn+1} _) (El Z) Z (Vr ..) ?_;refine b.out _ _ ((d.below.block _ (BC f.cfg)).trans f.cfg) (λ_=>?_);clear b n R h8 a0;subst H;generalize(({wr with drawn:=wr.drawn+1}:O).alloc (E K4 25)).setRow wr.heap.size (GM c k y C D F r s t v ⟨#[]⟩ (G c.ba c.B.length c.bcap))=V1 at *;refine Cv ?_;go_simp;have c3:_=U (Value.string ⟨#[]⟩):=BB d.box 3;have f3:=Dx _ _ 3 _ _ d.box;have x:Hid (Ik wr (GM c k y C D F r s t v ⟨L.toArray⟩ (G c.ba c.B.length c.bcap)) _):=d.set 3 (A9 ⟨L.toArray⟩);have q3:_=U (Value.string c.pol):=x.old f.cfg 3;have bu:¬9223372036854775807<L.length+1+c.pol.size:=J
   have aq:Hid (∀g V,Ik wr (GM c k y C D F r s t v g (G c.ba c.B.length c.bcap)) V->∃P a4,Hid (CB (Ly c k y C D F r s t v g c.B c.ba c.bcap)=P)/\Am X 10 #[.agg (GM c k y C D F r s t v g (G c.ba c.B.length c.bcap))] V λe i=>e=Af (Aa #[I K P,I K a4])/\A0 V i):=λg V hV=>by
    have az:=br (Ly c k y C D F r s t v g c.B c.ba c.bcap) V (Vv f (λbi hj _=>hV.below.block bi hj) (f.below.trans (hV.below.mono f.below.size)) J h.ints h.bn h.bb) (ht.below (f.below.trans (hV.below.mono f.below.size))).gl;rw[Vs]at az;exact⟨_,_,Z,az⟩
   by_cases ag:c.pol.toList.isEmpty=true;have ah:=T (show PI c L=_ from BA ag);have u:=x
   rotate_left
   have ah:=T (show PI c L=_ from Bz ag);have d3:_=U (Value.string ⟨L.toArray⟩):=BB x.box 3;have g3:=Dx _ _ 3 _ _ x.box;have u:Hid (Ik wr (GM c k y C D F r s t v ((⟨L.toArray⟩:ByteArray)++(⟨#[10]⟩:ByteArray)++c.pol) (G c.ba c.B.length c.bcap)) _):=x.set 3 (.string ((⟨L.toArray⟩:ByteArray)++(⟨#[10]⟩:ByteArray)++c.pol));have ag:=Bool.eq_false_iff.2 ag
   rotate_left
   all_goals
    obtain⟨P,a4,ar,cK⟩:=aq.out _ _ u;have HC:=T h;clear aq h ht;by_cases hE:P=0
    ·subst hE
     go_wp2_with(first
      |(refine C8 Z 25 _ Z wr.heap.size Z _ _ _ _ u.box underlying25 Z (El Z) ?_)
      |(go_at_call 10;refine cK.mono ?_;clear cK;rintro e w5 ⟨rfl,a⟩;have W:=T (u.next a);clear u a)
      |(refine C8 Z 25 _ Z wr.heap.size Z _ _ _ _ W.box underlying25 Z (El Z) ?_)
      |(refine Co Z 25 _ _ Z (w.heap.size+1) (GM c k y C D F r s t v _ (G c.ba c.B.length c.bcap)) Z Z 25 _ ((W.below.block _ (BC f.res)).trans f.res) (El Z) Z (Vr ..) ?_))
     refine Cc (LF results5 _ _ (w.heap.size+1) 25 _ (0,0) _ Z (M7 f W).1 underlying25 Z (El Z)) Z ⟨_,congrArg (λaj=>Ending.returned (.agg aj)) (Vs ..).symm,Vv f (M7 f W).2.2 (M7 f W).2.1 J HC.ints HC.bn HC.bb,(M7 f W).2.1,(bC y C HM aa ab ac ad ae af ah ar).1 Z⟩
    have HN:=T hE;have hE:(P==0)=false:=by simpa using hE
    go_wp2_with(first
     |(refine C8 Z 25 _ Z wr.heap.size Z _ _ _ _ u.box underlying25 Z (El Z) ?_)
     |(go_at_call 10;refine cK.mono ?_;clear cK;rintro e w5 ⟨rfl,a⟩;have W:=T (u.next a);clear u a;have c3:_=U (Value.string _):=BB W.box 3;have f3:=Dx _ _ 3 _ _ W.box;have ai:Hid (Ik wr (GM c k y C D F r s t v ⟨L.toArray⟩ (G c.ba c.B.length c.bcap)) _):=W.set 3 (A9 ⟨L.toArray⟩);have bj:_=U (Value.slice _ _ _):=BB ai.box 10;have f10:=Dx _ _ 10 _ _ ai.box;have j:Hid (Ik wr (GM c k y C D F r s t v ⟨L.toArray⟩ (G Y 0 0)) _):=ai.set 10 (G Y 0 0))
     |(refine C8 Z 25 _ Z wr.heap.size Z _ _ _ _ j.box underlying25 Z (El Z) ?_)
     |(refine Co Z 25 _ _ Z (w.heap.size+1) (GM c k y C D F r s t v ⟨L.toArray⟩ (G Y 0 0)) Z Z 25 _ ((j.below.block _ (BC f.res)).trans f.res) (El Z) Z (Vr ..) ?_))
    refine Cc (LF results5 _ _ (w.heap.size+1) 25 _ (0,0) _ Z (M7 f j).1 underlying25 Z (El Z)) Z ⟨_,congrArg (λaj=>Ending.returned (.agg aj)) (Vs c k y C D F r s t v ⟨L.toArray⟩ [] Y 0).symm,Vv f (M7 f j).2.2 (M7 f j).2.1 J (B:=[]) (ba:=Y) (bcap:=0) ⟨λbh hi=>absurd hi (Nat.not_lt_zero bh)⟩ (λ_=>⟨Z,Z⟩) Az,(M7 f j).2.1,(bC y C HM aa ab ac ad ae af ah ar).2 HN⟩
end
end Go.Proofs.YtnlnjkggkbbdhaaGreatDoor
