import Derived.Test.YtnlnjkggkbbdhaaGreatDoorTq22
import Derived.Test.YtnlnjkggkbbdhaaGreatDoorTq25
set_option maxRecDepth 100000
set_option maxHeartbeats 8000000
set_option linter.all false
namespace Go.Proofs.YtnlnjkggkbbdhaaGreatDoor
open Go.Proofs.Tryz
open Go.Value renaming int->I,slice->G
open Option renaming some->U,none->Y
open Go.IntKind renaming i64->K
open Go renaming World->O
open Go.Proofs.Tryz renaming prog->X
open Go.Value renaming int->A6,pointer->A8,tuple->Aa
open Go.Obj renaming cells->Ae
open Option renaming none->Aj
variable{n p p' wi:Nat}{e:Int×Int}{bs r t x:A1}{rd rd':Nat->Except (Int×Int) (DataW Unit×Nat)}{D d d' lim lx:Int}{c:UInt8}
section
open Go.RowKit Go.Lib
def O8(c:BX)(A:Nat)(bv:Value):A3:=#[A6 .i64 c.inn,A6 .i64 c.out,A6 .i64 c.depth,A6 .i64 c.bytes]++(Cp c.labels.toNat (CU c.labels.toNat c.L)++#[A6 .i64 c.clr,A6 .i64 c.key,A8 (some ⟨A,0,Aj⟩)])++#[bv,.slice Aj 0 0,.bool false]
def Fz(c:BX):List (List (Nat×A1)×Int×Int):=(Dd c.pol.data.toList).map DP
def qX(w:O)(a:A4)(i:Nat)(B:List Int)(h:IN w a B)(A:a=Y->B.length=0/\i=0)(L:B.length<=8):Calls X 31 #[G a B.length i] w λe c=>∃d f,e=.returned (G d B.length f)/\Dj c 3 1 (λg=>w.heap.size<=g/\g<c.heap.size) (G d B.length f) B.length (B.map (Value.int K))/\A0 w c:=by
 have s:∀{c:O} {v:Value} {n:Nat} {q:List Value},c.ownsRow w.heap.size 3 1 v n q->∃d f,v=G d n f/\Dj c 3 1 (λg=>w.heap.size<=g/\g<c.heap.size) (G d n f) n q:=by
  rintro c v n q ⟨k,m⟩;rcases m with⟨rfl,rfl⟩|⟨g,i,x,rfl,C,t,D⟩
  ·exact⟨Y,0,Z,k,.inl ⟨Z,Z⟩⟩
  exact⟨_,_,Z,k,.inr ⟨g,i,x,Z,⟨C,(BC t)⟩,t,D⟩⟩
 cases a with
 |none =>
  obtain⟨l,H⟩:=A rfl;refine(Tryz.slices_Clone_int_nil B.length i w).mono ?_;rintro e c ⟨rfl,rfl⟩;have p:=J9 l;subst p;exact⟨Y,0,Z,⟨Z,.inl ⟨Z,Z⟩⟩,C5 _ _⟩
 |some u =>
  by_cases y:B.length=0
  ·have p:=J9 y;subst p;refine(Tryz.slices_Clone_int_zero u i w).mono ?_;rintro e c ⟨F,rfl,k,_,m⟩;obtain⟨d,f,rfl,o⟩:=s k;exact⟨d,f,Z,o,m⟩
  obtain⟨b,off,l,N,z⟩:=h.at_ 0 J;injection l with l;subst l;refine(Tryz.slices_Clone_int b off B.length i B w (BM _) J (λj r=>?_)).mono ?_
  ·rw[z j r,Mh,C6 r];rfl
  rintro e c ⟨F,rfl,k,_,m⟩;rw[LG]at k;obtain⟨d,f,rfl,o⟩:=s k;exact⟨d,f,Z,o,m⟩
structure KG(c:BX)(W0:World)(L A:Nat)(q:Cs)(sts:List ((Nat->Nat)×Int×Int))(sa:A4)(sc:Nat)(nf mf:Lit->Option Nat)(bv:Value)(V:World):Prop where
 cp:ak W0 (Fz c) c.dflt A q sts sa sc nf mf V
 bk:Dj V 3 1 (λg=>W0.heap.size<=g/\g<L) bv c.B.length (c.B.map (Value.int .i64))
 bs:∃ba bc,bv=.slice ba c.B.length bc
def bd(c:BX)(w:World)(e:Ending)(w':World):Prop :=
 A0 w w'/\((¬CB c=0/\e=.returned (Aa #[A8 Aj,A6 .i64 (CB c)]))\/(CB c=0/\∃W0 L A q sts sa sc nf mf bv,e=.returned (Aa #[A8 (some ⟨L,0,Aj⟩),A6 .i64 0])/\w.heap.size<=W0.heap.size/\W0.heap.size<=L/\w'.heap.size=L+1/\w'.heap[L]?=some (Ae (O8 c A bv) 96)/\KG c W0 L A q sts sa sc nf mf bv w'))
def qY{A:A3}{O:A3}{a:A4}{k cap:Nat}(h:A=Ig O a k cap)(d:O.size=37):∀(j:Nat) (u:Value),O[j]?=U u->A[j]?=U u:=by
 intro j u b;have c:j<37:=Ao (BC b)
 rw[h];unfold Ig;rw[Wx,Bz J];exact b
def qZ(n:Nat)(m:Nat->Nat->Bool):(prog.info? 84).map (·.size)=U (Cp n m).size:=by rw[Cr];kernel_rfl
def r7(c:BX)(w:O)(e:FF w c)(m:Iq w)(aj:CB c=0->c.B.length<=8):Calls X 12 #[.agg c.arr] w (bd c w):=by
 have HS:=T c.size;have HC:=T e;have ac:=T aj;have s:=T (O2 w c);have cR:=oS c _ (s.cfg e) (m.below s.below);have R:=T (Uw c);clear e m aj;go_enter func12,ntmps12
 go_wp2_with(first
  |(refine C8 Z 25 _ Z _ Z _ _ _ _ s.box underlying25 Z (El HS) ?_)
  |fail)
 refine cR.mono ?_;clear cR;rintro ag f ⟨A,rfl,v,ah⟩;rw[R.1,R.2];have aa:=T v.1;have ab:=T v.2.1;have HZ:Hid (Dl.size=A.size):=by show _=_;rw[v.1];exact Ju
 have t:=T (s.step ah);have z:Hid (RK w c f.heap.size A (f.alloc (Ae A 87))):=⟨t.below.alloc t.below.size _,(BT _ _ _ (BC t.box)).trans t.box,BI _ _⟩
 have V:=v.2.2;rw[R.1]at V;clear v ah s t;by_cases k:CB c=0
 ·obtain⟨_,y,sk,sc,W,lo,al⟩:=V k;obtain⟨ra,rc,a7,am⟩:=al.pru;injection a7 with e1 e2 e3;subst e1;subst e2;subst e3;have a3:A[37]?=U (G y (Fz c).length sc):=by
   rw[W];unfold Ig;rw[Wx,Cr];rfl
  have an:=T (qY W (Cr _ _));have ax:Hid (Ib (f.alloc (Ae A 87)) y (Fz c)):=am.below BN;have a0:=UG (b9 k);have ar:=T (ac k);have ao:=T k;clear W V al am ac;rw[k];clear k;obtain⟨hn,h8,a6⟩:=a0;have av:Hid ((Fz c).length<=16):=hn;have H8:Hid (∀i (h:i<(Fz c).length),(Fz c)[i].1.length<=8):=h8;have aq:Hid (∀i (h:i<(Fz c).length) j (h2:j<(Fz c)[i].1.length),(Fz c)[i].1[j].1<=3/\(Fz c)[i].1[j].2.length<=1000000000):=a6
  go_wp2_with(first
   |(refine Us Z Z _ Z f.heap.size Z ?_)
   |(refine Co Z 87 _ _ Z f.heap.size A Z Z 87 Dl (BI f _) (IY aa) HZ ab ?_;rw[FP]))
  have d:(λa:O=>a.heap[w.heap.size]?=U (Ae c.arr 25)/\a.heap[f.heap.size]?=U (Ae A 87)) { (f.alloc (Ae A 87))with drawn:=(f.alloc (Ae A 87)).drawn+1}:=⟨z.box,z.row⟩
  refine Ec (S:=λa=>a.heap[w.heap.size]?=U (Ae c.arr 25)/\a.heap[f.heap.size]?=U (Ae A 87)) M ?_;have H:Hid (A0 w { (f.alloc (Ae A 87))with drawn:=(f.alloc (Ae A 87)).drawn+1}):=z.below.drew;have ay:Hid (Ib { (f.alloc (Ae A 87))with drawn:=(f.alloc (Ae A 87)).drawn+1} y (Fz c)):=ax.below (C5 _ _).drew;generalize({ (f.alloc (Ae A 87))with drawn:=(f.alloc (Ae A 87)).drawn+1}:O)=W4 at *;generalize f.heap.size=N4 at *;have aw:Hid (∀a:O,a.heap[N4]?=U (Ae A 87)->∀(j:Nat) (u:Value),(Cp c.labels.toNat (CU c.labels.toNat c.L))[j]?=U u->a.cell? ⟨N4,0+j,Y⟩=U u):=λa b j u hu=>by rw[DY];exact(BB b j).trans (an j u hu)
  refine Cx 0 16 (A8 (U ⟨w.heap.size,6,Y⟩)) Z M (λ_ _ _ h=>h) (λa b=>M) d ?_;refine Cx 1 17 (I K c.inn) Z M (λ_ _ _ h=>h) (λa b=>?y1) d ?_
  case y1=>(have l:a.cell? ⟨w.heap.size,6,Y⟩=U (I K c.inn):=BB b.1 6;go_simp)
  refine Cx 2 18 (A8 (U ⟨w.heap.size,7,Y⟩)) Z M (λ_ _ _ h=>h) (λa b=>M) d ?_;refine Cx 3 19 (I K c.out) Z M (λ_ _ _ h=>h) (λa b=>?y3) d ?_
  case y3=>(have l:a.cell? ⟨w.heap.size,7,Y⟩=U (I K c.out):=BB b.1 7;go_simp)
  refine Cx 4 20 (A8 (U ⟨w.heap.size,8,Y⟩)) Z M (λ_ _ _ h=>h) (λa b=>M) d ?_;refine Cx 5 21 (I K c.depth) Z M (λ_ _ _ h=>h) (λa b=>?y5) d ?_
  case y5=>(have l:a.cell? ⟨w.heap.size,8,Y⟩=U (I K c.depth):=BB b.1 8;go_simp)
  refine Cx 6 22 (A8 (U ⟨w.heap.size,9,Y⟩)) Z M (λ_ _ _ h=>h) (λa b=>M) d ?_;refine Cx 7 23 (I K c.bytes) Z M (λ_ _ _ h=>h) (λa b=>?y7) d ?_
  case y7=>(have l:a.cell? ⟨w.heap.size,9,Y⟩=U (I K c.bytes):=BB b.1 9;go_simp)
  refine Cx 8 24 (.agg #[I K c.depth,I K c.bytes]) Z M (λ_ _ _ h=>h) (λa b=>M) d ?_;refine Cx 9 25 (A8 (U ⟨N4,0,Y⟩)) Z M (λ_ _ _ h=>h) (λa b=>M) d ?_;refine Cx 10 26 (.agg (Cp c.labels.toNat (CU c.labels.toNat c.L))) Z M (λ_ _ _ h=>h) (λa b=>?y10) d ?_
  case y10=>exact NZ 84 (.tmp 25) M N4 0 M (Cp c.labels.toNat (CU c.labels.toNat c.L)) _ (aw a b.2) underlying84 M (qZ _ _)
  refine Cx 11 27 (A8 (U ⟨w.heap.size,4,Y⟩)) Z M (λ_ _ _ h=>h) (λa b=>M) d ?_;refine Cx 12 28 (I K c.clr) Z M (λ_ _ _ h=>h) (λa b=>?y12) d ?_
  case y12=>(have l:a.cell? ⟨w.heap.size,4,Y⟩=U (I K c.clr):=BB b.1 4;go_simp)
  refine Cx 13 29 (A8 (U ⟨w.heap.size,5,Y⟩)) Z M (λ_ _ _ h=>h) (λa b=>M) d ?_;refine Cx 14 30 (I K c.key) Z M (λ_ _ _ h=>h) (λa b=>?y14) d ?_
  case y14=>(have l:a.cell? ⟨w.heap.size,5,Y⟩=U (I K c.key):=BB b.1 5;go_simp)
  refine Cx 15 31 (A8 (U ⟨N4,37,Y⟩)) Z M (λ_ _ _ h=>h) (λa b=>M) d ?_;refine Cx 16 32 (G y (Fz c).length sc) Z M (λ_ _ _ h=>h) (λa b=>?y16) d ?_
  case y16=>(have l:=(BB b.2 37).trans a3;go_simp)
  refine Cx 17 33 (A8 (U ⟨w.heap.size,2,Y⟩)) Z M (λ_ _ _ h=>h) (λa b=>M) d ?_;refine Cx 18 34 (I K c.dflt) Z M (λ_ _ _ h=>h) (λa b=>?y18) d ?_
  case y18=>(have l:a.cell? ⟨w.heap.size,2,Y⟩=U (I K c.dflt):=BB b.1 2;go_simp)
  refine Cx 21 37 (A8 (U ⟨w.heap.size,10,Y⟩)) Z M (λ_ _ _ h=>h) (λa b=>M) d ?_;refine Cx 22 38 (G c.ba c.B.length c.bcap) Z M (λ_ _ _ h=>h) (λa b=>?y22) d ?_
  case y22=>(have l:a.cell? ⟨w.heap.size,10,Y⟩=U (G c.ba c.B.length c.bcap):=BB b.1 10;go_simp)
  refine MN 19 Z M (λaf x=>?_);go_simp;refine(pQ W4 y sc (Fz c) c.dflt ay av H8 aq).mono ?_;rintro ag w5 ⟨r,a8,a9,ta,tc,nf,mf,rfl,ak⟩;simp only[];have F:=ak.au.below;have ad:=T ak;have P:=T (H.trans (F.mono H.size));have o:(λa:O=>a.heap[w.heap.size]?=U (Ae c.arr 25)/\a.heap[N4]?=U (Ae A 87)) w5:=⟨(F.block _ (BC d.1)).trans d.1,(F.block _ (BC d.2)).trans d.2⟩
  have a1:=T H.size;have ae:=T F.size;refine x.out _ _ o (λ_=>?_);refine Cx 20 36 (.agg (Cp c.labels.toNat (CU c.labels.toNat c.L)++#[I K c.clr,I K c.key,A8 (U ⟨r,0,Y⟩)])) Z M (λ_ _ _ h=>h) (λa b=>M) o ?_;refine MN 23 Z M (λaf x=>?_);go_simp;refine(qX w5 c.ba c.bcap c.B ((HC.below P).ints) HC.bn ar).mono ?_;rintro ag n ⟨C,D,rfl,a5,g⟩;simp only[];have p:(λa:O=>a.heap[w.heap.size]?=U (Ae c.arr 25)/\a.heap[N4]?=U (Ae A 87)) n:=⟨(g.block _ (BC o.1)).trans o.1,(g.block _ (BC o.2)).trans o.2⟩
  have az:=T a5;have Q:=T g;refine x.out _ _ p (λ_=>?_);refine Cx 24 40 (.agg (O8 c r (G C c.B.length D))) Z M (λ_ _ _ h=>h) (λa b=>M) p ?_;refine MN 25 Z M (λaf x=>?_);go_simp;have q:(λa:O=>a.heap[w.heap.size]?=U (Ae c.arr 25)/\a.heap[N4]?=U (Ae A 87)) (n.alloc (Ae (O8 c r (G C c.B.length D)) 96)):=⟨(BT _ _ _ (BC p.1)).trans p.1,(BT _ _ _ (BC p.2)).trans p.2⟩
  refine x.out _ _ q (λ_=>?_);refine Cx 26 2 (A8 (U ⟨n.heap.size,0,Y⟩)) Z M (λ_ _ _ h=>h) (λa b=>M) q ?_;refine Cx 27 3 (I K 0) Z M (λ_ _ _ h=>h) (λa b=>M) q ?_;refine OL M ?_ _;go_simp;go_wp2
  go_ret2
  have a4:A0 n (n.alloc (Ae (O8 c r (G C c.B.length D)) 96)):=BN;have ai:=Q.trans (a4.mono Q.size);refine⟨P.trans (ai.mono P.size),.inr ⟨ao,W4,n.heap.size,r,a8,a9,ta,tc,nf,mf,G C c.B.length D,rfl,a1,C7 ae Q.size,BU _ _,BI n _,⟨{ad.out with au:=ad.au.next ai},?_,_,_,rfl⟩⟩⟩;exact az.same (λa2 m=>⟨C7 ae m.1,m.2⟩) (λa2 m=>BT _ _ _ m.2)
 have HE:=T k;have ap:Hid (bd c w (.returned (Aa #[A8 Y,I K (CB c)])) (f.alloc (Ae A 87))):=⟨z.below,.inl ⟨k,Z⟩⟩
 generalize CB c=E at *;generalize E5 c=N at *;have hE:(E==0)=false:=by simpa using HE.out
 go_wp2_with(first
  |(refine Us Z Z _ Z f.heap.size Z ?_)
  |(refine Co Z 87 _ _ Z f.heap.size A Z Z 87 Dl (BI f _) (IY aa) HZ ab ?_;rw[FP]))
 go_ret2
 exact ap
structure Ev(bs bs' t:A1)(lim lim':Int):Prop where
 l:(bs.length:Int)<=lim
 l':(bs'.length:Int)<=lim'
 st:t=[]\/∃c r,t=c::r/\(c=44\/c=93\/c=32)
def Tl(bs bs' t:A1)(p p':Nat):Prop:=p<=bs.length/\p'<=bs'.length/\bs'.drop p'=bs.drop p++t
def Sx{α:Type}(bs bs' t:A1)(r r':A5 α):Prop:=∀x q,r=.ok (x,q)->∃q',r'=.ok (x,q')/\Tl bs bs' t q q'
section
variable{α β:Type} {bs bs' t:A1} {lim lim':Int} {p p':Nat}
def Sx.ok{x:α}{q q':Nat}(a:Tl bs bs' t q q'):Sx bs bs' t (.ok (x,q)) (.ok (x,q')):=λ_ _ h=>by cases h;exact⟨q',Z,a⟩
def Sx.err{r:A5 α}:Sx bs bs' t (.error e) r:=λ_ _ h=>by cases h
def Sx.ite{c:Prop}[Decidable c]{a b a' b':A5 α}(d:c->Sx bs bs' t a a')(e:¬c->Sx bs bs' t b b'):Sx bs bs' t (if c then a else b) (if c then a' else b'):=by
 by_cases h:c
 ·rw[BA h,BA h];exact d h
 rw[Bz h,Bz h];exact e h
def Sx.bind{r r':A5 α}{Q Q':A5 β}(h:Sx bs bs' t r r')(d:∀e,r=.error e->Q=.error e)(f:∀x q a,Tl bs bs' t q a->r=.ok (x,q)->r'=.ok (x,a)->Sx bs bs' t Q Q'):Sx bs bs' t Q Q':=by
 rcases r with e|⟨x,q⟩
 ·rw[d _ rfl];exact Sx.err
 obtain⟨a,b,c⟩:=h x q rfl;exact f x q a c Z b
def Tl.len(h:Tl bs bs' t p p'):bs'.length+p=bs.length+p'+t.length:=by
 have:=congrArg List.length h.2.2;rw[BK,Eb,Eb]at this;have:=h.1;have:=h.2.1;omega
def Tl.at_(h:Tl bs bs' t p p')(b:p<bs.length):∃c,bs[p]?=U c/\bs'[p']?=U c/\p'<bs'.length/\Tl bs bs' t (p+1) (p'+1):=by
 obtain⟨g,i,a⟩:=h;have e:=G7 b;rw[e,I4]at a;have f:=congrArg List.length a;rw[Eb,Cu]at f;have d:(bs'.drop p')[0]?=bs'[p']?:=by rw[Mm,LI]
 refine⟨bs[p],C6 b,by rw[<-d,a];rfl,J,J,J,?_⟩;rw[<-Hn,a];rfl
def Sx.at_(f:Ev bs bs' t lim lim')(e:Tl bs bs' t p p'){r0 r0':A5 α}{G G':UInt8->A5 α}(m:p=bs.length->t=[]->Sx bs bs' t r0 r0')(n:p=bs.length->∀c,(c=44\/c=93\/c=32)->Sx bs bs' t r0 (G' c))(h:∀c,Tl bs bs' t (p+1) (p'+1)->Sx bs bs' t (G c) (G' c)):Sx bs bs' t (match(generalizing:=false) bs[p]? with|none=>r0|some c=>if(p:Int)=lim then .error (8,(p:Int))else G c) (match(generalizing:=false) bs'[p']? with|none=>r0'|some c=>if(p':Int)=lim' then .error (8,(p':Int))else G' c):=by
 have s:=f.l;have u:=f.l';by_cases a:p<bs.length
 ·obtain⟨c,j,d,q,k⟩:=e.at_ a;rw[j,d];show Sx bs bs' t (if(p:Int)=lim then _ else _) (if(p':Int)=lim' then _ else _);rw[Bz J,Bz J];exact h c k
 have a:p=bs.length:=Ao e.1
 have g:=e.2.2;have i:=e.len;rw[a,KR,Jd]at g;rw[Dz J];rcases f.st with b|⟨c,r,b,o⟩
 ·rw[b,DX]at i;rw[Dz J];exact m a b
 have d:(bs'.drop p')[0]?=bs'[p']?:=by rw[Mm,LI]
 rw[g,b]at d;rw[b,Cu]at i;rw[<-d];show Sx bs bs' _ r0 (if(p':Int)=lim' then _ else _);rw[Bz J];exact n a c o
def Sx.byte(a:Ev bs bs' t lim lim')(b:Tl bs bs' t p p'){e':Int×Int}{G G':UInt8->A5 α}(h:∀c,Tl bs bs' t (p+1) (p'+1)->Sx bs bs' t (G c) (G' c)):Sx bs bs' t (match(generalizing:=false) bs[p]? with|none=>.error e|some c=>if(p:Int)=lim then .error (8,(p:Int))else G c) (match(generalizing:=false) bs'[p']? with|none=>.error e'|some c=>if(p':Int)=lim' then .error (8,(p':Int))else G' c) :=
 Sx.at_ a b (λ_ _=>Sx.err) (λ_ _ _=>Sx.err) h
end
section
variable{bs bs' t:A1} {lim lim':Int} {p p':Nat}
def Vw(d:Ev bs bs' t lim lim'):∀(g b p p':Nat),Tl bs bs' t p p'->bs.length<g+p->bs'.length<b+p'->∀q,Cd bs lim g p=.ok ((),q)->q=bs.length\/∃e,Cd bs' lim' b p'=.ok ((),e)/\Tl bs bs' t q e
 |0,_,p,_,h,h2,_=>Ao h.1
 |g+1,0,p,p',h,_,h3=>Ao h.2.1
 |g+1,b+1,p,p',h,h2,h3=>by
  intro q a;have n:=d.l;have o:=d.l';unfold Cd at a;by_cases k:p<bs.length
  ·obtain⟨c,f,i,m,j⟩:=h.at_ k;rw[f]at a;dsimp only at a;rw[Bz J]at a;rw[Cd,i];dsimp only;rw[Bz J];split at a
   ·next hs=>rw[BA hs];exact Vw d g b (p+1) (p'+1) j J J q a
   next hs =>
   rw[Bz hs];cases a;exact .inr ⟨p',Z,h⟩
  rw[Dz J]at a;cases a;exact .inl (Ao h.1)
def PK{α:Type}(c:Ev bs bs' t lim lim')(h:Tl bs bs' t p p'){Q Q':A5 α}(g:∀e,Cd bs lim (bs.length+1-p) p=.error e->Q=.error e)(f:Cd bs lim (bs.length+1-p) p=.ok ((),bs.length)->∃e,Q=.error e)(i:∀q b,Tl bs bs' t q b->Cd bs lim (bs.length+1-p) p=.ok ((),q)->Cd bs' lim' (bs'.length+1-p') p'=.ok ((),b)->Sx bs bs' t Q Q'):Sx bs bs' t Q Q':=by
 cases a:Cd bs lim (bs.length+1-p) p with
 |error e=>rw[g e a];exact Sx.err
 |ok x =>
  rcases Vw c _ (bs'.length+1-p') p p' h J (Ao h.2.1) x.2 a with he|⟨b,h1,h2⟩
  ·obtain⟨e,d⟩:=f (by rw[a,<-he]);rw[d];exact Sx.err
  exact i x.2 b h2 a h1
def Vx(e:Ev bs bs' t lim lim')(b:Nat)(z:Bool):∀(g a p p' d:Nat),Tl bs bs' t p p'->bs.length<g+p->bs'.length<a+p'->Sx bs bs' t (Dn bs lim b z g p d) (Dn bs' lim' b z a p' d)
 |0,_,p,_,_,h,h2,_=>Ao h.1
 |g+1,0,p,p',_,h,_,h3=>Ao h.2.1
 |g+1,a+1,p,p',d,h,h2,h3=>by
  unfold Dn;refine Sx.at_ e h (λ_ _=>Sx.ok h) (λ_ c f=>?_) (λc i=>Sx.ite (λ_=>Sx.ite (λ_=>Sx.err) (λ_=>Sx.ite (λ_=>Sx.err) (λ_=>Vx e b z g a (p+1) (p'+1) _ i J J))) (λ_=>Sx.ite (λ_=>Sx.err) (λ_=>Sx.ok h)));rw[Bz (by rcases f with rfl|rfl|rfl<;>decide),Bz (by rcases f with rfl|rfl|rfl<;>decide)];exact Sx.ok h
def sB(a:Ev bs bs' t lim lim')(c:UInt8)(h:Tl bs bs' t p p'):Sx bs bs' t (CR ⟨Y,bs,0,0,lim,p,0⟩ c) (CR ⟨Y,bs',0,0,lim',p',0⟩ c):=by
 unfold CR;refine Sx.ite (λ_=>Sx.byte a h (λc e=>Sx.ite (λ_=>?_) (λ_=>Sx.err))) (λ_=>?_)
 ·refine Sx.bind (Vx a 9223372036854775808 (c.toNat==48) (bs.length+1-(p+1)) (bs'.length+1-(p'+1)) (p+1) (p'+1) (c.toNat-48) e J J) (λ_ z=>AF) (λx q f b z d=>?_);rw[z,d];exact Sx.ok b
 refine Sx.bind (Vx a 9223372036854775807 (c.toNat==48) (bs.length+1-p) (bs'.length+1-p') p p' (c.toNat-48) h J J) (λ_ z=>AF) (λx q f b z d=>?_);rw[z,d];exact Sx.ok b
def N9(b:Ev bs bs' t lim lim'):∀(a:A1) (p p':Nat),Tl bs bs' t p p'->Sx bs bs' t (Ci bs lim a p) (Ci bs' lim' a p')
 |[],_,_,h=>Sx.ok h
 |x::a,p,p',h=>by
  unfold Ci;exact Sx.byte b h (λc d=>Sx.ite (λ_=>N9 b a _ _ d) (λ_=>Sx.err))
def Vy(b:Ev bs bs' t lim lim'):∀(k p p' a:Nat),Tl bs bs' t p p'->Sx bs bs' t (Do bs lim k p a) (Do bs' lim' k p' a)
 |0,_,_,_,h=>Sx.ok h
 |k+1,p,p',a,h=>by
  unfold Do;refine Sx.byte b h (λc e=>?_)
  cases Ia c with
  |none=>exact Sx.err
  |some d=>exact Vy b k _ _ _ e
def sC(b:Ev bs bs' t lim lim')(h:Tl bs bs' t p p'):Sx bs bs' t (FU bs lim p) (FU bs' lim' p'):=by
 unfold FU;refine Sx.bind (Vy b 4 p p' 0 h) (λ_ z=>AF) (λx q c h z a=>?_);rw[z,a];refine Sx.ite (λ_=>Sx.err) (λ_=>Sx.ite (λ_=>?_) (λ_=>Sx.ok h));refine Sx.bind (N9 b [92,117] q c h) (λ_ z=>AF) (λ_ d e h z a=>?_);rw[z,a];dsimp only;refine Sx.bind (Vy b 4 d e 0 h) (λ_ z=>AF) (λy f g h z a=>?_);rw[z,a];exact Sx.ite (λ_=>Sx.ok h) (λ_=>Sx.err)
def sD(a:Ev bs bs' t lim lim')(h:Tl bs bs' t p p'):Sx bs bs' t (Fw bs lim p) (Fw bs' lim' p'):=by
 unfold Fw;refine Sx.byte a h (λc b=>?_)
 iterate 8 refine Sx.ite (λ_=>Sx.ok b) (λ_=>?_)
 exact Sx.ite (λ_=>sC a b) (λ_=>Sx.err)
def RW(b:Ev bs bs' t lim lim'):∀(g a p p':Nat) (e:A1) (f:Nat),Tl bs bs' t p p'->bs.length<g+p->bs'.length<a+p'->Sx bs bs' t (Ct bs lim g p e f) (Ct bs' lim' a p' e f)
 |0,_,p,_,_,_,h,h2,_=>Ao h.1
 |g+1,0,p,p',_,_,h,_,h3=>Ao h.2.1
 |g+1,a+1,p,p',e,f,h,h2,h3=>by
  unfold Ct;refine Sx.byte b h (λc d=>Sx.ite (λ_=>Sx.ok d) (λ_=>Sx.ite (λ_=>?_) (λ_=>Sx.ite (λ_=>Sx.err) (λ_=>Sx.ite (λ_=>Sx.err) (λ_=>RW b g a _ _ _ _ d J J)))));refine Sx.bind (sD b d) (λ_ z=>AF) (λr q i h z j=>?_);have m:=(TN z).2;have k:=h.len;have l:=d.len;rw[z,j];exact RW b g a q i _ _ h J J
def sE(b:Ev bs bs' t lim lim')(ks:List A1)(h:Tl bs bs' t p p'):Sx bs bs' t (FH bs lim ks p) (FH bs' lim' ks p'):=by
 unfold FH;refine Sx.bind (N9 b [34] p p' h) (λ_ z=>AF) (λ_ q c h z a=>?_);rw[z,a];dsimp only;refine Sx.bind (RW b (bs.length+1-q) (bs'.length+1-c) q c [] 0 h J J) (λ_ z=>AF) (λl r d h z a=>?_);rw[z,a];exact Sx.ite (λ_=>Sx.err) (λ_=>Sx.ok h)
end
def RX(bs bs' t:A1)(rd rd':Nat->Except (Int×Int) (DataW Unit×Nat)):Prop:=∀p p',Tl bs bs' t p p'->Sx bs bs' t (rd p) (rd' p')
def sG{bs':A1}(b:RX bs bs' t rd rd')(a:List (DataW Unit))(p p':Nat)(h:Tl bs bs' t p p'):Sx bs bs' t (D9 rd a p) (D9 rd' a p'):=by
 unfold D9;refine Sx.bind (b p p' h) (λ_ z=>AF) (λd q e h z c=>?_);rw[z,c];exact Sx.ok h
def bG(bs:A1)(lim:Int)(x:UInt8)(xs:A1):Ci bs lim (x::xs) bs.length=.error (9,bs.length):=by unfold Ci;rw[Dz (BM _)]
section
variable{bs bs' t:A1} {lim lim':Int}
def sH(c:Ev bs bs' t lim lim')(i:RX bs bs' t rd rd')(f:∃e,rd bs.length=.error e)(a:List A1×List (Lit×DataW Unit))(p p':Nat)(h:Tl bs bs' t p p'):Sx bs bs' t (DO bs lim rd a p) (DO bs' lim' rd' a p'):=by
 obtain⟨g,f⟩:=f;unfold DO;refine Sx.bind (sE c a.1 h) (λ_ z=>AF) (λl o q h z b=>?_);rw[z,b];dsimp only;refine PK c h (λ_ z=>AF) (λz=>⟨_,by rw[z];dsimp only;rw[bG]⟩) (λj k h z b=>?_);rw[z,b];dsimp only;refine Sx.bind (N9 c [58] j k h) (λ_ z=>AF) (λ_ r s h z b=>?_);rw[z,b];dsimp only;refine PK c h (λ_ z=>AF) (λz=>⟨g,by rw[z];dsimp only;rw[f]⟩) (λm n h z b=>?_);rw[z,b];dsimp only;refine Sx.bind (i m n h) (λ_ z=>AF) (λd u v h z b=>?_);rw[z,b];exact Sx.ok h
def bH{α:Type}(f:Ev bs bs' t lim lim'){itF itF':α->Nat->A5 α}(last:Nat)(hi:∀a p p',Tl bs bs' t p p'->Sx bs bs' t (itF a p) (itF' a p'))(l:∀a p n q,p<=bs.length->itF a p=.ok (n,q)->p<=q)(k:∀a,∃e,itF a bs.length=.error e):∀(g i p p':Nat) (a:α),Tl bs bs' t p p'->bs.length<g+p->bs'.length<i+p'->Sx bs bs' t (Dp bs lim itF last g p a) (Dp bs' lim' itF' last i p' a)
 |0,_,p,_,_,h,h2,_=>Ao h.1
 |g+1,0,p,p',_,h,_,h3=>Ao h.2.1
 |g+1,i+1,p,p',a,h,h2,h3=>by
  have w:=h.len;unfold Dp;refine PK f h (λ_ z=>AF) (λz=>?_) (λr s m z d=>?_)
  ·obtain⟨e,o⟩:=k a;exact⟨e,by rw[z];dsimp only;rw[o]⟩
  have y:=Hd _ _ _ _ _ _ z;rw[z,d];dsimp only;refine Sx.bind (hi a r s m) (λ_ z=>AF) (λb C D h z d=>?_);have A:=l _ _ _ _ m.1 z;rw[z,d];dsimp only;refine PK f h (λ_ z=>AF) (λz=>⟨_,by rw[z];dsimp only;rw[Dz (BM _)]⟩) (λu v h z d=>?_);have B:=Hd _ _ _ _ _ _ z;have x:=h.len;rw[z,d];dsimp only;exact Sx.byte f h (λc j=>Sx.ite (λ_=>Sx.ok j) (λ_=>Sx.ite (λ_=>bH f last hi l k g i (u+1) (v+1) b j J J) (λ_=>Sx.err)))
def bI{α:Type}(d:Ev bs bs' t lim lim'){itF itF':α->Nat->A5 α}(last:Nat)(hi:∀a p p',Tl bs bs' t p p'->Sx bs bs' t (itF a p) (itF' a p'))(r:∀a p n q,p<=bs.length->itF a p=.ok (n,q)->p<=q)(j:∀a,∃e,itF a bs.length=.error e){a:α}(h:Tl bs bs' t p p'):Sx bs bs' t (Di bs lim itF last p a) (Di bs' lim' itF' last p' a):=by
 have l:∀q,q=bs.length->∃f,Dp bs lim itF last (bs.length+1-q) q a=.error f:=by
  rintro _ rfl;obtain⟨f,b⟩:=j a;have u:∀g,Cd bs lim g bs.length=.ok ((),bs.length):=λg=>by
   cases g with
   |zero=>rfl
   |succ g=>rw[Cd,Dz (BM _)]
  exact⟨f,by rw[show bs.length+1-bs.length=0+1 by omega,Dp,u];dsimp only;rw[b]⟩
 unfold Di;refine PK d h (λ_ z=>AF) (λz=>?_) (λi m h z v=>?_)
 ·obtain⟨f,b⟩:=l _ rfl;exact⟨f,by rw[z];dsimp only;rw[Dz (BM _)];exact b⟩
 rw[z,v];dsimp only;have k:=bH d last hi r j (bs.length+1-i) (bs'.length+1-m) i m a h J J;refine Sx.at_ d h (λ_ _=>k) (λs c _=>?_) (λc o=>Sx.ite (λ_=>Sx.ok o) (λ_=>k));obtain⟨f,b⟩:=l i s;rw[b];exact Sx.err
def sI(g:Ev bs bs' t lim lim'){wi':Nat}(s:d-wi=d'-wi')(o:¬(wi:Int)=d->RX bs bs' t rd rd'/\KB bs [] lim rd rd/\∃e,rd bs.length=.error e)(c:UInt8)(h:Tl bs bs' t p p'):Sx bs bs' t (GH bs lim d wi rd (λc p=>CR ⟨Y,bs,0,0,lim,p,0⟩ c) c p) (GH bs' lim' d' wi' rd' (λc p=>CR ⟨Y,bs',0,0,lim',p,0⟩ c) c p'):=by
 have i:((wi':Int)=d')=((wi:Int)=d):=propext J;unfold GH;simp only[i];refine Sx.ite (λ_=>?_) (λ_=>Sx.ite (λ_=>?_) (λ_=>Sx.ite (λ_=>?_) (λ_=>Sx.ite (λ_=>?_) (λ_=>Sx.ite (λ_=>Sx.ite (λ_=>Sx.err) (λi=>?_)) (λ_=>Sx.ite (λ_=>Sx.ite (λ_=>Sx.err) (λi=>?_)) (λ_=>Sx.ite (λ_=>?_) (λ_=>Sx.err)))))))
 ·refine Sx.bind (N9 g _ _ _ h) (λ_ z=>AF) (λ_ _ _ h z b=>?_);rw[z,b];exact Sx.ok h
 ·refine Sx.bind (N9 g _ _ _ h) (λ_ z=>AF) (λ_ _ _ h z b=>?_);rw[z,b];exact Sx.ok h
 ·refine Sx.bind (N9 g _ _ _ h) (λ_ z=>AF) (λ_ _ _ h z b=>?_);rw[z,b];exact Sx.ok h
 ·refine Sx.bind (RW g (bs.length+1-p) (bs'.length+1-p') p p' [] 0 h J J) (λ_ z=>AF) (λ_ _ _ h z b=>?_);rw[z,b];exact Sx.ok h
 ·obtain⟨j,k,f,l⟩:=o i;refine Sx.bind (bI g 93 (sG j) (λa p r q m n=>?_) (λa=>⟨f,by unfold D9;rw[l]⟩) h) (λ_ z=>AF) (λ_ _ _ h z b=>?_)
  ·have:=aJ k a p m;rw[n]at this;exact this.1
  rw[z,b];exact Sx.ok h
 ·obtain⟨j,k,f,l⟩:=o i;refine Sx.bind (bI g 125 (sH g j ⟨f,l⟩) (λa p r q m n=>?_) (λa=>⟨(9,bs.length),by unfold DO FH;rw[bG]⟩) h) (λ_ z=>AF) (λ_ _ _ h z b=>?_)
  ·have:=aK bs [] lim k a p m;rw[n]at this;exact this.1
  rw[z,b];exact Sx.ok h
 refine Sx.bind (sB g c h) (λ_ z=>AF) (λ_ _ _ h z b=>?_);rw[z,b];exact Sx.ok h
def bJ(e:Ev bs bs' t lim lim'):∀(g a b:Nat),d-a=d'-b->(a:Int)<=d->d<a+g->RX bs bs' t (CI bs lim d (λc p=>CR ⟨Y,bs,0,0,lim,p,0⟩ c) g a) (CI bs' lim' d' (λc p=>CR ⟨Y,bs',0,0,lim',p,0⟩ c) g b)
 |0,_,_,_,_,_=>J
 |g+1,a,b,hd,h1,h2=>λp p' h=>by
  unfold CI;refine Sx.byte e h (λc f=>sI e hd (λi=>⟨bJ e g (a+1) (b+1) J J J,?_,?_⟩) c f)
  ·have:=Pt bs [] lim d g (a+1) J J;rw[IK]at this;exact this
  cases g with
  |zero=>omega
  |succ g=>exact⟨(9,bs.length),by rw[CI,Dz (BM _)]⟩
end
def PL(h:bs.drop p=c::r):bs[p]?=U c/\bs.drop (p+1)=r/\p+r.length+1=bs.length:=by
 have e:(bs.drop p)[0]?=bs[p]?:=by rw[Mm,LI]
 have a:=congrArg List.length h;rw[Eb,Cu]at a;rw[h]at e;refine⟨e.symm,?_,J⟩;rw[<-Hn,h];rfl
def sJ(s:0<=d){y:A2}(h:Cj 1 x d lim=.ok y):∃m l,Cd x lim (x.length+1) 0=.ok ((),m)/\CI x lim d (λc p=>CR ⟨Aj,x,0,0,lim,p,0⟩ c) (d.toNat+1) 0 m=.ok (y,l)/\Cd x lim (x.length+1-l) l=.ok ((),x.length):=by
 unfold Cj FI at h;simp only[show∀p,GI 1 x lim p=Cd x lim (x.length+1-p) p from λp=>BA rfl,show∀p,EF 1 x d lim p=CI x lim d (λc p=>CR ⟨Aj,x,0,0,lim,p,0⟩ c) (d.toNat+1) 0 p from λp=>BA rfl,Nat.sub_zero]at h;have n:=Ln x [] lim 0 (DK _)
 cases f:Cd x lim (x.length+1) 0 with
 |error e=>rw[f]at h;cases h
 |ok a =>
  rw[Nat.sub_zero,f]at n;rw[f]at h;have o:=Pt x [] lim d (d.toNat+1) 0 J J a.2 n.2.1;dsimp only at h
  cases g:CI x lim d (λc p=>CR ⟨Aj,x,0,0,lim,p,0⟩ c) (d.toNat+1) 0 a.2 with
  |error e=>rw[g]at h;cases h
  |ok b =>
   rw[g]at h o;have q:=Ln x [] lim b.2 o.2.1;dsimp only at h
   cases i:Cd x lim (x.length+1-b.2) b.2 with
   |error e=>rw[i]at h;cases h
   |ok c =>
    rw[i]at h q;have t:=q.2.1;dsimp only at h;unfold Gz at h;dsimp only at h
    cases j:x[c.2]? with
    |some v =>
     rw[j]at h;dsimp only at h;split at h
     ·cases h
     next k=>split at k<;>cases k
    |none =>
     rw[j]at h;cases h;have k:=LC.1 j;have r:c.2=x.length:=J
     exact⟨a.2,b.2,Z,g,by rw[i,<-r]⟩
def PM(f:(bs.length:Int)<=lim)(r:A1)(e:∀c i,r=c::i->GW c=false):∀(l:A1) (g p:Nat),(∀c∈l,GW c=true)->bs.drop p=l++r->l.length<g->Cd bs lim g p=.ok ((),p+l.length)
 |_,0,_,_,_,h=>J
 |[],g+1,p,_,h,_=>by
  rw[Cd]
  cases r with
  |nil=>rw[Dz (by have:=congrArg List.length h;rw[Eb]at this;simp at this;omega)];rfl
  |cons c r =>
   obtain⟨a,_,b⟩:=PL h;rw[a];dsimp only;rw[Bz J,Bz (by rw[e c r rfl];decide)];rfl
 |c::l,g+1,p,hc,h,hg=>by
  obtain⟨a,b,d⟩:=PL h;rw[Cd,a];dsimp only;rw[Bz J,BA (hc c (.head _)),PM f r e l g (p+1) (λc h=>hc c (.tail _ h)) b (by simp at hg;omega),Cu,show p+1+l.length=p+(l.length+1) by omega]
def bK:∀(g p:Nat),p<=x.length->Cd x lim g p=.ok ((),x.length)->∀c∈x.drop p,GW c=true
 |0,p,_,h=>by cases h;rw[KR];exact λ_ h=>by cases h
 |g+1,p,hp,h=>by
  by_cases b:p<x.length
  ·rw[Cd,C6 b]at h;dsimp only at h;split at h
   ·cases h
   split at h
   ·next hs =>
    rw[G7 b];intro c a;rcases Ho.1 a with rfl|a
    ·exact hs
    exact bK g (p+1) b h c a
   cases h;omega
  rw[K9 J];exact λ_ h=>by cases h
def bL{g:Nat}{X:DataW Unit×Nat}(h:CI bs lim d (λc p=>CR ⟨Aj,bs,0,0,lim,p,0⟩ c) g wi p=.ok X):∃c,bs[p]?=U c/\¬c.toNat=93/\GW c=false:=by
 cases g with
 |zero=>cases h
 |succ g =>
  rw[CI]at h
  cases a:bs[p]? with
  |none=>rw[a]at h;cases h
  |some c =>
   suffices hh:¬(c.toNat=93\/GW c=true)from⟨c,rfl,λe=>hh (.inl e),by simpa using λe=>hh (.inr e)⟩
   intro e;have e:c.toNat=93\/c.toNat=32\/c.toNat=9\/c.toNat=10\/c.toNat=13:=by unfold GW at e;simp at e;omega
   rw[a]at h;dsimp only at h;split at h
   ·cases h
   unfold GH at h;have b:¬(c.toNat=45\/Dm c=true):=by unfold Dm;simp;omega
   rw[Bz J,Bz J,Bz J,Bz J,Bz J,Bz J,Bz b]at h;cases h
def bM(f:Ev x bs t lx lim)(r:0<=d)(z:d=D-wi){X:A2}(q:Cj 1 x d lx=.ok X)(v:p<=bs.length)(h:bs.drop p=x++t):∃q0 q1 l,Cd bs lim (bs.length+1-p) p=.ok ((),q0)/\p<=q0/\CI bs lim D (λc p=>CR ⟨Aj,bs,0,0,lim,p,0⟩ c) (d.toNat+1) wi q0=.ok (X,q1)/\bs.drop q1=l++t/\q1<=bs.length/\∀c∈l,GW c=true:=by
 obtain⟨b,j,w,k,y⟩:=sJ r q;have m:Tl x bs t 0 p:=⟨DK _,v,by rw[h,Nq]⟩
 have u:b≠x.length:=λe=>by
  obtain⟨c,i,_⟩:=bL k;rw[e,Dz (BM _)]at i;cases i
 rcases Vw f (x.length+1) (bs.length+1-p) 0 p m J J b w with s|⟨q0,g,n⟩
 ·exact absurd s u
 obtain⟨q1,o,a⟩:=bJ f (d:=d) (d':=D) (d.toNat+1) 0 wi J J J b q0 n X j k;exact⟨q0,q1,x.drop j,g,Hd _ _ _ _ _ _ g,o,a.2.2,a.2.1,bK _ _ a.1 y⟩
def Vz{rest:A1}(o:(bs.length:Int)<=lim)(H:(x.length:Int)<=lx)(P:1<=D){X:A2}(z:Cj 1 x (D-1) lx=.ok X)(k:c=44\/c=93)(h:bs.drop p=x++c::rest):∃q0 q,p<=q0/\Cd bs lim (bs.length+1-p) p=.ok ((),q0)/\(∃b,bs[q0]?=U b/\¬b.toNat=93)/\bs.drop q=rest/\q<=bs.length/\∀(g s:Nat) (a:List (DataW Unit)),s=p\/s=q0->Dp bs lim (D9 (CI bs lim D (λc p=>CR ⟨Aj,bs,0,0,lim,p,0⟩ c) D.toNat 1)) 93 (g+1) s a=if c=93 then .ok (a++[X],q)else Dp bs lim (D9 (CI bs lim D (λc p=>CR ⟨Aj,bs,0,0,lim,p,0⟩ c) D.toNat 1)) 93 g q (a++[X]):=by
 have L:p<=bs.length:=by have:=congrArg List.length h;rw[Eb,BK,Cu]at this;omega
 obtain⟨q0,q1,l,n,N,i,f,R,m⟩:=bM (wi:=1) (d:=D-1) (D:=D) ⟨H,o,.inr ⟨c,rest,rfl,by rcases k with h|h<;>simp[h]⟩⟩ J J z L h;rw[show(D-1).toNat+1=D.toNat by omega]at i;have C:GW c=false:=by rcases k with rfl|rfl<;>rfl
 have F:=congrArg List.length f;rw[Eb,BK,Cu]at F;have w:=PM o (c::rest) (λ_ _ e=>by cases e;exact C) l (bs.length+1-q1) q1 m f J;have t:bs.drop (q1+l.length)=c::rest:=by rw[<-Hn,f,I8]
 obtain⟨r,u,S⟩:=PL t;obtain⟨b,j,A,B⟩:=bL i;have Q:=(Ja.1 j).1;have v:Cd bs lim (bs.length+1-q0) q0=.ok ((),q0):=by
  rw[show bs.length+1-q0=bs.length-q0+1 by omega,Cd,j];dsimp only;rw[Bz J,Bz (by rw[B];decide)]
 refine⟨q0,q1+l.length+1,N,n,⟨b,j,A⟩,u,J,λg s a m=>?_⟩;have y:Cd bs lim (bs.length+1-s) s=.ok ((),q0):=by rcases m with rfl|rfl;exact n;exact v
 rw[Dp,y];dsimp only;rw[show D9 (CI bs lim D (λc p=>CR ⟨Aj,bs,0,0,lim,p,0⟩ c) D.toNat 1) a q0=.ok (a++[X],q1) by unfold D9;rw[i]];dsimp only;rw[w];dsimp only;rw[r];dsimp only;rw[Bz J];rcases k with rfl|rfl
 ·rw[Bz Ay,BA Ay,Bz Ay]
 rw[BA Ay,BA rfl]
def bN(b:(bs.length:Int)<=lim)(g:1<=D)(h:bs=91::r){ds:List (DataW Unit)}(f:Di bs lim (D9 (CI bs lim D (λc p=>CR ⟨Aj,bs,0,0,lim,p,0⟩ c) D.toNat 1)) 93 1 []=.ok (ds,bs.length)):Cj 1 bs D lim=.ok (.agg ds):=by
 have a:bs.drop 0=[]++91::r:=by rw[Nq];exact h
 obtain⟨d,_,i⟩:=PL (c:=91) a;unfold Cj FI;simp only[show∀p,GI 1 bs lim p=Cd bs lim (bs.length+1-p) p from λp=>BA rfl,show∀p,EF 1 bs D lim p=CI bs lim D (λc p=>CR ⟨Aj,bs,0,0,lim,p,0⟩ c) (D.toNat+1) 0 p from λp=>BA rfl];rw[PM b (91::r) (λ_ _ e=>by cases e;rfl) [] (bs.length+1-0) 0 (λ_ h=>by cases h) a (Nat.succ_pos _)];dsimp only;rw[CI,DX,DY,d];dsimp only;rw[Bz J];have e:GH bs lim D 0 (CI bs lim D (λc p=>CR ⟨Aj,bs,0,0,lim,p,0⟩ c) D.toNat 1) (λc p=>CR ⟨Aj,bs,0,0,lim,p,0⟩ c) 91 1=.ok (.agg ds,bs.length):=by
  unfold GH;rw[Bz Ay,Bz Ay,Bz Ay,Bz Ay,BA Ay,Bz J,f]
 rw[e];dsimp only;rw[PM b [] (λ_ _ e=>by cases e) [] (bs.length+1-bs.length) bs.length (λ_ h=>by cases h) (by rw[KR];rfl) Az];dsimp only;unfold Gz;dsimp only;rw[DX,LI,Dz (BM _)]
section
variable{x y:A1} {lx lim D:Int} {X Y:A2}
def bO{itF:List (DataW Unit)->Nat->Except (Int×Int) (List (DataW Unit)×Nat)}{q0:Nat}(f:(bs.length:Int)<=lim)(c:Cd bs lim (bs.length+1-1) 1=.ok ((),q0))(d:∃b,bs[q0]?=U b/\¬b.toNat=93):Di bs lim itF 93 1 []=Dp bs lim itF 93 (bs.length+1-q0) q0 []/\q0<bs.length:=by
 obtain⟨b,a,e⟩:=d;have:=(Ja.1 a).1;unfold Di;rw[c];dsimp only;rw[a];dsimp only;rw[Bz J,Bz e];exact⟨Z,this⟩
def bP(j:(x.length:Int)<=lx)(l:(x.length:Int)+2<=lim)(b:1<=D)(h:Cj 1 x (D-1) lx=.ok X):Cj 1 (91::(x++[93])) D lim=.ok (.agg [X]):=by
 have a:((91::(x++[93])).length:Int)<=lim:=Ax
 obtain⟨q0,q,_,e,i,d,m,f⟩:=Vz a j b h (.inr rfl) (p:=1) (rest:=[]) rfl;obtain⟨g,n⟩:=bO (itF:=D9 (CI (91::(x++[93])) lim D (λc p=>CR ⟨Aj,91::(x++[93]),0,0,lim,p,0⟩ c) D.toNat 1)) a e i;have k:q=(91::(x++[93])).length:=by have:=congrArg List.length d;rw[Eb,DX]at this;omega
 refine bN a b Z ?_;rw[g,show(91::(x++[93])).length+1-q0=(91::(x++[93])).length-q0+1 by omega,f _ q0 [] (.inr rfl),BA rfl,k];rfl
def sK(s:(x.length:Int)<=lx)(t:(y.length:Int)<=lx)(z:(x.length:Int)+y.length+3<=lim)(e:1<=D)(l:Cj 1 x (D-1) lx=.ok X)(m:Cj 1 y (D-1) lx=.ok Y):Cj 1 (91::(x++44::(y++[93]))) D lim=.ok (.agg [X,Y]):=by
 have d:((91::(x++44::(y++[93]))).length:Int)<=lim:=Ax
 obtain⟨q0,q,_,h,a,f,B,i⟩:=Vz d s e l (.inl rfl) (p:=1) (rest:=y++[93]) rfl;obtain⟨F,r,A,_,_,g,C,j⟩:=Vz d t e m (.inr rfl) (p:=q) (rest:=[]) f;obtain⟨k,w⟩:=bO (itF:=D9 (CI (91::(x++44::(y++[93]))) lim D (λc p=>CR ⟨Aj,91::(x++44::(y++[93])),0,0,lim,p,0⟩ c) D.toNat 1)) d h a;have v:r=(91::(x++44::(y++[93]))).length:=by have:=congrArg List.length g;rw[Eb,DX]at this;omega
 have o:=congrArg List.length f;rw[Eb,BK]at o;refine bN d e Z ?_;by_cases n:q0+1<(91::(x++44::(y++[93]))).length
 ·rw[k,show(91::(x++44::(y++[93]))).length+1-q0=(91::(x++44::(y++[93]))).length-q0-1+1+1 by omega,i _ q0 [] (.inr rfl),Bz Ay,j _ q _ (.inl rfl),BA rfl,v];rfl
 exfalso;obtain⟨b,a,u⟩:=a;rw[show q0=1+(x++44::y).length by simp at n w ⊢;omega,SW]at a;have:(91::(x++44::(y++[93])))[(x++44::y).length+1]?=U 93:=by
  rw[Su,show x++44::(y++[93])=(x++44::y)++[93] by simp,Ez (BM _),LJ];rfl
 rw[this]at a;cases a;exact u Z
def sL(z:(x.length:Int)<=lx)(F:(x.length:Int)+2*n<=lim)(t:0<=D)(u:Cj 1 x D lx=.ok X):Cj 1 (List.replicate n 32++(x++List.replicate n 32)) D lim=.ok X:=by
 obtain⟨f,i⟩:∃f,f=List.replicate n 32++(x++List.replicate n 32):=⟨_,rfl⟩
 have H:f.length=x.length+2*n:=by rw[i];simp;omega
 have w:f.drop n=x++List.replicate n 32:=by rw[i,List.drop_left' (List.length_replicate ..)]
 have j:Ev x f (List.replicate n 32) lx lim:=⟨z,J,by cases n with
  |zero=>exact .inl rfl
  |succ n=>exact .inr ⟨32,_,rfl,.inr (.inr rfl)⟩⟩
 obtain⟨q0,q1,l,q,_,r,m,L,A⟩:=bM (wi:=0) (d:=D) (D:=D) j t J u (p:=n) J w;have B:∀(k p g:Nat),f.drop p=List.replicate k 32++(x++List.replicate n 32)->Cd f lim (k+g) p=Cd f lim g (p+k):=by
  intro k
  induction k with
  |zero=>intro p g _;rw[DY,LI]
  |succ k C =>
   intro p g h;rw[Wv,I4]at h;obtain⟨a,b,d⟩:=PL h;rw[show k+1+g=(k+g)+1 by omega,Cd,a];dsimp only;rw[Bz J,BA Bk,C (p+1) g b,show p+1+k=p+(k+1) by omega]
 have o:Cd f lim (f.length+1-0) 0=.ok ((),q0):=by
  rw[show f.length+1-0=n+(f.length+1-n) by omega,B n 0 _ (by rw[Nq,i]),DY];exact q
 have y:=congrArg List.length m;rw[Eb]at y;have s:=PM j.l' [] (λ_ _ e=>by cases e) (l++List.replicate n 32) (f.length+1-q1) q1 (λc v=>(KS.1 v).elim (A c) (λh=>by rw[(WD.1 h).2];rfl)) (by rw[m,IK]) J;rw[<-i];unfold Cj FI;simp only[show∀p,GI 1 f lim p=Cd f lim (f.length+1-p) p from λp=>BA rfl,show∀p,EF 1 f D lim p=CI f lim D (λc p=>CR ⟨Aj,f,0,0,lim,p,0⟩ c) (D.toNat+1) 0 p from λp=>BA rfl];rw[o];dsimp only;rw[r];dsimp only;rw[s];dsimp only;unfold Gz;dsimp only;rw[Dz J]
end
def KJ(n:Nat)(s:A1):A1:=91::(91::(s++[93])++44::(91::((List.replicate n 32++(s++List.replicate n 32))++[93])++[93]))
def bQ(n:Nat)(s:A1):(KJ n s).length=2*s.length+2*n+7:=by simp[KJ];omega
def sM{s:A1}{v:A2}(b:((KJ n s).length:Int)<=4096)(h:Cj 1 s 14 4096=.ok v):Cj 1 (KJ n s) 16 4096=.ok (.agg [.agg [v],.agg [v]]):=by
 rw[bQ]at b;have a:=sL (n:=n) (lim:=4096) J J J h;exact sK (lx:=4096) Ax Ax Ax J (bP (lx:=4096) J J J h) (bP (lx:=4096) Ax Ax J a)
end
end Go.Proofs.YtnlnjkggkbbdhaaGreatDoor
