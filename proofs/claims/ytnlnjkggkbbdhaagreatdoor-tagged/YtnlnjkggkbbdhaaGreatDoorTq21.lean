import Derived.Test.YtnlnjkggkbbdhaaGreatDoorTq16
import Derived.Test.YtnlnjkggkbbdhaaGreatDoorTq20
set_option maxRecDepth 100000
set_option maxHeartbeats 8000000
set_option linter.all false
namespace Go.Proofs.YtnlnjkggkbbdhaaGreatDoor
open Go.Proofs.Tryz
open Go.Value renaming int->I,slice->G
open Option renaming some->U,none->Y
open Go.IntKind renaming i64->K
open Go renaming World->O
open Go.Obj renaming cells->E
open Go.Proofs.Tryz renaming prog->X
open Go.Value renaming slice->A7,pointer->A8,string->A9,tuple->Aa,bool->Ac,iface->Ad
open Go.Ending renaming returned->Af
open Go renaming World->Ak,Value->Al,Calls->Am
variable{V W w2:O}{A L j k lm tb x:Nat}{sv:Al}{q:Cs}{st:Nat->Nat}{ks:List A1}{rs:List (List (Nat×A1)×Int×Int)}{a b c c0:UInt8}
section
open Go.RowKit Go.Lib
def NN(key:Int)(i:Nat):Nat:=(key/2^(8*i)%256).toNat
def jR(key:Int)(i:Nat):NN key i<256:=by unfold NN;omega
def Kq(key:Int):Nat->Nat
 |0=>14695981039346656037
 |k+1=>LO (Kq key k) (NN key k)
def Y5(key:Int):∀k,Kq key k<18446744073709551616
 |0=>by show 14695981039346656037<_;omega
 |k+1=>NB _ _
def NO(s:Nat):A1->Nat
 |[]=>s
 |b::t=>NO (LO s b.toNat) t
def TM:∀(l:A1) (s:Nat),s<18446744073709551616->NO s l<18446744073709551616
 |[],_,h=>h
 |_::t,_,_=>TM t _ (NB _ _)
def EM(key:Int)(label:Nat)(l:A1):A1:=LS (NO (LO (Kq key 8) label) l)
def MG{base:Nat}{v:Al}{bs:A1}(h:BG W base v bs):∃d a,v=G d bs.length a/\Er W d bs:=by
 have e:=h;obtain⟨⟨l,b⟩,_,_⟩:=h;rcases b with⟨rfl,b⟩|⟨g,a,k,rfl,_,j,m,n,_⟩
 ·refine⟨Y,0,by rw[b],⟨λi c=>J,J⟩⟩
 have f:=NI e;refine⟨_,a,Z,⟨λi c=>⟨g,0,Z,(BC j),by rw[DY];exact f.2 i c⟩,J⟩⟩
def jS(key:Int)(k:Nat)(W:O):Am X 152 #[I .u64 (Kq key k),I .u8 (key/2^(8*k)%256)] W λe a=>e=Af (I .u64 (Kq key (k+1)))/\a=W:=by
 have h:=Tn (Kq key k) (NN key k) (Y5 key k) (jR key k) W;have e:((NN key k:Nat):Int)=key/2^(8*k)%256:=by unfold NN;omega
 rw[e]at h;exact h
def jT(key:Int)(f:Nat)(aa:f<256)(k:Nat)(W:O)(F:Nat->Prop)(x:Al)(d:A2)(hF:∀j,F j->j<W.heap.size)(h:BQ k W F x d)(A:(CC k d).length<=999999999)(B:W.cell? ⟨8,15,Y⟩=U (I .u8 4)):Am X 126 #[I K key,I K f,x] W λe i=>e=Af (A9 ⟨(EM key f (CC k d)).toArray⟩)/\A0 W i:=by
 have hg:8<W.heap.size:=by
  by_cases h:8<W.heap.size
  ·exact h
  simp[World.cell?,h]at B
 have Q:=λk V=>jS key k V;have R:=λV=>Tn (Kq key 8) f (Y5 key 8) aa V;have r:=XG k W F x d hF h A;have P:∀V u,A0 W V->u<18446744073709551616->Am X 153 #[I .u64 (u:Nat)] V λe i=>e=Af (A9 ⟨(LS u).toArray⟩)/\A0 V i:=λV u hV hu=>jQ u hu V ((hV.cell hg).trans B);obtain⟨ab,y,rfl⟩:=h.iface;obtain⟨a,D⟩:∃a,Hid (CC k d=a):=⟨_,rfl⟩
 rw[D.out]at r A ⊢;have N:Am X 39 #[I K 2,Ad ab y] W λe i=>∃m o,e=Af (G m a.length o)/\Hid (Er i m a)/\A0 W i:=r.mono (by
  rintro e w' ⟨ad,rfl,ho,hB⟩;obtain⟨m,o,rfl,hb⟩:=MG ho;exact⟨m,o,Z,hb,hB⟩)
 obtain⟨S,l⟩:∃S,Hid (NO (LO (Kq key 8) f) a=S):=⟨_,rfl⟩
 have L:Hid (EM key f a=LS S):=by show LS _=_;rw[l.out]
 have n:Hid (LO (Kq key 8) f<18446744073709551616):=NB _ _;rw[L.out];go_enter func126,ntmps126
 go_wp2_with fail
 go_loopg[7,11] 8 (λg x y wr=>∃(k:Nat),Hid (k+g=8)/\x=I .u64 (Kq key k)/\y=I K k/\W=wr)
 case atStart =>
  exact⟨0,Z,Z,Z,Z⟩
 case round =>
  obtain⟨k,b,rfl,rfl,rfl⟩:=hrel
  cases gk with
  |zero =>
   have w:k=8:=Ao b.out
   subst w
   go_wp2_with(first
    |(go_at_call 152;refine(R _).mono ?_;rintro e w2 ⟨rfl,rfl⟩)
    |(go_at_call 39;refine N.mono ?_;rintro e w3 ⟨m,o,rfl,C,p⟩))
   go_loopg[7,29] a.length (λg x y wr=>∃(k s:Nat),Hid (k+g=a.length)/\x=I .u64 s/\y=I K k/\Hid (NO s (a.drop k)=S)/\Hid (s<18446744073709551616)/\w3=wr)
   case atStart=>exact⟨0,_,AD,rfl,rfl,l,n,rfl⟩
   case round =>
    obtain⟨k,s,b,rfl,rfl,l,n,rfl⟩:=hrel
    cases gk with
    |zero =>
     have hk:¬(k:Int)<a.length:=Ao b.out
     have hs:s=S:=by
      have:=l.out;rw[List.drop_of_length_le (Ao b.out)]at this;exact this
     subst hs;have c:=P _ s p n
     go_wp2_with(first
      |(go_at_call 153;refine c.mono ?_;rintro e w5 ⟨rfl,t⟩))
     go_ret;exact⟨Z,p.trans (t.mono p.size)⟩
    |succ g =>
     have z:k<a.length:=Ao b.out
     have hk:(k:Int)<a.length:=J
     obtain⟨b0,off,e1,e2,e3⟩:=C.at_ k z;subst e1;have q:=l.out;rw[G7 z]at q;obtain⟨c,hc⟩:∃c,a[k]=c:=⟨_,rfl⟩
     rw[hc]at e3 q;have v:=λV=>Tn s c.toNat n (UInt8.toNat_lt c) V;have H:Hid (NO (LO s c.toNat) (a.drop (k+1))=S):=q
     go_wp2_with(first
      |(go_at_call 152;refine(v _).mono ?_;rintro e w5 ⟨rfl,rfl⟩))
     go_roundg g
     case measure=>omega
     case rel=>exact⟨k+1,_,(Ap b.out),rfl,AE,H,NB _ _,rfl⟩
  |succ g =>
   have w:k<8:=Ao b.out
   have ac:(k:Int)<8:=J
   have c:=Q k
   go_wp2_with(first
    |(go_at_call 152;refine(c _).mono ?_;rintro e w2 ⟨rfl,rfl⟩))
   go_roundg g
   case measure=>omega
   case rel=>exact⟨k+1,(Ap b.out),rfl,AE,rfl⟩
end
section
open Go.RowKit
def Iy.of_below{W':O}(h:A0 W W'):Iy A q sv W W':=⟨h.size,λj a _ _ _ _=>h.block j a⟩
def Iy.trans{X:O}(h:Iy A q sv W V)(g:Iy A q sv V X):Iy A q sv W X :=
 ⟨C7 h.size g.size,λj e a b c d=>(g.block j (CA e h.size) a b c d).trans (h.block j e a b c d)⟩
def Zq(W0:Ak)(A:Nat)(q:Cs)(sts:List ((Nat->Nat)×Int×Int))(sv:Al)(P:Nat->Nat)(x mn:Nat)(W:Ak)(e:Ending)(W':Ak):Prop :=
 ∃(i:Nat) (sts':List ((Nat->Nat)×Int×Int)) (sa':A4) (sc':Nat) (nf':Lit->Option Nat) (mn':Nat) (mf':Lit->Option Nat),e=Af (.int .i64 i)/\CZ W0 A q sts' (A7 sa' sts'.length sc') nf' mn' mf' W'/\MV q sts' mf'/\mn'<=mn+1/\(∀(j:Nat) (x:(Nat->Nat)×Int×Int),sts[j]?=some x->sts'[j]?=some x)/\sts'.length<=sts.length+1/\∃t Y,sts'[i]?=some t/\NY q.rs.length q.st (Gl q.st (q.tk x) P q.rs.length) Y/\(∀r,r<16->t.1 r=Y r)/\Iy A q sv W W'/\MT sv (A7 sa' sts'.length sc') W
def nw(y:O)(A:Nat)(q:Cs)(d:List ((Nat->Nat)×Int×Int))(Q:A4)(p:Nat)(F:Lit->Option Nat)(o:Nat)(n:Lit->Option Nat)(W:O)(h:CZ y A q d (G Q d.length p) F o n W)(be:MV q d n)(bg:d.length<100000)(bs:o<100000)(f:Nat)(s:(Nat->Nat)×Int×Int)(hs:d[f]?=U s)(key:A1)(P:Bool)(hb:key.length<=maxLen)(x:Nat)(hx:Iz q.lf key P=x)(Es:x<q.L)(l:Lit)(hl:keyOf X 299 (.agg (E4 f x))=U l)(hi:n l=Y):Am X 168 #[A8 (U ⟨A,0,Y⟩),I K f,.agg #[A9 ⟨key.toArray⟩,Ac P]] W (Zq y A q d (G Q d.length p) s.1 x o W):=by
 have HA:Hid (CZ y A q d (G Q d.length p) F o n (W.alloc (E #[A9 ⟨key.toArray⟩,Ac P] 280))):=h.next BN
 have HW:Hid (A0 W (W.alloc (E #[A9 ⟨key.toArray⟩,Ac P] 280))):=BN;have cL:=Zi y A q d _ F o n _ HA key P hb;rw[hx]at cL;have ay:=T be;go_enter func168,ntmps168
 go_wp2_with(first
  |(go_at_call 183;refine cL.mono ?_;rintro e c ⟨rfl,C⟩;have H:=T (HA.next C);have an:=T (HW.trans (C.mono HW.size))))
 have ac:Hid (CZ y A q d (G Q d.length p) F o n (c.alloc (E #[I K f,I K x] 299))):=H.next BN
 have al:Hid ((c.alloc (E #[I K f,I K x] 299)).heap[c.heap.size]?=U (E (E4 f x) 299)):=BI _ _;have ax:Hid (∀g,(Value.slice Q d.length p).ownBlock=U g->g<c.heap.size):=λg e=>Pj H.states e;have R:Hid (A<c.heap.size/\q.nb<c.heap.size/\q.mb<c.heap.size):=⟨(BC H.row),H.numbers.lt,H.moves.lt⟩
 have a0:Hid (A0 W (c.alloc (E #[I K f,I K x] 299))):=an.alloc an.size _;generalize c.alloc (E #[I K f,I K x] 299)=V0 at *;refine DA (S:=λa=>a.cell? ⟨A,22,Y⟩=U (.map (U q.mb))/\a.heap[c.heap.size]?=U (E (E4 f x) 299)/\Dv a 299 q.mb o n) (⟨BB ac.row 22,al,ac.moves⟩) M ?_;intro b;refine BE 0 16 (A8 (U ⟨A,0,Y⟩)) b ?_;refine BE 1 17 (A8 (U ⟨A,0,Y⟩)) b ?_;refine BE 2 18 (A8 (U ⟨A,22,Y⟩)) b ?_;refine BL 3 19 (.map (U q.mb)) Z (λa m=>?y3) b ?_
 case y3=>(have z1:=m.1;go_simp)
 refine BL 4 20 (.agg (E4 f x)) Z (λa m=>?y4) b ?_
 case y4=>exact Le 299 (.tmp 7) rfl c.heap.size rfl _ _ _ _ m.2.1 underlying299 rfl M
 refine BL 5 21 (Aa #[I K 0,Ac false]) Z (λa m=>?y5) b ?_
 case y5=>(have z2:=Rd m.2.2 Ub underlying129 hl;rw[hi]at z2;go_simp)
 refine BE 6 15 (Aa #[I K 0,Ac false]) b ?_;refine BE 7 22 (I K 0) b ?_;refine BE 8 23 (Ac false) b ?_;refine BE 9 8 (I K 0) b ?_;refine BE 10 9 (Ac false) b ?_;refine Cv ?_;go_simp;have ad:=T (ac.next (C5 _ _).drew);have am:Hid ((World.drew V0).heap[c.heap.size]?=U (E (E4 f x) 299)):=al.out;have a5:=T (a0.drew);generalize World.drew V0=V at *;obtain⟨g,bn,bh,bp,bo,hc⟩:=ad.state_at hs;injection bh with e1 _ e3;subst e1;subst e3;have a8:V.cell? ⟨A,20,Y⟩=U (G (U ⟨g,0,Y⟩) d.length p):=BB ad.row 20;have d1:V.cell? ⟨c.heap.size,1,Y⟩=U (I K x):=BB am 1;have bq:(f:Int)<(d.length:Int):=Ao (Cf hs)
 have HC:Hid (∀(j:Nat) (u:Al),(BR s.1)[j]?=U u->V.cell? ⟨g,f*18+j,Y⟩=U u):=λj u hu=>hc j u (by
  have hj:=BC hu;unfold DG;rw[Ov hj];exact hu)
 go_wp2;have b:(λa:O=>a.heap[c.heap.size]?=U (E (E4 f x) 299)) {V with drawn:=V.drawn+1}:=am.out;have w:Hid (CZ y A q d (G (U ⟨g,0,Y⟩) d.length p) F o n {V with drawn:=V.drawn+1}):=ad.next (C5 _ _).drew
 have av:Hid (∀(j:Nat) (u:Al),(BR s.1)[j]?=U u->({V with drawn:=V.drawn+1}:O).cell? ⟨g,f*18+j,Y⟩=U u):=HC.out;have bm:({V with drawn:=V.drawn+1}:O).cell? ⟨A,20,Y⟩=U (G (U ⟨g,0,Y⟩) d.length p):=a8;have cA:=mu {V with drawn:=V.drawn+1} A q.ra q.rc q.rs.length q.st q.tb q.L q.tc q.tk w.bits.1 w.bits.2 w.few.1 w.auR w.auT s.1 (w.here f s hs).2 x Es;refine Ec (S:=λa=>a.heap[c.heap.size]?=U (E (E4 f x) 299)) M ?_;have ao:Hid (A0 W {V with drawn:=V.drawn+1}):=a5.drew;generalize({V with drawn:=V.drawn+1}:O)=V1 at *;refine BE 0 26 (A8 (U ⟨A,0,Y⟩)) b ?_;refine BE 1 27 (A8 (U ⟨A,0,Y⟩)) b ?_;refine BE 2 28 (A8 (U ⟨A,0,Y⟩)) b ?_;refine BE 3 29 (A8 (U ⟨A,0,Y⟩)) b ?_;refine BE 4 30 (A8 (U ⟨A,20,Y⟩)) b ?_;refine BE 6 32 (I K f) b ?_;refine BE 10 36 (A8 (U ⟨c.heap.size,1,Y⟩)) b ?_;refine BL 11 37 (I K x) Z (λa m=>?y11) b ?_
 case y11=>(have z1:a.cell? ⟨c.heap.size,1,Y⟩=U (I K x):=BB m 1;go_simp)
 refine C9 5 (λB k=>?_);go_simp;refine k.out _ _ b (λ_=>?_);refine C9 7 (λB k=>?_);go_simp;refine k.out _ _ b (λ_=>?_);refine C9 8 (λB k=>?_);go_simp;refine k.out _ _ b (λ_=>?_);refine C9 9 (λB k=>?_);refine Kw M ?_;refine Zk 132 _ Z g (f*18) Z (BR s.1) _ av underlying132 Z (Fi s.1) ?_;refine k.out _ _ b (λ_=>?_);refine C9 12 (λB k=>?_);go_simp;refine cA.mono ?_;rintro e w4 ⟨⟨t,rfl,hY⟩,C⟩;simp only[];have HY:=T hY;have ar:=T (w.next C);have af:(λa:O=>a.heap[c.heap.size]?=U (E (E4 f x) 299)) w4:=(C.block _ (BC b)).trans b;refine k.out _ _ af (λ_=>?_);have ap:Hid (Iy A q (G (U ⟨g,0,Y⟩) d.length p) W w4):=Iy.of_below (ao.trans (C.mono ao.size));refine C9 13 (λB k=>?_);go_simp;refine(Ze y A q d _ p F o n w4 ar t HY.2.2 bg).mono ?_;rintro e w6 ⟨i,aj,bk,bl,bj,rfl,hF,ba,a9,bf,bd,ab,ht,bi⟩;simp only[];have au:=T a9;have ag:(λa:O=>a.heap[c.heap.size]?=U (E (E4 f x) 299)) w6:=(hF.block _ (BC af) (λe=>Ao (ax.out _ e.symm)) (Ao R.1) (Ao R.2.1) (Ao R.2.2)).trans af;have r:=T bf;have N:Hid (aj[i]?=U ab/\∀ai,ai<16->ab.1 ai=t ai):=⟨ht,bi⟩
 refine k.out _ _ ag (λ_=>?_);have az:=T (ba.mono ap.size);have a6:=T (ap.trans hF);refine BE 14 8 (I K i) ag ?_;refine Cv ?_;go_simp;go_wp2;have ae:=T (au.next (C5 _ _).drew);have br:=Cf N.1;obtain⟨w7,bt,bc,aa⟩:=Z2 ae.moves Ub underlying129 J hl i J;obtain⟨D,e1,e2⟩:∃D:Lit->Option Nat,D l=U i/\∀z,z≠l->D z=n z:=by
  have:=Classical.propDecidable;exact⟨λz=>if z=l then U i else n z,BA Z,λz hh=>Bz hh⟩
 have ak:=T (ae.moved aa (bc D e1 e2));have aw:Hid (MV q aj D):=by
  intro f2 x2 l2 k2 aq ah;by_cases e:l2=l
  ·subst e;have e3:=EB (e1.symm.trans ah);have e4:=YS.inj aq hl;injection e4 with e4;have e5:f2=f/\x2=x:=by
    have:=congrArg Array.toList e4;simp[E4]at this;omega
   rw[e5.1,e5.2,<-e3];exact⟨s,ab,t,r _ _ hs,N.1,HY,N.2⟩
  rw[e2 l2 e]at ah;obtain⟨s2,t2,Y2,a1,a2,a3,a4⟩:=ay.out f2 x2 l2 k2 aq ah;exact⟨s2,t2,Y2,r _ _ a1,r _ _ a2,a3,a4⟩
 have v:(λa:O=>a.cell? ⟨A,22,Y⟩=U (.map (U q.mb))/\a.heap[c.heap.size]?=U (E (E4 f x) 299)) {w6 with drawn:=w6.drawn+1}:=⟨BB ae.row 22,ag⟩
 have bb:(λa:O=>a.cell? ⟨A,22,Y⟩=U (.map (U q.mb))/\a.heap[c.heap.size]?=U (E (E4 f x) 299)) w7:=⟨BB ak.row 22,(aa.block c.heap.size (BC v.2) (As R.2.2)).trans v.2⟩
 have a7:=T (a6.trans ⟨aa.size,λj hj _ _ _ hn=>aa.block j hj (by simpa using hn)⟩);refine Ec (S:=λa=>a.cell? ⟨A,22,Y⟩=U (.map (U q.mb))/\a.heap[c.heap.size]?=U (E (E4 f x) 299)) M ?_;refine BE 0 40 (A8 (U ⟨A,0,Y⟩)) v ?_;refine BE 1 41 (A8 (U ⟨A,0,Y⟩)) v ?_;refine BE 2 42 (A8 (U ⟨A,22,Y⟩)) v ?_;refine BL 3 43 (.map (U q.mb)) Z (λa m=>?y3) v ?_
 case y3=>(have z1:=m.1;go_simp)
 refine BL 4 44 (.agg (E4 f x)) Z (λa m=>?y4) v ?_
 case y4=>exact Le 299 (.tmp 7) rfl c.heap.size rfl _ _ _ _ m.2 underlying299 rfl M
 refine BE 5 45 (I K i) v ?_;refine C9 6 (λB k=>?_);go_simp;refine k.out _ _ bb (λ_=>?_);refine Cv ?_;go_simp;go_wp2;go_ret;exact⟨i,aj,bk,bl,bj,o+1,D,Z,ak,aw,BM _,r,bd,ab,t,N.1,HY,N.2,a7,az⟩
def ny(d:O)(A:Nat)(q:Cs)(a:List ((Nat->Nat)×Int×Int))(k:A4)(m:Nat)(j:Lit->Option Nat)(c:Nat)(b:Lit->Option Nat)(W:O)(h:CZ d A q a (G k a.length m) j c b W)(p:MV q a b)(H:a.length<100000)(F:c<100000)(f:Nat)(s:(Nat->Nat)×Int×Int)(r:a[f]?=U s)(key:A1)(g:Bool)(hb:key.length<=maxLen)(x:Nat)(v:Iz q.lf key g=x)(Es:x<q.L)(P:q.L<=100000):Am X 168 #[A8 (U ⟨A,0,Y⟩),I K f,.agg #[A9 ⟨key.toArray⟩,Ac g]] W (Zq d A q a (G k a.length m) s.1 x c W):=by
 have Q:=Cf r;obtain⟨l,o⟩:=nu f x J J
 cases n:b l with
 |none=>exact nw d A q a k m j c b W h p H F f s r key g hb x v Es l o n
 |some i =>
  refine(nv d A q a _ j c b W h f key g hb x v l o i n).mono ?_;rintro e N ⟨rfl,u⟩;obtain⟨R,t,w,y,z,B,C⟩:=p f x l i o n;have e:=EB (r.symm.trans y);subst e;exact⟨i,a,k,m,j,c,b,rfl,h.next u,p,Nr _,λ_ _ D=>D,Nr _,t,w,z,B,C,Iy.of_below u,.inl rfl⟩
def pg(L:Nat):Ps (madeCells (BR Da) (L*16)) L (λ_ _=>0):=by
 refine⟨size_madeCells _ _,λx r d c=>?_⟩;have a:x*16+r<L*16:=J
 have b:(x*16+r)%16<16:=ON _ J;have h:=Jq Da ((x*16+r)%16) b;have e:(BR Da)[(x*16+r)%(BR Da).size]! = I .u16 0:=by
  rw[La,getElem!_def,h];rfl
 unfold madeCells;rw[Array.getElem?_map,Array.getElem?_range,BA a,Qj,e];rfl
def ph(b:W.heap[A]?=U (E (Gr q (λ_=>0) (G Y 0 0) sv) 136)):D0 W A W.heap.size L q sv (λ_=>0) (λ_ _=>0) ((W.alloc (E (madeCells (BR Da) (L*16)) 132)).setCell ⟨A,19,Y⟩ (G (U ⟨W.heap.size,0,Y⟩) L L)):=by
 have f:=BC b;have a:=ET (W.alloc (E (madeCells (BR Da) (L*16)) 132)) A 19 _ _ (G (U ⟨W.heap.size,0,Y⟩) L L) ((BT W _ A f).trans b);rw[p9]at a;refine⟨a,⟨_,(FB _ _ _ _ Ax).trans (BI W _),pg L⟩,Z,Z,Z,?_,λk c d=>(FB _ _ _ _ keB).trans (BT W _ k c)⟩;have e:((W.alloc (E (madeCells (BR Da) (L*16)) 132)).setCell ⟨A,19,Y⟩ (G (U ⟨W.heap.size,0,Y⟩) L L)).heap.size=(W.alloc (E (madeCells (BR Da) (L*16)) 132)).heap.size:=AJ
 rw[e,BU];omega
def UA(q:Cs)(st:Nat->Nat)(b a:Al):(Gr q st b a)[0]?=U (G q.ra q.rs.length q.rc):=M
def D0.low{W0:O}{tk:Nat->Nat->Nat}(h:D0 W A tb L q sv st tk V)(a:A0 W0 W)(c:W0.heap.size<=A):A0 W0 V :=
 ⟨h.os.trans a.os,h.tape.trans a.tape,h.output.trans a.output,C7 a.size h.size,λi b=>(h.block i (CA b a.size) J).trans (a.block i b)⟩
def D0.names{tk:Nat->Nat->Nat}(h:D0 W A tb L q sv st tk V)(b:Gq W lm ks)(d:A≠lm):Gq V lm ks :=
 b.kept (row:=U A) ⟨h.os,h.tape,h.output,h.size,λi a c=>h.block i a Be⟩ (by simpa using d.symm)
def D0.c2{tk:Nat->Nat->Nat}(h:D0 W A tb L q sv st tk V):V.cell? ⟨A,2,Y⟩=U (.map (U q.lm)):=(F7 V A 2 _ _ _ h.row).trans (Uz _ _ _ _)
def D0.c19{tk:Nat->Nat->Nat}(h:D0 W A tb L q sv st tk V):V.cell? ⟨A,19,Y⟩=U (G (U ⟨tb,0,Y⟩) L L):=(F7 V A 19 _ _ _ h.row).trans (ZW _ _ _ _)
def D0.cs{tk:Nat->Nat->Nat}(h:D0 W A tb L q sv st tk V)(r:Nat)(a:r<16):V.cell? ⟨A,3+r,Y⟩=U (I .u16 (st r))/\V.frozen? ⟨A,3+r,Y⟩=false :=
 ⟨(F7 V A (3+r) _ _ _ h.row).trans (pe _ _ _ _ r a),Dx V A (3+r) _ _ h.row⟩
def D0.ct{tk:Nat->Nat->Nat}(h:D0 W A tb L q sv st tk V)(x r:Nat)(d:x<L)(c:r<16):V.cell? ⟨tb,x*16+r,Y⟩=U (I .u16 (tk x r))/\V.frozen? ⟨tb,x*16+r,Y⟩=false:=by
 obtain⟨e,a,b⟩:=h.tks;exact⟨(F7 V tb (x*16+r) _ _ _ a).trans (b.at_ x r d c),Dx V tb (x*16+r) _ _ a⟩
def pi(st:Nat->Nat)(k j:Nat):(λi=>if i=k then st k|||2^j else st i)=Fk st k j true:=by
 funext i;unfold Fk;by_cases h:i=k
 ·subst h;rw[BA rfl,BA ⟨rfl,rfl⟩]
 rw[Bz h,Bz (λe=>h e.1)]
def RC(st:Nat->Nat)(k j:Nat):Fk st k j false=st:=by
 funext i;unfold Fk;rw[Bz Az]
def D0.alike{tk tk':Nat->Nat->Nat}(h:D0 W A tb L q sv st tk V)(f:∀x r,x<L->tk' x r=tk x r):D0 W A tb L q sv st tk' V:=by
 obtain⟨b,c,d,e⟩:=h.tks;exact⟨h.row,⟨b,c,d,λx r a g=>by rw[f x r a];exact e x r a g⟩,h.os,h.tape,h.output,h.size,h.block⟩
def JY(tk:Nat->Nat->Nat)(x k j:Nat):Nat->Nat->Nat:=λy i=>if y=x/\i=k then tk x k|||2^j else tk y i
def D0.one{tk:Nat->Nat->Nat}(h:D0 W A tb L q sv st tk V)(b:A≠tb)(c:W.heap.size<=tb)(x k j:Nat)(d:x<L)(a:k<16):D0 W A tb L q sv st (JY tk x k j) (V.drew.setCell ⟨tb,x*16+k,Y⟩ (I .u16 ((tk x k|||2^j:Nat):Int))):=h.took b c x k (tk x k|||2^j) d a
def Kz(tk:Nat->Nat->Nat)(m k j:Nat):Nat->Nat->Nat:=λy=>if y<m then Fk (tk y) k j true else tk y
def pj(tk:Nat->Nat->Nat)(k j:Nat):Kz tk 0 k j=tk:=by
 funext y;unfold Kz;rw[Bz J]
def pp(tk:Nat->Nat->Nat)(m k j:Nat):JY (Kz tk m k j) m k j=Kz tk (m+1) k j:=by
 funext y i;unfold JY Kz;by_cases h:y=m
 ·subst h;rw[BA (by omega:y<y+1)];by_cases a:i=k
  ·subst a;rw[BA ⟨rfl,rfl⟩,Bz (by omega:¬y<y)];unfold Fk;rw[BA ⟨rfl,rfl⟩]
  rw[Bz (λe=>a e.2),Bz (by omega:¬y<y)];unfold Fk;rw[Bz (λe=>a e.1)]
 rw[Bz (λe=>h e.1)];by_cases b:y<m
 ·rw[BA b,BA (by omega:y<m+1)]
 rw[Bz b,Bz (by omega:¬y<m+1)]
def ZX(tk:Nat->Nat->Nat)(x k j:Nat)(y:Nat):JY tk x k j y=Fk (tk y) k j (y==x):=by
 funext i;unfold JY Fk;by_cases h:y=x
 ·subst h;by_cases a:i=k
  ·subst a;rw[BA ⟨rfl,rfl⟩,BA ⟨rfl,Az⟩]
  rw[Bz (λe=>a e.2),Bz (λe=>a e.1)]
 rw[Bz (λe=>h e.1),Bz (λe=>h (by simpa using e.2))]
def pq{tk:Nat->Nat->Nat}(h:D0 W A tb L q sv st tk V)(b:A≠tb)(a:k<16)(c:w2=V.drew.setCell ⟨A,3+k,Y⟩ (I .u16 ((st k|||2^j:Nat):Int))):D0 W A tb L q sv (Fk st k j true) tk w2:=by
 rw[c,<-pi];exact h.stays b k (st k|||2^j) a
def UB{tk:Nat->Nat->Nat}(h:D0 W A tb L q sv st tk V)(b:A≠tb)(d:W.heap.size<=tb){o:Nat}(f:x<L)(a:k<16)(c:o=x*16)(e:w2=V.drew.setCell ⟨tb,o+k,Y⟩ (I .u16 ((tk x k|||2^j:Nat):Int))):D0 W A tb L q sv st (JY tk x k j) w2:=by
 rw[e,c];exact h.one b d x k j f a
def pr(W:Ak)(A:Nat)(q:Cs)(sv:Al)(ks:List A1)(e:Ending)(W':Ak):Prop :=
 e=Af (Aa #[])/\∃tb st tk,W.heap.size<=tb/\D0 W A tb (2+ks.length) q sv st tk W'/\Ky q.rs ks st tk
def pu(V W:O)(A:Nat)(q:Cs)(d:Al)(ks:List A1)(ba:A0 V W)(ab:W.heap[A]?=U (E (Gr q (λ_=>0) (G Y 0 0) d) 136))(aq:V.heap.size<=A)(hn:q.rs.length<=16)(h8:∀i (h:i<q.rs.length),q.rs[i].1.length<=8)(bc:∀i (h:i<q.rs.length) j (h2:j<q.rs[i].1.length),q.rs[i].1[j].1<=3/\q.rs[i].1[j].2.length<=1000000000)(hr:Ib V q.ra q.rs)(hm:Gq W q.lm ks)(av:ks.length<=128)(bb:∀i (h:i<q.rs.length) j (h2:j<q.rs[i].1.length),q.rs[i].1[j].1=3->q.rs[i].1[j].2∈ks)(bs:A≠q.lm):Am X 55 #[A8 (U ⟨A,0,Y⟩)] W (pr W A q d ks):=by
 have c2:=(F7 W A 2 _ _ _ ab).trans (Uz _ _ _ _);have bv:=hm.len underlying127;have al:=T ab;have br:=Dx W A 19 _ _ ab;have c19:=(F7 W A 19 _ _ _ ab).trans (ZW _ _ _ _);have HR:=T hr;have an:=T ba;have HM:=T hm;have bk:=T bc;have bj:=T bb;have H8:=T h8;have a4:=T (pf ks.length av);have bl:=T av;clear ab hr ba hm bc bb h8 av;go_enter func55,ntmps55;have b0:=a4.out;have lA:=BC al;have b6:A≠W.heap.size:=J
 have ax:Hid ((W.alloc (E (madeCells (BR Da) ((2+ks.length)*16)) 132)).setCell ⟨A,19,Y⟩ (G (U ⟨W.heap.size,0,Y⟩) (2+ks.length) (2+ks.length))=(W.setCell ⟨A,19,Y⟩ (G (U ⟨W.heap.size,0,Y⟩) (2+ks.length) (2+ks.length))).alloc (E (madeCells (BR Da) ((2+ks.length)*16)) 132)):=by show _=_;go_simp
 have a1:Hid (D0 W A W.heap.size (2+ks.length) q d (λ_=>0) (λ_ _=>0) ((W.setCell ⟨A,19,Y⟩ (G (U ⟨W.heap.size,0,Y⟩) (2+ks.length) (2+ks.length))).alloc (E (madeCells (BR Da) ((2+ks.length)*16)) 132))):=by
  have h:=ph (L:=2+ks.length) al;rw[ax.out]at h;exact h
 have c0:=(F7 _ A 0 _ _ _ al).trans (UA _ _ _ _);obtain⟨ra,ak⟩:∃ra,Hid (q.ra=ra):=⟨_,rfl⟩
 rw[ak.out]at c0;have a7:Hid (Ib V ra q.rs):=by rw[<-ak.out];exact HR
 clear HR ak;go_wp2;clear c2 bv br c19 c0 b0 a4 ax;obtain⟨L,b⟩:∃L,Hid (L=2+ks.length):=⟨_,rfl⟩
 obtain⟨a,H⟩:∃a,Hid (W.heap.size<=a/\a=W.heap.size):=⟨_,BM _,rfl⟩
 have ag:A≠a:=Ao H.2
 have a2:Hid (D0 W A a L q d (λ_=>0) (λ_ _=>0) ((W.setCell ⟨A,19,Y⟩ (G (U ⟨W.heap.size,0,Y⟩) (2+ks.length) (2+ks.length))).alloc (E (madeCells (BR Da) ((2+ks.length)*16)) 132))):=by
  rw[b.out,H.2];exact a1
 clear a1;generalize(W.setCell ⟨A,19,Y⟩ (G (U ⟨W.heap.size,0,Y⟩) (2+ks.length) (2+ks.length))).alloc (E (madeCells (BR Da) ((2+ks.length)*16)) 132)=V00 at *
 go_loopg[22] q.rs.length (λap ad wr=>∃(k:Nat) (st:Nat->Nat) (tk:Nat->Nat->Nat),ad=I K k/\Hid (k+ap=q.rs.length)/\Hid (D0 W A a L q d st tk wr)/\Hid (Hh q.rs ks k 0 st tk))
 case atStart=>exact⟨0,_,_,rfl,AD,a2,oY _ _⟩
 case round =>
  clear a2;obtain⟨k,st,tk,rfl,hg,g,HK⟩:=hrel
  cases gk with
  |zero =>
   have bw:¬(k:Int)<(q.rs.length:Int):=AT
   go_wp2;go_end0;refine⟨Z,a,st,tk,H.1,?_,HK.done AT⟩;rw[<-b.out];exact g
  |succ ap =>
   have Q:k<q.rs.length:=AT
   have bw:(k:Int)<(q.rs.length:Int):=J
   obtain⟨bq,off,pa,pc,rfl,hb,e0,e1,e2,b3⟩:=(a7.below (g.low an aq)).at_ k Q;have a8:Hid (MM V pa q.rs[k].1):=by
    obtain⟨b',cc,ce,cg,ar,bt,f0,f1,f2,b1⟩:=a7.at_ k Q;injection ar with ar;injection ar with hab1 hab2;subst hab1;subst hab2;have N:=((g.low an aq).cell (p:=⟨bq,off+k*3,Y⟩) bt).trans f0;rw[e0]at N;injection N with N;injection N with N _ _;subst N;exact b1
   have bu:=H8.out k Q;have l:k<16:=J
   have az:Hid (∀j (h2:j<q.rs[k].1.length),(q.rs[k].1[j].1<=3/\q.rs[k].1[j].2.length<=1000000000)/\(q.rs[k].1[j].1=3->q.rs[k].1[j].2∈ks)):=λj h2=>⟨bk k Q j h2,bj k Q j h2⟩
   have a6:=T (C6 Q);have a5:Hid (D0 W A a L q d st tk (wr.alloc (E #[G pa q.rs[k].1.length pc,I K q.rs[k].2.1,I K q.rs[k].2.2] 177))):=g.next BN
   clear b3;go_wp2;clear e0 e1 e2 g;generalize wr.alloc (E #[G pa q.rs[k].1.length pc,I K q.rs[k].2.1,I K q.rs[k].2.2] 177)=V0 at *;generalize q.rs[k]=R at *;obtain⟨F,lb,ac⟩:=R;dsimp only at a8 bu az
   go_loopg[30] F.length (λP ad ao=>∃(j:Nat) (st:Nat->Nat) (tk:Nat->Nat->Nat),ad=I K j/\Hid (j+P=F.length)/\Hid (D0 W A a L q d st tk ao)/\Hid (Hh q.rs ks k j st tk))
   case atStart=>exact⟨0,st,tk,rfl,AD,a5,HK⟩
   case round =>
    clear a5 HK;obtain⟨j,st,tk,rfl,D,B,af⟩:=hrel
    cases gk with
    |zero =>
     have bx:¬(j:Int)<(F.length:Int):=Ao D.out
     go_wp2;go_roundg ap
     case measure=>omega
     case rel=>exact⟨k+1,st,tk,AE,B6,B,af.rule a6 (by have:=D.out;show F.length<=j;omega)⟩
    |succ P =>
     have au:j<F.length:=Ao D.out
     have bx:(j:Int)<(F.length:Int):=J
     obtain⟨b2,cd,rfl,ca,s0,s1⟩:=(a8.below (B.low an aq)).at_ j au;obtain⟨⟨bd,be⟩,bh⟩:=az.out j au;have bm:=T (C6 au);have a0:=T be;have a3:=T bh;have ay:=T bd;have ai:j<16:=J
     clear be bh bd;generalize F[j]=sg at *;have f:Hid (D0 W A a L q d st tk (wr.alloc (E #[I K sg.1,A9 ⟨sg.2.toArray⟩] 182))):=B.next BN
     have aj:=af.lt H8;have bn:=T aj.1;have am:=T aj.2;clear aj;have v:=T (af.place a6 bm);have bo:Hid (a<wr.heap.size):=by
      obtain⟨b5,h1,_⟩:=B.tks;exact BC h1
     obtain⟨r,key⟩:=sg;have ae:Hid ((wr.alloc (E #[I K r,A9 ⟨key.toArray⟩] 182)).heap[wr.heap.size]?=U (E #[I K r,A9 ⟨key.toArray⟩] 182)):=BI _ _;dsimp only at a0 a3 ay;have z:=B.c19;have b7:=BC B.row;have b8:(1:Int)<(L:Int):=Ao b.out
     have b9:L<=130:=Aq b.out bl.out
     clear B af;rcases(by have:=ay.out;omega:r=0\/r=1\/r=2\/r=3)with rfl|rfl|rfl|rfl
     ·have C:Hid (Hh q.rs ks k (j+1) st (λx=>Fk (tk x) k j true)):=by
       have h:=v.out;have e:Fk st k j (((0,key):Nat×A1).1==1)=st:=RC st k j;rw[e]at h;exact h
      clear v;go_wp2;generalize wr.alloc (E #[I K ((0:Nat):Int),A9 ⟨key.toArray⟩] 182)=V1 at *
      go_loopg[44] L (λg3 ad ao=>∃m:Nat,ad=I K m/\Hid (m+g3=L)/\Hid (D0 W A a L q d st (Kz tk m k j) ao))
      case atStart=>exact⟨0,rfl,AD,by rw[pj];exact f⟩
      case round =>
       clear f ae z;obtain⟨m,rfl,ah,y⟩:=hrel
       cases gk with
       |zero =>
        have bz:¬(m:Int)<(L:Int):=Ao ah.out
        have t:Hid (D0 W A a L q d st (λx=>Fk (tk x) k j true) wr):=y.alike λx ch hx=>by
         unfold Kz;rw[BA (Ao ah.out)]
        clear y;go_wp2;go_roundg P
        case measure=>omega
        case rel=>exact⟨j+1,st,_,AE,Ap D.out,t,C⟩
       |succ g3 =>
        have bg:m<L:=Ao ah.out
        have bz:(m:Int)<(L:Int):=J
        have z:=y.c19;obtain⟨ct,s⟩:=y.ct m k bg l;have bf:Kz tk m k j m k<65536:=by
         unfold Kz;rw[Bz J];have:=am.out m k;omega
        have o:=Pb wr a (m*16) (Kz tk m k j m k) k j l ai bf ct s;clear ct s bf
        go_wp2_with(first
         |(go_at_call 87;refine o.mono ?_;clear o;rintro e w2 ⟨rfl,n⟩;have t:=T (UB y ag H.1 bg l Z n);clear n z))
        go_roundg g3
        case measure=>omega
        case rel=>exact⟨m+1,AE,Ap ah.out,by rw[<-pp];exact t⟩
     ·have C:Hid (Hh q.rs ks k (j+1) (Fk st k j true) tk):=by
       have h:=v.out;have e:(λx=>Fk (tk x) k j (JX ks (1,key) x))=tk:=by
        funext x;exact RC (tk x) k j
       rw[e]at h;exact h
      obtain⟨ct,s⟩:=f.cs k l;have o:=Pb _ A 3 (st k) k j l ai (Ao (bn.out k)) ct s;clear v ct s
      go_wp2_with(first
       |(go_at_call 87;refine o.mono ?_;clear o;rintro e w2 ⟨rfl,n⟩;have t:=T (pq f ag l n);clear n z f))
      go_roundg P
      case measure=>omega
      case rel=>exact⟨j+1,_,tk,AE,Ap D.out,t,C⟩
     ·have C:Hid (Hh q.rs ks k (j+1) st (JY tk 1 k j)):=by
       have h:=v.out;have e:(λx=>Fk (tk x) k j (JX ks (2,key) x))=JY tk 1 k j:=by
        funext x;exact(ZX tk 1 k j x).symm
       have e2:Fk st k j (((2,key):Nat×A1).1==1)=st:=RC st k j;rw[e,e2]at h;exact h
      obtain⟨ct,s⟩:=f.ct 1 k J l;have o:=Pb _ a 16 (tk 1 k) k j l ai (Ao (am.out 1 k)) ct s;clear v ct s
      go_wp2_with(first
       |(go_at_call 87;refine o.mono ?_;clear o;rintro e w2 ⟨rfl,n⟩;have t:Hid (D0 W A a L q d st (JY tk 1 k j) w2):=UB f ag H.1 J l Z n;clear n z f))
      go_roundg P
      case measure=>omega
      case rel=>exact⟨j+1,st,_,AE,Ap D.out,t,C⟩
     obtain⟨x,HX⟩:∃x,Hid (x=(EI ks (.string key)).getD 0):=⟨_,rfl⟩
     have bp:Hid (x<L):=by
      have h:=a3.out Z;show x<L;rw[HX.out,Ll h,b.out];have:=Q3.2 h;show 2+ks.idxOf key<_;omega
     have C:Hid (Hh q.rs ks k (j+1) st (JY tk x k j)):=by
      have h:=v.out;have e:(λaw=>Fk (tk aw) k j (JX ks (3,key) aw))=JY tk x k j:=by
       funext aw;rw[ZX,HX.out];rfl
      have e2:Fk st k j (((3,key):Nat×A1).1==1)=st:=RC st k j;rw[e,e2]at h;exact h
     have Es:=bp.out;have cb:(x:Int)<(L:Int):=J
     clear v;go_wp2;generalize wr.alloc (E #[I K ((3:Nat):Int),A9 ⟨key.toArray⟩] 182)=V1 at *;generalize wr.heap.size=M at *;refine DA (S:=λu=>(∃tk,D0 W A a L q d st tk u)/\u.heap[M]?=U (E #[I K ((3:Nat):Int),A9 ⟨key.toArray⟩] 182)) (⟨⟨tk,f.next (C5 _ _).drew⟩,ae⟩) Aw ?_;intro c;refine BE 0 77 (A8 (U ⟨A,0,Y⟩)) c ?_;refine BE 1 78 (A8 (U ⟨A,0,Y⟩)) c ?_;refine BE 2 79 (A8 (U ⟨A,19,Y⟩)) c ?_;refine BL 3 80 (G (U ⟨a,0,Y⟩) L L) Z (λu w=>?y3) c ?_
     case y3=>(obtain⟨bi,aa⟩:=w.1;have z1:=aa.c19;go_simp)
     refine BE 4 81 (A8 (U ⟨A,0,Y⟩)) c ?_;refine BE 5 82 (A8 (U ⟨A,0,Y⟩)) c ?_;refine BE 6 83 (A8 (U ⟨A,2,Y⟩)) c ?_;refine BL 7 84 (.map (U q.lm)) Z (λu w=>?y7) c ?_
     case y7=>(obtain⟨bi,aa⟩:=w.1;have z1:=aa.c2;go_simp)
     refine BE 8 85 (A8 (U ⟨M,1,Y⟩)) c ?_;refine BL 9 86 (A9 ⟨key.toArray⟩) Z (λu w=>?y9) c ?_
     case y9=>(have z1:=BB w.2 1;go_simp)
     refine BL 10 87 (I K x) Z (λu w=>?y10) c ?_
     case y10=>(obtain⟨bi,aa⟩:=w.1;have z3:=Pg (aa.names HM bs).im Li underlying127 (Rn key a0);rw[<-HX.out]at z3;go_simp)
     refine BL 11 88 (A8 (U ⟨a,x*16,Y⟩)) Z (λu w=>?y11) c ?_
     case y11=>(go_simp)
     refine BE 12 89 (I K k) c ?_;refine BE 13 90 (I K j) c ?_;obtain⟨ct,s⟩:=(f.next (C5 _ _).drew).ct x k Es l;have o:=Pb _ a (x*16) (tk x k) k j l ai (Ao (am.out x k)) ct s;clear ct s;refine C9 14 (λb4 hK=>?_);go_simp;refine o.mono ?_;clear o;rintro e w2 ⟨rfl,n⟩;have t:=T (UB (f.next (C5 _ _).drew) ag H.1 Es l rfl n);have a9:(λu:O=>(∃tk,D0 W A a L q d st tk u)/\u.heap[M]?=U (E #[I K ((3:Nat):Int),A9 ⟨key.toArray⟩] 182)) w2:=⟨⟨_,t⟩,by rw[n];exact(FB _ _ _ _ (As bo.out)).trans ae⟩
     clear n f ae;refine hK.out _ _ a9 (λ_=>?_);clear hK c a9;refine Cv ?_;go_simp;go_wp2;go_roundg P
     case measure=>omega
     case rel=>exact⟨j+1,st,_,AE,Ap D.out,t,C⟩
structure ak(W:World)(rs:List (List (Nat×A1)×Int×Int))(dflt:Int)(A:Nat)(q:Cs)(sts:List ((Nat->Nat)×Int×Int))(sa:A4)(sc:Nat)(nf:Lit->Option Nat)(mf:Lit->Option Nat)(W':World):Prop where
 au:CZ W A q sts (.slice sa sts.length sc) nf 0 mf W'
 ers:q.rs=rs
 edf:q.dflt=dflt
 elf:q.lf=EI (Fx rs)
 eL:q.L=2+(Fx rs).length
 ly:Ky rs (Fx rs) q.st q.tk
 mv:MV q sts mf
 few:sts.length<=1
 first:∃t Y,sts[0]?=some t/\NY rs.length q.st (one rs.length) Y/\∀r,r<16->t.1 r=Y r
def al(W:Ak)(rs:List (List (Nat×A1)×Int×Int))(dflt:Int)(e:Ending)(W':Ak):Prop :=
 ∃A q sts sa sc nf mf,e=Af (A8 (some ⟨A,0,none⟩))/\ak W rs dflt A q sts sa sc nf mf W'
def LZ(W:Ak):Ak:=((W.alloc (.map #[] 0)).alloc (.map #[] 0)).alloc (.map #[] 0)
def UE(W:O):(LZ W).heap.size=W.heap.size+3:=by simp[LZ]
def pG(W:O)(a:TypeId)(b:Nat)(e:W.heap.size<=b)(f:b<W.heap.size+3):Dv (LZ W) a b 0 (λ_=>Y):=by
 have c:(W.alloc (.map #[] 0)).heap.size=W.heap.size+1:=Az
 have d:((W.alloc (.map #[] 0)).alloc (.map #[] 0)).heap.size=W.heap.size+2:=Az
 rcases(by omega:b=W.heap.size\/b=W.heap.size+1\/b=W.heap.size+2)with rfl|rfl|rfl
 ·exact((U9 W a).kept (Jb _ _ Y) Az).kept (Jb _ _ Y) Az
 ·have h:=(U9 (W.alloc (.map #[] 0)) a).kept (Jb _ (.map #[] 0) Y) Az;rw[c]at h;exact h
 have h:=U9 ((W.alloc (.map #[] 0)).alloc (.map #[] 0)) a;rw[d]at h;exact h
def pH(W:O)(b:Nat)(d:W.heap.size<=b)(e:b<W.heap.size+3):Gq (LZ W) b []:=by
 have a:(W.alloc (.map #[] 0)).heap.size=W.heap.size+1:=Az
 have c:((W.alloc (.map #[] 0)).alloc (.map #[] 0)).heap.size=W.heap.size+2:=Az
 rcases(by omega:b=W.heap.size\/b=W.heap.size+1\/b=W.heap.size+2)with rfl|rfl|rfl
 ·exact((Uy W).kept (Jb _ _ Y) Az).kept (Jb _ _ Y) Az
 ·have h:=(Uy (W.alloc (.map #[] 0))).kept (Jb _ (.map #[] 0) Y) Az;rw[a]at h;exact h
 have h:=Uy ((W.alloc (.map #[] 0)).alloc (.map #[] 0));rw[c]at h;exact h
def q0(ra:A4)(rc:Nat)(rs:List (List (Nat×A1)×Int×Int))(dflt:Int)(lm nb mb:Nat):Cs :=
 {ra:=ra,rc:=rc,rs:=rs,dflt:=dflt,lm:=lm,ln:=0,lf:=λ_=>none,st:=λ_=>0,tb:=0,L:=0,tc:=0,tk:=λ_ _=>0,nb:=nb,mb:=mb}
def q1(ra:A4)(rc:Nat)(rs:List (List (Nat×A1)×Int×Int))(dflt:Int)(lm nb mb:Nat)(st:Nat->Nat)(tb:Nat)(tk:Nat->Nat->Nat):Cs :=
 {ra:=ra,rc:=rc,rs:=rs,dflt:=dflt,lm:=lm,ln:=(Fx rs).length,lf:=EI (Fx rs),st:=st,tb:=tb,L:=2+(Fx rs).length,tc:=2+(Fx rs).length,tk:=tk,nb:=nb,mb:=mb}
def Ky.lt{tk:Nat->Nat->Nat}(h:Ky rs ks st tk)(b:∀i (h:i<rs.length),rs[i].1.length<=8):(∀r,st r<256)/\∀x r,tk x r<256 :=
 ⟨λr=>RA λp a=>by rw[h.s,RB b r p a],λx r=>RA λp a=>by rw[h.t,RB b r p a]⟩
def pI{V0 V1 V2 V3:O}{ra:A4}{rc:Nat}{dflt:Int}{nb mb:Nat}{tk:Nat->Nat->Nat}(N:Ib W ra rs)(L:rs.length<=16)(r:∀i (h:i<rs.length),rs[i].1.length<=8)(hA:A=W.heap.size+3)(q:W.heap.size<=lm/\lm<W.heap.size+3)(d:W.heap.size<=nb/\nb<W.heap.size+3)(e:W.heap.size<=mb/\mb<W.heap.size+3)(o:lm≠nb)(p:lm≠mb)(y:nb≠mb)(f:V0=(LZ W).alloc (E (Gr (q0 ra rc rs dflt lm nb mb) (λ_=>0) (G Y 0 0) (G Y 0 0)) 136))(c:Kx V0 lm (Fx rs) V1)(ab:V1.heap.size<=tb)(C:D0 V1 A tb (2+(Fx rs).length) (q0 ra rc rs dflt lm nb mb) (G Y 0 0) st tk V2)(B:Ky rs (Fx rs) st tk)(z:A0 V2 V3):CZ W A (q1 ra rc rs dflt lm nb mb st tb tk) [] (G Y 0 0) (λ_=>Y) 0 (λ_=>Y) V3:=by
 have l:V0.heap.size=W.heap.size+4:=by rw[f,BU,UE]
 have aa:=c.but.size;have a:=C.next z
 have t:A0 W V0:=by
  rw[f];exact(((BN).alloc Az _).alloc Ax _).alloc Ax _
 have u:=c.but.low t q.1;have v:=a.low u J;have F:(LZ W).grownBy V0 Y:=by rw[f];exact Jb _ _ Y
 have H:V0.grownBy V1 (U lm):=⟨c.but.os,c.but.tape,c.but.output,c.but.size,λi j k=>c.but.block i j kfv⟩
 have s:V1.grownBy V3 (U A):=⟨a.os,a.tape,a.output,a.size,λi j k=>a.block i j kfv⟩
 have key:∀n b,W.heap.size<=b->b<W.heap.size+3->b≠lm->Dv V3 n b 0 (λ_=>Y):=λn b P Q R =>
  (((pG W n b P Q).kept F Az).kept H (by simpa using R)).kept s Ax
 obtain⟨w,S,V⟩:=a.tks;refine⟨?_,N,⟨L,r⟩,v,?_,⟨w,S,V.at_⟩,FQ _ _ _ _,key _ nb d.1 d.2 o.symm,key _ mb e.1 e.2 p.symm,?_,?_,?_,B.lt r,?_,?_,λac i h=>AU⟩
 ·rw[p8];exact a.row
 ·exact(c.names.kept s Ax).im
 ·exact⟨J,q.1,show W.heap.size<=tb by omega,d.1,e.1⟩
 ·refine⟨show A≠lm by omega,show A≠tb by omega,show A≠nb by omega,show A≠mb by omega,show lm≠tb by omega,o,p,show tb≠nb by omega,show tb≠mb by omega,y⟩
 ·intro g D;cases D
 ·intro i x m;simp at m
 intro i x m;simp at m
def pJ{tk:Nat->Nat->Nat}(h:D0 W A tb L q sv st tk V):LV V A q.ra q.rc q.rs.length st :=
 ⟨(BC h.row),(F7 V A 0 _ _ _ h.row).trans (UA _ _ _ _),λr a=>(h.cs r a).1⟩
def pK(e:A4)(f:Nat)(rs:List (List (Nat×A1)×Int×Int))(a:Int)(b d c:Nat):Gr (q0 e f rs a b d c) (λ_=>0) (G Y 0 0) (G Y 0 0)=#[G e rs.length f,I K a,.map (U b),I .u16 0,I .u16 0,I .u16 0,I .u16 0,I .u16 0,I .u16 0,I .u16 0,I .u16 0,I .u16 0,I .u16 0,I .u16 0,I .u16 0,I .u16 0,I .u16 0,I .u16 0,I .u16 0,G Y 0 0,G Y 0 0,.map (U d),.map (U c)]:=M
def pN(V:O):(Instr.makeMap 127 Y).run X V=.ok (.map (U V.heap.size)) (V.alloc (.map #[] 0)):=M
def pO(V:O):(Instr.makeMap 128 Y).run X V=.ok (.map (U V.heap.size)) (V.alloc (.map #[] 0)):=M
def pP(V:O):(Instr.makeMap 129 Y).run X V=.ok (.map (U V.heap.size)) (V.alloc (.map #[] 0)):=M
def pQ(W:O)(b:A4)(d:Nat)(rs:List (List (Nat×A1)×Int×Int))(c:Int)(hr:Ib W b rs)(n:rs.length<=16)(h8:∀i (h:i<rs.length),rs[i].1.length<=8)(ah:∀i (h:i<rs.length) j (o:j<rs[i].1.length),rs[i].1[j].1<=3/\rs[i].1[j].2.length<=1000000000):Am X 30 #[G b rs.length d,I K c] W (al W rs c):=by
 have q:=T hr;have g:=T h8;have u:=T ah;have m1:=pN;have m2:=pO;have m3:=pP;have Q:Hid (∃a,a=((((W.alloc (.map #[] 0)).alloc (.map #[] 0)).alloc (.map #[] 0)).alloc (E #[G b rs.length d,I K c,.map (U W.heap.size),I .u16 0,I .u16 0,I .u16 0,I .u16 0,I .u16 0,I .u16 0,I .u16 0,I .u16 0,I .u16 0,I .u16 0,I .u16 0,I .u16 0,I .u16 0,I .u16 0,I .u16 0,I .u16 0,G Y 0 0,G Y 0 0,.map (U (W.heap.size+1)),.map (U (W.heap.size+1+1))] 136))/\a=(LZ W).alloc (E (Gr (q0 b d rs c W.heap.size (W.heap.size+1) (W.heap.size+1+1)) (λ_=>0) (G Y 0 0) (G Y 0 0)) 136)):=⟨_,Z,by rw[pK];rfl⟩
 obtain⟨a,ad,ae⟩:=Q.out;have m:=T ae;have v:Hid (a.heap.size=W.heap.size+4):=by show _=_;rw[m.out,BU,UE]
 have s:Hid (A0 W a):=by
  show Below _ _ _;rw[m.out];exact(((BN).alloc Az _).alloc Ax _).alloc Ax _
 have r:Hid (a.heap[W.heap.size+3]?=U (E (Gr (q0 b d rs c W.heap.size (W.heap.size+1) (W.heap.size+1+1)) (λ_=>0) (G Y 0 0) (G Y 0 0)) 136)):=by
  show _=_;rw[m.out];have:=BI (LZ W) (E (Gr (q0 b d rs c W.heap.size (W.heap.size+1) (W.heap.size+1+1)) (λ_=>0) (G Y 0 0) (G Y 0 0)) 136);rw[UE]at this;exact this
 have N:Hid (Gq a W.heap.size []):=by
  show Gq _ _ _;rw[m.out];exact(pH W W.heap.size (BM _) J).kept (Jb _ _ Y) Az
 have cN:=oX W a (W.heap.size+1+1+1) W.heap.size b d rs s (Ao v.out) J (BM _) n g (λi h j o=>(u i h j o).2) ((F7 a _ 0 _ _ _ r).trans (UA _ _ _ _)) ((F7 a _ 2 _ _ _ r).trans (Uz _ _ _ _)) q N;go_enter func30,ntmps30
 go_wp2_with(fail)
 rw[<-ad];refine cN.mono ?_;rintro e S ⟨rfl,p⟩;have L:=T p;have ab:=p.but.low s (BM _);have ai:=(p.but.block (W.heap.size+3) (Ao v.out) J).trans r;have l:=pu W S (W.heap.size+1+1+1) (q0 b d rs c W.heap.size (W.heap.size+1) (W.heap.size+1+1)) (G Y 0 0) (Fx rs) ab ai J n g u q p.names (aj n g) (λi h j o h3=>ag h o h3) (by show W.heap.size+1+1+1≠W.heap.size;omega)
 go_wp2_with(fail)
 refine l.mono ?_;rintro e V ⟨rfl,tb,st,tk,ak,z,y⟩;have H:=T z;have P:=T ak;have t:Hid (Ky rs (Fx rs) st tk):=y;have cS:=mm V (W.heap.size+1+1+1) b d rs.length st (y.lt g).1 n (pJ z)
 go_wp2_with(fail)
 refine cS.mono ?_;rintro e f ⟨⟨w,rfl,B⟩,ac⟩;have R:=T B;have af:=pI q n g (A:=W.heap.size+1+1+1) Z ⟨BM _,J⟩ ⟨J,J⟩ ⟨J,J⟩ J J J m L P H t ac;have cU:=Ze W _ _ [] Y 0 _ 0 _ f af w B.2.2 Az
 go_wp2_with(fail)
 refine cU.mono ?_;rintro e k ⟨i,an,sa,sc,nf,rfl,_,_,aa,_,C,x,D,am⟩;have F:Hid (al W rs c (Af (A8 (U ⟨W.heap.size+1+1+1,0,Y⟩))) k):=by
  refine⟨_,_,_,_,_,_,_,Z,⟨aa,Z,Z,Z,Z,t,?_,by simpa using C,x,w,?_,R,am⟩⟩
  ·intro ao x aq ap _ h;cases h
  have:i<an.length:=Cf D;have h0:i=0:=by simp at C;omega
  rw[<-h0];exact D
 go_wp2;go_ret;exact F
end
section
open Go.RowKit Go.Lib
def Fy{α:Type}(T:α->A1):List α->A1
 |[]=>[]
 |d::ds=>T d++ds.flatMap λe=>44::T e
def qq{α:Type}(T:α->A1)(l:List α)(d:α)(b:l[0]?=U d):Fy T (l.take 1)=T d:=by
 cases l with
 |nil=>simp at b
 |cons a l=>simp at b;subst b;simp[Fy]
def qr{α:Type}(T:α->A1)(l:List α)(k:Nat)(c:0<k)(d:α)(b:l[k]?=U d):Fy T (l.take (k+1))=(Fy T (l.take k)++[44])++T d:=by
 cases l with
 |nil=>simp at b
 |cons a l =>
  cases k with
  |zero=>omega
  |succ k =>
   rw[Su]at b;rw[Qb,Qb];unfold Fy;rw[JH,b];simp
def aC{α:Type}(T:α->A1)(l:List α)(k:Nat):(Fy T (l.take k)).length<=(Fy T l).length:=by
 cases l with
 |nil=>simp
 |cons a l =>
  cases k with
  |zero=>simp[Fy]
  |succ k =>
   rw[Qb];unfold Fy;rw[BK,BK];have b:(l.flatMap λe=>44::T e).length=((l.take k).flatMap λe=>44::T e).length+((l.drop k).flatMap λe=>44::T e).length:=by
    rw[<-BK,<-LD,Kb]
   omega
def aD(W:Ak)(base:Nat)(x:Al)(ys:A1):Prop:=∀(V:Ak) (v:Al) (bs:A1),Below base W V->BG V base v bs->bs.length+ys.length<=999999999->Am prog 63 #[v,x] V λe W'=>∃v',e=Af v'/\BG W' base v' (bs++ys)/\Below base V W'
def qs(T:A2->A1)(W:O)(f:Nat)(v:Al)(q:A4)(ab:Nat)(F:Nat->Prop)(hF:∀k,F k->k<f)(bs:A1)(ds:List (DataW Unit))(xs:List Al)(hl:bs.length+(Fy T ds).length+2<=999999999)(hn:ds.length<=999999999)(hu:Dj W 56 1 F (A7 q ds.length ab) ds.length xs)(an:∀(i:Nat) (x:Al) (d:A2),xs[i]?=U x->ds[i]?=U d->aD W f x (T d))(am:∀(i:Nat) (x:Al),xs[i]?=U x->∃au y,x=Ad au y)(h:BG W f v bs):Am X 96 #[v,A7 q ds.length ab] W λe W'=>∃H,e=Af H/\BG W' f H (((bs++[91])++Fy T ds)++[93])/\Below f W W':=by
 obtain⟨aw,a6,ax,rfl⟩:=h.2.2;have w:=By h;have HU:=By hu;have HI:=By an;have HF:=By am;go_enter func96,ntmps96
 go_wp2_with(first
  |(at_builtin;refine Dh 91 w.1 ?_ (hb:=Ar w.2.1);intro H w2 o C ac;obtain⟨aj,ai,rfl⟩:=ownsRow_succ o;have j:=By (Jl ((C5 _ _).alloc w.2.1 _) (w.1.alloc _) C (Ar w.2.1));have ag:Hid (BG w2 f (A7 (U ⟨aj,0,Y⟩) _ ai) (bs++[91])):=⟨LP o Z,C7 w.2.1 j.size,_,_,_,Z⟩))
 go_loopg[0,12] ds.length (λg y av wr=>∃(k:Nat) (Q:A4) (z R:Nat),y=A7 Q z R/\av=I K k/\Hid (k+g=ds.length)/\Hid (BG wr f (A7 Q z R) ((bs++[91])++Fy T (ds.take k)))/\Hid (Below f W wr))
 case atStart=>exact⟨0,_,_,_,rfl,rfl,AD,by simpa[Fy]using ag,j⟩
 case round =>
  obtain⟨k,Q,z,R,rfl,rfl,D,b,s⟩:=hrel;have aq:((bs++[91])++Fy T (ds.take k)).length<=999999998:=by
   have:=aC T ds k;simp only[BK,Cu,DX];omega
  obtain⟨l,u⟩:∃l,Hid ((bs++[91])++Fy T (ds.take k)=l):=⟨_,show _=_ from rfl⟩
  rw[u.out]at b aq
  cases gk with
  |zero =>
   have ar:¬(k:Int)<ds.length:=Ao D.out
   have p:Hid (ds.take k=ds):=by show _=_;exact II (Ao D.out)
   go_wp2_with(first
    |(at_builtin;refine Dh 93 b.1 ?_ (hb:=Ar b.2.1);intro H A o C ac;obtain⟨a,V,rfl⟩:=ownsRow_succ o;have m:=By (Jl ((C5 _ _).alloc b.2.1 _) (b.1.alloc _) C (Ar b.2.1));have B:Hid (BG A f (A7 (U ⟨a,0,Y⟩) _ V) (l++[93])):=⟨LP o Z,C7 b.2.1 m.size,_,_,_,Z⟩))
   go_ret;have he:l++[93]=bs++91::(Fy T ds++[93]):=by
    rw[<-u.out,p.out];simp
   have r:=B.out;rw[he]at r;exact⟨_,Z,r,s.trans m⟩
  |succ g =>
   have ap:k<ds.length:=Ao D.out
   have ar:(k:Int)<ds.length:=J
   have P:=HU.same (V':=wr) (G:=F) (λ_ h=>h) (λad hj=>s.block ad (hF ad hj));obtain⟨q0,rfl⟩:∃q0,q=U ⟨q0,0,Y⟩:=by
    rcases P.2 with⟨_,e⟩|⟨g,ay,l,e,_⟩
    ·omega
    injection e with e1 e2 e3;exact⟨g,e1⟩
   have a2:xs.length=ds.length:=Ao P.1
   obtain⟨x,t⟩:∃x,xs[k]?=U x:=⟨xs[k],C6 J⟩
   obtain⟨d,n⟩:∃d,ds[k]?=U d:=⟨ds[k],C6 ap⟩
   obtain⟨tx,yx,rfl⟩:=HF.out k x t;have hc:wr.cell? ⟨q0,k,Y⟩=U (Ad tx yx):=by
    have:=P.cell k _ t;have e:(⟨q0,0,Y⟩:Addr).add k=⟨q0,k,Y⟩:=Bh
    rwa[e]at this
   have c:=aC T ds (k+1);have af:=HI.out k _ d t n;have aa:=By af;have az:(wr.alloc (E #[I .u8 44] 5)).cell? ⟨q0,k,Y⟩=U (Ad tx yx):=(Df wr _ _ (by rw[hc];rfl)).trans hc;by_cases ao:k=0
   ·subst ao;have p:=By (qq T ds d n);have N:Hid (l.length+(T d).length<=999999999):=by
     show _<=_;rw[<-u.out];rw[p.out]at c;simp only[BK,Cu,DX,List.take_zero,Fy];omega
    have S:=aa.out wr _ _ s b N;have HK:Hid (0+(g+1)=ds.length):=D
    go_wp2_with(first
     |(go_at_call 63;refine S.mono ?_;rintro e A ⟨v4,rfl,r,ak⟩;obtain⟨o4,b4,a4,n4,c4,rfl⟩:=r;have B:Hid (BG A f (A7 a4 n4 c4) (l++T d)):=⟨o4,b4,_,_,_,Z⟩;have m:=By (s.trans ak)))
    go_roundg g
    case measure=>omega
    case rel=>exact⟨1,a4,n4,c4,rfl,AE,Ap HK.out,by show BG _ _ _ _;rw[p.out];have r:=B.out;rw[<-u.out]at r;simpa[Fy]using r,m⟩
   have a0:decide ((0:Int)<(k:Int))=true:=Ax
   have a1:(0:Int)<(k:Int):=J
   have p:=By (qr T ds k J d n);have N:Hid ((l++[44]).length+(T d).length<=999999999):=by
    show _<=_;rw[<-u.out];rw[p.out]at c;simp only[BK,Cu,DX]at c ⊢;omega
   go_wp2_with(first
    |(at_builtin;refine Dh 44 b.1 ?_ (hb:=Ar b.2.1);intro H A o C ac;obtain⟨a,V,rfl⟩:=ownsRow_succ o;have m:=By (Jl ((C5 _ _).alloc b.2.1 _) (b.1.alloc _) C (Ar b.2.1));have B:Hid (BG A f (A7 (U ⟨a,0,Y⟩) _ V) (l++[44])):=⟨LP o Z,C7 b.2.1 m.size,_,_,_,Z⟩;have S:=aa.out A _ _ (s.trans m) B N)
    |(go_at_call 63;refine S.mono ?_;rintro e w5 ⟨v5,rfl,L,al⟩;obtain⟨o5,b5,a5,n5,c5,rfl⟩:=L;have ah:Hid (BG w5 f (A7 a5 n5 c5) ((l++[44])++T d)):=⟨o5,b5,_,_,_,Z⟩;have ae:=By ((s.trans m).trans al)))
   go_roundg g
   case measure=>omega
   case rel=>exact⟨k+1,a5,n5,c5,rfl,AE,Ap D.out,by show BG _ _ _ _;rw[p.out];have L:=ah.out;rw[<-u.out]at L;simpa only[CN]using L,ae⟩
def S6(c:UInt8):(c.toNat<128/\Ce c=1)\/(194<=c.toNat/\c.toNat<224/\Ce c=2/\Ds c=128/\Dy c=191)\/(224<=c.toNat/\c.toNat<240/\Ce c=3/\Ds c=(if c.toNat=224 then 160 else 128)/\Dy c=(if c.toNat=237 then 159 else 191))\/(240<=c.toNat/\c.toNat<245/\Ce c=4/\Ds c=(if c.toNat=240 then 144 else 128)/\Dy c=(if c.toNat=244 then 143 else 191))\/((128<=c.toNat/\c.toNat<194\/245<=c.toNat)/\Ce c=0):=by
 unfold Ce Ds Dy
 repeat' split
 all_goals omega
def tB(h:b.toNat<128):Ch [b]:=⟨b,[],rfl,As (S6 b),λj c a=>by cases a⟩
def VG(h:Ds c0<=b.toNat/\b.toNat<=Dy c0):G5 c0 1 b=false:=by
 cases e:G5 c0 1 b with
 |false=>rfl
 |true=>have:=(RY c0 b).1 e;omega
def VH(a:1<j)(h:128<=b.toNat/\b.toNat<=191):G5 c0 j b=false:=by
 cases e:G5 c0 j b with
 |false=>rfl
 |true=>have:=(Og c0 b j a).1 e;omega
def tC(e:194<=a.toNat/\a.toNat<224)(hb:128<=b.toNat/\b.toNat<=191):Ch [a,b]:=by
 have h:=S6 a;refine⟨a,[b],Z,Ax,λj c d=>?_⟩
 match j with
 |0=>cases d;exact VG J
def cw(l:224<=a.toNat/\a.toNat<240)(hb:128<=b.toNat/\b.toNat<=191)(g:a.toNat=224->160<=b.toNat)(i:a.toNat=237->b.toNat<=159)(k:128<=c.toNat/\c.toNat<=191):Ch [a,b,c]:=by
 have h:=S6 a;refine⟨a,[b,c],Z,Ax,λj x f=>?_⟩
 match j with
 |0 =>
  cases f;refine VG ?_;by_cases d:a.toNat=224
  ·simp[d]at h;have:=g d;omega
  by_cases e:a.toNat=237
  ·simp[e]at h;have:=i e;omega
  simp[d,e]at h;omega
 |1=>cases f;exact VH Ay k
def tD{d:UInt8}(n:240<=a.toNat/\a.toNat<245)(hb:128<=b.toNat/\b.toNat<=191)(i:a.toNat=240->144<=b.toNat)(k:a.toNat=244->b.toNat<=143)(l:128<=c.toNat/\c.toNat<=191)(m:128<=d.toNat/\d.toNat<=191):Ch [a,b,c,d]:=by
 have h:=S6 a;refine⟨a,[b,c,d],Z,Ax,λj x g=>?_⟩
 match j with
 |0 =>
  cases g;refine VG ?_;by_cases e:a.toNat=240
  ·simp[e]at h;have:=i e;omega
  by_cases f:a.toNat=244
  ·simp[f]at h;have:=k f;omega
  simp[e,f]at h;omega
 |1=>cases g;exact VH Ay l
 |2=>cases g;exact VH Ay m
def GO(h:x<256):(UInt8.ofNat x).toNat=x:=by rw[JF,FC h]
def cx(r:Int):Ch (Du r):=by
 unfold Du encodeRuneZ;split
 ·exact tB AM
 split
 ·exact tC AM AM
 split
 ·exact cw AM AM B9 B9 AM
 split
 ·exact tD AM AM B9 B9 AM AM
 exact cw Ay Ay Ay Ay Ay
end
end Go.Proofs.YtnlnjkggkbbdhaaGreatDoor
