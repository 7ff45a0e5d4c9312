import Derived.Test.YtihfjkjbfaneeaaGreatDoorGq08
set_option maxRecDepth 100000
set_option maxHeartbeats 8000000
set_option linter.all false
namespace Go.Proofs.YtihfjkjbfaneeaaGreatDoor
open Go.Proofs.Tryz
open _root_ renaming Nat->I,Int->J
open Go.Value renaming int->C,slice->T
open _root_.List renaming length->O
open Go.World renaming heap->U
open _root_.Array renaming size->K
open Go.IntKind renaming i64->Y
open Go.RowKit renaming Hid->D
open Go renaming World->X
open Option renaming some->H
open Go.Obj renaming cells->M
open Go.Value renaming int->Ab,slice->Ac,string->Ae,tuple->Af,agg->Ag,bool->Ah,ownBlock->Ax
open Go.Ending renaming returned->Ak
open Option renaming none->Ao
open Go renaming DataW->AM,World->Ap,Value->Aq,Calls->Ar
open Go.Proofs.Tryz renaming prog->As
open _root_.List renaming length->At,toArray->Aw
open Go.World renaming setCell->AB,setRow->AD,heap->Av,alloc->Az
open Go.RowKit.Hid renaming out->AE
open Or renaming inl->AF,inr->AG
open _root_ renaming Nat->AH,Int->AI,List->AJ,Bool->AK,Except->AS,ByteArray->AT,UInt8->AU
open _root_.Bool renaming true->AP,false->AQ
variable{V V' W W' w w5 wr:X}{bs:A1}{d depth dp fm kd l lim n q:J}{B b g i k p v x:I}{R:AS (J×J) (I×I×I×I)}{c:AU}{kv u v':Aq}{e:Ending}{r:AS (J×J) (AM Unit×I)}{A a f y:A3}{s:AT}{o o1 o2:Obj}{t:Go.TypeId}{kl:AJ A1}{ds:AJ (AM Unit)}{xs:AJ Aq}{F:J×J}{m:AK}{rd:I->AS (J×J) (AM Unit×I)}
section
open Go.RowKit Go.Lib
theorem d9{x:J×J}(k:CU bs l i 9=x)(m:Ee R (Ak (Af #[.agg (CZ 0 0 0 AQ),.agg (Cd x)])))(b:CH bs l i=AQ\/(CH bs l i=AP/\∃c,bs[i]?=H c/\(c.toNat=193\/(199<=(c.toNat:J)/\(c.toNat:J)<=203)\/(212<=(c.toNat:J)/\(c.toNat:J)<=216)))):Ar As 167 #[.agg (Cp bs fm d l),C Y i] W λe q=>Ee R e/\A0 W q:=by
 have h:=N2 fm d k;have o:=Km W bs fm d l;have n:=G m;clear k m;unfold Cp;rcases b with f|⟨f,c,g,b|⟨y,v⟩|⟨y,v⟩⟩
 all_goals
  have j:=Gi fm d f;clear f
  try
   first
    |(have w:=Lv g b;clear b)
    |(have w:=Ej g;have z:=D7 (c:=c) 192 E;have A:=D7 (c:=c) 194 E;have B:=D7 (c:=c) 195 E;have F:=D7 (c:=c) 220 E;have L:=D7 (c:=c) 221 E;have N:=D7 (c:=c) 222 E;have P:=D7 (c:=c) 223 E)
   clear g
  go_enter func167,ntmps167
  go_wp2_with(first
   |(go_at_call 116;refine o.ck (j _) ?_;clear j;intro Q p r s c2 t)
   |(go_at_call 84;refine(h _).mono ?_;clear h r s c2 t;rintro e S ⟨rfl,u⟩;have a:=G (p.next u))
   |((with_reducible refine zH 4 rfl rfl (K (U W)+1) 0 0 0 AQ ?_ ?_);exact⟨Z,Z,a.hd⟩)
   |((with_reducible refine zF 5 _ rfl rfl (K (U W)+2) x ?_ ?_);exact⟨Z,Z,sx E a.flt⟩))
  refine Jt results167 (a.fin _ _) Z Z Z ⟨n,(a.fin _ _).2.2⟩
theorem PC(f:bs[i]?=H c)(h:CH bs l i=AP)(hb:O bs<=200000000){K N:J}(j:Ee R (Ak (Af #[.agg (CZ K N ((i:J)+1) AQ),.agg (Cd (0,0))])))(a:(((c.toNat:J)<128)/\K=3/\N=(c.toNat:J))\/((128<=(c.toNat:J)/\(c.toNat:J)<144)/\K=7/\N=(c.toNat:J)-128)\/((144<=(c.toNat:J)/\(c.toNat:J)<160)/\K=6/\N=(c.toNat:J)-144)\/((160<=(c.toNat:J)/\(c.toNat:J)<192)/\K=4/\N=(c.toNat:J)-160)\/((224<=(c.toNat:J))/\K=3/\N=(c.toNat:J)-256)\/(c.toNat=192/\K=0/\N=0)\/(c.toNat=194/\K=1/\N=0)\/(c.toNat=195/\K=2/\N=0)):Ar As 167 #[.agg (Cp bs fm d l),C Y i] W λe o=>Ee R e/\A0 W o:=by
 have B:=Dh f;have z:=c.toNat_lt;have g:=Gi fm d h;have n:=Km W bs fm d l;have m:=G j;clear h j;unfold Cp;rcases a with⟨a,rfl,rfl⟩|⟨a,rfl,rfl⟩|⟨a,rfl,rfl⟩|⟨a,rfl,rfl⟩|⟨a,rfl,rfl⟩|⟨a,rfl,rfl⟩|⟨a,rfl,rfl⟩|⟨a,rfl,rfl⟩
 all_goals
  first
   |(have k:=Lv f a;clear a)
   |(have k:=Ej f;obtain⟨F,A⟩:=a)
   |(have k:=Ej f;try(have s:=D7 (c:=c) 192 E;have t:=D7 (c:=c) 194 E;have u:=D7 (c:=c) 195 E;have v:=D7 (c:=c) 220 E;have w:=D7 (c:=c) 221 E;have x:=D7 (c:=c) 222 E;have y:=D7 (c:=c) 223 E))
  clear f;go_enter func167,ntmps167
  go_wp2_with(first
   |(go_at_call 116;refine n.ck (g _) ?_;clear g;intro L b p q c2 r)
   |((with_reducible refine zH 4 rfl rfl (_root_.Array.size (U W)+1) 3 ((c.toNat:J)) ((i:J)+1) AQ ?_ ?_);exact⟨Z,Z,b.hd⟩)
   |((with_reducible refine zH 4 rfl rfl (_root_.Array.size (U W)+1) 7 ((c.toNat:J)-128) ((i:J)+1) AQ ?_ ?_);exact⟨Z,Z,b.hd⟩)
   |((with_reducible refine zH 4 rfl rfl (_root_.Array.size (U W)+1) 6 ((c.toNat:J)-144) ((i:J)+1) AQ ?_ ?_);exact⟨Z,Z,b.hd⟩)
   |((with_reducible refine zH 4 rfl rfl (_root_.Array.size (U W)+1) 4 ((c.toNat:J)-160) ((i:J)+1) AQ ?_ ?_);exact⟨Z,Z,b.hd⟩)
   |((with_reducible refine zH 4 rfl rfl (_root_.Array.size (U W)+1) 3 ((c.toNat:J)-256) ((i:J)+1) AQ ?_ ?_);exact⟨Z,Z,b.hd⟩)
   |((with_reducible refine zH 4 rfl rfl (_root_.Array.size (U W)+1) 0 (0) ((i:J)+1) AQ ?_ ?_);exact⟨Z,Z,b.hd⟩)
   |((with_reducible refine zH 4 rfl rfl (_root_.Array.size (U W)+1) 1 (0) ((i:J)+1) AQ ?_ ?_);exact⟨Z,Z,b.hd⟩)
   |((with_reducible refine zH 4 rfl rfl (_root_.Array.size (U W)+1) 2 (0) ((i:J)+1) AQ ?_ ?_);exact⟨Z,Z,b.hd⟩)
   |((with_reducible refine zF 5 _ rfl rfl (_root_.Array.size (U W)+2) (0,0) ?_ ?_);exact⟨Z,Z,sx E b.flt⟩))
  refine Jt results167 (b.fin _ _) Z Z Z ⟨m,(b.fin _ _).2.2⟩
theorem rv(z:bs[i]?=H c)(w:CH bs l i=AP)(_hb:O bs<=200000000){k:J}(A:c.toNat=v)(B:(v,kd,k)∈([(196,5,1),(197,5,2),(198,5,4),(204,3,1),(205,3,2),(206,3,4),(207,3,8),(217,4,1),(218,4,2),(219,4,4)]:AJ (I×J×J)))(P:∀V,Ar As 192 #[.agg (Cp bs fm d l),C Y i,C Y kd,C Y k] V λe p=>Ee R e/\A0 V p):Ar As 167 #[.agg (Cp bs fm d l),C Y i] W λe p=>Ee R e/\A0 W p:=by
 have ac:=Lv z A;have u:=Gi fm d w;have N:=Km W bs fm d l;clear w z A;unfold Cp at *;simp only[If,LX,LT,LY]at B;rcases B with h|h|h|h|h|h|h|h|h|h
 all_goals
  obtain⟨rfl,rfl,rfl⟩:=h
 let vi:J:=196;let s:J:=0;let k:J:=1;let b:I:=83;rotate_left
 let vi:J:=197;let s:J:=1;let k:J:=2;let b:I:=83;rotate_left
 let vi:J:=198;let s:J:=2;let k:J:=4;let b:I:=83;rotate_left
 let vi:J:=204;let s:J:=0;let k:J:=1;let b:I:=98;rotate_left
 let vi:J:=205;let s:J:=1;let k:J:=2;let b:I:=98;rotate_left
 let vi:J:=206;let s:J:=2;let k:J:=4;let b:I:=98;rotate_left
 let vi:J:=207;let s:J:=3;let k:J:=8;let b:I:=98;rotate_left
 let vi:J:=217;let s:J:=0;let k:J:=1;let b:I:=138;rotate_left
 let vi:J:=218;let s:J:=1;let k:J:=2;let b:I:=138;rotate_left
 let vi:J:=219;let s:J:=2;let k:J:=4;let b:I:=138;rotate_left
 all_goals
  go_enter func167,ntmps167
  go_wp2_with(first
   |(go_at_call 116;refine N.ck (u _) ?_;clear u;intro w2 r c0 c1 c2 c3))
  refine Dl (S:=λt=>A7 t (K (U W)) (Cp bs fm d l) 115) (r.drew.box) B6 ?_;intro j;refine tk 0 b (Ag #[Ae ⟨Aw bs⟩,C Y fm,C Y d,C Y l]) Z B6 Gb (λt hZ=>yI 2 hZ Z Z) j ?_;refine Ob 1 (dst:=(b+1)) (v:=(C Y i)) B6 Gb j ?_;refine Ob 2 (dst:=(b+2)) (v:=(C Y vi)) B6 Gb j ?_;refine Ob 3 (dst:=(b+3)) (v:=(C Y s)) B6 Gb j ?_;refine Ob 4 (dst:=(b+4)) (v:=(C Y k)) B6 Gb j ?_;refine CC 5 (λab x=>?_);go_simp;refine(P _).mono ?_;rintro e w9 ⟨⟨a,n,q,o,F,rfl,aa⟩,Q⟩;simp only[];have f:=G (r.drew.next Q);have L:=G (show Ee R (Ak (Af #[.agg (CZ a n q o),.agg (Cd F)]))from⟨a,n,q,o,F,Z,aa⟩);have m:=f.box;refine x.out _ _ m (λ_=>?_);clear x;refine Ob 6 (dst:=(b+6)) (v:=(.agg (CZ a n q o))) B6 Gb m ?_;refine Ob 7 (dst:=(b+7)) (v:=(.agg (Cd F))) B6 Gb m ?_;have y:=(Dg _ (K (U W)+1) (K (U W)) (CZ a n q o) E).trans m;refine sH 8 4 (b+6) (g:=(K (U W)+1)) (k:=a) (n:=n) (q:=q) (b:=o) B6 (f.hd) (y) ?_;refine sF 9 5 (b+7) (g:=(K (U W)+2)) (F:=F) B6 (sx E f.flt) (sx E y) ?_;refine CG ?_;dsimp only[b];go_simp;go_wp2;refine Jt results167 (f.fin _ _) Z Z Z ⟨L,(f.fin _ _).2.2⟩
theorem rz(r:bs[i]?=H c)(m:CH bs l i=AP)(_hb:O bs<=200000000){k:J}(s:c.toNat=v)(t:(v,kd,k)∈([(220,6,2),(221,6,4),(222,7,2),(223,7,4)]:AJ (I×J×J)))(j:∀V,Ar As 192 #[.agg (Cp bs fm d l),C Y i,C Y kd,C Y k] V λe f=>Ee R e/\A0 V f):Ar As 167 #[.agg (Cp bs fm d l),C Y i] W λe f=>Ee R e/\A0 W f:=by
 have L:=Lv r s;have g:=Gi fm d m;have w:=Km W bs fm d l;clear m r s;unfold Cp at *;simp only[If,LX,LT,LY]at t;rcases t with h|h|h|h
 all_goals
  obtain⟨rfl,rfl,rfl⟩:=h;go_enter func167,ntmps167
  go_wp2_with(first
   |(go_at_call 116;refine w.ck (g _) ?_;clear g;intro N x y z c2 A)
   |(go_at_call 192;refine(j _).mono ?_;clear j y z c2 A;rintro e P ⟨⟨a,n,q,o,F,rfl,p⟩,B⟩;have b:=G (x.next B);have u:=G (show Ee R (Ak (Af #[.agg (CZ a n q o),.agg (Cd F)]))from⟨a,n,q,o,F,Z,p⟩);clear p)
   |((with_reducible refine zH 4 rfl rfl (K (U W)+1) a n q o ?_ ?_);exact⟨Z,Z,b.hd⟩)
   |((with_reducible refine zF 5 _ rfl rfl (K (U W)+2) F ?_ ?_);exact⟨Z,Z,sx E b.flt⟩))
  refine Jt results167 (b.fin _ _) Z Z Z ⟨u,(b.fin _ _).2.2⟩
theorem rA(A:bs[i]?=H c)(P:CH bs l i=AP)(_hb:O bs<=200000000){k:J}(hv:c.toNat=v)(hw:(v,k)∈([(208,1),(209,2),(210,4),(211,8)]:AJ (I×J)))(hx:(CH bs l (i+1)=AQ/\Ee R (Ak (Af #[.agg (CZ 0 0 0 AQ),.agg (Cd (CU bs l (i+1) 9))])))\/(CH bs l (i+1)=AP/\∀V,Ar As 193 #[.agg (Cp bs fm d l),C Y i,C Y k] V λe b=>Ee R e/\A0 V b)):Ar As 167 #[.agg (Cp bs fm d l),C Y i] W λe b=>Ee R e/\A0 W b:=by
 have ag:=Lv A hv;have af:=Dh A;have N:=Gi fm d P;have HX:=Km W bs fm d l;have hh:(∀V,Ar As 116 #[Ag #[Ae ⟨Aw bs⟩,C Y fm,C Y d,C Y l],C Y ((i:J)+1)] V λe b=>e=Ak (Ah AQ)/\A0 V b)/\(∀V,Ar As 84 #[Ag #[Ae ⟨Aw bs⟩,C Y fm,C Y d,C Y l],C Y ((i:J)+1),C Y 9] V λe b=>e=Ak (.agg (Cd (CU bs l (i+1) 9)))/\A0 V b)/\D (Ee R (Ak (Af #[.agg (CZ 0 0 0 AQ),.agg (Cd (CU bs l (i+1) 9))])))\/(∀V,Ar As 116 #[Ag #[Ae ⟨Aw bs⟩,C Y fm,C Y d,C Y l],C Y ((i:J)+1)] V λe b=>e=Ak (Ah AP)/\A0 V b)/\(∀V,Ar As 193 #[.agg (Cp bs fm d l),C Y i,C Y k] V λe b=>Ee R e/\A0 V b) :=
  hx.imp (λh=>⟨λV=>Gi fm d h.1 V,λV=>Lt V bs fm d l (i+1) 9,h.2⟩) (λh=>⟨λV=>Gi fm d h.1 V,h.2⟩)
 generalize CU bs l (i+1) 9=x at hh;clear P A hv hx;unfold Cp at *;simp only[If,LX,LT,LY]at hw;rcases hw with h|h|h|h
 all_goals
  obtain⟨rfl,rfl⟩:=h
 let vi:J:=208;let s:J:=0;let k:J:=1;rotate_left
 let vi:J:=209;let s:J:=1;let k:J:=2;rotate_left
 let vi:J:=210;let s:J:=2;let k:J:=4;rotate_left
 let vi:J:=211;let s:J:=3;let k:J:=8;rotate_left
 all_goals
  rcases hh with⟨z,L,w⟩|⟨z,cP⟩
 all_goals
  go_enter func167,ntmps167
  go_wp2_with(first
   |(go_at_call 116;refine HX.ck (N _) ?_;clear N;intro w2 ab p r c2 t)
   |(go_at_call 116;refine ab.ck (z _) ?_;clear z p r c2 t;intro w4 y p r c2 t)
   |(go_at_call 84;refine y.ck (L _) ?_;clear L p r c2 t;intro w3 m p r c2 t)
   |((with_reducible refine zH 4 rfl rfl (K (U W)+1) 0 0 0 AQ ?_ ?_);exact⟨Z,Z,m.hd⟩)
   |((with_reducible refine zF 5 _ rfl rfl (K (U W)+2) x ?_ ?_);exact⟨Z,Z,sx E m.flt⟩))
  try refine Jt results167 (m.fin _ _) rfl rfl rfl ⟨w,(m.fin _ _).2.2⟩
 all_goals
  refine Dl (S:=λB=>A7 B (K (U W)) (Cp bs fm d l) 115) (y.drew.box) B6 ?_;intro j;refine Cf 0 123 (Ag #[Ae ⟨Aw bs⟩,C Y fm,C Y d,C Y l]) Z (λB hZ=>yI 2 hZ Z Z) j ?_;refine Ca 1 124 (C Y i) j ?_;refine Ca 2 125 (C Y vi) j ?_;refine Ca 3 126 (C Y s) j ?_;refine Ca 4 127 (C Y k) j ?_;refine CC 5 (λae Q=>?_);go_simp;refine(cP _).mono ?_;rintro e w9 ⟨⟨a,n,q,o,F,rfl,ad⟩,ac⟩;simp only[];have f:=G (y.drew.next ac);have w:=G (show Ee R (Ak (Af #[.agg (CZ a n q o),.agg (Cd F)]))from⟨a,n,q,o,F,Z,ad⟩);have u:=f.box;refine Q.out _ _ u (λ_=>?_);clear Q;refine Ca 6 129 (.agg (CZ a n q o)) u ?_;refine Ca 7 130 (.agg (Cd F)) u ?_;have aa:=(Dg _ (K (U W)+1) (K (U W)) (CZ a n q o) E).trans u;refine sH 8 4 129 B6 (f.hd) (aa) ?_;refine sF 9 5 130 (g:=(K (U W)+2)) (F:=F) B6 (sx E f.flt) (sx E aa) ?_;refine CG ?_;go_simp;go_wp2;refine Jt results167 (f.fin _ _) Z Z Z ⟨w,(f.fin _ _).2.2⟩
theorem rB:(List.range 256).all (λc=>_root_.Decidable.decide ((c/32=7->(c%32<20\/22<c%32)->(E2 c).1=0)/\(c/32=6->(E2 c).1=0)/\(c/32<6->27<c%32->(E2 c).1=0)/\(c/32<6->c%32<24->E2 c=(FK (c/32),0,c%32))/\(c/32<6->24<=c%32->c%32<=27->E2 c=(FK (c/32),2^(c%32-24),0))))=AP:=B6
theorem rC:(c.toNat/32=7->(c.toNat%32<20\/22<c.toNat%32)->(E2 c.toNat).1=0)/\(c.toNat/32=6->(E2 c.toNat).1=0)/\(c.toNat/32<6->27<c.toNat%32->(E2 c.toNat).1=0)/\(c.toNat/32<6->c.toNat%32<24->E2 c.toNat=(FK (c.toNat/32),0,c.toNat%32))/\(c.toNat/32<6->24<=c.toNat%32->c.toNat%32<=27->E2 c.toNat=(FK (c.toNat/32),2^(c.toNat%32-24),0)):=Dk (GN.1 rB c.toNat (Hn.2 c.toNat_lt))
theorem rD:(List.range 6).all (λu=>_root_.Decidable.decide (¬FK u=0/\L3 u=IP (FK u)/\¬FK u=5/\(FK u=6↔u=1)))=AP:=B6
theorem SY{u:I}(h:u<6):¬FK u=0/\L3 u=IP (FK u)/\¬FK u=5/\(FK u=6↔u=1):=Dk (GN.1 rD u (Hn.2 h))
theorem da{u w:I}(h:u<6)(a:u=1):nR (FK u) w x = -1-min (x:J) 9223372036854775807:=by grind [nR,SY]
theorem de{u w:I}(h:u<6)(a:¬u=1):nR (FK u) w x=min (x:J) 9223372036854775807:=by grind [nR,SY]
theorem Ws{u:I}(h:u<6):I2 (FK u) x=_root_.Decidable.decide (9223372036854775807<x):=by grind [I2,SY]
theorem SZ(c:I):DI 3 c=Dy c:=rfl
theorem df(fm:J)(hl:Lm bs l lim)(hi:Ct bs lim i):(CH bs l i=AQ/\Ea fm bs lim i=.error (CU bs l i 9))\/(CH bs l i=AP/\∃c,bs[i]?=H c/\¬(i:J)=lim/\Ct bs lim (i+1)/\CU bs l i 9=(9,(i:J))):=by
 rcases hc:bs[i]? with _|c
 .exact AF ⟨Hs hc,by unfold Ea;rw[hc,It hi.1 hc 9]⟩
 grind [GW,Ea,FY,IM,Ed,Ht]
theorem rE(W:X)(fm d:J)(hl:Lm bs l lim)(hi:Ct bs lim i)(hb:O bs<=200000000):Ar As 166 #[.agg (Cp bs fm d l),C Y i] W λe s=>Ee (Ea 2 bs lim i) e/\A0 W s:=by
 rcases df 2 hl hi with⟨b,u⟩|⟨b,c,a,j,p,v⟩
 .exact cx Z (Nj u) (AF b)
 have P:=c.toNat_lt;obtain⟨y,z,A,B,L⟩:=rC;by_cases m:(E2 c.toNat).1=0/\((c.toNat/32=7/\(c.toNat%32<20\/22<c.toNat%32))\/c.toNat/32=6\/(c.toNat/32<6/\27<c.toNat%32))
 .exact cx v (Nj (Wr (fm:=2) a j m.1)) (AG ⟨b,c,a,m.2⟩)
 have m:=λh=>m ⟨h.elim (λh=>y h.1 h.2) (λh=>h.elim z (λh=>A h.1 h.2)),h⟩;by_cases Q:c.toNat/32=7
 .have f:c.toNat=244\/c.toNat=245\/c.toNat=246:=E;rcases f with f|f|f
  .exact QW (c:=c) a b hb (K:=1) (N:=0) (Mh (PB a j keX B8) Z Z E Z) ⟨_,_,Z,Z,E⟩
  .exact QW a b hb (K:=2) (N:=0) (Mh (PB a j keX B8) Z Z E Z) ⟨_,_,Z,Z,E⟩
  exact QW a b hb (K:=0) (N:=0) (Mh (PB a j keX B8) Z Z E Z) ⟨_,_,Z,Z,E⟩
 have g:c.toNat/32<6:=E;have k:=SY g;by_cases n:c.toNat%32<24
 .have q:=PB (fm:=2) a j (B g n) k.1;by_cases o:c.toNat/32=1
  .exact QW a b hb (Mh q k.2.1 (by grind [da]) E (by grind [Ws])) ⟨_,_,Z,Z,AG (AG (AG (AF ⟨g,n,o,Z,Z⟩)))⟩
  exact QW a b hb (Mh q k.2.1 (by grind [de]) E (by grind [Ws])) ⟨_,_,Z,Z,AG (AG (AG (AG ⟨g,n,o,Z,Z⟩)))⟩
 have f:c.toNat%32=24\/c.toNat%32=25\/c.toNat%32=26\/c.toNat%32=27:=E;have w:=L g E E;refine ro W a b _ (λx=>if c.toNat/32=1 then -1-x else x) Z g Z hl p hb ?_ ?_ λR S F t=>cu (fm:=2) a j p w k.1 t k.2.1 Z (λx r=>?_) (λx r=>by rw[Ws g,r])<;>grind [da,de]
theorem Wt:∀(k p a:I),CR bs lim k p a=match CR bs lim k p 0 with
  |.error f=>.error f
  |.ok (y,q)=>.ok (a*256^k+y,q)
 |0,p,a=>keI
 |k+1,p,a=>by
  rw[CR,CR];rcases hc:bs[p]? with _|c
  .rfl
  simp only[];by_cases b:(p:J)=lim
  .rw[Cn b,Cn b]
  rw[Ci b,Ci b,Wt k _ _,Wt k _ (0*256+c.toNat)];obtain f|y:=CR bs lim k (p+1) 0
  .rfl
  obtain⟨y,q⟩:=y;simp only[];congr 2;rw[S2,Gw,UT,Nat.add_mul,Nat.mul_assoc,UU _ (256^k)];omega
theorem rG(x:I):Gf x (1:I)=((x:J)+128)%256-128:=by unfold Gf;rw[Cn B8];have e:IntKind.i8.wrap x=(x+128)%256-128:=Bi;grind [wrap64]
theorem rH(x:I):Gf x (2:I)=((x:J)+32768)%65536-32768:=by unfold Gf;rw[Ci B8,Cn B8];have e:IntKind.i16.wrap x=(x+32768)%65536-32768:=Bi;grind [wrap64]
theorem rI(x:I):Gf x (4:I)=((x:J)+2147483648)%4294967296-2147483648:=by grind [Gf,wrap64,wrap32]
theorem rJ(x:I):Gf x (8:I)=wrap64 x:=by grind [Gf]
theorem rK(x:I):Gf x (0:I)=wrap64 x:=by grind [Gf]
theorem rL(c:AU)(k y:I)(b:k=1\/k=2\/k=4\/k=8)(hy:y<256^(k-1)):Gf (c.toNat*256^(k-1)+y) k=JX c*256^(k-1)+y:=by have a:=c.toNat_lt;grind [rG,JX,rH,rI,rJ,wrap64]
theorem rM{c1:AU}(m:bs[i]?=H c)(u:¬(i:J)=lim)(r:bs[i+1]?=H c1)(v:¬((i+1:I):J)=lim)(s:Dy c.toNat=(5,k,0))(t:k=1\/k=2\/k=4\/k=8)(hi:Ct bs lim (i+2))(g:SX (CR bs lim (k-1) (i+2) 0) c1 i k e):Ee (Ea 3 bs lim i) e:=by
 obtain⟨a,n,q,o,F,rfl,d,l⟩:=g;have j:k=(k-1)+1:=E;have b:CR bs lim k (i+1) 0=match CR bs lim (k-1) (i+2) 0 with
  |.error f=>.error f
  |.ok (y,q)=>.ok (c1.toNat*256^(k-1)+y,q):=by
  grind [CR,Wt]
 have e:Ea 3 bs lim i=match CR bs lim k (i+1) 0 with
  |.error f=>.error f
  |.ok (x,q)=>.ok (5,k,x,q):=by
  grind [Ea,SZ]
 rw[b]at e;rcases hr:CR bs lim (k-1) (i+2) 0 with f|z
 .grind [Nj]
 obtain⟨y,p⟩:=z;rw[hr]at e;obtain⟨rfl,rfl,rfl,rfl,rfl⟩:=d y p hr;have w:=(PA _ _ 0 y p hi hr).1;have h:=QG _ _ _ _ _ hr;rw[Gw,Nat.one_mul]at h;refine Mh e Z ?_ E Z;grind [nR,rL]
theorem rN(W:X)(fm d:J)(hl:Lm bs l lim)(hi:Ct bs lim i)(hb:O bs<=200000000):Ar As 167 #[.agg (Cp bs fm d l),C Y i] W λe q=>Ee (Ea 3 bs lim i) e/\A0 W q:=by
 rcases df 3 hl hi with⟨n,hR⟩|⟨n,c,j,z,L,aa⟩
 .exact d9 Z (Nj hR) (AF n)
 have ae:=c.toNat_lt;have s:∀b x:I,Dy _=(b,0,x)->x<9223372036854775808->¬b=0/\¬b=5/\¬b=6->Ee (Ea 3 bs lim i) (Ak (Af #[.agg (CZ _ x (i+1) AQ),.agg _])):=λb x g o ⟨u,h5,h6⟩=>Mh (PB j z g u) Z (by grind [nR]) E (by grind [I2]);by_cases t:c.toNat<128
 .have h:=s 4 _ (by unfold Dy;rw[Cn t]) E B8;exact PC j n hb h (AF ⟨E,Z,Z⟩)
 by_cases A:c.toNat<144
 .have h:=s 10 _ (by unfold Dy;rw[Ci t,Cn A]) E B8;rw[show(c.toNat-128:I)=(c.toNat:J)-128 by omega]at h;exact PC j n hb h (AG (AF ⟨⟨E,E⟩,Z,Z⟩))
 by_cases Q:c.toNat<160
 .have h:=s 9 _ (by unfold Dy;rw[Ci t,Ci A,Cn Q]) E B8;rw[show(c.toNat-144:I)=(c.toNat:J)-144 by omega]at h;exact PC j n hb h (AG (AG (AF ⟨⟨E,E⟩,Z,Z⟩)))
 by_cases a4:c.toNat<192
 .have h:=s 8 _ (by unfold Dy;rw[Ci t,Ci A,Ci Q,Cn a4]) E B8;rw[show(c.toNat-160:I)=(c.toNat:J)-160 by omega]at h;exact PC j n hb h (AG (AG (AG (AF ⟨⟨E,E⟩,Z,Z⟩))))
 by_cases a5:224<=c.toNat
 .have he:Dy c.toNat=(5,0,18446744073709551360+c.toNat):=by grind [Dy]
  exact PC j n hb (Mh (PB j z he B8) Z (by grind [nR,rK,wrap64]) E Z) (AG (AG (AG (AG (AF ⟨E,Z,Z⟩)))))
 have o:∀v:I,c.toNat=v->(Dy v).1=0->(c.toNat=193\/(199<=(c.toNat:J)/\(c.toNat:J)<=203)\/(212<=(c.toNat:J)/\(c.toNat:J)<=216))->Ar _ _ #[.agg (Cp bs fm d l),.int _ i] W _:=λv a g F=>d9 aa (Nj (Wr j z (by rw[SZ,a];exact g))) (AG ⟨n,c,j,F⟩);have R:∀(v b k:I) (m:J),c.toNat=v->Dy v=(b,k,0)/\k<=8/\m=IP b/\¬b=0/\¬b=5/\¬b=6->∀V,Ar _ _ #[.agg (Cp bs fm d l),.int _ i,.int _ m,.int _ k] V λe q=>Ee (Ea 3 bs lim i) e/\A0 V q:=λv b k m a ⟨g,h8,af,u,h5,h6⟩ V=>(rl h8 hl L hb).mono λe q h=>by obtain⟨⟨nv,ov,ad,rfl,hB⟩,h2⟩:=h;grind [cu,SZ,nR,I2]
 have ac:∀(v k:I),c.toNat=v->Dy v=(5,k,0)->(k=1\/k=2\/k=4\/k=8)->(CH bs l (i+1)=AQ/\Ee (Ea 3 bs lim i) (Ak (Af #[.agg (CZ 0 0 0 AQ),.agg (Cd (CU bs l (i+1) 9))])))\/(CH bs l (i+1)=AP/\∀V,Ar As 193 #[.agg (Cp bs fm d l),C Y i,C Y k] V λe q=>Ee (Ea 3 bs lim i) e/\A0 V q):=λv k a g B=>by
  have ab:Dy c.toNat=(5,k,0):=by rw[a];exact g
  have e:∀f,CR bs lim k (i+1) 0=.error f->Ea 3 bs lim i=.error f:=λf hf=>by grind [Ea,SZ]
  have ek:k=(k-1)+1:=E;rcases hc1:bs[i+1]? with _|c1
  .grind [Hs,Nj,CR,It]
  by_cases P:((i+1:I):J)=lim
  .grind [GW,Nj,CR,FY]
  have S:=Ed L hc1 P;exact AG ⟨IM hl L hc1 P,λV=>(ru E E hl hb S hc1).mono λe' q h=>⟨rM j z hc1 P ab B S h.1,h.2⟩⟩
 have p:∀(v b k:I) (m:J),c.toNat=v->(v,m,(k:J))∈([(196,5,1),(197,5,2),(198,5,4),(204,3,1),(205,3,2),(206,3,4),(207,3,8),(217,4,1),(218,4,2),(219,4,4)])/\Dy v=(b,k,0)/\k<=8/\m=IP b/\¬b=0/\¬b=5/\¬b=6->Ar _ _ _ W _:=λv b k m a ⟨r,g⟩=>rv j n hb a r (R v b k m a g);have y:∀(v b k:I) (m:J),c.toNat=v->(v,m,(k:J))∈([(220,6,2),(221,6,4),(222,7,2),(223,7,4)])/\Dy v=(b,k,0)/\k<=8/\m=IP b/\¬b=0/\¬b=5/\¬b=6->Ar _ _ _ W _:=λv b k m a ⟨r,g⟩=>rz j n hb a r (R v b k m a g);have w:∀v (k:I),c.toNat=v->(v,(k:J))∈([(208,1),(209,2),(210,4),(211,8)])/\Dy v=(5,k,0)/\(k=1\/k=2\/k=4\/k=8)->Ar _ _ _ W _:=λv k a ⟨r,g,B⟩=>rA j n hb a r (ac v k a g B);have N:∀v b:I,c.toNat=v->Dy v=(b,0,0)/\(¬b=0/\¬b=5/\¬b=6)/\((v=192/\IP b=0)\/(v=194/\IP b=1)\/(v=195/\IP b=2))->Ar _ _ #[.agg (Cp bs fm d l),.int _ i] W _:=λv b a ⟨g,u,F⟩=>PC j n hb (s b 0 (by rw[a];exact g) B8 u) (AG (AG (AG (AG (AG E)))));have a:c.toNat=192\/c.toNat=193\/c.toNat=194\/c.toNat=195\/c.toNat=196\/c.toNat=197\/c.toNat=198\/c.toNat=199\/c.toNat=200\/c.toNat=201\/c.toNat=202\/c.toNat=203\/c.toNat=204\/c.toNat=205\/c.toNat=206\/c.toNat=207\/c.toNat=208\/c.toNat=209\/c.toNat=210\/c.toNat=211\/c.toNat=212\/c.toNat=213\/c.toNat=214\/c.toNat=215\/c.toNat=216\/c.toNat=217\/c.toNat=218\/c.toNat=219\/c.toNat=220\/c.toNat=221\/c.toNat=222\/c.toNat=223:=E;rcases a with a|a|a|a|a|a|a|a|a|a|a|a|a|a|a|a|a|a|a|a|a|a|a|a|a|a|a|a|a|a|a|a
 .exact N _ 1 a B8
 .exact o _ a Z E
 .exact N _ 2 a B8
 .exact N _ 3 a B8
 .exact p _ 7 1 5 a B8
 .exact p _ 7 2 5 a B8
 .exact p _ 7 4 5 a B8
 .exact o _ a Z E
 .exact o _ a Z E
 .exact o _ a Z E
 .exact o _ a Z E
 .exact o _ a Z E
 .exact p _ 4 1 3 a B8
 .exact p _ 4 2 3 a B8
 .exact p _ 4 4 3 a B8
 .exact p _ 4 8 3 a B8
 .exact w _ 1 a B8
 .exact w _ 2 a B8
 .exact w _ 4 a B8
 .exact w _ 8 a B8
 .exact o _ a Z E
 .exact o _ a Z E
 .exact o _ a Z E
 .exact o _ a Z E
 .exact o _ a Z E
 .exact p _ 8 1 4 a B8
 .exact p _ 8 2 4 a B8
 .exact p _ 8 4 4 a B8
 .exact y _ 9 2 6 a B8
 .exact y _ 9 4 6 a B8
 .exact y _ 10 2 7 a B8
 exact y _ 10 4 7 a B8
theorem dg(d:J)(hl:Lm bs l lim)(hi:Ct bs lim i)(hb:O bs<=200000000)(p:fm=2\/fm=3):Ar As 132 #[.agg (Cp bs fm d l),C Y i] W λe k=>Ee (Ea fm bs lim i) e/\A0 W k:=by
 have j:=Km W bs fm d l;rcases p with rfl|rfl;have c:=λV=>rE V 2 d hl hi hb;rotate_left
 have c:=λV=>rN V 3 d hl hi hb;rotate_left
 all_goals
  clear hl hi hb;unfold Cp at *;go_enter func132,ntmps132
  go_wp2_with fail
  apply (c _).mono;rintro e r ⟨⟨a,n,q,o,F,rfl,f,g⟩,m⟩;have b:=G (j.next m);have h:=G (⟨a,n,q,o,F,Z,f,g⟩:Ee _ _);clear f g c;simp only[]
  go_wp2_with(first
   |((with_reducible refine zH 4 rfl rfl (K (U W)+1) a n q o ?_ ?_);exact⟨Z,Z,b.hd⟩)
   |((with_reducible refine zF 5 _ rfl rfl (K (U W)+2) F ?_ ?_);exact⟨Z,Z,sx E b.flt⟩))
  refine Jt results132 (b.fin _ _) Z Z Z ⟨h,(b.fin _ _).2.2⟩
theorem sD(W:X)(fm d:J)(b:n=min (x:J) 9223372036854775807)(hl:Lm bs l lim)(hi:Ct bs lim i)(hb:O bs<=200000000):Ar As 133 #[.agg (Cp bs fm d l),C Y i,C Y n,Ah AQ] W λe a=>Ng (EJ bs lim x i []) e/\A0 W a:=dh b hl hi hb
theorem dz(W:X)(fm d:J)(b:n=min (x:J) 9223372036854775807)(hl:Lm bs l lim)(hi:Ct bs lim i)(hb:O bs<=200000000):Ar As 133 #[.agg (Cp bs fm d l),C Y i,C Y n,Ah AP] W λe a=>Ng (Dm bs lim x i [] 0) e/\A0 W a:=dh b hl hi hb
theorem dA:∀(k p:I) (a l:A1) (q:I),Ct bs lim p->EJ bs lim k p a=.ok (l,q)->Ct bs lim q/\p<=q
 |0,p,a,l,q,hi,h=>by grind [EJ]
 |k+1,p,a,l,q,hi,h=>by
  rw[EJ]at h;rcases hc:bs[p]? with _|c
  .rw[hc]at h;cases h
  rw[hc]at h;simp only[]at h;by_cases b:(p:J)=lim
  .grind
  rw[Ci b]at h;have:=dA k _ _ l q (Ed hi hc b) h;grind
theorem Wx:∀(k p:I) (a:A1) (b:I) (l:A1) (q:I),Ct bs lim p->Dm bs lim k p a b=.ok (l,q)->Ct bs lim q/\p<=q
 |0,p,a,b,l,q,hi,h=>kfc
 |k+1,p,a,b,l,q,hi,h=>by
  rw[Dm]at h;rcases hc:bs[p]? with _|c
  .rw[hc]at h;cases h
  rw[hc]at h;simp only[]at h;by_cases d:(p:J)=lim
  .grind
  rw[Ci d]at h;split at h
  .cases h
  have:=Wx k _ _ _ l q (Ed hi hc d) h;grind
def J4(k:AH)(bs:A1)(lim:AI)(W:Ap)(r:AS (AI×AI) (AM Unit×AH))(e:Ending)(W':Ap):Prop :=
 A0 W W'/\match r with
 |.ok (d,q)=>Ct bs lim q/\∃kd n s a i j b p m,e=Ak (Af #[.agg (Ce kd n s (Ac a i j) (Ac b p m)),Ab .i64 q,.agg (Cd (0,0))])/\CP k W' (λj=>_root_.Array.size (Av W)<=j/\j<_root_.Array.size (Av W')) (.agg (Ce kd n s (Ac a i j) (Ac b p m))) d
 |.error f=>∃kd n s a i j b p m z,e=Ak (Af #[.agg (Ce kd n s (Ac a i j) (Ac b p m)),Ab .i64 z,.agg (Cd f)])
theorem Wy(h:J4 k bs lim W r e W'):F5 k bs lim W r e W':=⟨h.1,r,AF rfl,h.2⟩
structure EK(W:World)(A H y:A3)(V:World):Prop where
 box:V.heap[W.heap.size]?=some (.cells A 115)
 hd:V.heap[W.heap.size+1]?=some (.cells H 237)
 th:V.heap[W.heap.size+2]?=some (.cells Cr 101)
 flt:V.heap[W.heap.size+3]?=some (.cells (Cd (0,0)) 103)
 tv:V.heap[W.heap.size+4]?=some (.cells y 101)
 below:A0 W V
theorem EK.keep{H:A3}(h:EK W A H y V)(hb:A0 W V')(a:∀j,K (U W)<=j->j<K (U W)+5->V'.heap[j]?=V.heap[j]?):EK W A H y V' :=
 ⟨(a _ E E).trans h.box,(a _ E E).trans h.hd,(a _ E E).trans h.th,(a _ E E).trans h.flt,(a _ E E).trans h.tv,hb⟩
theorem EK.size{H:A3}(h:EK W A H y V):K (U W)+5<=K (U V):=Cc h.tv
theorem EK.next{H:A3}(h:EK W A H y V)(hb:A0 V V'):EK W A H y V':=h.keep (h.below.trans (hb.mono h.below.size)) (λj _ a=>hb.block j Bm)
theorem EK.drew{H:A3}(h:EK W A H y V):EK W A H y V.drew:=⟨h.box,h.hd,h.th,h.flt,h.tv,h.below.drew⟩
theorem dB(W:X){H:A3}:EK W A H Cr (Az (Az (Az (Az (Az W (M A 115)) (M H 237)) (M Cr 101)) (M (Cd (0,0)) 103)) (M Cr 101)):=by have f:=Cj W (o:=(M A 115));have b:=Cj (Az W (M A 115)) (o:=(M H 237));have c:=Cj (Az (Az W (M A 115)) (M H 237)) (o:=(M Cr 101));have d:=Cj (Az (Az (Az W (M A 115)) (M H 237)) (M Cr 101)) (o:=(M (Cd (0,0)) 103));have a:=Cj (Az (Az (Az (Az W (M A 115)) (M H 237)) (M Cr 101)) (M (Cd (0,0)) 103)) (o:=(M Cr 101));simp only[CI,A0]at b c d a;have e:Below _ W (Az (Az (Az (Az (Az W (M A 115)) (M H 237)) (M Cr 101)) (M (Cd (0,0)) 103)) (M Cr 101)):=((((Cl).alloc B9 _).alloc B9 _).alloc B9 _).alloc B9 _;refine⟨?_,?_,?_,?_,a,e⟩<;>grind [Below.heap_alloc]
theorem EK.row{H:A3}(h:EK W A H y V)(z:A3):EK W A H z (AD V (K (U W)+4) z) :=
 ⟨sx E h.box,sx E h.hd,sx E h.th,sx E h.flt,CM _ _ _ _ _ _ h.tv,Dj h.below E⟩
theorem EK.else{H:A3}(h:EK W A H y V)(j:I)(b:K (U W)+5<=j)(z:A3):EK W A H y (AD V j z) :=
 h.keep (Dj h.below E) (λi _ a=>Dg _ _ _ _ E)
theorem EK.cell{H:A3}{kx ux:Aq}(h:EK W A H (Ce kd n s kx ux) V)(b:Aq):EK W A H (Ce kd n s b ux) (AB V ⟨K (U W)+4,3,Ao⟩ b)/\EK W A H (Ce kd n s kx b) (AB V ⟨K (U W)+4,4,Ao⟩ b):=by
 have a:∀i j,j≠K (U W)+4->(AB V ⟨_,i,Ao⟩ b).heap[j]?=V.heap[j]?:=λi j c=>CY V _ _ _ BP;have d:∀i,Below _ W (AB V _ b):=λi=>h.below.trans ⟨Z,Z,Z,Bd,λj c=>a i j E⟩;refine⟨⟨(a _ _ E).trans h.box,(a _ _ E).trans h.hd,(a _ _ E).trans h.th,(a _ _ E).trans h.flt,?_,d 3⟩,⟨(a _ _ E).trans h.box,(a _ _ E).trans h.hd,(a _ _ E).trans h.th,(a _ _ E).trans h.flt,?_,d 4⟩⟩
 .rw[DQ _ _ _ _ _ _ h.tv];rfl
 rw[DQ _ _ _ _ _ _ h.tv];rfl
theorem EK.grow{H:A3}{x:Option I}(h:EK W A H y V)(hx:∀g,x=some g->K (U W)+5<=g)(a:(Az V o).grownBy w5 x):EK W A H y w5:=by have f:=h.size;have d:K (U V)+1<=K (U w5):=C3;have c:∀j,j<K (U W)+5->w5.heap[j]?=V.heap[j]?:=λj b=>LA a E (λe=>B9);exact h.keep (h.below.trans ⟨a.os,a.tape,a.output,E,λj b=>c j E⟩) (λj _ b=>c j b)
theorem EK.fin{H:A3}(h:EK W A H y V)(z:A3)(x:J×J):(AD (AD V (K (U W)+2) z) (K (U W)+3) (Cd x)).heap[K (U W)+2]?=some (M z 101)/\(AD (AD V (K (U W)+2) z) (K (U W)+3) (Cd x)).heap[K (U W)+3]?=some (M (Cd x) 103)/\A0 W (AD (AD V (K (U W)+2) z) (K (U W)+3) (Cd x)):=by
 refine⟨?_,?_,Dj (Dj h.below E) E⟩
 .rw[Dg _ _ _ _ E];exact CM _ _ _ _ _ _ h.th
 exact CM _ _ _ _ _ _ (sx E h.flt)
theorem Oq{w2:X}:A0 w2 (((Az (Az w2 o1) o2).setRow (K (U w2)) a).setRow (K (U w2)+1) f) :=
 Dj (Dj ((Cl).alloc BI _) (Co _)) E
theorem Ju(w2:X):(Az (Az w2 o1) o2).heap[K (U w2)]?=H o1/\(Az (Az w2 o1) o2).heap[K (U w2)+1]?=H o2:=by grind [Cj,World.size_alloc,Below.heap_alloc]
theorem QX{b:A3}:(((Az (Az w o) (M a t)).setRow (K (U w)) b).setRow (K (U w)+1) f).heap[K (U w)+1]?=H (M f t):=CM _ _ _ _ _ _ ((Dg _ _ _ _ E).trans (Ju w).2)
theorem T7{b:A3}:(((Az (Az w (M a t)) o).setRow (K (U w)) b).setRow (K (U w)+1) f).heap[K (U w)]?=H (M b t):=(Dg _ _ _ _ E).trans (CM _ _ _ _ _ _ (Ju w).1)
theorem dC{P:Program}{ops:Array Oper}{Q:Exit->Act->X->Prop}{rest:AJ Oper}{A:Act}{b x:A3}{s:Go.TypeId}(h:∀V,D (A0 w V)->D (A7 V (K (U w)) x s)->D (A7 V (K (U w)+1) y t)->wpList P ops Q rest A V):wpList P ops Q rest A (((Az (Az w (M a s)) (M b t)).setRow (K (U w)) x).setRow (K (U w)+1) y):=h _ (Oq) T7 QX
structure Iy(k:Nat)(V:World)(b:Nat)(kv u:Value)(kl:List A1)(ds:List (DataW Unit)):Prop where
 keys:V.ownsRow b 9 1 kv kl.length (kl.map CQ)
 kids:Iw k V b u (λj=>some j=kv.ownBlock) ds
 apart:∀g,kv.ownBlock=some g->¬u.ownBlock=some g
theorem sG:Iy k V b Cm Cm [] []:=⟨Fa _ _ _ _,Wn,λg h=>Bo⟩
theorem Iy.next(h:Iy k V b kv u kl ds)(c:K (U V)<=K (U V'))(a:∀j,b<=j->j<K (U V)->V'.heap[j]?=V.heap[j]?):Iy k V' b kv u kl ds :=
 ⟨SR h.keys a,h.kids.next c a,h.apart⟩
theorem Iy.map(h:Iy k V b kv u kl ds)(c:O kl=O ds)(v:B<=b):CP (k+1) V (λj=>B<=j/\j<K (U V)) (.agg (Ce 7 0 ⟨#[]⟩ kv u)) (.map (Fo kl ds)):=by
 obtain⟨s,t,p⟩:=h.kids;have hF:∀g,b<=g->g<K (U V)->B<=g/\g<K (U V):=λg w r=>⟨E,r⟩
 refine⟨kv,u,s,Z,?_,?_,λi key d q=>?_⟩
 .rw[T0 c,Ww c,<-c];exact Oi h.keys hF
 .grind [T0,Oi]
 obtain⟨f,l,m⟩:=dk q;obtain⟨a,n,o⟩:=p i d f;exact⟨l,a,m,n,o.same (λj e=>⟨AY e.1,e.2.1⟩) (λ_ _=>rfl)⟩
theorem Iy.key{t:A1}(h:Iy k V b kv u kl ds)(y:w5.ownsRow b 9 1 v' (O kl+1) (kl.map CQ++[CQ t]))(n:(Az V o).grownBy w5 (Ax kv))(f:Ax v'=Ax kv\/Ax v'=H (K (U (Az V o)))):Iy k w5 b v' u (kl++[t]) ds:=by
 obtain⟨w,p,q⟩:=h.kids;have x:K (U V)+1<=K (U w5):=BQ;have v:∀j,j<K (U V)->H j≠Ax kv->¬H j=Ax v':=λj c s e=>by
  rcases f with f|f
  .exact s (e.trans f)
  rw[f]at e;injection e with e;simp at e;omega
 refine⟨B9,⟨w,Nl p (λj e _ c=>LA n c (λm=>h.apart j m.symm e)),λi d r=>?_⟩,λg l m=>?_⟩
 .obtain⟨a,l,m⟩:=q i d r;exact⟨a,l,m.same (λj c=>⟨c.1,AY c.2.1,c.2.2.1,v j c.2.1 c.2.2.2⟩) (λj c=>LA n c.2.1 c.2.2.2)⟩
 rcases f with f|f
 .exact h.apart g (f.symm.trans l) m
 have:=Ek p m;rw[f]at l;injection l with l;simp at l;omega
theorem Iy.kid{L:I}{d:A2}(h:Iy k V b kv u kl ds)(p:V.ownsRow b 101 5 u (O ds) xs)(q:∀(i:I) (d:A2),ds[i]?=H d->∃a,Ha xs i a/\CP k V (λj=>b<=j/\j<K (U V)/\H j≠Ax u/\¬H j=Ax kv) (.agg a) d)(t:CP k V (λj=>L<=j/\j<K (U V)) (.agg a) d)(r:∀g,Ax u=H g->g<L)(w:∀g,Ax kv=H g->g<L)(hb:b<=L)(s:a.size=5)(v:w5.ownsRow b 101 5 v' (O ds+1) (xs++a.toList))(m:(Az V o).grownBy w5 (Ax u))(f:Ax v'=Ax u\/Ax v'=H (K (U (Az V o)))):Iy k w5 b kv v' kl (ds++[d]):=by
 refine⟨Nl h.keys (λj e _ n=>LA m n (λc=>h.apart j e c.symm)),Iw.push p q t r hb (λj n e=>B9) s v m f,λg l c=>?_⟩;rcases f with f|f
 .exact h.apart g l (f.symm.trans c)
 have:=Ek h.keys l;rw[f]at c;injection c with c;simp at c;omega
def sQ(r:AS (AI×AI) (AJ (Lit×AM Unit)×AH)):AS (AI×AI) (AM Unit×AH):=match r with
 |.error e=>.error e
 |.ok (es,q)=>.ok (.map es,q)
def No(m:AK)(kf:AJ A1->AH->A5 A1)(rd:AH->AS (AI×AI) (AM Unit×AH))(x p:AH)(kl:AJ A1)(ds:AJ (AM Unit)):AS (AI×AI) (AM Unit×AH) :=
 bif m then sQ (Gj kf rd x p kl.reverse (Fo kl ds))else Wu (GD rd x p ds)
structure Mi(W wr:World)(A H y:A3)(M:Nat)(G:A3)(F:Int×Int)(V:World):Prop where
 pr:EK W A H y V
 fl:V.heap[M+1]?=some (.cells (Cd F) 103)
 hd:V.heap[M]?=some (.cells G 237)
 bl:A0 wr V
 lm:wr.heap.size<=M
theorem Mi.next{H G:A3}{M:I}(h:Mi W wr A H y M G F V)(hb:A0 V V'):Mi W wr A H y M G F V' :=
 ⟨h.pr.next hb,(hb.block _ (Cc h.fl)).trans h.fl,(hb.block _ (Cc h.hd)).trans h.hd,h.bl.trans (hb.mono h.bl.size),h.lm⟩
theorem Mi.st{H G:A3}{M:I}(h:Mi W wr A H y M G F V)(b:K (U W)+5<=M)(a:J×J):Mi W wr A H y M G a (AD V (M+1) (Cd a)) :=
 ⟨h.pr.else _ E _,CM _ _ _ _ _ _ h.fl,sx E h.hd,Dj h.bl (AY h.lm),h.lm⟩
theorem Mi.cs{H:A3}{a:J}{o:AK}{M:I}(h:Mi W wr (Cp bs fm d l) H y M (CZ a n q o) F V):(A6 V (K (U W)) 0 (Ae ⟨Aw bs⟩)/\A6 V (K (U W)) 1 (C Y fm)/\A6 V (K (U W)) 2 (C Y d)/\A6 V (K (U W)) 3 (C Y l))/\A6 V M 1 (C Y n)/\A6 V M 2 (C Y q)/\A6 V (M+1) 0 (C Y F.1) :=
 ⟨DV h.pr.box,Cb h.hd 1,Cb h.hd 2,Cb h.fl 0⟩
theorem Iy.fin(h:Iy k V b kv u kl ds)(c:bif m then O kl=O ds else kl=[]/\kv=Cm)(a:B<=b):CP (k+1) V (λj=>B<=j/\j<K (U V)) (.agg (Ce (Fq m) 0 ⟨#[]⟩ kv u)) (bif m then .map (Fo kl ds)else .agg ds):=by
 cases m
 .obtain⟨rfl,rfl⟩:=c;exact h.kids.list a
 exact h.map c a
theorem sR{a:J}{o:AK}(hl:Lm bs l lim)(hi:Ct bs lim p)(j:∀k w x r,Ea fm bs lim p=.ok (k,w,x,r)->a=IP k/\n=nR k w x/\q=(r:J)/\o=I2 k x/\F=(0,0))(m:∀f,Ea fm bs lim p=.error f->F=f):(CH bs l p=AQ/\(F.1==0)=AQ/\E8 (DI fm) bs lim kl.reverse p=.error F)\/∃c,bs[p]?=H c/\CH bs l p=AP /\
   (((DI fm c.toNat).1=8/\(F.1==0)=AQ/\E8 (DI fm) bs lim kl.reverse p=.error F)\/(¬(DI fm c.toNat).1=8/\CU bs l p 9=(9,(p:J))/\E8 (DI fm) bs lim kl.reverse p=.error (9,(p:J))) \/
   ((DI fm c.toNat).1=8/\F=(0,0)/\∃x r:I,n=min (x:J) 9223372036854775807/\q=r/\Ct bs lim r/\p<r/\E8 (DI fm) bs lim kl.reverse p=match Dm bs lim x r [] 0 with
        |.error e=>.error e
        |.ok (l,r)=>if l∈kl then .error (12,(r:J)-1)else .ok (l,r))):=by
 have N:=hi.1;rcases QC (bs:=bs) (lim:=lim) p with L|⟨c,d,h⟩
 .have B:Ea fm bs lim p=.error (CU bs l p 9)/\E8 (DI fm) bs lim kl.reverse p=.error (CU bs l p 9)/\CH bs l p=AQ/\¬(CU bs l p 9).1=0:=by grind [Ea,E8,It,Hs,FY,GW]
  grind
 refine AG ⟨c,d,IM hl hi d h,?_⟩;have z:=Ed hi d h;have b:E8 (DI fm) bs lim kl.reverse p=if(DI fm c.toNat).1=8 then(match CR bs lim (DI fm c.toNat).2.1 (p+1) (DI fm c.toNat).2.2 with
      |.error e=>.error e
      |.ok (x,q)=>match Dm bs lim x q [] 0 with
       |.error e=>.error e
       |.ok (l,r)=>if l∈kl.reverse then .error (12,(r:J)-1)else .ok (l,r))else .error (9,(p:J)):=by
  unfold E8;rw[d];simp only[];rw[Ci h];rfl
 by_cases g:(DI fm c.toNat).1=8
 .rw[Cn g]at b;have i:Ea fm bs lim p=match CR bs lim (DI fm c.toNat).2.1 (p+1) (DI fm c.toNat).2.2 with
      |.error f=>.error f
      |.ok (x,q)=>.ok (8,(DI fm c.toNat).2.1,x,q):=by
   unfold Ea;rw[d];simp only[];rw[Ci h,g,Ci B8];rfl
  rcases har:CR bs lim (DI fm c.toNat).2.1 (p+1) (DI fm c.toNat).2.2 with f|y
  .rw[har]at b i;obtain rfl:=m _ i;exact AF ⟨g,B2 (Pv _ _ _ F.1 F.2 har),b⟩
  rw[har]at b i;obtain⟨_,s,t,_,u⟩:=j _ _ _ _ i;obtain⟨A,v⟩:=PA _ _ _ _ _ z har;simp only[Z2]at b;exact AG (AG ⟨g,u,y.1,y.2,s,t,v,E,b⟩)
 rw[Ci g]at b;exact AG (AF ⟨g,Ht hl hi d h 9,b⟩)
theorem dJ{kf:AJ A1->I->A5 A1}{kj r:I}{ks:AJ A1}{R:AS (J×J) (AM Unit×I)}(g:No m kf rd (x-kj) p kl ds=R)(hx:kj<x)(b:bif m then O kl=O ds/\∃t,kf kl.reverse p=.ok (t,r)/\ks=kl++[t]else p=r):(∀f,rd r=.error f->R=.error f)/\∀a c,rd r=.ok (a,c)->No m kf rd (x-(kj+1)) c ks (ds++[a])=R:=by
 rw[<-g,show x-kj=(x-(kj+1))+1 by omega];cases m
 .cases b;simp only[No,cond,GD];exact⟨λf h=>kes,λd q h=>by rw[h]⟩
 obtain⟨i,t,e,rfl⟩:=b;simp only[No,cond,Gj,e];exact⟨λf h=>kes,λd q h=>by rw[h,Wv i,Ux];rfl⟩
theorem sS(h:J4 k bs lim W r e W'):∃c n s a i j b p m z F,e=Ak (Af #[.agg (Ce c n s (T a i j) (T b p m)),C Y z,.agg (Cd F)])/\(∀f,r=.error f->F=f)/\∀d q,r=.ok (d,q)->F=(0,0)/\z=(q:J)/\Ct bs lim q/\CP k W' (λj=>K (U W)<=j/\j<K (U W')) (.agg (Ce c n s (T a i j) (T b p m))) d:=by
 obtain⟨_,h⟩:=h;obtain f|y:=r
 .obtain⟨c,n,s,a,i,j,b,p,m,z,h⟩:=h;exact⟨c,n,s,a,i,j,b,p,m,z,f,h,Ba⟩
 obtain⟨g,c,n,s,a,i,j,b,p,m,h,l⟩:=h;exact⟨c,n,s,a,i,j,b,p,m,y.2,(0,0),h,B9⟩
theorem dK(m:AK)(W:X){q0:I}(o:AK)(hn:n=min (x:J) 9223372036854775807)(hl:Lm bs l lim)(hi:Ct bs lim q0)(hb:O bs<=200000000)(c4:0<=dp)(c5:dp<=100000)(br:fm=2\/fm=3)(bk:∀p,Dz (rd p))(bt:∀p x b5,rd p=.ok (x,b5)->p<b5)(cJ:∀V (p:I),Ct bs lim p->Ar As 91 #[.agg (Cp bs fm d l),C Y p,C Y (dp+1)] V (J4 k bs lim V (rd p))):Ar As 134 #[.agg (Cp bs fm d l),.agg (CZ (Fq m) n (q0:J) o),C Y dp] W (J4 (k+1) bs lim W (No m (E8 (DI fm) bs lim) rd x q0 [] [])):=by
 obtain⟨ti,cu,cq,cr,ct⟩:=DD Tryz.infoThR;obtain⟨si,cp,cn,co,b2⟩:=DD Tryz.infoStrR;obtain⟨a4,q⟩:=CA (No m (E8 (DI fm) bs lim) rd x q0 [] []);rw[AE q];have HL:=C9 hl;have HI:=C9 hi;have HN:=C9 hn;have b7:D (∀V (p:I),Ct bs lim p->Ar As 91 #[Ag #[Ae ⟨Aw bs⟩,C Y fm,C Y d,C Y l],C Y p,C Y (dp+1)] V (J4 k bs lim V (rd p))):=cJ;have b9:=C9 bt;have b6:=C9 bk;have bf:=C9 br;clear br hl hi cJ bt bk hn;unfold Cp CZ;go_enter func134,ntmps134
 go_wp2_with(first
  |((with_reducible refine zT 9 22 rfl rfl (K (U W)+4) (Ce (Fq m) 0 ⟨#[]⟩ Cm Cm) ?_ ?_);exact⟨Z,Z,(dB W).tv,thg⟩;refine Gx ?_;intro V0 bd;have v:D (EK W (Cp bs fm d l) (CZ (Fq m) n (q0:J) o) (Ce (Fq m) 0 ⟨#[]⟩ Cm Cm) V0):=bd▸(dB W).row _;clear bd;obtain⟨B,L,c2,N⟩:=DV v.box;have d0:A6 V0 (K (U W)+1) 0 (C Y (Fq m)):=Cb v.hd 0;have d1:A6 V0 (K (U W)+1) 1 (C Y n):=Cb v.hd 1;have d2:A6 V0 (K (U W)+1) 2 (C Y (q0:J)):=Cb v.hd 2))
 go_loopg[10,11] (O bs+1-q0) (λg cw cx wr=>∃(p P:I) (kl:AJ A1) (Q:AJ (AM Unit)) (f:A4) (kn h:I) (ua:A4) (un uc:I),cw=C Y p/\cx=C Y P/\D (O bs+1<=p+g)/\D (Ct bs lim p)/\D (P<=p/\P<=x)/\D (O Q=P/\bif m then O kl=O Q else kl=[]/\Go.Value.slice f kn h=Cm)/\D (No m (E8 (DI fm) bs lim) rd (x-P) p kl Q=a4)/\D (EK W (Cp bs fm d l) (CZ (Fq m) n (q0:J) o) (Ce (Fq m) 0 ⟨#[]⟩ (T f kn h) (T ua un uc)) wr)/\D (Iy k wr (K (U W)+5) (T f kn h) (T ua un uc) kl Q))
 case atStart=>exact⟨q0,0,[],[],Ao,0,0,Ao,0,0,rfl,rfl,Bp,HI,⟨En _,En _⟩,⟨rfl,by cases m<;>simp[Cm]⟩,q,v,sG⟩
 case round =>
  clear q v HI B L c2 N d0 d1 d2;obtain⟨p,P,kl,Q,f,kn,h,ua,un,uc,rfl,rfl,hg,HI,HK,z,q,v,ab⟩:=hrel;have cl:=HI.1;have c6:=HK.1;have cv:=v.size;obtain⟨B,L,c2,N⟩:=DV v.box;have d0:A6 wr (K (U W)+1) 0 (C Y (Fq m)):=Cb v.hd 0;have d1:A6 wr (K (U W)+1) 1 (C Y n):=Cb v.hd 1;by_cases ci:P=x
  .have cj:¬(P:J)<n:=AY (AE HN);have a:D (a4=.ok (bif m then .map (Fo kl Q)else .agg Q,p)):=by show _=_;rw[<-AE q,ci,Ql];cases m<;>rfl
   clear q hg
   go_wp2_with(first
    |((with_reducible refine CT rfl 101 (.tmp 9) rfl (K (U W)+4) ?hx 101 (Ce (Fq m) 0 ⟨#[]⟩ (T f kn h) (T ua un uc)) (0,0) _ ?hg underlying101 rfl ?hi ?_);(case hx=>exact rfl);(case hg=>exact v.tv);(case hi=>exact Kf))
    |((with_reducible refine zT 6 111 rfl rfl (K (U W)+2) (Ce (Fq m) 0 ⟨#[]⟩ (T f kn h) (T ua un uc)) ?_ ?_);exact⟨Z,Z,v.th,thg⟩)
    |((with_reducible refine zF 8 113 rfl rfl (K (U W)+3) (0,0) ?_ ?_);exact⟨Z,Z,sx E v.flt⟩))
   have hf:=v.fin (Ce (Fq m) 0 ⟨#[]⟩ (T f kn h) (T ua un uc)) (0,0);refine ER results134 hf (C Y p) Z Z Z Z ⟨hf.2.2,?_⟩;rw[AE a];exact⟨HI,_,_,_,_,_,_,_,_,_,rfl,(ab.next Ba (λj bv bw=>BJ)).fin z.2 E⟩
  have bx:P<x:=AY HK.2;have cj:(P:J)<n:=AY (AE HN);cases m
  case' true =>
   dsimp only[Fq,cond]at *;have ak:D (∀aq,E8 (DI fm) bs lim kl.reverse p=.error aq->a4=.error aq):=λaq hf=>by rw[<-AE q,show x-P=(x-P-1)+1 by omega];simp only[No,cond,Gj,hf];rfl
   go_wp2_with fail
   refine(dg (bs:=bs) d (l:=l) HL HI hb bf).mono ?_;clear B L c2 N d0 d1;rintro e w6 ⟨⟨bj,hn,hq,ho,F,rfl,h1,h2⟩,al⟩;simp only[]
   go_wp2_with(first
    |((with_reducible refine zH 12 (y:=38) rfl rfl (K (U w6)) bj hn hq ho ?_ ?_);exact⟨Z,Z,(Ju w6).1⟩)
    |((with_reducible refine zF 13 39 rfl rfl (K (U w6)+1) F ?_ ?_);exact⟨Z,Z,sx E (Ju w6).2⟩;refine dC ?_;intro V7 a7 bu bq;have u:=C9 (Mi.mk (F:=F) (G:=CZ bj hn hq ho) ((v.next al).next a7) bq bu (al.trans (a7.out.mono al.size)) al.size);clear a7 bu bq;have ch:K (U W)+5<=K (U w6):=Cy cv al.size;generalize K (U w6)=M at *;have hc:=u.cs))
   have cH:=λV=>N5 bs fm d l V p;have cB:=Oa bs fm d l;clear al w6;rcases sR (kl:=kl) HL HI h1 h2 with⟨hh,aw,A⟩|⟨c,an,hh,ae⟩
   case' inr=>have cT:=λV=>r7 V (fm:=fm) d l (c:=c) an bf;rcases ae with⟨R,aw,A⟩|⟨R,bm,A⟩|⟨R,rfl,x1,r1,a0,rfl,ax,cm,A⟩
   all_goals rw[hh]at cH;clear hh
   case' inr.inr.inr =>
    rw[F4 R]at cT;have cR:=λV=>dz V fm d (i:=r1) (x:=x1) (n:=hn) a0 HL ax hb;dsimp only[Cp]at cR
    cases am:Dm bs lim x1 r1 [] 0 with
    |error F=>?_
    |ok y=>?_
    all_goals rw[am]at A cR
   case' inl=>have a:=C9 (ak _ A);let b:I:=56
   case' inr.inl=>rw[F4 R]at cT;have a:=C9 (ak _ A);clear R an;let b:I:=56
   case' inr.inr.inl =>
    rw[Fv R]at cT;have cE:=λV=>cB V p 9;rw[bm]at cE;have a:=C9 (ak _ A);clear bm R an A;generalize((9:J),(p:J))=EE at *
   case' inr.inr.inr.error =>
    have a:=C9 (ak _ A);have aw:(F.1==0)=AQ:=B2 (SI (bs:=bs) _ _ _ _ F.1 F.2 am);dsimp only[Ng]at cR;clear am a0 R an ax;let b:I:=71
   case' inr.inr.inr.ok =>
    obtain⟨tt,r⟩:=y;obtain⟨ay,bz⟩:=Wx _ _ _ _ _ _ ax am;obtain⟨F,au⟩:∃F:J×J,F=(0,0):=⟨_,rfl⟩
    have aw:(F.1==0)=AP:=by rw[au];rfl
    dsimp only[Ng]at cR;rw[<-au]at cR;have b0:=ay.1;have cK:=λV (ae:Iy k V (K (U W)+5) (T f kn h) (T ua un uc) kl Q)=>af (W:=V) (ks:=kl) tt (Oi ae.keys (λ_ _ _=>trivial)) (AY (AE z));rcases Classical.em (tt∈kl)with av|av
   case' inr.inr.inr.ok.inl =>
    simp only[av,if_true]at A cK;have a:=C9 (ak _ A);have cE:∀V,Ar As 84 #[Ag #[Ae ⟨Aw bs⟩,C Y fm,C Y d,C Y l],C Y ((r:J)-1),C Y 12] V λe W'=>e=Ak (.agg (Cd (12,(r:J)-1)))/\A0 V W':=λV=>by
     obtain⟨r0,rfl⟩:∃r0,r=r0+1:=⟨r-1,E⟩
     have ae:=cB V r0 12;rw[QQ HL ay,show(r0:J)=((r0+1:I):J)-1 by omega]at ae;exact ae
    clear am a0 R an av ay ax bz au A;generalize((12:J),(r:J)-1)=EE at *
   case' inr.inr.inr.ok.inr =>
    simp only[av,if_false]at A cK;have a2:=C9 ay;have bh:=C9 A;have b8:=C9 au;clear am a0 R an av ay ax au
   all_goals
    have cy:=True.intro;obtain⟨⟨B,L,c2,N⟩,g1,g2,u0⟩:=hc
    try clear A
    clear h1 h2 ak
    go_wp2_with(first
     |((first|go_at_call 116|go_at_call 168|go_at_call 133);refine ck (by first|exact cH _|exact cT _|exact cR _) u.next ?_;clear u B L c2 N g1 g2 u0;intro w8 u;obtain⟨⟨B,L,c2,N⟩,g1,g2,u0⟩:=u.cs)
     |(go_at_call 169;refine(cK _ (ab.next u.bl.size (λj _ w=>u.bl.block j w))).mono ?_;rintro e a5 ⟨rfl,rfl⟩)
     |(go_at_call 84;refine ck (cE _) u.pr.next ?_;clear B L c2 N u0;intro aj aa)
     |((with_reducible refine zT _ _ rfl rfl (K (U W)+2) Cr ?_ ?_);exact⟨Z,Z,aa.th,thg⟩)
     |((with_reducible refine zF _ _ rfl rfl (K (U W)+3) EE ?_ ?_);exact⟨Z,Z,sx E aa.flt⟩)
     |((with_reducible refine zF 13 67 rfl rfl (M+1) F ?_ ?_);exact⟨Z,Z,u.fl⟩;refine Z6 (u.st ch F) ?_;clear u B L c2 N g1 g2 u0;intro a5 u;obtain⟨⟨B,L,c2,N⟩,g1,g2,u0⟩:=u.cs;have k3:A6 a5 (K (U W)+1+1+1+1) 3 (T f kn h):=Cb u.pr.tv 3)
     |(at_builtin;(refine Jl rfl (t:=98) rfl (e:=9) (i:=si) (bytes:=16) underlying98 cp cn co b2 rfl B8 rfl ((ab.next u.bl.size (λj _ w=>u.bl.block j w)).keys.alloc _) (ad:=⟨K (U a5),0,Ao⟩) 1 1 (news:=[Ae ⟨Aw tt⟩]) rfl rfl (EI) (dt) B8 (B4 (AE z)) (AY (AE z)) (B0 u.pr.size) ?_);intro v' aj bb a8 b3;obtain⟨g1,az,rfl⟩:=ownsRow_succ bb;have HM:=ab.next u.bl.size (λj _ w=>u.bl.block j w);have aa:=C9 (u.pr.grow (λg e=>DK HM.keys e) a8);have bi:=C9 (HM.key bb a8 b3);clear bb a8 b3 B L c2 N k3 u0;have k3:A6 aj (K (U W)+1+1+1+1) 3 (T f kn h):=Cb aa.tv 3;have f3:aj.frozen? ⟨K (U W)+1+1+1+1,3,Ao⟩=AQ:=Dq aj (K (U W)+4) 3 _ _ aa.tv;obtain⟨B,L,c2,N⟩:=DV aa.box))
   all_goals try
    refine Dl (S:=λah=>A7 ah (M+1) (Cd F) 103) u.fl B6 ?_;intro hS;refine Cf 1 (b+1) (.agg (Cd F)) Z (λah hZ=>yF 13 hZ Z Z) hS ?_;refine Cf 0 b (.agg Cr) Z (λah hZ=>?y0) hS ?_
    case y0=>(unfold Cr Ce Cm;go_simp)
    have ai:=(Dg _ (K (U W)+2) (M+1) Cr E).trans hS;refine Hy 2 6 b (g:=(K (U W)+2)) B6 u.pr.th thg ai ?_;refine Ca 3 7 (C Y 0) ai ?_;refine sF 4 8 (b+1) (g:=(K (U W)+3)) (F:=F) B6 (sx E u.pr.flt) (sx E ai) ?_;refine CG ?_;dsimp only[b];go_simp;go_wp2;refine ER results134 (u.pr.drew.fin Cr _) (C Y 0) Z Z Z Z ⟨(u.pr.drew.fin Cr _).2.2,?_⟩;rw[AE a];exact⟨_,_,_,_,_,_,_,_,_,_,Z⟩
   all_goals try
    have hf:=aa.fin Cr EE;refine ER results134 hf (C Y 0) Z Z Z Z ⟨hf.2.2,?_⟩;rw[AE a];exact⟨_,_,_,_,_,_,_,_,_,_,Z⟩
   have v:=C9 (aa.cell (T (Aa g1) (O kl+1) az)).1;have ab:D (Iy k (AB aj ⟨K (U W)+1+1+1+1,3,Ao⟩ (T (Aa g1) (O kl+1) az)) (K (U W)+5) (T (Aa g1) (O kl+1) az) (T ua un uc) (kl++[tt]) Q):=bi.next Bd (λj bv bw=>CY aj _ _ _ B7)
   generalize AB aj ⟨K (U W)+1+1+1+1,3,Ao⟩ (T (Aa g1) (O kl+1) az)=V14 at *;have ao:D (O Q=P/\∀dd,O (kl++[tt])=O (Q++[dd])):=⟨z.1,λdd=>B0 z.2⟩
   have ap:=C9 (dJ (m:=AP) q bx ⟨z.2,tt,bh,Z⟩)
  case' false =>
   dsimp only[Fq,cond]at *
   go_wp2_with fail
   have ao:=C9 (NZ z.1 λdd:A2=>z.2);have ap:=C9 (dJ (ks:=kl) q bx Z);have a2:=HI;have b0:=cl;obtain⟨r,hr⟩:=Dx p;rw[hr]at ap a2 b0 ⊢;have bz:p<=r:=E
  all_goals
   try clear b8 bh
   try clear aa bi u k3 f3
   try clear d0 d1
   clear z q B L c2 N;refine(b7 _ r a2).mono ?_;rintro e w2 a6;obtain⟨kk,nn,s,a1,i1,j1,b1,q1,m1,c9,F,rfl,bo,bp⟩:=sS a6;have ar:=a6.1;have cg:=C9 (v.next ar);have bg:=C9 (ab.next ar.size (λj _ w=>ar.block j w));have cf:=C9 (Exists.elim ab.kids λxs ae g e=>Ek ae.1 (g:=g) e);have cb:=C9 λg e=>Ek ab.keys (g:=g) e;have c8:=v.size;have b2:=ar.size;clear a6 ar;simp only[];cases hr:rd r
   case' error aq =>
    obtain rfl:=bo aq hr;have a:=C9 (ap.1 _ hr);have aw:(F.1==0)=AQ:=B2 (b6.out r F.1 F.2 hr)
   case' ok y =>
    obtain⟨dd,pq⟩:=y;obtain⟨hF,rfl,bc,hA⟩:=bp _ _ hr;have aw:(F.1==0)=AP:=kfe;have cc:=C9 bc;have HA:=C9 hA;have cm:=b9.out r dd pq hr;have c7:=bc.1;have cd:=C9 (ap.2 _ _ hr);clear bc hA hF
   all_goals
    clear hr bo bp ap
    go_wp2_with(first
     |((with_reducible refine zT 17 96 rfl rfl (K (U w2)) (Ce kk nn s (T a1 i1 j1) (T b1 q1 m1)) ?_ ?_);exact⟨Z,Z,(Ju w2).1,thg⟩)
     |((with_reducible refine zF 19 98 rfl rfl (K (U w2)+1) F ?_ ?_);exact⟨Z,Z,sx E (Ju w2).2⟩;refine dC ?_;intro V5 ag ce be;have ac:=C9 (cg.next ag);obtain⟨B,L,c2,N⟩:=DV ac.box;have u0:A6 V5 (K (U w2)+1) 0 (C Y F.1):=Cb be 0;have k4:A6 V5 (K (U W)+1+1+1+1) 4 (T ua un uc):=Cb ac.tv 4)
     |((with_reducible refine CT rfl 101 (.tmp 17) rfl (K (U w2)) ?hx 101 #[C Y kk,C Y nn,.string s,T a1 i1 j1,T b1 q1 m1] (0,0) _ ?hg underlying101 rfl ?hi ?_);(case hx=>exact rfl);(case hg=>exact ce);(case hi=>exact Kf))
     |(at_builtin;(obtain⟨xs,ho,bn⟩:=(bg.next ag.size (λj _ w=>ag.block j w)).kids;refine Jl Z Z underlying99 cu cq cr ct Z B8 Z (ho.alloc _) 1 1 Z Z (EI) (T5) B8 (B4 ao.1) (AY ao.1) (B0 ac.size) ?_);intro v' w5 ba a9 b4;obtain⟨g5,cz,rfl⟩:=ownsRow_succ ba;have a3:=C9 (ac.grow (λg e=>DK ho e) a9);have ca:=C9 ((bg.next ag.size (λj _ w=>ag.block j w)).kid ho bn (HA.same (λj w=>⟨w.1,CK w.2 ag.size⟩) (λj w=>ag.block j w.2)) cf cb E rfl ba a9 b4);clear ho bn ba a9 b4 B L c2 N k4 u0;have k4:A6 w5 (K (U W)+1+1+1+1) 4 (T ua un uc):=Cb a3.tv 4;have f4:w5.frozen? ⟨K (U W)+1+1+1+1,4,Ao⟩=AQ:=Dq w5 (K (U W)+4) 4 _ _ a3.tv))
   rotate_left
   next =>
    refine Dl (S:=λah=>A7 ah (K (U w2)+1) (Cd F) 103) be B6 ?_;intro hS;refine Cf 1 103 (.agg (Cd F)) Z (λah hZ=>yF 19 hZ Z Z) hS ?_;refine Cf 0 102 (.agg Cr) Z (λah hZ=>?y0) hS ?_
    case y0=>(unfold Cr Ce Cm;go_simp)
    have ai:=(Dg _ (K (U W)+2) (K (U w2)+1) Cr E).trans hS;refine Hy 2 6 102 B6 ac.th thg ai ?_;refine Ca 3 7 (C Y 0) ai ?_;refine sF 4 8 103 (g:=(K (U W)+3)) (F:=F) B6 (sx E ac.flt) (sx E ai) ?_;refine CG ?_;go_simp;go_wp2;refine ER results134 (ac.drew.fin Cr _) (C Y 0) Z Z Z Z ⟨(ac.drew.fin Cr _).2.2,?_⟩;rw[AE a];exact⟨_,_,_,_,_,_,_,_,_,_,Z⟩
   go_roundg (gk-(pq-p))
   case measure=>have:=AE hg;omega
   case rel=>exact⟨pq,P+1,_,Q++[dd],_,_,_,_,_,_,rfl,Bb,by grind [D],cc,⟨E,E⟩,⟨B0 ao.1,ao.2 dd⟩,cd,(a3.cell _).2,ca.next Bd (λj bv bw=>CY w5 _ _ _ B7)⟩
def PF(k:AH)(bs:A1)(lim:AI)(W:Ap)(r:AS (AI×AI) (AM Unit×AH))(T:A3)(z:AI)(F:AI×AI):Prop :=
 ∀W',A0 W W'->J4 k bs lim W r (Ak (Af #[.agg T,Ab .i64 z,.agg (Cd F)])) W'
theorem T9{z:J}(f:J×J):PF k bs lim W (.error f) (Ce kd n s Cm Cm) z f :=
 λ_ h=>⟨h,_,_,_,_,_,_,_,_,_,_,rfl⟩
def dL(k:AH)(W:Ap)(bs:A1)(fm d l lim dp:AI)(R:AS (AI×AI) (AM Unit×AH))(a n q:AI)(o:AK):Prop :=
 (a=3/\o=AP/\1<=q/\q<=200000001/\∃f,(∀V,Ar As 84 #[.agg (Cp bs fm d l),Ab .i64 (q-1),Ab .i64 10] V λe W'=>e=Ak (.agg (Cd f))/\A0 V W')/\PF k bs lim W R Cr 0 f)
  \/ (a=3/\o=AQ/\PF k bs lim W R (Ce 3 n ⟨#[]⟩ Cm Cm) q (0,0))
  \/ (∃tx,((a==4)=tx/\(tx=AQ->a=5))/\∃lx r f,(∀V,Ar As 133 #[.agg (Cp bs fm d l),Ab .i64 q,Ab .i64 n,Ah tx] V λe W'=>e=Ak (Af #[.string lx,Ab .i64 r,.agg (Cd f)])/\A0 V W')/\PF k bs lim W R (Ce a 0 lx Cm Cm) r f)
  \/ ((a=6\/a=7)/\∀V,Ar As 134 #[.agg (Cp bs fm d l),.agg (CZ a n q o),Ab .i64 dp] V (J4 k bs lim V R))
  \/ ((0<=a/\a<=2)/\PF k bs lim W R (Ce a 0 ⟨#[]⟩ Cm Cm) q (0,0))
def WA(k:AH)(W:Ap)(bs:A1)(fm d l lim dp:AI)(R:AS (AI×AI) (AM Unit×AH))(a n q:AI)(o:AK)(F:AI×AI):Prop :=
 ((F.1==0)=AQ/\PF k bs lim W R Cr 0 F)\/(F=(0,0)/\dL k W bs fm d l lim dp R a n q o)
def QZ(bs:A1)(fm d l dp:AI)(i:AH):Prop :=
 CH bs l i=AQ\/(CH bs l i=AP/\∃ic:AK,(∀V,Ar As 131 #[.agg (Cp bs fm d l),Ab .i64 i] V λe W'=>e=Ak (Ah ic)/\A0 V W')/\(ic=AP->dp<d))
theorem sU(k:I)(W:X)(bs:A1)(fm d l lim:J)(i:I)(dp:J)(s:CH bs l i=AP)(r:∀V,Ar As 131 #[.agg (Cp bs fm d l),C Y i] V λe o=>e=Ak (Ah AP)/\A0 V o)(u:d<=dp)(t:CU bs l i 11=(11,(i:J))):Ar As 91 #[.agg (Cp bs fm d l),C Y i,C Y dp] W (J4 (k+1) bs lim W (.error (11,(i:J)))):=by
 have q:=Gi fm d s;have g:=r;unfold Cp at g;have v:_root_.Decidable.decide (d<=dp)=AP:=by simpa using u
 have p:=N2 fm d t;have j:=KV W bs fm d l;unfold Cp;go_enter func91,ntmps91
 go_wp2_with(first
  |(go_at_call 116;refine j.ck (q _) ?_;intro w m b c c2 f)
  |(go_at_call 131;refine m.ck (g _) ?_;intro x n b c c2 f)
  |(go_at_call 84;refine n.ck (p _) ?_;intro y a b c c2 f)
  |((with_reducible refine zT 6 28 rfl rfl (K (U W)+1) (Cr) ?_ ?_);exact⟨Z,Z,a.th,thg⟩)
  |((with_reducible refine zF 8 31 rfl rfl (K (U W)+2) (11,(i:J)) ?_ ?_);exact⟨Z,Z,FZ a CO⟩))
 have h:=EB a CO (Cr) (11,(i:J));exact ER results91 h (C Y 0) Z Z Z Z ⟨h.2.2,_,_,_,_,_,_,_,_,_,_,Z⟩
theorem sV(k:I)(W:X)(lim:J)(R:AS (J×J) (AM Unit×I))(hp:QZ bs fm d l dp i)(cD:∀V,Ar As 132 #[.agg (Cp bs fm d l),C Y i] V λe W'=>(∃a n q o F,e=Ak (Af #[.agg (CZ a n q o),.agg (Cd F)])/\WA (k+1) W bs fm d l lim dp R a n q o F)/\A0 V W'):Ar As 91 #[.agg (Cp bs fm d l),C Y i,C Y dp] W (J4 (k+1) bs lim W R):=by
 have HX:=KV W bs fm d l;have z:CH bs l i=AQ\/(CH bs l i=AP/\∃r:AK,(∀V,Ar As 131 #[.agg (Cp bs fm d l),C Y i] V λe W'=>e=Ak (Ah r)/\A0 V W')/\(r=AP->_root_.Decidable.decide (d<=dp)=AQ)):=hp.imp id λ⟨aa,r,aw,h2⟩=>⟨aa,r,aw,λe=>Fv (AY (h2 e))⟩
 have ai:D (∀V,Ar As 132 #[Ag #[Ae ⟨Aw bs⟩,C Y fm,C Y d,C Y l],C Y i] V λe W'=>(∃a n q o F,e=Ak (Af #[.agg (CZ a n q o),.agg (Cd F)])/\WA (k+1) W bs fm d l lim dp R a n q o F)/\A0 V W'):=cD;clear hp cD;rcases z with aa|⟨aa,r,cI,aq⟩
 rotate_left
 cases r
 rotate_left
 replace aq:=aq rfl
 all_goals
  have ao:=Gi fm d aa;unfold Cp at *;clear aa;go_enter func91,ntmps91
  go_upto_region 4 with(first
   |(go_at_call 116;refine HX.ck (ao _) ?_;clear ao;intro w2 am B L c2 N;have ae:=am)
   |(go_at_call 131;refine am.ck (cI _) ?_;clear cI B L c2 N ae;intro w3 ae B L c2 N)
   |(go_at_call 132;refine(ai _).mono ?_;clear ai B L c2 N;rintro e w6 ⟨⟨a,n,q,o,F,rfl,z⟩,ap⟩;have an:=G (ae.next ap);have A:=G z;clear z ap)
   |((with_reducible refine zH 9 (y:=36) rfl rfl (K (U w6)) a n q o ?_ ?_);exact⟨Z,Z,(Ju w6).1⟩)
   |((with_reducible refine zF 10 37 rfl rfl (K (U w6)+1) F ?_ ?_);exact⟨Z,Z,sx E (Ju w6).2⟩;refine Gx ?_;intro V7 ab;have u:=G (ab▸an.next (Oq));have aj:=G (ab▸QX);have P:=G (ab▸T7);have hM:K (U W)+3<=K (U w6):=Cc an.flt;clear ab;generalize K (U w6)=M at *;obtain⟨B,L,c2,N⟩:=DV u.box;obtain⟨g0,g1,g2,g3⟩:=ri P;have u0:A6 V7 (M+1) 0 (C Y F.1):=Cb aj 0))
  rcases AE A with⟨a2,v⟩|⟨rfl,z⟩
  .have w:=G v;clear A v
   go_wp2_with fail
   refine Dl (S:=λj=>A7 j (M+1) (Cd F) 103) (aj) B6 ?_;intro b;refine Cf 1 42 (.agg (Cd F)) Z (λj m=>yF 10 m Z Z) b ?_;refine Cf 0 41 (.agg Cr) Z (λj m=>?y0) b ?_
   case y0=>(unfold Cr Ce Cm;go_simp)
   have t:=sx (cs:=Cr) (show M+1≠K (U W)+1 by omega) b;refine Hy 2 6 41 (g:=(K (U W)+1)) (T:=(Cr)) B6 (u.drew.th) thg (t) ?_;refine Ca 3 7 (C Y 0) t ?_;refine sF 4 8 42 (g:=(K (U W)+2)) (F:=(F)) B6 (FZ u.drew CO) (sx E t) ?_;refine CG ?_;go_simp;go_wp2;have p:=EB u.drew CO (Cr) (F);exact ER results91 p (C Y 0) Z Z Z Z (w _ p.2.2)
  replace u0:A6 V7 (M+1) 0 (C Y 0):=u0
  rcases z with⟨rfl,rfl,a3,a4,f,cB,v⟩|⟨rfl,rfl,v⟩|⟨tx,⟨a5,h5⟩,h,ah,f,c,v⟩|⟨ha,Q⟩|⟨⟨ha,hb⟩,v⟩
  .have w:=G v;unfold Cp at cB;clear A v
   go_wp2_with(first
    |(go_at_call 84;refine ck (cB _) u.next ?_;clear cB B L c2 N g0 g1 g2 g3 u0;intro w8 x)
    |((with_reducible refine zT 6 49 rfl rfl (K (U W)+1) (Cr) ?_ ?_);exact⟨Z,Z,x.th,thg⟩)
    |((with_reducible refine zF 8 54 rfl rfl (K (U W)+2) f ?_ ?_);exact⟨Z,Z,FZ x CO⟩))
   have p:=EB x CO (Cr) f;exact ER results91 p (C Y 0) Z Z Z Z (w _ p.2.2)
  .have w:=G v;clear A v
   go_wp2_with fail
   refine Dl (S:=λj=>A7 j M (CZ 3 n q AQ) 237) (P) B6 ?_;intro b;refine Ca 0 55 (A9 M 1) b ?_;refine Cf 1 56 (C Y n) Z (λj m=>?y1) b ?_
   case y1=>(have hz:A6 j M 1 (C Y n):=Cb m 1;go_simp)
   refine Cf 2 57 (.agg (Ce 3 n ⟨#[]⟩ Cm Cm)) Z (λj m=>?y2) b ?_
   case y2=>(unfold Ce Cm;go_simp)
   refine Ca 3 58 (A9 M 2) b ?_;refine Cf 4 59 (C Y q) Z (λj m=>?y4) b ?_
   case y4=>(have hz:A6 j M 2 (C Y q):=Cb m 2;go_simp)
   refine Cf 5 60 (.agg (Cd (0,0))) Z (λj m=>?y5) b ?_
   case y5=>(unfold Cd;go_simp)
   have t:=sx (cs:=Ce 3 n ⟨#[]⟩ Cm Cm) (show M≠K (U W)+1 by omega) b;refine Hy 6 6 57 (g:=(K (U W)+1)) (T:=(Ce 3 n ⟨#[]⟩ Cm Cm)) B6 (u.drew.th) thg (t) ?_;refine Ca 7 7 (C Y q) t ?_;refine sF 8 8 60 (g:=(K (U W)+2)) (F:=(0,0)) B6 (FZ u.drew CO) (sx E t) ?_;refine CG ?_;go_simp;go_wp2;have p:=EB u.drew CO (Ce 3 n ⟨#[]⟩ Cm Cm) (0,0);exact ER results91 p (C Y q) Z Z Z Z (w _ p.2.2)
  .have w:=G v;have t3:(a==3)=AQ:=by cases tx<;>grind
   have t5:tx=AP\/(tx=AQ/\(a==5)=AP):=B9;have HR:=G c;clear A v h5 c;rcases t5 with rfl|⟨rfl,t5⟩
   all_goals
    have c:=AE HR;unfold Cp at c
    go_wp2_with(first
     |(go_at_call 133;refine Mb (c _) u.next ?_;clear c B L c2 N g0 g1 g2 g3 u0;intro w8 ad x;have ak:=G ((ad.block _ (Cc P)).trans P);have ax:=Cc ak)
     |((with_reducible refine zF 13 76 rfl rfl (K (U w8)) f ?_ ?_);exact⟨Z,Z,Cj w8⟩;refine Gx ?_;intro V9 ac;have af:=G (ac▸x.next (Kl));have au:=G (ac▸CM _ _ _ _ _ _ (Cj _));have av:=G (ac▸((Kl (V:=w8)).block _ ax).trans ak);clear ac;generalize K (U w8)=M2 at *))
    refine Dl (S:=λj=>A7 j M (CZ a n q o) 237/\A7 j M2 (Cd f) 103) (⟨av,au⟩) B6 ?_;intro b;refine Cf 5 82 (.agg (Cd f)) Z (λj m=>yF 13 m.2 Z Z) b ?_;refine Ca 0 77 (A8 M) b ?_;refine Cf 1 78 (C Y a) Z (λj m=>?y1) b ?_
    case y1=>(have hz:A6 j M 0 (C Y a):=Cb m.1 0;go_simp)
    refine Ca 2 79 (.string h) b ?_;refine Cf 3 80 (.agg (Ce a 0 h Cm Cm)) Z (λj m=>?y3) b ?_
    case y3=>(unfold Ce Cm;go_simp)
    refine Ca 4 81 (C Y ah) b ?_;have t:=NZ (sx (cs:=Ce a 0 h Cm Cm) (show M≠K (U W)+1 by omega) b.1) (sx (cs:=Ce a 0 h Cm Cm) (show M2≠K (U W)+1 by omega) b.2);refine Hy 6 6 80 (g:=(K (U W)+1)) (T:=(Ce a 0 h Cm Cm)) B6 (af.drew.th) thg (t) ?_;refine Ca 7 7 (C Y ah) t ?_;refine sF 8 8 82 (g:=(K (U W)+2)) (F:=f) B6 (FZ af.drew CO) (⟨sx E t.1,sx E t.2⟩) ?_;refine CG ?_;go_simp;go_wp2;have p:=EB af.drew CO (Ce a 0 h Cm Cm) f;exact ER results91 p (C Y ah) Z Z Z Z (w _ p.2.2)
  .have ar:=G Q;clear A Q;rcases ha with rfl|rfl
   all_goals
    have Q:=AE ar;unfold Cp at Q
    go_wp2_with(first
     |((with_reducible refine CT rfl 237 (.tmp 9) rfl (M) ?hx 237 (CZ _ n q o) (0,0) _ ?hg underlying237 rfl ?hi ?_);(case hx=>exact rfl);(case hg=>exact P);(case hi=>exact SV)))
    refine(Q _).mono ?_;clear Q B L c2 N g0 g1 g2 g3 u0;rintro e w8 ag;have az:=Cc u.flt;obtain⟨ad,r',kk,nn,s,a1,i1,j1,b1,p1,m1,a0,F,ay,rfl,hA,hF⟩:=Ni (Wy ag);have x:=G (u.next ad);have al:=G ag.2;clear ag ay hA hF ad;simp only[]
    go_wp2_with(first
     |((with_reducible refine zT 6 90 rfl rfl (K (U W)+1) (Ce kk nn s (Ac a1 i1 j1) (Ac b1 p1 m1)) ?_ ?_);exact⟨Z,Z,x.th,thg⟩)
     |((with_reducible refine zF 8 92 rfl rfl (K (U W)+2) F ?_ ?_);exact⟨Z,Z,FZ x CO⟩))
    have p:=EB x CO (Ce kk nn s (Ac a1 i1 j1) (Ac b1 p1 m1)) F;refine ER results91 p (C Y a0) Z Z Z Z ⟨p.2.2,?_⟩;obtain f|y:=R
    .exact al
    obtain⟨h1,kd,n',s',a',i',j',b',p',m',h2,h3⟩:=AE al;exact⟨h1,kd,n',s',a',i',j',b',p',m',h2,bN h3 u.below.size az⟩
  have w:=G v;have t3:(a==3)=AQ:=B7;have t4:(a==4)=AQ:=B7;have t5:(a==5)=AQ:=B7;have t6:(a==6)=AQ:=B7;have t7:(a==7)=AQ:=B7;clear A v
  go_wp2_with fail
  refine Dl (S:=λj=>A7 j M (CZ a n q o) 237) (P) B6 ?_;intro b;refine Ca 0 93 (A8 M) b ?_;refine Cf 1 94 (C Y a) Z (λj m=>?y1) b ?_
  case y1=>(have hz:A6 j M 0 (C Y a):=Cb m 0;go_simp)
  refine Cf 2 95 (.agg (Ce a 0 ⟨#[]⟩ Cm Cm)) Z (λj m=>?y2) b ?_
  case y2=>(unfold Ce Cm;go_simp)
  refine Ca 3 96 (A9 M 2) b ?_;refine Cf 4 97 (C Y q) Z (λj m=>?y4) b ?_
  case y4=>(have hz:A6 j M 2 (C Y q):=Cb m 2;go_simp)
  refine Cf 5 98 (.agg (Cd (0,0))) Z (λj m=>?y5) b ?_
  case y5=>(unfold Cd;go_simp)
  have t:=sx (cs:=Ce a 0 ⟨#[]⟩ Cm Cm) (show M≠K (U W)+1 by omega) b;refine Hy 6 6 95 (g:=(K (U W)+1)) (T:=(Ce a 0 ⟨#[]⟩ Cm Cm)) B6 (u.drew.th) thg (t) ?_;refine Ca 7 7 (C Y q) t ?_;refine sF 8 8 98 (g:=(K (U W)+2)) (F:=(0,0)) B6 (FZ u.drew CO) (sx E t) ?_;refine CG ?_;go_simp;go_wp2;have p:=EB u.drew CO (Ce a 0 ⟨#[]⟩ Cm Cm) (0,0);exact ER results91 p (C Y q) Z Z Z Z (w _ p.2.2)
theorem dM(k:I)(W:X)(bs:A1)(fm d l lim:J)(i:I)(dp:J)(c:AU)(f:bs[i]?=H c)(m:¬(i:J)=lim)(hl:Lm bs l lim)(hi:Ct bs lim i)(g:d<=dp):Ar As 129 #[.agg (Cp bs fm d l),C Y i,C Y dp] W (F5 k bs lim W (.error (11,(i:J)))):=by
 have s:_root_.Decidable.decide (d<=dp)=AP:=by simpa using g
 have b:∀V,Ar _ 84 #[.agg _,.int _ i,.int _ 11] V λe o=>e=Ak (.agg (Cd _))/\Below _ V o:=λV=>by have h:=Lt V bs fm d l i 11;rw[Ht hl hi f m]at h;exact h
 have n:=KV W bs fm d l;clear f m hl hi g;unfold Cp;go_enter func129,ntmps129
 go_wp2_with(first
  |(go_at_call 84;apply DW (b _) n.next (λ_ h=>h.box);clear b;intro t a p q c2 r)
  |((with_reducible refine zT 6 17 rfl rfl (K (U W)+1) (Cr) ?_ ?_);exact⟨Z,Z,a.th,thg⟩)
  |((with_reducible refine zF 8 20 rfl rfl (K (U W)+2) (11,(i:J)) ?_ ?_);exact⟨Z,Z,FZ a CO⟩))
 have j:=EB a CO (Cr) (11,i);refine ER results129 j (.int _ 0) Z Z Z Z ⟨j.2.2,?_⟩;exact⟨_,AF Z,_,_,_,_,_,_,_,_,_,_,Z⟩
theorem sW(s:Cs)(c:AU)(p:I):Dz (Hx s c p):=aS
theorem sX(a:bs[p]?=H c)(h:Eh c=AQ):Gg bs l p=AQ:=by grind [Gg]
theorem sY(h:Eh c=AP):48<=(c.toNat:J)/\(c.toNat:J)<=57:=Dk h
theorem sZ(h:¬Eh c=AP):(c.toNat:J)<48\/57<(c.toNat:J):=by have b:¬(48<=(c.toNat:J)/\(c.toNat:J)<=57):=λa=>h (F4 a);omega
theorem t8(W:X)(fm d:J)(b:bs[i]?=H c)(u:c.toNat=45\/Eh c=AP)(j:¬(i:J)=lim)(hl:Lm bs l lim)(hi:Ct bs lim i)(hb:O bs<=281474976710656){s:Cs}(r:s.bs=bs)(t:s.lim=lim):Ar As 130 #[.agg (Cp bs fm d l),C Y i] W λe f=>Js bs lim (Hx s c (i+1)) e/\A0 W f:=by
 subst r;subst t;unfold Hx GT;simp only[];have p:=Ed hi b j;by_cases a:c.toNat=45
 .rw[Cn a];have v:∀x,Gg _ l _=AQ->CU _ l _ 9=x->Ar _ _ #[.agg (Cp _ fm d l),.int _ i] W λe f=>Js s.bs s.lim _ e/\Below _ W f:=λx n o=>(qH b a hb n o).mono λe f h=>⟨⟨_,AF Z,(λz q e=>kec),h.1⟩,h.2⟩
  rcases hc1:s.bs[i+1]? with _|m
  .grind [SP,Hs,It]
  simp only[];by_cases k:((i+1:I):J)=s.lim
  .grind [SP,GW,FY]
  rw[Ci k];by_cases g:Eh m=AP
  .rw[Cn g];have h:=bM W fm d b (AF ⟨Z,a,Z,Z⟩) hc1 g k hl p hb;grind [Jr]
  grind [sX,Ht]
 rw[Ci a];have g:=u.resolve_left a;have h:=bM W fm d b (AG ⟨Z,a,Z,Z⟩) b g j hl hi hb;grind [Jr]
theorem dN{nm:AU->I->A5 J}{wi:I}(a:(p:J)=lim)(hl:p<O bs):Fl bs lim depth nm (g+1) wi p=.error (8,(p:J)):=by grind [Fl]
theorem WB{s:Cs}(fm:J)(hl:Lm s.bs l s.lim)(hb:O s.bs<=281474976710656)(z:s.lim<=200000000)(N:s.depth<=100000):∀(g a:I) (W:X) (i:I),(a:J)<=s.depth->s.depth<a+g->Ct s.bs s.lim i ->
  Ar As 90 #[.agg (Cp s.bs fm s.depth l),C Y i,C Y a] W (F5 g s.bs s.lim W (Fl s.bs s.lim s.depth (Hx s) g a i))
 |0,a,W,i,d,j,_=>absurd j E
 |g+1,a,W,i,d,j,hi=>by
  have ac:∀p,a+1<=s.depth->Dz _:=λp h=>VY (bs:=s.bs) (lim:=s.lim) (depth:=s.depth) (λc p=>sW s c p) g (a+1) p E E;have ad:a<s.depth->∀p:I,p=s.lim->p<O s.bs->Fl _ _ s.depth (Hx s) g (a+1) p=.error (8,p):=λh p n o=>by
   obtain⟨g',rfl⟩:∃g',g=g'+1:=⟨g-1,E⟩
   exact dN n o
  rw[Fl];rcases hc:s.bs[i]? with _|c
  .exact Wj fm _ a (It hi.1 hc 9) (QU) (AF (Hs hc))
  simp only[];by_cases b:(i:J)=s.lim
  .rw[Cn b];exact Wj fm _ a (FY hl hc b 9) (QU) (AF (GW hl hc b))
  rw[Ci b];have k:=IM hl hi hc b;have f:∀(w:AU) (v:A1) (kd:J) (dd:A2),c=w->(w.toNat,Aw (w::v),kd)∈([(110,#[110,117,108,108],0),(102,#[102,97,108,115,101],1),(116,#[116,114,117,101],2)])->(∀W':X,CP 1 W' _ _ dd)->O (w::v)<=10->Ar _ 90 #[.agg _,.int _ i,.int _ a] W (F5 (g+1) _ _ W (match Dn _ _ v _ with
    |.error aa=>.error aa
    |.ok (_,q)=>.ok _)):=λw v kd dd d j n o=>by
   have y:=λV=>VG V fm s.depth _ (Cy o B8) hl hi hb;rw[qK hc b d]at y;rcases hr:Dn s.bs s.lim v (i+1)with ab|r
   .rw[hr]at y;exact bQ hc k (by rw[d]) j y (QU)
   obtain⟨ah,q⟩:=r;rw[hr]at y;exact bQ hc k (by rw[d]) j y (bP (QP v _ q (Ed hi hc b) hr).2 n)
  unfold JU;by_cases R:c.toNat=110
  .rw[Cn R];exact f 110 _ 0 _ (by apply P3.1;rw[R];rfl) B8 (λ_=>rfl) B8
  rw[Ci R];by_cases S:c.toNat=116
  .rw[Cn S];exact f 116 _ 2 _ (by apply P3.1;rw[S];rfl) B8 (λ_=>rfl) B8
  rw[Ci S];by_cases Q:c.toNat=102
  .rw[Cn Q];exact f 102 _ 1 _ (by apply P3.1;rw[Q];rfl) B8 (λ_=>rfl) B8
  rw[Ci Q];by_cases F:c.toNat=34
  .rw[Cn F];have A:=λV=>bJ V fm s.depth hl (Ed hi hc b) hb z;rcases hr:Dr s.bs s.lim (O s.bs+1-(i+1)) (i+1) [] 0 with ab|r
   .rw[hr]at A;exact bR hc k F A (QU)
   obtain⟨x,q⟩:=r;rw[hr]at A;exact bR hc k F A (bP (SQ _ _ [] 0 x q (Ed hi hc b) hr) λ_=>rfl)
  rw[Ci F];have ei:(i+1:I)-1=(i:J):=E;by_cases L:c.toNat=91
  .rw[Cn L];refine Wk hc k (AF ⟨AF L,λV=>?_⟩);by_cases u:(a:J)=s.depth
   .grind [dM]
   rw[Ci u];exact dI (m:=AQ) g V a hc L b hl hi hb z E E N (λp=>ac p E) (ad E) (λp x q h=>SH s _ _ _ _ _ h) (λP p e=>WB fm hl hb z N g (a+1) P p E E e)
  rw[Ci L];by_cases B:c.toNat=123
  .rw[Cn B];refine Wk hc k (AF ⟨AG B,λV=>?_⟩);by_cases u:(a:J)=s.depth
   .grind [dM]
   rw[Ci u];exact dI (m:=AP) g V a hc B b hl hi hb z E E N (λp=>ac p E) (ad E) (λp x q h=>SH s _ _ _ _ _ h) (λP p e=>WB fm hl hb z N g (a+1) P p E E e)
  rw[Ci B];by_cases t:c.toNat=45\/Eh c=AP
  .rw[Cn t];have hN:=λV=>t8 V fm s.depth hc t b hl hi hb Z Z;refine Wk hc k (AG ⟨t.imp id λh=>AY (sY h),λV=>(hN V).mono λaa W' h=>?_⟩);obtain⟨⟨r',d,j,n⟩,o⟩:=h;obtain ab|x:=r'
   .exact⟨o,_,qL d,_,_,_,_,_,_,_,_,_,_,n⟩
   exact⟨o,_,qM d,(j _ _ Z).1,_,_,_,_,_,_,_,_,_,n,Nh ⟨Z,(j _ _ Z).2⟩⟩
  rw[Ci t,ei];have ag:¬c.toNat=45:=λh=>t (AF h);have af:¬Eh c=AP:=λh=>t (AG h);have ae:=Ht hl hi hc b 9;exact Wj fm _ a ae (QU) (AG ⟨k,c,hc,λx hx=>by simp at hx;omega,AY (sZ af)⟩)
theorem t9(a:fm=2\/fm=3)(c:AU):(DI fm c.toNat).1<=10:=by
 rcases a with rfl|rfl
 .exact(VS c.toNat c.toNat_lt).1
 exact(VT c.toNat c.toNat_lt).1
theorem Ta{so w:I}(a:¬so=5)(b:¬so=6):nR so w x=min (x:J) 9223372036854775807:=by grind [nR]
theorem Tb{x:J}:-9223372036854775808<=wrap64 x/\wrap64 x<=9223372036854775807:=by unfold wrap64;omega
theorem td(x:I)(w:J):-9223372036854775808<=Gf x w/\Gf x w<=9223372036854775807:=by
 unfold Gf;split
 .exact Tb
 split
 .exact Tb
 split
 .exact Tb
 exact Tb
theorem dO(fm:J)(aa:fm=2\/fm=3)(hl:Lm bs l lim)(hb:O bs<=200000000)(au:depth<=100000):∀(g s:I) (W:X) (i:I),(s:J)<=depth->depth<s+g->Ct bs lim i ->
  Ar As 91 #[.agg (Cp bs fm depth l),C Y i,C Y s] W (J4 g bs lim W (DM (DI fm) bs lim depth g s i)):=by
 intro g
 induction g with
 |zero=>omega
 |succ g ih =>
  intro s W i P Q hi;have go:∀R,QZ bs fm depth l s i->(∀a n q o F,(∀b w x p,Ea fm bs lim i=.ok (b,w,x,p)->a=IP b/\n=nR b w x/\q=(p:J)/\o=I2 b x/\F=(0,0))->(∀f,Ea fm bs lim i=.error f->F=f)->WA (g+1) W bs fm depth l lim s R a n q o F)->Ar As 91 #[.agg (Cp bs fm depth l),C Y i,C Y s] W (J4 (g+1) bs lim W R):=λR m hB=>sV g W lim R m λV=>(dg (W:=V) depth hl hi hb aa).mono λe v ⟨⟨a,n,q,o,F,he,r,h4⟩,h5⟩=>⟨⟨a,n,q,o,F,he,hB a n q o F r h4⟩,h5⟩
  have z:=λf hf m ab=>go _ m λa n q o F _ h4=>AF (by obtain rfl:=h4 f hf;exact⟨ab,T9 _⟩);rcases hc:bs[i]? with _|ai
  .conv=>rhs;rw[DM,hc]
   exact z _ (by unfold Ea;rw[hc]) (AF (Hs hc)) rfl
  by_cases m:(i:J)=lim
  .conv=>rhs;rw[DM,hc]
   simp only[];rw[Cn m];exact z _ (by grind [Ea]) (AF (GW hl hc m)) Z
  have hh:=IM hl hi hc m;have hn:=Ed hi hc m;have c:=λV=>r8 V depth l hc aa;have al:=t9 aa ai;obtain⟨b,w,S,ag⟩:∃b w S,DI fm ai.toNat=(b,w,S):=⟨_,_,_,rfl⟩
  rw[SB hc m ag];rw[ag]at c al;simp only[]at c al;have t:¬b=0->Ea fm bs lim i=match CR bs lim w (i+1) S with
    |.error f=>.error f
    |.ok (x,q)=>.ok (b,w,x,q):=λN=>by
   grind [Ea]
  by_cases N:b=0
  .rw[Cn N];have e:=Wr hc m (by rw[ag];exact N);exact z _ e (AG ⟨hh,_,c,λh=>by simp at h;omega⟩) rfl
  rw[Ci N];have t:=t N;have B:∀x q R a,Ea fm bs lim i=.ok (b,w,x,q)->IP b=a->QZ bs fm depth l s i->dL (g+1) W bs fm depth l lim s R a (nR b w x) q (I2 b x)->Ar As 91 #[.agg (Cp bs fm depth l),C Y i,C Y s] W (J4 (g+1) bs lim W R):=λx q R a hf ha m hB=>go R m λa n q' o F r _=>by obtain⟨rfl,rfl,rfl,rfl,rfl⟩:=r _ _ _ _ hf;rw[ha];exact AG ⟨Z,hB⟩
  by_cases ad:b=9\/b=10
  .have j:=c;rw[F4 ad]at j;by_cases ap:(s:J)=depth
   .grind [sU,Ht]
   rw[Ci (λh=>ap h.2)];have m:QZ bs fm depth l s i:=AG ⟨hh,_,j,λ_=>E⟩;rcases har:CR bs lim w (i+1) S with f|y
   .rw[har]at t;have ab:(f.1==0)=AQ:=BN;exact z f t m ab
   obtain⟨x,q⟩:=y;rw[har]at t;have u:=(PA _ _ _ _ _ hn har).2;simp only[];have hJ:∀V (p:I),Ct bs lim p->Ar As 91 #[.agg (Cp bs fm depth l),C Y p,C Y ((s:J)+1)] V (J4 g bs lim V (DM (DI fm) bs lim depth g (s+1) p)):=λV p aq=>ih (s+1) V p E E aq;have aj:=λp=>SJ (DI fm) (bs:=bs) (lim:=lim) (depth:=depth) g (s+1) p E E;have ak:=λp x q h=>SE (DI fm) bs lim depth g (s+1) p x q h;rcases ad with rfl|rfl
   .have hP:=λV=>dK AQ (k:=g) V (bs:=bs) (fm:=fm) (d:=depth) (l:=l) (lim:=lim) (q0:=q) (x:=x) (n:=(nR 9 w x)) (I2 9 x) (dp:=s) (Ta B8 B8) hl u hb E E aa (rd:=(DM (DI fm) bs lim depth g (s+1))) aj ak hJ;exact B _ _ _ 6 t Z m (AG (AG (AG (AF ⟨AF Z,hP⟩))))
   have hP:=λV=>dK AP (k:=g) V (bs:=bs) (fm:=fm) (d:=depth) (l:=l) (lim:=lim) (q0:=q) (x:=x) (n:=(nR 10 w x)) (I2 10 x) (dp:=s) (Ta B8 B8) hl u hb E E aa (rd:=(DM (DI fm) bs lim depth g (s+1))) aj ak hJ;exact B _ _ _ 7 t Z m (AG (AG (AG (AF ⟨AG Z,hP⟩))))
  have j:=c;rw[Fv ad]at j;rw[Ci (λh=>ad h.1)];have m:QZ bs fm depth l s i:=AG ⟨hh,_,j,λe=>kec⟩;rcases har:CR bs lim w (i+1) S with f|y
  .rw[har]at t;have ab:(f.1==0)=AQ:=BN;exact z f t m ab
  obtain⟨x,q⟩:=y;rw[har]at t;obtain⟨aw,u⟩:=PA _ _ _ _ _ hn har;have av:0<q:=E;have ao:∀V,Ar As 84 #[.agg (Cp bs fm depth l),C Y ((q:J)-1),C Y 10] V λe v=>e=Ak (.agg (Cd (10,(q:J)-1)))/\A0 V v:=λV=>by
   obtain⟨r0,rfl⟩:∃r0,q=r0+1:=⟨q-1,E⟩
   have h:=Lt V bs fm depth l r0 10;rw[QQ hl u,show(r0:J)=((r0+1:I):J)-1 by omega]at h;exact h
  simp only[];have ae:∀(a:J) (dd:A2),IP b=a->0<=a/\a<=2->(∀v:X,CP (g+1) v (λan=>K (U W)<=an/\an<K (U v)) (.agg (Ce a 0 ⟨#[]⟩ Cm Cm)) dd)->Ar As 91 #[.agg (Cp bs fm depth l),C Y i,C Y s] W (J4 (g+1) bs lim W (.ok (dd,q))):=λa dd N P Q=>B _ _ _ a t N m (AG (AG (AG (AG ⟨P,λv h=>⟨h,u,_,_,_,_,_,_,_,_,_,Z,Q v⟩⟩))));have am:=λP Q=>B _ _ _ 3 t P m (AF ⟨Z,Q,E,AY u.1,_,ao,T9 _⟩);have af:∀ac,IP b=3->I2 b x=AQ->nR b w x=ac -> -9223372036854775808<=ac/\ac<=9223372036854775807->Ar As 91 #[.agg (Cp bs fm depth l),C Y i,C Y s] W (J4 (g+1) bs lim W (.ok (.lit (.int Y ac),q))):=λac P Q r h4=>by subst r;exact B _ _ _ 3 t P m (AG (AF ⟨Z,Q,λv h=>⟨h,u,_,_,_,_,_,_,_,_,_,Z,Nh ⟨Z,h4⟩⟩⟩))
  have hv:b=1\/b=2\/b=3\/b=4\/b=5\/b=6\/b=7\/b=8:=E;rcases hv with rfl|rfl|rfl|rfl|rfl|rfl|rfl|rfl
  .exact ae 0 _ Z B8 λ_=>Nh Z
  .exact ae 1 _ Z B8 λ_=>Nh Z
  .exact ae 2 _ Z B8 λ_=>Nh Z
  .unfold G0;simp only[];by_cases L:9223372036854775807<x
   .rw[show Fj 4 w x q=.error (10,(q:J)-1) by simp[Fj,L]];exact am Z keN
   rw[show Fj 4 w x q=.ok (x:J) by simp[Fj,L]];exact af _ Z keN (by simp[nR];omega) E
  .unfold G0;simp only[];rw[show Fj 5 w x q=.ok (Gf x w) by simp[Fj]];exact af _ Z (by simp[I2]) (by simp[nR]) (td x w)
  .unfold G0;simp only[];by_cases L:9223372036854775807<x
   .rw[show Fj 6 w x q=.error (10,(q:J)-1) by simp[Fj,L]];exact am Z keN
   rw[show Fj 6 w x q=.ok (-1-(x:J)) by simp[Fj,L]];exact af _ Z keN (by simp[nR];omega) E
  .have A:=λV=>sD V (bs:=bs) fm depth (i:=q) (x:=x) (n:=(nR 7 w x)) (Ta B8 B8) hl u hb;unfold G0;simp only[];rcases hr:EJ bs lim x q []with f|y
   .rw[hr]at A;exact B _ _ _ 5 t Z m (AG (AG (AF ⟨AQ,⟨Z,λ_=>rfl⟩,_,0,f,A,T9 f⟩)))
   obtain⟨lx,ah⟩:=y;rw[hr]at A;exact B _ _ _ 5 t Z m (AG (AG (AF ⟨AQ,⟨Z,λ_=>rfl⟩,_,ah,_,A,λv h=>⟨h,(dA _ _ _ _ _ u hr).1,_,_,_,_,_,_,_,_,_,Z,Nh Z⟩⟩)))
  have A:=λV=>dz V (bs:=bs) fm depth (i:=q) (x:=x) (n:=(nR 8 w x)) (Ta B8 B8) hl u hb;unfold G0;simp only[];rcases hr:Dm bs lim x q [] 0 with f|y
  .rw[hr]at A;exact B _ _ _ 4 t Z m (AG (AG (AF ⟨AP,⟨Z,λe=>kec⟩,_,0,f,A,T9 f⟩)))
  obtain⟨lx,ah⟩:=y;rw[hr]at A;exact B _ _ _ 4 t Z m (AG (AG (AF ⟨AP,⟨Z,λe=>kec⟩,_,ah,_,A,λv h=>⟨h,(Wx _ _ _ _ _ _ u hr).1,_,_,_,_,_,_,_,_,_,Z,Nh Z⟩⟩)))
theorem te(k:I)(fm:J)(Q:fm=1)(L:∀V,Ar As 90 #[.agg (Cp bs fm d l),C Y i,C Y 0] V (F5 k bs lim V r)):Ar As 54 #[.agg (Cp bs fm d l),C Y i] W (F5 k bs lim W r):=by
 have tf:(fm==1)=AP:=by simpa using Q
 have B:D (∀V,Ar As 90 #[Ag #[Ae ⟨Aw bs⟩,C Y fm,C Y d,C Y l],C Y i,C Y 0] V (F5 k bs lim V r)):=L;have HX:=KV W bs fm d l;have e:∀A,K (U (Az (Az (Az W (M A 115)) (M Cr 101)) (M (Cd (0,0)) 103)))=K (U W)+3:=λA=>Ba;clear Q L;unfold Cp;go_enter func54,ntmps54
 go_wp2_with fail
 refine(B _).mono ?_;rintro ae f S;obtain⟨ac,x,t,v,s,m,o,p,n,w,u,z,F,R,rfl,b,hF⟩:=Ni S;have g:=G (HX.next ac);have aa:=G R;have y:=G hF;have HA:D (∀a q,x=.ok (a,q)->Ct bs lim q/\z=(q:J)/\F=(0,0)/\CP k f (λj=>K (U W)+3<=j/\j<K (U f)) (.agg (Ce t v s (T m o p) (T n w u))) a):=λa q h=>⟨(b a q h).1,(b a q h).2.1,(b a q h).2.2.1,(b a q h).2.2.2.same (λj c=>⟨by have h2:=c.1;have N:=e #[Ae ⟨Aw bs⟩,C Y fm,C Y d,C Y l];unfold Cr Ce Cm Cd at N;simp only[CI,A0]at h2 N;omega,c.2⟩) (λ_ _=>rfl)⟩
 clear S R hF b B e;simp only[]
 go_wp2_with(first
  |((with_reducible refine zT 4 13 rfl rfl (K (U W)+1) (Ce t v s (T m o p) (T n w u)) ?_ ?_);exact⟨Z,Z,g.th,thg⟩)
  |((with_reducible refine zF 6 15 rfl rfl (K (U W)+2) (F) ?_ ?_);exact⟨Z,Z,FZ g CO⟩))
 have P:=EB g CO (Ce t v s (T m o p) (T n w u)) (F);refine ER results54 P (C Y z) Z Z Z Z ⟨P.2.2,x,aa,?_⟩;obtain ab|ad:=x
 .obtain rfl:=y.out ab rfl;exact⟨_,_,_,_,_,_,_,_,_,_,Z⟩
 obtain⟨a,q⟩:=ad;obtain⟨hq,rfl,rfl,b⟩:=HA.out a q rfl;refine⟨hq,_,_,_,_,_,_,_,_,_,Z,b.same (λj c=>⟨AY c.1,by simpa using c.2⟩) (λj c=>?_)⟩;rw[Dg _ _ _ _ E,Dg _ _ _ _ E]
theorem dP(k:I)(fm:J)(ac:¬fm=1)(cJ:∀V,Ar As 91 #[.agg (Cp bs fm d l),C Y i,C Y 0] V (F5 k bs lim V r)):Ar As 54 #[.agg (Cp bs fm d l),C Y i] W (F5 k bs lim W r):=by
 have tf:(fm==1)=AQ:=by simpa using ac
 have B:D (∀V,Ar As 91 #[Ag #[Ae ⟨Aw bs⟩,C Y fm,C Y d,C Y l],C Y i,C Y 0] V (F5 k bs lim V r)):=cJ;have HX:=KV W bs fm d l;have R:∀A,K (U (Az (Az (Az W (M A 115)) (M Cr 101)) (M (Cd (0,0)) 103)))=K (U W)+3:=λA=>Ba;unfold Cp;go_enter func54,ntmps54
 go_wp2_with fail
 refine(B _).mono ?_;rintro ae S Q;obtain⟨ab,x,t,v,s,m,o,p,n,w,u,z,F,P,rfl,b,hF⟩:=Ni Q;have g:=G (HX.next ab);have y:=G P;have f:=G hF;have e:D (∀a q,x=.ok (a,q)->Ct bs lim q/\z=(q:J)/\F=(0,0)/\CP k S (λj=>K (U W)+3<=j/\j<K (U S)) (.agg (Ce t v s (T m o p) (T n w u))) a):=λa q h=>⟨(b a q h).1,(b a q h).2.1,(b a q h).2.2.1,(b a q h).2.2.2.same (λj c=>⟨by have h2:=c.1;have L:=R #[Ae ⟨Aw bs⟩,C Y fm,C Y d,C Y l];unfold Cr Ce Cm Cd at L;simp only[CI,A0]at h2 L;omega,c.2⟩) (λ_ _=>rfl)⟩
 clear Q P hF b B R;simp only[]
 go_wp2_with(first
  |((with_reducible refine zT 4 19 rfl rfl (K (U W)+1) (Ce t v s (T m o p) (T n w u)) ?_ ?_);exact⟨Z,Z,g.th,thg⟩)
  |((with_reducible refine zF 6 21 rfl rfl (K (U W)+2) (F) ?_ ?_);exact⟨Z,Z,FZ g CO⟩))
 have N:=EB g CO (Ce t v s (T m o p) (T n w u)) (F);refine ER results54 N (C Y z) Z Z Z Z ⟨N.2.2,x,y,?_⟩;obtain aa|ad:=x
 .obtain rfl:=f.out aa rfl;exact⟨_,_,_,_,_,_,_,_,_,_,Z⟩
 obtain⟨a,q⟩:=ad;obtain⟨hq,rfl,rfl,b⟩:=e.out a q rfl;refine⟨hq,_,_,_,_,_,_,_,_,_,Z,b.same (λj c=>⟨AY c.1,by simpa using c.2⟩) (λj c=>?_)⟩;rw[Dg _ _ _ _ E,Dg _ _ _ _ E]
theorem tj(W:X)(g:fm=1\/fm=2\/fm=3)(hl:Lm bs l lim)(hb:O bs<=200000000)(j:lim<=200000000)(a:0<=d)(b:d<=100000)(hi:Ct bs lim i):Ar As 54 #[.agg (Cp bs fm d l),C Y i] W (F5 (d.toNat+1) bs lim W (GY fm bs d lim i)):=by
 have c:d<((0:I):J)+((d.toNat+1:I):J):=E;rcases g with rfl|rfl|rfl
 .refine te (d.toNat+1) 1 Z (λV=>?_);exact WB (s:=⟨Ao,bs,0,d,lim,0,0⟩) 1 hl (Cy hb B8) j b (d.toNat+1) 0 V i a c hi
 .refine dP (d.toNat+1) 2 B8 (λV=>?_);exact(dO 2 (AF Z) hl hb b (d.toNat+1) 0 V i a c hi).mono λe f h=>Wy h
 refine dP (d.toNat+1) 3 B8 (λV=>?_);exact(dO 3 (AG Z) hl hb b (d.toNat+1) 0 V i a c hi).mono λe f h=>Wy h
theorem tm{a b c:J}:(Cp [] 0 0 0).size=(Cp bs a b c).size:=rfl
theorem tn{a b c:J}:(Cp bs a b c).all (·.oneCell')=AP:=by simp[Cp,Value.oneCell']
def F9(fm:AI)(bs:A1)(l:AI)(p:AH):AH:=if fm=1 then Es bs l (At bs+1-p) p else p
theorem RG(fm:J)(hi:Ct bs l p):(Jo fm bs l p=.ok ((),F9 fm bs l p)/\Ct bs l (F9 fm bs l p)/\p<=F9 fm bs l p)\/(Jo fm bs l p=.error (8,(F9 fm bs l p:J))/\(F9 fm bs l p:J)=l/\F9 fm bs l p<O bs):=by
 unfold Jo F9;by_cases h:fm=1
 .rw[Cn h,Cn h];rcases Ma (λ_ _=>Iff.rfl) (O bs+1-p) p hi with⟨q,a,b,c,d,_⟩|⟨q,a,b,c,d⟩<;>grind
 grind
theorem q2G(fm:J)(d:J)(a:(p:J)=l)(hl:p<O bs):GY fm bs d l p=.error (8,(p:J)):=by grind [DM,GY,dN]
theorem quA(hl:0<=l){r':AS (J×J) (AM Unit×I)}(k:Gh bs l (GY fm bs d l (F9 fm bs l 0)) r'):(∀f,r'=.error f->DN fm bs d l=.error f)/\(∀m q,r'=.ok (m,q)->Ct bs l q->Ct bs l (F9 fm bs l q)/\(F9 fm bs l q<O bs->DN fm bs d l=.error (CU bs l (F9 fm bs l q) 9))/\(¬F9 fm bs l q<O bs->DN fm bs d l=.ok m/\(O bs:J)<=l)):=by
 have y:Ct bs l 0:=⟨En _,hl⟩
 have p:Lm bs l l:=λ_ _=>Iff.rfl;rcases RG fm y with⟨v,t,_⟩|⟨v,t,w⟩
 .generalize F9 fm bs l 0=p0 at *;have a:DN fm bs d l=match GY fm bs d l p0 with
    |.error e=>.error e
    |.ok (d,p1)=>match Jo fm bs l p1 with
     |.error e=>.error e
     |.ok (_,p2)=>match KS ⟨Ao,bs,0,0,l,p2,0⟩with
      |.error e=>.error e
      |.ok _=>.ok d:=by
   grind [DN,Lw]
  refine⟨λf o=>?_,λm q r i=>?_⟩
  .subst o;rcases k with h|⟨q,_,_,_,x,h⟩<;>grind
  subst r;rcases k with h|⟨B,u,n,j,x,c⟩
  .rw[h]at a;simp only[]at a;rcases RG fm i with⟨s,b,g⟩|⟨s,b,g⟩
   .rw[s]at a;simp only[]at a;generalize F9 fm bs l q=p2 at *;refine⟨b,λL=>?_,λF=>?_⟩
    .grind [KS,FY,Ht]
    have z:bs[p2]?=Ao:=Hm E;rw[a];unfold KS;simp only[z];refine⟨trivial,?_⟩;have:=b.2;have:=b.1;omega
   rw[s]at a;simp only[]at a;generalize F9 fm bs l q=p2 at *;refine⟨⟨E,E⟩,λ_=>?_,λh=>absurd g h⟩;rw[a,FY p (D3 g) b]
  injection c with c;injection c with e1 e2;subst e2;rw[u]at a;simp only[]at a;have e:F9 fm bs l q=q:=by
   rcases RG fm i with⟨_,b,g⟩|⟨_,b,g⟩
   .have:=b.2;omega
   omega
  rw[e];refine⟨i,λ_=>?_,λh=>absurd j h⟩;rw[a,FY p (D3 j) n]
 have A:=q2G fm d t w;have a:DN fm bs d l=.error (8,(F9 fm bs l 0:J)):=by grind [DN,Lw]
 generalize F9 fm bs l 0=p0 at *;rw[A]at k;refine⟨λf o=>?_,λm q r i=>?_⟩
 .subst o;rcases k with h|⟨q,_,_,_,x,h⟩<;>grind
 subst r;rcases k with h|⟨B,u,n,j,x,c⟩
 .cases h
 injection c with c;injection c with e1 e2;subst e2;have e:F9 fm bs l q=q:=by
  rcases RG fm i with⟨_,b,g⟩|⟨_,b,g⟩
  .have:=b.2;omega
  omega
 rw[e];refine⟨i,λ_=>?_,λh=>absurd j h⟩;rw[a,FY p (D3 j) n,show(p0:J)=q by omega]
structure ME(W:World)(A:A3)(V:World):Prop where
 th:V.heap[W.heap.size]?=some (.cells Cr 101)
 flt:V.heap[W.heap.size+1]?=some (.cells (Cd (0,0)) 103)
 box:V.heap[W.heap.size+2]?=some (.cells A 115)
 below:A0 W V
theorem ME.next(h:ME W A V)(hb:A0 V V'):ME W A V' :=
 ⟨(hb.block _ (Cc h.th)).trans h.th,(hb.block _ (Cc h.flt)).trans h.flt,(hb.block _ (Cc h.box)).trans h.box,h.below.trans (hb.mono h.below.size)⟩
theorem ME.drew(h:ME W A V):ME W A V.drew:=⟨h.th,h.flt,h.box,h.below.drew⟩
theorem q4M(W:X){B:A3}:ME W A ((Az (Az (Az W (M Cr 101)) (M (Cd (0,0)) 103)) (M B 115)).setRow (K (U W)+2) A):=by have c:K (U (Az W (M Cr 101)))=K (U W)+1:=Ba;have d:K (U (Az (Az W (M Cr 101)) (M (Cd (0,0)) 103)))=K (U W)+2:=Ba;have b:=Cj (Az (Az W (M Cr 101)) (M (Cd (0,0)) 103)) (o:=(M B 115));have a:=Cj (Az W (M Cr 101)) (o:=(M (Cd (0,0)) 103));rw[d]at b;rw[c]at a;refine⟨sx E ((Cx _ _ _ E).trans ((Cx _ _ _ E).trans (Cj W))),sx E ((Cx _ _ _ E).trans a),CM _ _ _ _ _ _ b,Dj (((Cl).alloc E _).alloc E _) E⟩
theorem q24(V:X)(a b:I)(x y:A3):K (U (AD (AD V a x) b y))=K (U V):=by simp[World.setRow]
theorem q5l(W:X){B:A3}:(Az (Az (Az W (M Cr 101)) (M (Cd (0,0)) 103)) (M B 115)).heap[K (U W)+2]?=H (M B 115):=by have h:=Cj (Az (Az W (M Cr 101)) (M (Cd (0,0)) 103)) (o:=(M B 115));simp_all
theorem ME.fin(h:ME W A V)(T:A3)(x:J×J):(AD (AD V (K (U W)) T) (K (U W)+1) (Cd x)).heap[K (U W)]?=H (M T 101)/\(AD (AD V (K (U W)) T) (K (U W)+1) (Cd x)).heap[K (U W)+1]?=H (M (Cd x) 103)/\A0 W (AD (AD V (K (U W)) T) (K (U W)+1) (Cd x)) :=
 ⟨sx E (CM _ _ _ _ _ _ h.th),CM _ _ _ _ _ _ (sx E h.flt),Dj (Dj h.below E) E⟩
theorem XT{fn:Func}{p q:Tmp}{A:Act}{g2:I}{k:J}{ks vs:Aq}{R:Ending->X->Prop}{B:Prop}(h:fn.results=#[.cell p 101,.cell q 103])(a:A7 w g (Ce k n s ks vs) 101/\A7 w g2 (Cd F) 103/\B)(c:A.tmps.getD p Go.undef=A8 g)(d:A.tmps.getD q Go.undef=A8 g2)(b:A.defers=[])(e:R (Ak (Af #[.agg (Ce k n s ks vs),.agg (Cd F)])) w):bodyPost As fn R .ret A w :=
 CL (cm h c a.1 underlying101 rfl (Oc) d a.2.1 underlying103 rfl (Ke)) b e
def ji(k:AH)(bs:A1)(l:AI)(W:Ap)(r:AS (AI×AI) (AM Unit))(e:Ending)(W':Ap):Prop :=
 A0 W W'/\match r with
 |.ok dd=>(∃kd n s a i j b p m,e=Ak (Af #[.agg (Ce kd n s (Ac a i j) (Ac b p m)),.agg (Cd (0,0))])/\CP k W' (λj=>_root_.Array.size (Av W)<=j/\j<_root_.Array.size (Av W')) (.agg (Ce kd n s (Ac a i j) (Ac b p m))) dd)/\(At bs:AI)<=l
 |.error f=>e=Ak (Af #[.agg Cr,.agg (Cd f)])
theorem XU(W:X)(d l:J)(a2:fm=1\/fm=2\/fm=3)(an:0<=d)(a0:d<=100000)(ao:0<=l)(be:l<=200000000)(hb:O bs<=200000000):Ar As 46 #[C Y fm,C Y d,C Y l,Ae ⟨Aw bs⟩] W (ji (d.toNat+1) bs l W (DN fm bs d l)):=by
 have a4:Lm bs l l:=λ_ _=>Iff.rfl;have a3:Ct bs l (F9 fm bs l 0):=by
  rcases RG fm (bs:=bs) (l:=l) (p:=0) ⟨En _,ao⟩with⟨_,h,_⟩|⟨_,h1,h2⟩
  .exact h
  exact⟨E,E⟩
 have ah:=G (λr' h=>quA (fm:=fm) (bs:=bs) (d:=d) (l:=l) ao (r':=r') h);have ap:D (∀en pl,DN fm bs d l=.error (en,pl)->en≠0):=QL fm bs d l an;have cT:=λV=>tj V (bs:=bs) (fm:=fm) (d:=d) (l:=l) (i:=(F9 fm bs l 0)) a2 a4 hb be an a0 a3;have cS:∀(V:X) (i:I),fm=1->i<=O bs->Ar As 83 #[Ag #[Ae ⟨Aw bs⟩,C Y fm,C Y d,C Y l],C Y i] V λe W'=>e=Ak (C Y (F9 fm bs l i))/\A0 V W':=λV i h1 h2=>by have h:=Sx V (bs:=bs) fm d l E h2;unfold F9;rw[Cn h1];exact h
 have aq:=G (λV i=>Oa bs fm d l V i 9);have ar:D (¬fm=1->∀i,F9 fm bs l i=i):=λh i=>by grind [F9]
 generalize DN fm bs d l=R at *;obtain⟨p0,aj⟩:=CA (F9 fm bs l 0);rw[AE aj]at cT ah;by_cases r:fm=1
 case' pos =>
  have e1:(fm==1)=AP:=kei;have ai:=G r;have au:∀V,Ar As 83 #[Ag #[Ae ⟨Aw bs⟩,C Y fm,C Y d,C Y l],C Y 0] V λe W'=>e=Ak (C Y p0)/\A0 V W':=λV=>by grind [D]
  have ag:D (∀V,Ar As 54 #[Ag #[Ae ⟨Aw bs⟩,C Y fm,C Y d,C Y l],C Y p0] V (F5 (d.toNat+1) bs l V (GY fm bs d l p0))):=cT;have a9:=G (λV i h=>cS V i ai h)
 case' neg =>
  have e1:(fm==1)=AQ:=kei;have ai:=G r;obtain rfl:0=p0:=(ar r 0).symm.trans aj;have ag:D (∀V,Ar As 54 #[Ag #[Ae ⟨Aw bs⟩,C Y fm,C Y d,C Y l],C Y 0] V (F5 (d.toNat+1) bs l V (GY fm bs d l 0))):=cT
 all_goals
  clear cT a3 a4 aj a2 r cS an a0 ao;go_enter func46,ntmps46
  go_wp2_with(first
   |((with_reducible refine Db rfl 115 (.tmp 10) (.tmp 18) rfl (K (U W)+2) (Cp bs fm d l) ?hx ?hy 115 (Cp [] 0 0 0) ?hg ?hi ?hs ?h1 ?_);(case hx=>exact rfl);(case hy=>exact rfl);(case hg=>exact q5l W);(case hi=>exact VF);(case hs=>exact tm);(case h1=>exact tn);refine Gx ?_;intro V0 E0;have y:=G (E0▸q4M W);clear E0;have c:=Cb y.box 0;have k:=Cb y.box 1;have c2:=Cb y.box 2;have m:=Cb y.box 3;unfold Cp at c k c2 m;have w:=y)
   |(go_at_call 83;refine(au _).mono ?_;clear au c k c2 m;rintro e w2 ⟨rfl,av⟩;have w:=G (y.next av);clear av;have c:=Cb w.box 0;have k:=Cb w.box 1;have c2:=Cb w.box 2;have m:=Cb w.box 3;unfold Cp at c k c2 m))
  refine(ag _).mono ?_;clear c k c2 m;rintro e a a7;obtain⟨aw,r',N,Q,s,x,B,L,A,z,P,bj,F,a5,rfl,hA,hF⟩:=Ni a7;have ad:=G (w.next aw);obtain⟨hE,hO⟩:=ah.out r' a5;have bb:=G (Cc ad.box);have ba:=G (Cc w.box);clear a7 a5 ah ag aw;simp only[];obtain bc|bh:=r'
  .obtain rfl:=hF bc rfl;obtain rfl:=hE F rfl;have bi:(F.1==0)=AQ:=by grind [D]
   clear hA hF hE hO ap
   go_wp2_with(first
    |((with_reducible refine zT 12 27 rfl rfl (K (U a)) (Ce N Q s (Ac x B L) (Ac A z P)) ?_ ?_);exact⟨Z,Z,(Ju a).1,thg⟩)
    |((with_reducible refine zF 13 29 rfl rfl (K (U a)+1) F ?_ ?_);exact⟨Z,Z,sx E (Ju a).2⟩;refine Gx ?_;intro V5 n;have b:=G (n▸ad.next (Oq));have f:=G (n▸QX);clear n;have u0:A6 V5 (K (U a)+1) 0 (C Y F.1):=Cb f 0))
   have hM:=AE bb;refine Dl (S:=λam=>A7 am (K (U a)+1) (Cd F) 103) f B6 ?_;intro hS;refine Cf 0 33 (.agg Cr) Z (λam _=>?y0) hS ?_
   case y0=>(unfold Cr Ce Cm;go_simp)
   refine Cf 1 34 (.agg (Cd F)) Z (λam hZ=>yF 13 hZ Z Z) hS ?_;have az:=sx (cs:=Cr) (show K (U a)+1≠K (U W) by omega) hS;refine Hy 2 8 33 (g:=K (U W)) (T:=Cr) B6 b.drew.th thg az ?_;refine sF 3 9 34 (g:=(K (U W)+1)) (F:=F) B6 (sx E b.drew.flt) (sx E az) ?_;refine CG ?_;go_simp;go_wp2;have r:=b.drew.fin Cr F;exact XT results46 r Z Z Z ⟨r.2.2,Z⟩
  obtain⟨dd,q⟩:=bh;obtain⟨hq,rfl,rfl,ay⟩:=hA dd q rfl;obtain⟨bd,af,ae⟩:=hO dd q rfl hq;have HA:D (CP (d.toNat+1) a (λj=>K (U W)+3<=j/\j<K (U a)) (.agg (Ce N Q s (Ac x B L) (Ac A z P))) dd):=ay.same (λj hj=>⟨AY (AE ba),hj.2⟩) (λ_ _=>rfl);have bg:=hq.1;clear hA hF hE hO ap ay;obtain⟨p2,ak⟩:=CA (F9 fm bs l q);rw[AE ak]at bd af ae
  first|(have aa:=λV=>a9.out V q bg;rw[AE ak]at aa)|obtain rfl:p2=q:=ak.symm.trans (ar ai q)
  by_cases a6:p2<O bs
  .obtain rfl:=af a6;have bf:(p2:J)<(O bs:J):=E;have cB:=λV=>aq.out V p2;generalize CU bs l p2 9=F at *;clear af ae HA hq
   go_wp2_with(first
    |((with_reducible refine zT 12 27 rfl rfl (K (U a)) (Ce N Q s (Ac x B L) (Ac A z P)) ?_ ?_);exact⟨Z,Z,(Ju a).1,thg⟩)
    |((with_reducible refine zF 13 29 rfl rfl (K (U a)+1) (0,0) ?_ ?_);exact⟨Z,Z,sx E (Ju a).2⟩;refine Gx ?_;intro V5 n;have b:=G (n▸ad.next (Oq));have f:=G (n▸QX);have v:=G (n▸T7);have u:=G (n▸Oq);clear n;have u0:A6 V5 (K (U a)+1) 0 (C Y 0):=Cb f 0;have c:=Cb b.box 0;have k:=Cb b.box 1;have c2:=Cb b.box 2;have m:=Cb b.box 3;unfold Cp at c k c2 m;have o:=b;have ac:=v;have ab:=u)
    |(go_at_call 83;refine(aa _).mono ?_;clear aa c k c2 m u0;rintro e w6 ⟨rfl,t⟩;have o:=G (b.next t);have ab:=G (u.trans (t.mono u.size));have ac:=G ((t.block _ (Cc v)).trans v);clear t;have c:=Cb o.box 0;have k:=Cb o.box 1;have c2:=Cb o.box 2;have m:=Cb o.box 3;unfold Cp at c k c2 m)
    |(go_at_call 84;refine(cB _).mono ?_;clear cB c k c2 m;rintro e w7 ⟨rfl,ax⟩;have al:=G (o.next ax);clear ax)
    |((with_reducible refine zT 8 44 rfl rfl (K (U W)) Cr ?_ ?_);exact⟨Z,Z,al.th,thg⟩)
    |((with_reducible refine zF 9 47 rfl rfl (K (U W)+1) F ?_ ?_);exact⟨Z,Z,sx E al.flt⟩))
   have r:=al.fin Cr F;exact XT results46 r Z Z Z ⟨r.2.2,Z⟩
  obtain⟨rfl,h6⟩:=ae a6;have a8:=G h6;have bf:¬(p2:J)<(O bs:J):=E;clear af ae h6 hq aq
  go_wp2_with(first
   |((with_reducible refine zT 12 27 rfl rfl (K (U a)) (Ce N Q s (Ac x B L) (Ac A z P)) ?_ ?_);exact⟨Z,Z,(Ju a).1,thg⟩)
   |((with_reducible refine zF 13 29 rfl rfl (K (U a)+1) (0,0) ?_ ?_);exact⟨Z,Z,sx E (Ju a).2⟩;refine Gx ?_;intro V5 n;have b:=G (n▸ad.next (Oq));have f:=G (n▸QX);have v:=G (n▸T7);have u:=G (n▸Oq);clear n;have u0:A6 V5 (K (U a)+1) 0 (C Y 0):=Cb f 0;have c:=Cb b.box 0;have k:=Cb b.box 1;have c2:=Cb b.box 2;have m:=Cb b.box 3;unfold Cp at c k c2 m;have o:=b;have ac:=v;have ab:=u)
   |(go_at_call 83;refine(aa _).mono ?_;clear aa c k c2 m u0;rintro e w6 ⟨rfl,t⟩;have o:=G (b.next t);have ab:=G (u.trans (t.mono u.size));have ac:=G ((t.block _ (Cc v)).trans v);clear t;have c:=Cb o.box 0;have k:=Cb o.box 1;have c2:=Cb o.box 2;have m:=Cb o.box 3;unfold Cp at c k c2 m)
   |((with_reducible refine CT rfl 101 (.tmp 12) rfl (K (U a)) ?hx 101 (Ce N Q s (Ac x B L) (Ac A z P)) (0,0) _ ?hg underlying101 rfl ?hi ?_);(case hx=>exact rfl);(case hg=>exact ac);(case hi=>exact Oc))
   |((with_reducible refine zT 8 48 rfl rfl (K (U W)) (Ce N Q s (Ac x B L) (Ac A z P)) ?_ ?_);exact⟨Z,Z,o.th,thg⟩)
   |((with_reducible refine zF 9 49 rfl rfl (K (U W)+1) (0,0) ?_ ?_);exact⟨Z,Z,sx E o.flt⟩))
  have r:=o.fin (Ce N Q s (Ac x B L) (Ac A z P)) (0,0);refine XT results46 r Z Z Z ⟨r.2.2,⟨_,_,_,_,_,_,_,_,_,Z,?_⟩,a8⟩;refine HA.same (λj hj=>⟨E,?_⟩) (λj hj=>?_)
  rotate_left
  .grind [D,q24]
  have h1:=hj.1;have h2:=hj.2;exact(sx (show j≠K (U W)+1 by omega) (sx (show j≠K (U W) by omega) Z)).trans (ab.block j h2)
end
section
open Go.RowKit
def K5(l:A1):Aq:=Ae ⟨Aw l⟩
theorem qyd(ps:AJ AT):(ps.map (·.data.toList)).map K5=ps.map Value.string:=by rw[MP];apply Ys;intro p _;show Value.string ⟨Aw p.data.toList⟩=_;rw[Rs]
def q4z(s:AT)(w:Ap)(e:Ending)(w':Ap):Prop :=
 ∃a n cap,e=Ak (Af #[Ac a n cap,Ah (EY s.data.toList)])/\A0 w w'/\(EY s.data.toList=AP->n=At (EM s.data.toList)/\F8 w' (_root_.Array.size (Av w)) 9 a ((EM s.data.toList).map K5))
theorem qoH(hs:s.size<=100000):Ar As 143 #[.string s] w λe w'=>q4z s w e w':=by
 cases hd:(s.toList==[46])
 .have q:D (EY s.data.toList=((D0 47 s.data.toList).all Gl&&_root_.Decidable.decide (O (D0 47 s.data.toList)<=8))):=by grind [D,EY,Lib.toList_data]
  go_enter func143,ntmps143
  go_wp2_with(first
   |(go_at_call 101;skip;refine(Xk 47 47 Z hs).mono ?_;rintro e d ⟨ag,a,rfl,o,t,l⟩;obtain⟨g,ab,rfl,hg,ac,y⟩:=Xl o (TB l)))
  have af:=TB l;have R:D (O a=O (EM s.data.toList)/\F8 d (K (U w)) 9 (Aa g) ((EM s.data.toList).map K5)):=by have r:EM s.data.toList=a.map (·.data.toList):=kea;obtain⟨pa,cp,he,W⟩:=iM o (Co _);grind [D,qyd]
  have ae:O a<=100001:=by have h1:=congrArg List.length l;have h2:=gw 47 s.data.toList;have V:O s.data.toList=s.size:=FE;grind
  have B:∀p,p∈a->p.size<=4611686018427387904:=λp r=>by have:=OC 47 s.data.toList p.data.toList B9;have V:O s.data.toList=s.size:=FE;have h4:O p.data.toList=p.size:=FE;omega
  have S:=G B;have L:=G y;have aa:D (EY s.data.toList=(a.all (λp=>Gl p.data.toList)&&_root_.Decidable.decide (O a<=8))):=B9;have u:=G t;clear t q l o y B
  go_loopg[5] (O a) (λgk x wr=>∃k:I,D (k+gk=O a)/\x=C Y k/\d=wr/\D (∀i (h:i<O a),i<k->Gl a[i].data.toList=AP))
  case atStart=>grind [D]
  case round =>
   obtain⟨k,z,rfl,rfl,HL⟩:=hrel;obtain _|n:=gk
   .have v:¬(k:J)<O a:=AY (AE z);have F:D (EY s.data.toList=_root_.Decidable.decide ((O a:J)<=8)):=by grind [D,List.getElem_of_mem]
    go_wp2
    go_ret2
    exact⟨_,_,_,by rw[AE F];rfl,u,λ_=>AE R⟩
   have v:(k:J)<O a:=AY (AE z);have A:k<O a:=E;have W:=L.out k A;have j:=S.out a[k] (P5 A);have Q:D (Gl a[k].data.toList=AQ->EY s.data.toList=AQ):=λh=>by grind [D]
   have m:D (Gl a[k].data.toList=AP->∀i (h:i<O a),i<k+1->Gl a[i].data.toList=AP):=λh i hi ad=>by grind [D]
   generalize a[k]=p at *;have P:D (Gl p.data.toList=(FN p.data.toList||(p.toList==[42]||(p.toList==[42,42]||p.toList==[91,93])))):=by grind [Gl,Lib.toList_data]
   cases f:FN p.data.toList
   .cases e1:(p.toList==[42])
    .cases e2:(p.toList==[42,42])
     .cases e3:(p.toList==[91,93])
      .have N:=G (Q (by grind [D]))
       go_wp2_with(first
        |(go_at_call 179;refine(Rg j).mono ?_;rintro e d ⟨rfl,rfl⟩;rw[f]))
       go_ret2
       exact⟨_,_,_,by rw[AE N];rfl,u,λe=>by grind [D]⟩
      have c:=m.out (by grind [D]);have b:=G c
      go_wp2_with(first
       |(go_at_call 179;refine(Rg j).mono ?_;rintro e d ⟨rfl,rfl⟩;rw[f]))
      go_roundg n
      case measure=>omega
      case rel=>exact⟨k+1,B9,Bb,rfl,b⟩
     have c:=m.out (by grind [D]);have b:=G c
     go_wp2_with(first
      |(go_at_call 179;refine(Rg j).mono ?_;rintro e d ⟨rfl,rfl⟩;rw[f]))
     go_roundg n
     case measure=>omega
     case rel=>exact⟨k+1,B9,Bb,rfl,b⟩
    have c:=m.out (by grind [D]);have b:=G c
    go_wp2_with(first
     |(go_at_call 179;refine(Rg j).mono ?_;rintro e d ⟨rfl,rfl⟩;rw[f]))
    go_roundg n
    case measure=>omega
    case rel=>exact⟨k+1,B9,Bb,rfl,b⟩
   have c:=m.out (by rw[AE P,f];rfl);have b:=G c
   go_wp2_with(first
    |(go_at_call 179;refine(Rg j).mono ?_;rintro e d ⟨rfl,rfl⟩;rw[f]))
   go_roundg n
   case measure=>omega
   case rel=>exact⟨k+1,B9,Bb,rfl,b⟩
 have q:D (EY s.data.toList=AP):=by grind [D,EY,Lib.toList_data]
 go_enter func143,ntmps143;go_wp2
 go_ret2
 refine⟨Ao,0,0,by rw[AE q];rfl,Cq _ _,λ_=>?_⟩;have r:EM s.data.toList=[]:=kea;rw[r];exact⟨Z,AF Z⟩
def q3u(n:AH)(s:AT)(w:Ap)(e:Ending)(w':Ap):Prop :=
 ∃a m cap x y,e=Ak (Af #[.agg (F7 a m cap x y),Ah (De n s.data.toList)])/\A0 w w'/\(De n s.data.toList=AP->m=(D6 s.data.toList).1.length/\x=(D6 s.data.toList).2.1/\y=(D6 s.data.toList).2.2/\F8 w' (_root_.Array.size (Av w)) 9 a ((D6 s.data.toList).1.map K5))
theorem q2C{l:A1}{p0 p1 p2:AT}(a:[p0,p1,p2].map (·.data.toList)=D0 32 l)(b:p1.size=1)(c:(48:J)<=p1[0].toNat)(d:(p1[0].toNat:J)<=57):D6 l=(EM p0.data.toList,(p1[0].toNat:J)-48,ET p2):=by have h:=XG a.symm;rw[Rs]at h;grind [We,L2]
theorem qxB{arr:A3}{n:I}(f0:arr[0]?=H (C Y n))(af:arr.size=11)(s:AT)(w:X)(v:s.size<=100000):Ar As 102 #[.agg arr,.string s] w λe w'=>q3u n s w e w':=by
 have HS:=G af;have aa:=G f0;have q:D ((prog.info? 193).map (·.size)=H DO.size):=Nx;go_enter func102,ntmps102;have T1:=trivial
 go_wp2_with(first
  |(go_at_call 101;go_loud (refine(Xk (s:=s) 32 32 rfl v).mono ?_;rintro e w2 ⟨an,ps,rfl,N,u,o⟩;obtain⟨g,ag,rfl,hg,W,V⟩:=Xl N (TB o);have m:=G (wg w arr (by simp only[CI,A0]at u;exact u));clear u N hg;rcases wm (n:=n) v o V with⟨aj,d⟩|⟨h,a,c,rfl,t,y,d⟩|⟨h,a,c,rfl,t,r,y,z,d⟩|⟨h,a,c,rfl,t,r,y,z,Q,d⟩|⟨h,a,c,rfl,ak,t,ae,r,y,z,Q,ab,d⟩;all_goals(first|(have ac:D (D6 s.data.toList=(EM h.data.toList,(a[0].toNat:J)-48,ET c)):=q2C o r z Q)|skip);all_goals clear o V))
  |(refine Db Z 193 _ _ Z (K (U w)+1) DO Z Z 193 DO m.res q Z TC ?_))
 all_goals first
  |(refine CL (Ik results102 (g:=(K (U w)+1)) (cs:=DO) Z (CM _ _ DO _ _ _ m.res) underlying193 Z Nx (Ah AQ) Z) Z ⟨Ao,0,0,0,0,by rw[AE d];rfl,Dj m.below E,λe=>by grind [D]⟩)
  |skip
 refine(qoH (s:=h) ab).mono ?_;rintro e w3 ⟨i,j,k,rfl,A,S⟩;have B:=G S;have L:=G m.lo;clear S;have f:=G (m.step A);have al:=(A.cell (p:=⟨g,1,Ao⟩) W).trans t;have am:=(A.cell (p:=⟨g,2,Ao⟩) W).trans ae;cases P:EY h.data.toList
 .have l:D (De n s.data.toList=AQ):=by grind [D]
  clear d
  go_wp2_with(first
   |(go_at_call 144;refine(Wc).mono ?_;rintro e b ⟨rfl,rfl⟩)
   |(refine Db Z 193 _ _ Z (K (U w)+1) (F7 i j k ((a[0].toNat:J)-48) (ET c)) Z Z 193 DO f.res q Z (OD) ?_))
  refine CL (Ik results102 (cs:=(F7 i j k ((a[0].toNat:J)-48) (ET c))) Z (CM _ _ DO _ _ _ f.res) underlying193 Z Nx (Ah AQ) Z) Z ⟨_,_,_,_,_,by rw[AE l],Dj f.below E,λe=>by grind [D]⟩
 by_cases e2:ET c=0
 .have l:D (De n s.data.toList=AQ):=by grind [D]
  clear d
  go_wp2_with(first
   |(go_at_call 144;refine(Wc).mono ?_;rintro e b ⟨rfl,rfl⟩)
   |(refine Db Z 193 _ _ Z (K (U w)+1) (F7 i j k ((a[0].toNat:J)-48) 0) Z Z 193 DO f.res q Z (OD) ?_))
  refine CL (Ik results102 (cs:=(F7 i j k ((a[0].toNat:J)-48) 0)) Z (CM _ _ DO _ _ _ f.res) underlying193 Z Nx (Ah AQ) Z) Z ⟨_,_,_,_,_,by rw[AE l],Dj f.below E,λe=>by grind [D]⟩
 have ai:(ET c != 0)=AP:=by simp[e2]
 have l:D (De n s.data.toList=Dt n ((a[0].toNat:J)-48)):=by grind [D]
 clear d
 go_wp2_with(first
  |(go_at_call 144;refine(Wc).mono ?_;rintro e b ⟨rfl,rfl⟩)
  |(go_at_call 60;refine(Pd aa _ _).mono ?_;rintro e w5 ⟨rfl,R⟩;have x:=G (f.step R);have F:D (j=O (EM h.data.toList)/\F8 w5 (K (U w2)) 9 i ((EM h.data.toList).map K5)):=⟨(B P).1,(B P).2.below R⟩)
  |(refine EU Z ?hw Z f.box underlying40 Z (Ec HS) ?_;case hw=>simp[go_sem];done)
  |(refine Db Z 193 _ _ Z (K (U w)+1) (F7 i j k ((a[0].toNat:J)-48) (ET c)) Z Z 193 DO x.res q Z (OD) ?_))
 refine CL (Ik results102 (cs:=(F7 i j k ((a[0].toNat:J)-48) (ET c))) Z (CM _ _ DO _ _ _ x.res) underlying193 Z Nx (Ah (Dt n ((a[0].toNat:J)-48))) Z) Z ⟨_,_,_,_,_,by rw[AE l],Dj x.below E,λ_=>?_⟩;rw[AE ac];exact⟨F.1,Z,Z,F.2.kept λad ah fr r h3=>⟨AY (AE L),(Dg _ (K (U w)+1) ad _ (AY (AE L))).trans h3⟩⟩
def RL(r:AJ A1×AI×AI):AJ Aq×AH×AI×AI:=(r.1.map K5,At r.1,r.2.1,r.2.2)
def Ya(W:Ap)(lo:AH)(v:Aq)(rs:AJ (AJ A1×AI×AI)):Prop:=∃xs,W.ownsRow lo 193 3 v (At rs) xs/\AA W lo 9 xs (rs.map RL)
def q4W(n:AH)(s:AT)(w:Ap)(e:Ending)(w':Ap):Prop :=
 ∃a m cap,e=Ak (Af #[Ac a m cap,Ab .i64 (DU n s.data.toList)])/\A0 w w'/\(DU n s.data.toList<0->Ya w' (_root_.Array.size (Av w)) (Ac a m cap) (EN s.data.toList))
theorem q2y{W4:X}{base lo:I}{v:Aq}{es:AJ (AJ Aq×I×J×J)}{ra:A4}{rm rc:I}{rx ry:J}{p:AT}(n:W4.ownsRow base 193 3 v k xs)(q:AA W4 lo 9 xs es)(l:rm=(D6 p.data.toList).1.length/\rx=(D6 p.data.toList).2.1/\ry=(D6 p.data.toList).2.2/\F8 W4 lo 9 ra ((D6 p.data.toList).1.map K5))(m:(Az W4 o).grownBy w5 (Ax v)):AA w5 lo 9 (xs++[T ra rm rc,C Y rx,C Y ry]) (es++[RL (D6 p.data.toList)]):=by
 obtain⟨d,f,g,i⟩:=l;have h:=AA.push (pa:=ra) (pc:=rc) q (e:=RL (D6 p.data.toList)) i;rw[d,f,g];refine h.kept λb t fr r c=>⟨r,?_⟩
 have j:=(LQ.1 c).1;refine(m.block b kfb (λe=>?_)).trans ((Cx _ _ _ j).trans c);rcases n.2 with⟨a,_⟩|⟨w,s,u,a,x,y,_⟩
 .rw[a]at e;cases e
 rw[a]at e;injection e with e;grind
theorem jW{c:CD}{n:I}(hn:c.labels=n):Ar As 64 #[.agg c.arr] w λe l=>q4W n c.pol w e l:=by
 have hl:O c.pol.data.toList=c.pol.size:=FE;have f3:c.arr[3]?=H (.string c.pol):=rfl;have au:D (c.arr[0]?=H (C Y n)):=by show _=_;rw[<-hn];rfl
 obtain⟨i0,hi,bc,bd,be⟩:=DD Tryz.infoRule;by_cases bh:(2000:J)<c.pol.size
 .have A:D (DU n c.pol.data.toList=0):=by grind [D,DU]
  go_enter func64,ntmps64;go_wp2
  go_ret2
  exact⟨_,_,_,by rw[AE A];rfl,(Cq _ _).alloc (Co _) _,λe=>by rw[AE A]at e;omega⟩
 cases he:(c.pol.toList==[])
 .have a7:c.pol.size≠0:=by grind [Lib.toList_data]
  have A:D (DU n c.pol.data.toList=Jz n (D0 10 c.pol.data.toList) 0):=by grind [D,DU]
  have am:c.pol.size<=100000:=E;go_enter func64,ntmps64
  go_wp2_with(first
   |(go_at_call 101;skip;refine(Xk 10 10 Z am).mono ?_;rintro e u ⟨ah,m,rfl,HO,HB,HE⟩;obtain⟨g,a2,rfl,hg,a3,ak⟩:=Xl HO (TB HE)))
  have bb:K (U w)<K (U u):=BI;have a1:D (A7 u (K (U w)) c.arr 40):=(HB.block _ Ba).trans (Cj _);have ai:=G ak;have a0:D (DU n c.pol.data.toList=Jz n (m.map (·.data.toList)) 0):=B9;have ad:=G (((Cq _ _).alloc (Co _) _).trans (HB.mono Ba));have az:D (∀p,p∈m->p.size<=100000):=λp F=>by have:=OC 10 c.pol.data.toList p.data.toList B9;have h4:O p.data.toList=p.size:=FE;omega
  have bi:K (U w)<g:=BI;have aw:D (EN c.pol.data.toList=m.map (λp=>D6 p.data.toList)):=by show _=_;unfold EN;rw[Ci E,<-HE,MP];rfl
  clear HB HO ak HE A hg
  go_loopg[4,6] (O m) (λgk ah aq wr=>∃(k:I) (q:AJ Aq) (ao:A4) (cv:I),D (k+gk=O m)/\ah=T ao k cv/\aq=C Y k/\D (wr.ownsRow (K (U u)) 193 3 ah k q)/\D (A0 u wr)/\D (DU n c.pol.data.toList=Jz n ((m.map (·.data.toList)).drop k) k)/\D (AA wr (K (U u)) 9 q ((m.take k).map λp=>RL (D6 p.data.toList))))
  case atStart=>exact⟨0,[],Ao,0,Bg,rfl,rfl,Fa _ _ _ _,Cq _ _,a0,TW⟩
  case round =>
   obtain⟨k,q,ao,cv,hk,rfl,rfl,av,y,HL,aj⟩:=hrel;have bk:=y.size;obtain _|gg:=gk
   .have a6:¬(k:J)<O m:=AY (AE hk);have t:D (DU n c.pol.data.toList = -1):=by show _=_;rw[AE HL,OZ B9];rfl
    go_wp2
    go_ret2
    refine⟨_,_,_,by rw[AE t];rfl,ad.trans (y.mono E),λ_=>?_⟩;have a5:k=O m:=AY (AE hk);subst a5;have h1:=AE aj;rw[LV]at h1;refine⟨q,?_,?_⟩
    .grind [D,iO]
    rw[AE aw,MP];exact h1.kept λb af fr k1 P=>⟨E,P⟩
   have a6:(k:J)<O m:=AY (AE hk);have a4:k<O m:=E;have L:=(y.cell (p:=⟨g,k,Ao⟩) a3).trans (ai k a4);have x:=(y.block _ bb).trans a1;have V:K (U w)<K (U wr):=E;have ap:g<K (U wr):=E;obtain⟨p,F⟩:=IX (m[k]);have HP:=G F;rw[<-F]at L;have cR:=λW=>qxB au Z p W (by grind [D]);have HC:D (DU n c.pol.data.toList=if De n p.data.toList=AP/\k<16 then Jz n ((m.map (·.data.toList)).drop (k+1)) (k+1)else(k:J)):=by grind [List.drop_eq_getElem_cons,Jz]
   clear F hl f3 he a7 am ai az HL;go_wp2;refine Ef (S:=λW=>A7 W (K (U w)) c.arr 40/\A6 W g k (.string p)) B6 ?_;have R:(λW:X=>A7 W (K (U w)) c.arr 40/\A6 W g k (.string p)) {wr with drawn:=wr.drawn+1}:=⟨x,L⟩
   refine Cf 0 26 (.agg c.arr) Z (λW hW=>wt (.tmp 1) Z Z hW.1 underlying40 Z (Ec Z)) R ?_;refine Ca 1 27 (T (Aa g) (O m) a2) R ?_;refine Ca 2 28 (C Y k) R ?_;refine Cf 3 29 (A9 g k) Z (λW hW=>?y3) R ?_
   case y3=>go_simp
   refine Cf 4 30 (.string p) Z (λW hW=>?y4) R ?_
   case y4=>(have h2:=hW.2;go_simp)
   refine GP 5 9 (λQ j=>?ga) (λQ j=>?gb)
   case' ga =>
    go_simp;refine(cR _).mono ?_;rintro e l ⟨a,d,rc,f,i,rfl,B,ab⟩;simp only[];have r:D (De n p.data.toList=AP->d=(D6 p.data.toList).1.length/\f=(D6 p.data.toList).2.1/\i=(D6 p.data.toList).2.2/\F8 l (K (U wr)) 9 a ((D6 p.data.toList).1.map K5)):=ab;clear ab;refine j.out _ _ ⟨(B.block _ V).trans x,(B.cell (p:=⟨g,k,Ao⟩) ap).trans L⟩ (λo=>?_);clear j;refine Ca 6 25 (Af #[.agg (F7 a d rc f i),Ah (De n p.data.toList)]) o ?_;refine Ca 7 32 (.agg (F7 a d rc f i)) o ?_;refine Ca 8 33 (Ah (De n p.data.toList)) o ?_;have an:=B.size;refine CC 9 (λQ j=>?_);go_simp;refine j.out _ _ ⟨(Cx _ _ _ (CK V an)).trans o.1,(IV _ _ _ (by rw[o.2];rfl)).trans o.2⟩ (λac=>?_);clear j;refine CC 10 (λQ j=>?_);rw[Cn kek];refine IW 193 _ _ Z (K (U l)) (F7 a d rc f i) Z Z 193 DO (Cj l) Nx Z (OD) ?_;rw[IT];refine j.out _ _ ⟨(Cx _ _ _ (CK V an)).trans o.1,(IV _ _ _ (by rw[o.2];rfl)).trans o.2⟩ (λag=>?_);clear j;refine Ca 11 8 (Ah (De n p.data.toList)) ag ?_;refine CG ?_;have s:D (TE u wr (K (U l)) (F7 a d rc f i) (Az l (M (F7 a d rc f i) 193))):=wn y B;have z:D (De n p.data.toList=AP->d=(D6 p.data.toList).1.length/\f=(D6 p.data.toList).2.1/\i=(D6 p.data.toList).2.2/\F8 (Az l (M (F7 a d rc f i) 193)) (K (U wr)) 9 a ((D6 p.data.toList).1.map K5)):=λh=>⟨(r h).1,(r h).2.1,(r h).2.2.1,(r h).2.2.2.below ((Cq _ _).alloc (Co _) _)⟩
    clear r;generalize Az l (M (F7 a d rc f i) 193)=W4 at *;generalize K (U l)=N at *
   case' gb =>
    go_simp;refine j.out _ _ ⟨(Cx _ _ _ V).trans x,(IV _ _ _ (by rw[L];rfl)).trans L⟩ (λo=>?_);clear j;refine CC 5 (λQ j=>?_);go_simp;refine(cR _).mono ?_;rintro e l ⟨a,d,rc,f,i,rfl,B,ab⟩;simp only[];have r:D (De n p.data.toList=AP->d=(D6 p.data.toList).1.length/\f=(D6 p.data.toList).2.1/\i=(D6 p.data.toList).2.2/\F8 l (K (U wr)+1) 9 a ((D6 p.data.toList).1.map K5)):=by grind [D,World.size_alloc,World.drew]
    clear ab;have aa:Below (K (U wr)+1) (Az wr (M DO 193)).drew l:=by have:=B;simp only[CI,World.drew,A0]at this;exact this
    refine j.out _ _ ⟨(aa.block _ E).trans o.1,(aa.cell (p:=⟨g,k,Ao⟩) (show g<_ by omega)).trans o.2⟩ (λac=>?_);clear j;refine Ca 6 25 (Af #[.agg (F7 a d rc f i),Ah (De n p.data.toList)]) ac ?_;refine Ca 7 32 (.agg (F7 a d rc f i)) ac ?_;refine Ca 8 33 (Ah (De n p.data.toList)) ac ?_;refine CC 10 (λQ j=>?_);rw[Cn kek];refine IW 193 _ _ Z (K (U wr)) (F7 a d rc f i) Z Z 193 DO ((aa.block _ E).trans (Cj wr)) Nx Z (OD) ?_;have s:D (TE u wr (K (U wr)) (F7 a d rc f i) (AD l (K (U wr)) (F7 a d rc f i))):=wo y aa;refine j.out _ _ ⟨(s.same _ V).trans x,(JN (w:=wr) (s.same g ap)).trans L⟩ (λag=>?_);clear j;refine Ca 11 8 (Ah (De n p.data.toList)) ag ?_;refine CG ?_;have z:D (De n p.data.toList=AP->d=(D6 p.data.toList).1.length/\f=(D6 p.data.toList).2.1/\i=(D6 p.data.toList).2.2/\F8 (AD l (K (U wr)) (F7 a d rc f i)) (K (U wr)) 9 a ((D6 p.data.toList).1.map K5)):=λh=>⟨(r h).1,(r h).2.1,(r h).2.2.1,(r h).2.2.2.kept λb af fr h1 h3=>⟨E,(Dg _ (K (U wr)) b _ E).trans h3⟩⟩
    clear r;generalize AD l (K (U wr)) (F7 a d rc f i)=W4 at *
   all_goals
    cases e1:De n p.data.toList
    .have t:D (DU n c.pol.data.toList=k):=B9;go_wp2
     go_ret2
     exact⟨_,_,_,by rw[AE t];rfl,ad.trans (s.below.mono E),λe=>by rw[AE t]at e;omega⟩
    by_cases bg:(16:J)<=k
    .have t:D (DU n c.pol.data.toList=k):=B9;go_wp2
     go_ret2
     exact⟨_,_,_,by rw[AE t];rfl,ad.trans (s.below.mono E),λe=>by rw[AE t]at e;omega⟩
    have t:D (DU n c.pol.data.toList=Jz n ((m.map (·.data.toList)).drop (k+1)) (k+1)):=B9;have ae:=G (gy av s.same);have a9:=s.below.size;have ay:=G (aj.kept λb af fr k1 P=>⟨k1,(s.same b (LQ.1 P).1).trans P⟩);have ar:D (d=(D6 p.data.toList).1.length/\f=(D6 p.data.toList).2.1/\i=(D6 p.data.toList).2.2/\F8 W4 (K (U u)) 9 a ((D6 p.data.toList).1.map K5)):=⟨(z e1).1,(z e1).2.1,(z e1).2.2.1,(z e1).2.2.2.kept λb af fr k1 P=>⟨E,P⟩⟩
    clear z;have ax:D (_=H (Obj.cells #[T a d rc,C Y f,C Y i] 193)):=s.row
    go_wp2_with(first
     |(refine CT Z 193 _ Z _ Z _ _ _ _ ax underlying193 Z Nx ?_)
     |(at_builtin;refine JO _ Z _ _ 138 Z (K (U u)) 193 i0 (.agg DO) 3 40 underlying138 hi bc bd be Z B8 _ _ _ Z (ae.alloc _) ⟨K (U W4),0,Ao⟩ 1 1 [T a d rc,C Y f,C Y i] Z Z (EI) (λaq hx=>C5) Bc E B7 ?_;intro v' w5 a8 al bj))
    go_roundg gg
    case measure=>omega
    case rel =>
     obtain⟨g3,v,ba⟩:∃g3 v,v'=T (Aa g3) (k+1) v:=by rcases a8.2 with⟨_,h⟩|⟨g3,v,_,h,_⟩<;>grind
     exact⟨k+1,q++[Go.Value.slice a d rc,Value.int Y f,Value.int Y i],Aa g3,v,B9,ba,Bb,(by grind [D]),(s.below.alloc a9 _).grown al B7 (λbf hq=>(ae.lt bf hq).1),t,by have h:=q2y (rc:=rc) ae ay ar al;grind [D,List.take_succ_eq_append_getElem]⟩
 have A:D (DU n c.pol.data.toList = -1):=by grind [D,Lib.toList_data,DU]
 go_enter func64,ntmps64;go_wp2
 go_ret2
 refine⟨Ao,0,0,by rw[AE A];rfl,(Cq _ _).alloc (Co _) _,λ_=>?_⟩;have F:EN c.pol.data.toList=[]:=by grind [Lib.toList_data,EN]
 rw[F];exact⟨[],Fa _ _ _ _,TW⟩
theorem q1Z{c:CD}{n:I}(f:c.labels=n)(w:X):Ar As 64 #[.agg c.arr] w λe g=>∃a m b,e=Ak (Af #[T a m b,C Y (DU n c.pol.data.toList)])/\A0 w g :=
 (jW f).mono λ_ _ ⟨a,m,b,h,d,_⟩=>⟨a,m,b,h,d⟩
end
end Go.Proofs.YtihfjkjbfaneeaaGreatDoor
