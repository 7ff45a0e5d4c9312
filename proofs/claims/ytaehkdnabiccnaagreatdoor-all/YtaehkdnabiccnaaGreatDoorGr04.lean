import Derived.Test.YtaehkdnabiccnaaGreatDoorGr03
set_option maxRecDepth 100000
set_option maxHeartbeats 8000000
set_option linter.all false
namespace Go.Proofs.YtaehkdnabiccnaaGreatDoor
open Go.Proofs.Tryz
open _root_ renaming Nat->I,Int->J,Nat->AH,Int->AI,List->AJ,Bool->AK,ByteArray->AT
open Go.Value renaming int->C,slice->G,int->Ab,slice->Ac,string->Ae,tuple->Af,bool->Ah,ownBlock->Ax
open Go.World renaming heap->U,setCell->AB,cell?->AC,heap->Av,alloc->Az
open _root_.Array renaming size->O,size->Au,setIfInBounds->Ay
open _root_.List renaming length->K,length->At,toArray->Aw
open Go.IntKind renaming i64->Y
open Go.RowKit renaming Hid->D
open Go renaming World->X,TypeId->AN,undef->AO,World->Ap,Value->Aq,Calls->Ar
open Option renaming some->H,some->An,none->Ao
open Go.Obj renaming cells->M,cells->Aj
open Go.Ending renaming returned->Ak
open Go.Proofs.Tryz renaming prog->As
open Go.RowKit.Hid renaming out->AE
open Or renaming inl->AF,inr->AG
open _root_.Bool renaming true->AP,false->AQ
open _root_.Decidable renaming decide->AR
variable{P:Program}{V V' W W' W0 w w' w2 w5:X}{A N a b base cap ecap f h i j k lm lo lo' mn n pc r rc row sc size tb x:I}{q:D0}{sts:AJ ((I->I)×J×J)}{sv tv v v':Aq}{mf nf:Lit->Option I}{ao ea pa ra sa:A4}{s:AT}{key l:A1}{ix:AK}{pre:AJ E4}{c:CF}{xs ys:AJ Aq}{L:AJ (J×J)}{e:J×J}{m m':I->I->AK}{S:I->AK}{arr:A3}{d dflt:J}{p ps:AJ (A1×AK)}{t:AN}{o:Oper}{ops:Array Oper}{Q:Exit->Act->X->Prop}{es:AJ (AJ Aq×I×J×J)}{ss:AJ (I×A1)}{rs:AJ (AJ (I×A1)×J×J)}{ks:AJ A1}{R:AJ (I×A1)×J×J}{st:I->I}
section
open Go.RowKit Go.Shelf Go.Deep
def Dv.auR(h:Dv W0 A q sts sv nf mn mf W):Oa W A q.h q.e (K q.a) q.st :=
 ⟨(Cd h.ad),Cc h.ad 0,λr a=>by
  rw[Iz W A (3+r) _ _ _ h.ad]
  match r,a with
  |0,_|1,_|2,_|3,_|4,_|5,_|6,_|7,_|8,_|9,_|10,_|11,_|12,_|13,_|14,_|15,_=>rfl
  |n+16,a=>omega⟩
def Dv.auT(h:Dv W0 A q sts sv nf mn mf W):Si W A q.g q.L q.tc q.j:=by obtain⟨e,a,d⟩:=h.k;exact⟨(Cd h.ad),(Cd a),Cc h.ad 19,λx r c b=>(Iz W q.g (x*16+r) _ _ _ a).trans<|d x r c b⟩
def Dv.a3{mn':I}{mf':Lit->Option I}(h:Dv W0 A q sts sv nf mn mf W)(a:W.grownBy W'<|H q.b)(m:Ed W' 199 q.b mn' mf'):Dv W0 A q sts sv nf mn' mf' W':=by
 obtain⟨o,p,r,f,s,t,j,u,k,d⟩:=h.e;obtain⟨v,w,x,y,z⟩:=h.n;obtain⟨l,c,n⟩:=h.k;exact{h with
  ad:=(a.block A (Cd h.ad) keR).trans h.ad
  ac:=⟨a.os.trans h.ac.os,a.tape.trans h.ac.tape,a.output.trans h.ac.output,CE h.ac.size a.size,λi b=>(a.block i (CQ b h.ac.size) B7).trans<|h.ac.block i b⟩
  d:=h.d.kept a kf6
  k:=⟨l,(a.block _ (Cd c)<|by simpa using k).trans c,n⟩
  b:=QF h.b λg e=>a.block g (QE h.b e) (by simpa using(h.a0 g e).2.2.2.2)
  a:=h.a.kept a keo
  c:=m}
theorem qzM(P:X)(A:I)(q:D0)(k:AJ<|(I->I)×J×J)(sa:A4)(y:I)(nf:Lit->Option I)(v:I)(n:Lit->Option I)(W:X)(h:Dv P A q k (G sa (K k) y) nf v n W)(aw:KW q k n)(a9:K k<100000)(bl:v<100000)(f:I)(s:(I->I)×J×J)(hs:k[f]?=H s)(key:A1)(ix:AK)(hb:K key<=maxLen)(x:I)(hx:Js q.i key ix=x)(hxL:x<q.L)(l:Lit)(hl:keyOf As 199 (.agg<|DN f x)=H l)(hi:n l=Ao):Ar As 71 #[A8 A,C Y f,.agg #[Ae ⟨Aw key⟩,Ah ix]] W<|jW P A q k s.1 x v:=by
 have HA:D<|Dv P A q k (G sa (K k) y) nf v n<|Az W<|M #[Ae ⟨Aw key⟩,Ah ix] 146:=h.next Cm
 have cL:=YK HA ix hb;rw[hx]at cL;have ao:=T aw;clear h aw;go_enter func71,ntmps71
 go_wp2_with(first
  |(go_at_call 103;refine cL.mono ?_;clear cL;rintro e d ⟨rfl,F⟩;have z:=T<|HA.next F;clear F HA))
 have R:D<|Dv P A q k (G sa (K k) y) nf v n<|Az d<|M #[C Y f,C Y x] 199:=z.next Cm
 have ab:D<|(Az d<|M #[C Y f,C Y x] 199).heap[O<|U d]?=H (M (DN f x) 199):=Cj _;have bf:D (∀g,Ax (Go.Value.slice sa (K k) y)=H g->g<O (U d)):=λg e=>QE z.b e;have be:D<|A<O (U d)/\q.d<O (U d)/\q.b<O (U d):=⟨(Cd z.ad),z.a.lt,z.c.lt⟩
 clear z;generalize Az d (M #[C Y f,C Y x] 199)=V0 at *;refine Dl (S:=λb=>A6 b A 22 (.map<|H q.b)/\A7 b (O<|U d) (DN f x) 199/\Ed b 199 q.b v n) (⟨Cc R.ad 22,ab,R.c⟩) B6 λa=>Cb 0 16 (A8 A) a <| Cb 1 17 (A8 A) a <| Cb 2 18 (A9 A 22) a <| Ch 3 19 (.map<|H q.b) Z (λb m=>ke4) a <| Ch 4 20 (.agg<|DN f x) Z (λb m=>BU) a <| Ch 5 21 (Af #[C Y 0,Ah AQ]) Z (λb m=>C3) a <| Cb 6 15 (Af #[C Y 0,Ah AQ]) a <| Cb 7 22 (C Y 0) a <| Cb 8 23 (Ah AQ) a <| Cb 9 8 (C Y 0) a <| Cb 10 9 (Ah AQ) a <| CK ?_;go_simp;clear a;have r:=T<|R.next (Cu _ _).drew;have am:D<|(World.drew V0).heap[O<|U d]?=H (M (DN f x) 199):=AE ab;clear R ab;generalize World.drew V0=V at *;obtain⟨g,bg,ba,bi,bh,hc⟩:=r.ai hs;injection ba with Q _ e3;subst Q;subst e3;have aq:A6 V A 20<|G (Aa g) (K k) y:=Cc r.ad 20;have bj:(f:J)<(K k:J):=AY<|Dk hs;have HC:D (∀(j:I) (u:Aq),(CD s.1)[j]?=H u->A6 V g (f*18+j) u):=λj u hu=>hc j u (by grind [EA]);clear hc;go_wp2;have a:(λb:X=>A7 b (O<|U d) (DN f x) 199) {V with drawn:=V.drawn+1}:=AE am;have o:D<|Dv P A q k (G (Aa g) (K k) y) nf v n {V with drawn:=V.drawn+1}:=r.next (Cu _ _).drew
 have an:D (∀(j:I) (u:Aq),(CD s.1)[j]?=H u->({V with drawn:=V.drawn+1}:X).cell? ⟨g,f*18+j,Ao⟩=H u):=AE HC;have a5:({V with drawn:=V.drawn+1}:X).cell? ⟨A,20,Ao⟩=H (G (Aa g) (K k) y):=aq;have cA:=ji o.bits.1 o.bits.2 o.m.1 o.auR o.auT (o.j f s hs).2 hxL;refine Ei (S:=λb=>A7 b (O<|U d) (DN f x) 199) B6 ?_;clear HC r am aq;generalize({V with drawn:=V.drawn+1}:X)=V1 at *;refine Cb 0 26 (A8 A) a <| Cb 1 27 (A8 A) a <| Cb 2 28 (A8 A) a <| Cb 3 29 (A8 A) a <| Cb 4 30 (A9 A 20) a <| Cb 6 32 (C Y f) a <| Cb 10 36 (A9 (O<|U d) 1) a <| Ch 11 37 (C Y x) Z (λb m=>by have z1:A6 b (O<|U d) 1<|C Y x:=Cc m 1;go_simp) a ?_;refine CH 5 λB c=>?_;go_simp;refine c.out _ _ a λ_=>?_;clear c;refine CH 7 λB c=>?_;go_simp;refine c.out _ _ a λ_=>?_;clear c;refine CH 8 λB c=>?_;go_simp;refine c.out _ _ a λ_=>?_;clear c;refine CH 9 λB c=>?_;refine Ks B6 ?_;refine YL Z Z an underlying183 Z (FW s.1) ?_;refine c.out _ _ a λ_=>?_;clear c;refine CH 12 λB c=>?_;go_simp;refine cA.mono ?_;clear cA a5 an;rintro e w4 ⟨⟨ap,rfl,hY⟩,F⟩;simp only[];have HY:=T hY;have aj:=T<|o.next F;have t:(λb:X=>A7 b (O<|U d) (DN f x) 199) w4:=(F.block _<|Cd a).trans a;refine c.out _ _ t λ_=>?_;clear c hY F o;refine CH 13 λB c=>?_;go_simp;refine(zW aj HY.2.2 a9).mono ?_;rintro e w6 ⟨i,ah,bc,bd,bb,rfl,hF,ar,ax,a7,ai,ht,ay⟩;simp only[];have ak:=T ar;have ad:(λb:X=>A7 b (O<|U d) (DN f x) 199) w6:=(hF.block _ (Cd t) (λe=>by grind [D]) (by grind [D]) (by grind [D])<|by grind [D]).trans t;have a0:=T ax;have ac:D (ah[i]?=H ai/\∀ag,ag<16->ai.1 ag=ap ag):=⟨ht,ay⟩
 refine c.out _ _ ad λ_=>?_;clear c hF ar ax ht ay aj a t;refine Cb 14 8 (C Y i) ad <| CK ?_;go_simp;go_wp2;have aa:=T<|ak.next (Cu _ _).drew;have bk:=Dk ac.1;obtain⟨w7,a8,au,ae⟩:=Ys aa.c Sl underlying180 E hl i E;obtain⟨N,Q,e2⟩:∃N:Lit->Option I,N l=H i/\∀w,w≠l->N w=n w:=by have:=Classical.propDecidable;exact⟨λw=>if w=l then H i else n w,Cp Z,λw hh=>Cl hh⟩
 have al:=T<|aa.a3 ae<|au N Q e2;have az:D<|KW q ah N:=by
  intro f2 x2 l2 k2 av af;by_cases e:l2=l
  .subst e;have e3:=Fl<|Q.symm.trans af;have e4:=Yo.inj av hl;grind [D,DN]
  rw[e2 l2 e]at af;obtain⟨s2,t2,Y2,a1,a2,a3,a4⟩:=ao.out f2 x2 l2 k2 av af;grind [D]
 have p:(λb:X=>A6 b A 22 (.map<|H q.b)/\A7 b (O<|U d) (DN f x) 199) {w6 with drawn:=w6.drawn+1}:=⟨Cc aa.ad 22,ad⟩
 have a6:(λb:X=>A6 b A 22 (.map<|H q.b)/\A7 b (O<|U d) (DN f x) 199) w7:=⟨Cc al.ad 22,(ae.block (O<|U d) (Cd p.2)<|by grind [D]).trans p.2⟩
 clear au ae Q e2 ao ak;refine Ei (S:=λb=>A6 b A 22 (.map<|H q.b)/\A7 b (O<|U d) (DN f x) 199) B6 ?_;refine Cb 0 40 (A8 A) p <| Cb 1 41 (A8 A) p <| Cb 2 42 (A9 A 22) p <| Ch 3 43 (.map<|H q.b) Z (λb m=>ke4) p <| Ch 4 44 (.agg<|DN f x) Z (λb m=>BX) p <| Cb 5 45 (C Y i) p <| CH 6 λB c=>?_;go_simp;refine c.out _ _ a6 λ_=>?_;clear c;refine CK ?_;go_simp;clear a8;go_wp2;go_ret;exact⟨i,ah,bc,bd,bb,v+1,N,Z,al,az,Cr _,a0,a7,ai,ap,ac.1,HY,ac.2⟩
theorem q00(h:Dv W0 A q sts (G sa (K sts) sc) nf mn mf W)(b:KW q sts mf)(w:K sts<100000)(v:mn<100000){s:(I->I)×J×J}(c:sts[f]?=H s)(hb:K key<=maxLen)(hx:Js q.i key ix=x)(hxL:x<q.L)(r:q.L<=100000):Ar As 71 #[A8 A,C Y f,.agg #[Ae ⟨Aw key⟩,Ah ix]] W<|jW W0 A q sts s.1 x mn:=by
 have u:=Dk c;obtain⟨l,a⟩:=jV f x E E;rcases hi:mf l with _|i
 .grind [qzM]
 refine Ce (jX h hb hx a hi) ?_;rintro e p ⟨rfl,n⟩;obtain⟨y,t,d,g,j,k,m⟩:=b f x l i a hi;have e:=Fl<|Ca c.symm g;subst e;exact⟨i,sts,sa,sc,nf,mn,mf,rfl,h.next n,b,OK _,λ_ _ o=>o,OK _,t,d,j,k,m⟩
def Ss:(prog.info? 249).map (·.size)=H 3:=B6
theorem jZ(h:s.size<=2000):∃(p r:AT) (b:AK),p.data.toList=(Lib.cut s.data.toList [32]).1/\r.data.toList=(Lib.cut s.data.toList [32]).2.1/\p.size<=2000/\r.size<=2000 /\
  ∀w,Ho w->Ar As 174 #[.string s,Ae ⟨#[32]⟩] w λe f=>e=Ak (Af #[.string p,.string r,Ah b])/\A0 w f:=by
 have g:K s.data.toList=s.size:=Fz;have a:(Lib.cut s.data.toList [32]).1.length<=2000/\(Lib.cut s.data.toList [32]).2.1.length<=2000:=by grind [Nc]
 refine⟨⟨(Lib.cut s.data.toList [32]).1.toArray⟩,⟨(Lib.cut s.data.toList [32]).2.1.toArray⟩,(Lib.cut s.data.toList [32]).2.2,Ba,Ba,a.1,a.2,λw c=>?_⟩;obtain⟨m,d⟩:=c.c;refine Ce (Tryz.strings_Cut s ⟨#[32]⟩ m w E d) ?_;grind [Nz,CT]
structure UH(w:Ap)(W:Ap):Prop where
 ac:A0 w W
 a:W.heap[Au (Av w)]?=An (Aj E3 249)
def UH.aq(h:UH w W)(hb:A0 W W'):UH w W' :=
 ⟨Cs h.ac<|CG hb h.ac.size,Ca (Co hb _<|Cd h.a) h.a⟩
def q4Q(w:X):UH w<|Az w<|M E3 249:=⟨Cm,Cj _⟩
section
attribute[local go_sem] Oper.semAt_some
def YM:∀(q r:AJ A1) (i:I),q.all (Dn n)=AP->i+K q<=16->JV n (q++r) i=JV n r (i+K q)
 |[],r,i,_,_=>rfl
 |x::q,r,i,h,hl=>by rw[We,Fj]at h;rw[FN]at hl;rw[Kw,JV,Cp ⟨h.1,E⟩,YM q r (i+1) h.2 E,FN];congr 1;omega
def Fg(n:AH)(l:A1):AI:=if 0<=E5 n l then 6 else 0
def IW(n:AH)(l:A1):AI:=if 0<=E5 n l then E5 n l else 0
structure Su(w:Ap)(n:AH)(pre:AJ E4)(c:Code)(W:Ap):Prop where
 ret:c=.ret
 ac:A0 w W
 d:Boxed W (Au (Av w)+1) 124 (Ac Ao 0 0)
 b:Boxed W (Au (Av w)+2) 54 (Ab .i64 6)
 a:∃q x,pre=q++[x]/\Boxed W (Au (Av w)+3) 3 (Ab .i64 (At q:AH))/\(q.map CM).all (Dn n)=AP/\At q<=16/\¬(Dn n (CM x)=AP/\At q<16)
 size:Au (Av w)+8<=Au (Av W)
theorem Su.a0{c:Code}(h:Su w n pre c W)(a:W.grownBy W'<|H row)(j:O (U w)+4<=row):Su w n pre c W':=by obtain⟨q,x,e,d,b,f,g⟩:=h.a;exact⟨h.ret,Cs h.ac ⟨a.os,a.tape,a.output,a.size,λi k=>a.block i Bn B9⟩,h.d.kept a B9,h.b.kept a B9,⟨q,x,e,d.kept a B9,b,f,g⟩,CE h.size a.size⟩
def ke(a:N<=O (U W))(b:k+3<=O (U W)):Tr N k W W.drew:=Tr.ad (Cu _ _).drew a b
def Tryz.infoRule2:(prog.info? 249).map (λi=>(i.zero,i.size,i.bytes))=H (H<|.agg E3,3,40):=B6
theorem q7J{hs:s.size<=2000}{xs:AJ E4}(e:¬s.size=0)(h:xs.map CM=Db 10 (CM ⟨s,hs⟩))(c:K xs<=16)(b:(xs.map CM).all (Dn n)=AP):E5 n s.data.toList = -1:=by have a:Db 10 s.data.toList=xs.map CM:=h.symm;have d:K s.data.toList=s.size:=Fz;unfold E5;rw[Cl E,Cl E,a];have:=YM (xs.map CM) [] 0 b B9;rw[Rd]at this;rw[this];rfl
theorem q8o{hs:s.size<=2000}{q:AJ E4}{x:E4}{r:AJ A1}(e:¬s.size=0)(h:Db 10 (CM ⟨s,hs⟩)=(q++[x]).map CM++r)(b:(q.map CM).all (Dn n)=AP)(d:K q<=16)(hx:¬(Dn n (CM x)=AP/\K q<16)):E5 n s.data.toList=K q:=by have a:Db 10 s.data.toList=(q++[x]).map CM++r:=h;have c:K s.data.toList=s.size:=Fz;unfold E5;rw[Cl E,Cl E,a,Kb,La,YM (q.map CM) _ 0 b B9];grind [JV]
theorem qu1(a:(Az (Az (Az (Az (Az (Az (Az (Az w<|M #[C Y n] 3)<|M #[G Ao 0 0] 124)<|M #[C Y 0] 54)<|M #[C Y 0] 3)<|M #[G Ao 0 0] 124)<|M #[.string s] 9)<|M #[Ae ⟨#[10]⟩] 9)<|M #[C Y 0] 3)=W0):LA (O (U w)+5) 10 W0 s:=by
 subst a;generalize hA:Az (Az (Az (Az (Az w<|M #[C Y n] 3)<|M #[G Ao 0 0] 124)<|M #[C Y 0] 54)<|M #[C Y 0] 3) (M #[G Ao 0 0] 124)=A;have b:O (U w)+5=O (U A):=by rw[<-hA];simp
 rw[b];refine⟨?_,?_,?_⟩<;>grind [Below.heap_alloc,Cj,World.size_alloc]
def kg(w:X)(n:I)(e:J):(Az (Az (Az (Az w<|M #[C Y n] 3)<|M #[G Ao 0 0] 124)<|M #[C Y e] 54)<|M #[C Y 0] 3).cell? ⟨O (U w)+1,0,Ao⟩=H (G Ao 0 0) /\
  (Az (Az (Az (Az w<|M #[C Y n] 3)<|M #[G Ao 0 0] 124)<|M #[C Y e] 54)<|M #[C Y 0] 3).cell? ⟨O (U w)+1+1,0,Ao⟩=H (C Y e) /\
  (Az (Az (Az (Az w<|M #[C Y n] 3)<|M #[G Ao 0 0] 124)<|M #[C Y e] 54)<|M #[C Y 0] 3).cell? ⟨O (U w)+1+1+1,0,Ao⟩=H (C Y 0):=by
 refine⟨?_,?_,?_⟩
 .have:=Boxed.new (Az w<|M #[C Y n] 3) 124<|G Ao 0 0;rw[CL]at this;exact((this.alloc _).alloc _).cell
 .have:=Boxed.new (Az (Az w<|M #[C Y n] 3)<|M #[G Ao 0 0] 124) 54<|C Y e;rw[CL,CL]at this;exact(this.alloc _).cell
 have:=Boxed.new (Az (Az (Az w<|M #[C Y n] 3)<|M #[G Ao 0 0] 124)<|M #[C Y e] 54) 3<|C Y 0;rw[CL,CL,CL]at this;exact this.cell
end
def Hd(L:AJ<|AI×AI)(a b:AH):Prop:=∀S:AH->Prop,S a->(∀e,e∈L->S e.1.toNat->S e.2.toNat)->S b
theorem Hd.refl(L:AJ<|J×J)(a:I):Hd L a a:=λ_ h _=>h
def Hd.trans{c:I}(h:Hd L a b)(k:Hd L b c):Hd L a c:=λS e d=>k S (h S e d) d
def Hd.ac(h:e∈L):Hd L e.1.toNat e.2.toNat:=λ_ a b=>b e h a
theorem qxG(h:m i j=AP):KA m e i j=AP:=by unfold KA upd;split<;>simp_all
def qvv(m:I->I->AK)(e:J×J):KA m e e.1.toNat e.2.toNat=AP:=by simp[KA,upd]
def kh:∀(m:I->I->AK) (i j:I),m i j=AP->L.foldl KA m i j=AP:=by
 induction L with
 |nil=>intro m i j h;exact h
 |cons e L a=>intro m i j h;exact a _ i j<|qxG h
def qyj:∀(m:I->I->AK) (e:J×J),e∈L->L.foldl KA m e.1.toNat e.2.toNat=AP:=by
 induction L with
 |nil=>intro m e h;cases h
 |cons x L a =>
  intro m e h;obtain h|h:=IA.1 h
  .subst h;exact kh (L:=L) _ _ _<|qvv m e
  exact a _ e h
theorem qqp(P:I->I->Prop):∀(m:I->I->AK),(∀i j,m i j=AP->P i j)->(∀e,e∈L->P e.1.toNat e.2.toNat)->∀i j,L.foldl KA m i j=AP->P i j:=by
 induction L with
 |nil=>intro m h _;exact h
 |cons x L d =>
  intro m h a;refine d (KA m x) (λi j b=>?_) λe c=>a e<|LM _ c;unfold KA upd at b;grind
theorem qpH(h:Kd n L i j=AP):Hd L i j :=
 qqp (Hd L) (LR n) (λi j b=>by have:=Dr b;grind [Hd.refl]) (λ_ a=>Hd.ac a) i j h
theorem UI{l:I}(H:FC n k m l h i j=AP):m i j=AP\/(m i k=AP/\m k j=AP):=keO
def km{l:I}(H:m i j=AP):FC n k m l h i j=AP:=by unfold FC;rw[H];rfl
theorem UJ(hi:i<n)(c:j<n)(a:m i k=AP)(b:m k j=AP):FC n k m n 0 i j=AP:=keO
def qsS:∀(k i j:I),Hn n k (Kd n L) i j=AP->Hd L i j:=by
 intro k
 induction k with
 |zero=>intro i j h;exact qpH h
 |succ k a =>
  intro i j h;rcases UI h with h|⟨b,c⟩
  .exact a i j h
  exact(a i k b).trans<|a k j c
def ko(h:m i j=AP):∀k,Hn n k m i j=AP:=by
 intro k
 induction k with
 |zero=>exact h
 |succ k a=>exact km a
def qt5:∀(k:I),k<=n->∀c i j,c<k->i<n->j<n->Hn n k m i c=AP->Hn n k m c j=AP->Hn n k m i j=AP:=by
 intro k
 induction k with
 |zero=>intro _ c i j h;omega
 |succ k g =>
  intro u c i j t d f b a;have g:=g E;have q:∀x,Hn n (k+1) m x k=Hn n k m x k:=λx=>aR (Hn n k m) 0;have s:∀x,Hn n (k+1) m k x=Hn n k m k x:=λx=>aS (Hn n k m) 0;by_cases e:c=k
  .subst e;rw[q]at b;rw[s]at a;exact UJ d f b a
  have o:c<k:=E;have p:k<n:=E;rcases UI b with b|⟨b,r⟩
  .rcases UI a with a|⟨a,l⟩
   .exact km<|g c i j o d f b a
   exact UJ d f (g c i k o d p b a) l
  rcases UI a with a|⟨a,l⟩
  .exact UJ d f b<|g c k j o p f r a
  exact UJ d f b l
def YN(c:Fv n L=AP)(d:e∈L):e.1.toNat<n/\e.2.toNat<n:=by have:=Hi.1 c e d;unfold GE at this;simp only[Fj]at this;obtain⟨⟨a,b⟩,_⟩:=this;have f:=Dr a;have g:=Dr b;omega
theorem qzz(d:Fv n L=AP)(f:a<n)(hb:b<n):DY n L a b=AP↔Hd L a b:=by
 constructor
 .exact qsS n a b
 intro h;have:=h (λx=>x<n->DY n L a x=AP) (λ_=>ko (kh _ _ _<|Fm ⟨Z,f⟩) n)
  (λe c g i=>qt5 n (Cr _) e.1.toNat a e.2.toNat (YN d c).1 f i (g (YN d c).1)<|ko (qyj _ e c) n)
 exact this hb
theorem qvK(h:S x=AP):GV S k x=AP:=by grind [GV]
theorem kq(h:S x=AP):LS S e x=AP:=by unfold LS;grind [qvK]
def UK:∀{S:I->AK} {x:I},S x=AP->GF L S x=AP:=by
 unfold GF
 induction L with
 |nil=>intro S x h;exact h
 |cons e L a=>intro S x h;exact a<|kq h
theorem qpT:∀{S:I->AK} {e:J×J},e∈L->S e.1.toNat=AP->GF L S e.2.toNat=AP:=by
 induction L with
 |nil=>intro S e h;cases h
 |cons x L b =>
  intro S e h a;obtain h|h:=IA.1 h
  .subst h;refine UK (S:=LS S e) ?_;unfold LS;grind [GV]
  exact b (S:=LS S x) h<|kq a
theorem ku(P:I->Prop):∀{S:I->AK},(∀x,S x=AP->P x)->(∀e,e∈L->P e.1.toNat->P e.2.toNat)->∀x,GF L S x=AP->P x:=by
 induction L with
 |nil=>intro S h _;exact h
 |cons e L f =>
  intro S h c;refine f (S:=LS S e) (λx d=>?_) λa b=>c a<|LM _ b;unfold LS at d;grind [GV]
def UL(L:AJ<|AI×AI)(S:AH->AK):Prop:=∀e,e∈L->S e.1.toNat=AP->S e.2.toNat=AP
theorem kw(h:UL L S):GF L S=S:=by
 funext x;cases b:S x
 .cases a:GF L S x
  .rfl
  have:=ku (λx=>S x=AP) (S:=S) (λ_ h=>h) h x a;grind
 exact UK b
def UM(n:AH)(S:AH->AK):AH:=At<|(List.range n).filter S
theorem q7D(n:I)(S:I->AK):UM n S<=n:=by grind [UM]
theorem qvJ{T:I->AK}(a:∀x,S x=AP->T x=AP):∀(l:AJ I) (y:I),y∈l->S y=AQ->T y=AP->K (l.filter S)<K (l.filter T):=by
 have b:∀l:AJ I,K (l.filter S)<=K (l.filter T):=by intro l;induction l<;>grind
 intro l;induction l<;>grind
theorem qpp(f:Fv n L=AP)(g:a<n):∀k,UL L (F2 L k<|ES a)\/k+1<=UM n (F2 L k<|ES a):=by
 intro k
 induction k with
 |zero =>
  right;have:0<K ((List.range n).filter<|ES a):=List.length_pos_of_mem (a:=a) (List.mem_filter.2 ⟨Hj.2 g,by simp[ES,GV]⟩);exact this
 |succ k l =>
  rcases l with h|h
  .grind [F2,kw]
  by_cases i:UL L<|F2 L k<|ES a
  .grind [F2,kw]
  right;have:∃e,e∈L/\F2 L k (ES a) e.1.toNat=AP/\F2 L k (ES a) e.2.toNat=AQ:=by apply ZV;intro o;refine i λe b c=>?_;grind
  obtain⟨e,b,c,d⟩:=this;have m:=qvJ (λx j=>UK j) (List.range n) e.2.toNat (Hj.2 (YN f b).2) d<|qpT b c;grind [F2,UM]
theorem qnN:∀k x,F2 L k (ES a) x=AP->Hd L a x:=by
 intro k
 induction k with
 |zero =>
  intro x h;have h:ES a x=AP:=h;unfold ES GV at h;grind [Hd.refl]
 |succ k d =>
  intro x h;exact ku (λx=>Hd L a x) (S:=F2 L k<|ES a) d (λe c b=>b.trans<|Hd.ac c) x h
def qp2(h:S x=AP):∀k,F2 L k S x=AP:=by
 intro k
 induction k with
 |zero=>exact h
 |succ k a=>exact UK a
theorem ky(c:Fv n L=AP)(d:a<n):DZ n L a b=AP↔Hd L a b:=by
 constructor
 .exact qnN n b
 intro h;have e:UL L<|F2 L n<|ES a:=by rcases qpp c d n with h|h<;>grind [q7D]
 exact h (λx=>F2 L n (ES a) x=AP) (qp2 (by simp[ES,GV]) n) e
theorem YO(c:Fv n L=AP)(d:a<n)(hb:b<n):DY n L a b=DZ n L a b:=by grind [qzz,ky]
def qwj(b:Fv n L=AP)(c:a<n):DZ n L a a=AP:=(ky b c).2<|Hd.refl _ _
structure FX(s:AH)(W0:Ap)(arr:A3)(ea:A4)(L:AJ (AI×AI))(W:Ap):Prop where
 ac:Below (s+1) W0 W
 h:W.heap[s]?=An (Aj arr 40)
 a:G3 W ea L
 size:s+1<=Au (Av W)
def FX.aq{s:I}(h:FX s W0 arr ea L W)(hb:A0 W W'):FX s W0 arr ea L W' :=
 ⟨Cs h.ac<|CG hb h.size,Ca (Co hb _ Bn) h.h,h.a.ac hb,CE h.size hb.size⟩
def YP(arr:A3)(h:G3 w ea L):FX (O<|U w) (Az w<|M arr 40) arr ea L (Az w<|M arr 40) :=
 ⟨Cu _ _,Cj _,h.ac Cm,Ba⟩
def FX.cell{s:I}(h:FX s W0 arr ea L W)(j:I):AC W ⟨s,j,Ao⟩=arr[j]?:=Cc h.h j
def FX.ad(h:FX (O<|U w) W0 arr ea L W)(a:A0 w W0):A0 w W:=Cs a<|CG h.ac E
structure Pq(arr:A3)(n:AH)(L:AJ (AI×AI))(ea:A4)(ecap:AH):Prop where
 ai:Wt arr n L ea ecap
 f:n<=6
 hL:At L<=30
 a:Fv n L=AP
theorem UN{s:I}(H:Pq arr n L ea ecap)(c:a<n)(hb:b<n)(h:FX s W0 arr ea L W):Ar As 69 #[.agg arr,C Y a,C Y b] W λe g=>e=Ak (Ah<|DZ n L a b)/\FX s W0 arr ea L g :=
 Ce (Wu H.ai H.f H.hL H.a c hb h.a) λ_ _ ⟨f,d⟩=>⟨f,h.aq d⟩
theorem kz(m:AK)(H:Pq arr n L ea ecap)(ha:a<n)(hb:b<n)(hA:G3 w ea L):Ar As (bif m then 100 else 99) #[.agg arr,C Y a,C Y b] w λe P=>∃aa:J,e=Ak (C Y aa)/\D (AR (aa<0) = !FB n (bif m then λi j=>DZ n L j i else DZ n L) a b)/\A0 w P:=by
 have u:=H.ai.f0;have hn:=H.f;have d:=T<|DC H.ai.size;have ae:=T<|YP arr hA;have Q:D<|A0 w<|Az w<|M arr 40:=Cm;have A:∀(x y:I) (_:x<n) (_:y<n) {s:I} {W0 W:X} (_:FX s W0 arr ea L W),Ar As 69 (bif m then#[.agg arr,C Y y,C Y x]else#[.agg arr,C Y x,C Y y]) W λe P=>e=Ak (Ah<|(bif m then λi j=>DZ n L j i else DZ n L) x y)/\FX s W0 arr ea L P:=λx y hx hy _ _ _ h=>by cases m<;>grind [UN]
 generalize(bif m then λi j=>DZ n L j i else DZ n L)=le at *;cases m
 all_goals
  dsimp only[cond]at A ⊢;have l:=T A;clear A
  first|(go_enter func99,ntmps99)|(go_enter func100,ntmps100)
  go_wp2;generalize Az w (M arr 40)=W0 at *
  go_loopg[7,8,9] n (λg x y ag wr=>∃k:I,D (k+g=n)/\x=C Y k/\D (FX (O<|U w) W0 arr ea L wr)/\D (∀j,j<k->GD n le a b j=AQ))
  grind [D];obtain⟨k,z,rfl,c,HL⟩:=hrel;have B:=Ca (c.cell 0) u;obtain _|g:=gk
  .have ac:¬(k:J)<n:=AY<|AE z;go_wp2;go_ret;exact⟨-1,Z,by grind [D,aN],c.ad Q⟩
  have ac:(k:J)<n:=AY<|AE z;cases e1:le a k
  .have t:D<|GD n le a b k=AQ:=by grind [D,GD,F1]
   go_wp2_with(first
    |(refine CO Z 40 _ Z _ Z _ _ _ _ c.h underlying40 Z d ?_)
    |(refine F0 Z Z Z c.h underlying40 Z d ?_)
    |(go_at_call 69;refine Ce (l _ _ E E c) ?_;rintro e p ⟨rfl,f⟩;have c:=T f))
   go_loopg[9,8] 0 (λg x y wr=>x=C Y 0/\y=Ah AQ/\D (FX (O<|U w) W0 arr ea L wr))
   grind;obtain⟨rfl,rfl,c⟩:=hrel;have B:=Ca (c.cell 0) u;go_wp2;go_roundg g
   .refine⟨k+1,B9,Bb,c,λj N=>?_⟩;grind [D]
   omega
  cases e2:le b k
  .have t:D<|GD n le a b k=AQ:=by grind [D,GD,F1]
   go_wp2_with(first
    |(refine CO Z 40 _ Z _ Z _ _ _ _ c.h underlying40 Z d ?_)
    |(refine F0 Z Z Z c.h underlying40 Z d ?_)
    |(go_at_call 69;refine Ce (l _ _ E E c) ?_;rintro e p ⟨rfl,f⟩;have c:=T f))
   go_loopg[9,8] 0 (λg x y wr=>x=C Y 0/\y=Ah AQ/\D (FX (O<|U w) W0 arr ea L wr))
   grind;obtain⟨rfl,rfl,c⟩:=hrel;have B:=Ca (c.cell 0) u;go_wp2;go_roundg g
   .refine⟨k+1,B9,Bb,c,λj N=>?_⟩;grind [D]
   omega
  have HU:D<|F1 le a b k=AP:=by grind [D,F1]
  go_wp2_with(first
   |(refine CO Z 40 _ Z _ Z _ _ _ _ c.h underlying40 Z d ?_)
   |(refine F0 Z Z Z c.h underlying40 Z d ?_)
   |(go_at_call 69;refine Ce (l _ _ E E c) ?_;rintro e p ⟨rfl,f⟩;have c:=T f))
  go_loopg[9,8] (n+1) (λg x y wr=>∃(q:I) (o:AK),D (q+g=n+1)/\x=C Y q/\y=Ah o/\D (FX (O<|U w) W0 arr ea L wr)/\D (o=AP->q<=n/\∀i,i<q->F1 le a b i=AP->le k i=AP)/\D (o=AQ->GD n le a b k=AQ))
  grind [D];obtain⟨q,o,hq,rfl,rfl,c,R,HN⟩:=hrel;have B:=Ca (c.cell 0) u;cases o
  .have t:=T<|HN Z;by_cases r:(q:J)<n
   .go_wp2;go_roundg g
    .refine⟨k+1,B9,Bb,c,λj N=>?_⟩;grind [D]
    omega
   go_wp2;go_roundg g
   .refine⟨k+1,B9,Bb,c,λj N=>?_⟩;grind [D]
   omega
  have af:=(R Z).1;have ab:=T<|(R Z).2;by_cases ad:q<n
  .have r:(q:J)<n:=E;obtain _|v:=gk
   .have:=AE hq;omega
   cases e1:le a q
   .have S:D<|F1 le a b q=AP->le k q=AP:=λh=>kfn
    go_wp2_with(first
     |(refine CO Z 40 _ Z _ Z _ _ _ _ c.h underlying40 Z d ?_)
     |(refine F0 Z Z Z c.h underlying40 Z d ?_)
     |(go_at_call 69;refine Ce (l _ _ E E c) ?_;rintro e p ⟨rfl,f⟩;have c:=T f))
    go_roundg v;exact⟨q+1,AP,B9,Bb,Z,c,(λ_=>⟨E,λi F hu=>by grind [D]⟩),(λh=>Bs)⟩;omega
   cases e2:le b q
   .have S:D<|F1 le a b q=AP->le k q=AP:=λh=>kfn
    go_wp2_with(first
     |(refine CO Z 40 _ Z _ Z _ _ _ _ c.h underlying40 Z d ?_)
     |(refine F0 Z Z Z c.h underlying40 Z d ?_)
     |(go_at_call 69;refine Ce (l _ _ E E c) ?_;rintro e p ⟨rfl,f⟩;have c:=T f))
    go_roundg v;exact⟨q+1,AP,B9,Bb,Z,c,(λ_=>⟨E,λi F hu=>by grind [D]⟩),(λh=>Bs)⟩;omega
   cases V:le k q
   .have t:D<|GD n le a b k=AQ:=aM (k:=q) ad kfn V
    go_wp2_with(first
     |(refine CO Z 40 _ Z _ Z _ _ _ _ c.h underlying40 Z d ?_)
     |(refine F0 Z Z Z c.h underlying40 Z d ?_)
     |(go_at_call 69;refine Ce (l _ _ E E c) ?_;rintro e p ⟨rfl,f⟩;have c:=T f))
    go_roundg v;exact⟨q+1,AQ,B9,Bb,Z,c,(λh=>Bs),(λ_=>AE t)⟩;omega
   have S:D<|F1 le a b q=AP->le k q=AP:=λ_=>V
   go_wp2_with(first
    |(refine CO Z 40 _ Z _ Z _ _ _ _ c.h underlying40 Z d ?_)
    |(refine F0 Z Z Z c.h underlying40 Z d ?_)
    |(go_at_call 69;refine Ce (l _ _ E E c) ?_;rintro e p ⟨rfl,f⟩;have c:=T f))
   go_roundg v;exact⟨q+1,AP,B9,Bb,Z,c,(λ_=>⟨E,λi F hu=>by grind [D]⟩),(λh=>Bs)⟩;omega
  have r:¬(q:J)<n:=E;have t:D<|GD n le a b k=AP:=Wo HU λi F=>ab.out i E;go_wp2;go_ret;exact⟨k,Z,by grind [D,Wp],c.ad Q⟩
def J9(n:AH)(m:AH->AH->AK)(a b:AH):AK:=AR (n=n)&&(!(a==b)&&m a b&&m b a)
def Nf(n:AH)(m:AH->AH->AK):AK:=(List.range n).all λa=>(List.range n).all λb=>!J9 n m a b
theorem kA(c:a<n)(hb:b<n)(h:J9 n m a b=AP):Nf n m=AQ:=by unfold Nf;rw[VC];refine⟨a,Hj.2 c,?_⟩;grind
theorem kB(h:∀a b,a<n->b<n->J9 n m a b=AQ):Nf n m=AP:=by grind [Nf]
def JY(n:AH)(m:AH->AH->AK)(a b:AH):AK:=FB n m a b&&FB n (λi j=>m j i) a b
def Ng(n:AH)(m:AH->AH->AK):AK:=(List.range n).all λa=>(List.range n).all λb=>JY n m a b
theorem YQ(c:a<n)(hb:b<n)(h:JY n m a b=AQ):Ng n m=AQ:=by grind [Ng]
theorem kD(h:∀a b,a<n->b<n->JY n m a b=AP):Ng n m=AP:=by grind [Ng]
def YR{s:I}(H:Pq arr n L ea ecap)(a:I)(c:a<n)(hb:b<n)(h:FX s W0 arr ea L W):Ar As 99 #[.agg arr,C Y a,C Y b] W λe i=>∃r:J,e=Ak (C Y r)/\D (AR (r<0) = !FB n (DZ n L) a b)/\FX s W0 arr ea L i :=
 Ce (kz AQ H c hb h.a) λ_ _ ⟨r,f,g,d⟩=>⟨r,f,g,h.aq d⟩
def kE{s:I}(H:Pq arr n L ea ecap)(a:I)(c:a<n)(hb:b<n)(h:FX s W0 arr ea L W):Ar As 100 #[.agg arr,C Y a,C Y b] W λe k=>∃r:J,e=Ak (C Y r)/\D (AR (r<0) = !FB n (λi j=>DZ n L j i) a b)/\FX s W0 arr ea L k :=
 Ce (kz AP H c hb h.a) λ_ _ ⟨r,f,g,d⟩=>⟨r,f,g,h.aq d⟩
theorem qpf(H:Pq arr n L ea ecap)(u:G3 w ea L):Ar As 61 #[.agg arr] w λe Q=>e=Ak (Ah<|Nf n<|DZ n L)/\A0 w Q:=by
 have p:=H.ai.f0;have hn:=H.f;have d:=T<|DC H.ai.size;have j:=T H;have V:=T<|YP arr u;have o:D<|A0 w<|Az w<|M arr 40:=Cm;go_enter func61,ntmps61;go_wp2;generalize Az w (M arr 40)=W0 at *
 go_loopg[3,4] n (λg x y wr=>∃k:I,D (k+g=n)/\x=C Y k/\D (FX (O<|U w) W0 arr ea L wr)/\D (∀a b,a<k->b<n->J9 n (DZ n L) a b=AQ))
 grind [D];obtain⟨k,m,rfl,c,t⟩:=hrel;have z:=Ca (c.cell 0) p;obtain _|g:=gk
 .have B:¬(k:J)<n:=AY<|AE m;go_wp2;go_ret;exact⟨by rw[kB λa b v h=>t.out a b (AY<|AE m) h];rfl,c.ad o⟩
 have B:(k:J)<n:=AY<|AE m;go_wp2
 go_loopg[4] n (λg x wr=>∃q:I,D (q+g=n)/\x=C Y q/\D (FX (O<|U w) W0 arr ea L wr)/\D (∀b,b<q->J9 n (DZ n L) k b=AQ))
 grind [D];obtain⟨q,r,rfl,c,S⟩:=hrel;have z:=Ca (c.cell 0) p;obtain _|l:=gk
 .have P:¬(q:J)<n:=AY<|AE r;go_wp2;go_roundg g
  .refine⟨k+1,B9,Bb,c,λa b v h=>?_⟩;grind [D]
  omega
 have P:(q:J)<n:=AY<|AE r;by_cases A:k=q
 .have i:D<|J9 n (DZ n L) k q=AQ:=kfJ;have F:((k:J)==q)=AP:=Wn.2 E;have N:((k:J) != q)=AQ:=B9;go_wp2;go_roundg l
  .refine⟨q+1,B9,Bb,c,λb h=>?_⟩;grind [D]
  omega
 have F:((k:J)==q)=AQ:=Nw.2 E;have N:((k:J) != q)=AP:=by rw[bne_iff_ne];omega
 have R:=T<|Nw.2 A;cases W:DZ n L k q
 .have i:D<|J9 n (DZ n L) k q=AQ:=kfJ
  go_wp2_with(first
   |(refine CO Z 40 _ Z _ Z _ _ _ _ c.h underlying40 Z d ?_)
   |(refine F0 Z Z Z c.h underlying40 Z d ?_)
   |(go_at_call 69;refine Ce (UN j E E c) ?_;rintro e s ⟨rfl,f⟩;have c:=T f))
  go_roundg l
  .refine⟨q+1,B9,Bb,c,λb h=>?_⟩;grind [D]
  omega
 cases e2:DZ n L q k
 .have i:D<|J9 n (DZ n L) k q=AQ:=kfJ
  go_wp2_with(first
   |(refine CO Z 40 _ Z _ Z _ _ _ _ c.h underlying40 Z d ?_)
   |(refine F0 Z Z Z c.h underlying40 Z d ?_)
   |(go_at_call 69;refine Ce (UN j E E c) ?_;rintro e s ⟨rfl,f⟩;have c:=T f))
  go_roundg l
  .refine⟨q+1,B9,Bb,c,λb h=>?_⟩;grind [D]
  omega
 have i:D<|J9 n (DZ n L) k q=AP:=kfJ
 go_wp2_with(first
  |(refine CO Z 40 _ Z _ Z _ _ _ _ c.h underlying40 Z d ?_)
  |(refine F0 Z Z Z c.h underlying40 Z d ?_)
  |(go_at_call 69;refine Ce (UN j E E c) ?_;rintro e s ⟨rfl,f⟩;have c:=T f))
 go_ret;exact⟨by rw[kA (a:=k) E E i.out];rfl,c.ad o⟩
theorem qq2(H:Pq arr n L ea ecap)(R:G3 w ea L):Ar As 62 #[.agg arr] w λe w'=>e=Ak (Ah<|Ng n<|DZ n L)/\A0 w w':=by
 have A:=H.ai.f0;have hn:=H.f;have f:=T<|DC H.ai.size;have h:=T H;have ab:=T<|YP arr R;have p:D<|A0 w<|Az w<|M arr 40:=Cm;go_enter func62,ntmps62;go_wp2;generalize Az w (M arr 40)=W0 at *
 go_loopg[3,4] n (λg x ac wr=>∃k:I,D (k+g=n)/\x=C Y k/\D (FX (O<|U w) W0 arr ea L wr)/\D (∀a b,a<k->b<n->JY n (DZ n L) a b=AP))
 grind [D];obtain⟨k,u,rfl,c,P⟩:=hrel;have V:=Ca (c.cell 0) A;obtain _|g:=gk
 .have W:¬(k:J)<n:=AY<|AE u;go_wp2;go_ret;exact⟨by rw[kD λa b S t=>P.out a b (AY<|AE u) t];rfl,c.ad p⟩
 have W:(k:J)<n:=AY<|AE u;go_wp2
 go_loopg[4] n (λg x wr=>∃q:I,D (q+g=n)/\x=C Y q/\D (FX (O<|U w) W0 arr ea L wr)/\D (∀b,b<q->JY n (DZ n L) k b=AP))
 grind [D];obtain⟨q,F,rfl,c,HQ⟩:=hrel;have V:=Ca (c.cell 0) A;obtain _|Q:=gk
 .have i:¬(q:J)<n:=AY<|AE F;go_wp2;go_roundg g
  .refine⟨k+1,B9,Bb,c,λa b S t=>?_⟩;grind [D]
  omega
 have i:(q:J)<n:=AY<|AE F;cases s:FB n (DZ n L) k q
 .have l:D<|JY n (DZ n L) k q=AQ:=by grind [JY]
  have v:=T s
  go_wp2_with(first
   |(refine CO Z 40 _ Z _ Z _ _ _ _ c.h underlying40 Z f ?_)
   |(refine F0 Z Z Z c.h underlying40 Z f ?_)
   |(go_at_call 99;refine Ce (YR h k E E c) ?_;rintro e o ⟨r,rfl,m,d⟩;have c:=T d;have y:AR (r<0)=AP:=(by grind [D])))
  go_ret;exact⟨kes,c.ad p⟩
 cases z:FB n (λj aa=>DZ n L aa j) k q
 .have l:D<|JY n (DZ n L) k q=AQ:=by grind [JY]
  have v:=T s;have N:=T z
  go_wp2_with(first
   |(refine CO Z 40 _ Z _ Z _ _ _ _ c.h underlying40 Z f ?_)
   |(refine F0 Z Z Z c.h underlying40 Z f ?_)
   |(go_at_call 99;refine Ce (YR h k E E c) ?_;rintro e o ⟨r,rfl,m,d⟩;have c:=T d;have B:AR (r<0)=AQ:=(by grind [D]))
   |(go_at_call 100;refine Ce (kE h k E E c) ?_;rintro e o ⟨r,rfl,m,d⟩;have c:=T d;have y:AR (r<0)=AP:=(by grind [D])))
  go_ret;exact⟨kes,c.ad p⟩
 have l:D<|JY n (DZ n L) k q=AP:=by grind [JY]
 have v:=T s;have N:=T z
 go_wp2_with(first
  |(refine CO Z 40 _ Z _ Z _ _ _ _ c.h underlying40 Z f ?_)
  |(refine F0 Z Z Z c.h underlying40 Z f ?_)
  |(go_at_call 99;refine Ce (YR h k E E c) ?_;rintro e o ⟨r,rfl,m,d⟩;have c:=T d;have B:AR (r<0)=AQ:=(by grind [D]))
  |(go_at_call 100;refine Ce (kE h k E E c) ?_;rintro e o ⟨r,rfl,m,d⟩;have c:=T d;have B:AR (r<0)=AQ:=(by grind [D])))
 go_roundg Q
 .refine⟨q+1,B9,Bb,c,λb t=>?_⟩;grind [D]
 omega
theorem qpP(h:∀i j,i<n->j<n->m i j=m' i j):ID n m = !Nf n m':=by
 cases k:ID n m
 .symm;rw[Bool.not_eq_false'];refine kB λa b e c=>?_;cases d:J9 n m' a b
  .rfl
  exfalso;unfold J9 at d;simp only[Fj,VT,Nw]at d;obtain⟨_,⟨p,f⟩,g⟩:=d;rw[<-h a b e c]at f;rw[<-h b a c e]at g;rcases Nat.lt_or_ge b a with o|l
  .grind [Wr,Lf]
  have:=Wr (m:=m) c (show a<b by omega) (by grind [Lf]);grind
 grind [ID,Lf,kA,J9]
theorem q0I(m:I->I->AK)(a b k:I):F1 m a b k=F1 m b a k:=kfn
theorem qlU(n:I)(m:I->I->AK)(a b:I):FB n m a b=FB n m b a:=by grind [FB,GD,q0I]
theorem qlx(b:a<n)(c:m a a=AP):FB n m a a=AP:=by grind [Wp,Wo,F1]
theorem quc(h:∀i j,i<n->j<n->m i j=m' i j)(f:∀i,i<n->m' i i=AP):JA n m=Ng n m':=by
 have e:∀a b,a<n->b<n->Kc n m a b=JY n m' a b:=λa b c d=>by grind [Kc,JY,aQ]
 grind [JY,qlU,qlx,JA,List.all_eq_false,YQ,kD]
theorem q6P{c:J}{a:A4}(cap:I)(g:K L<=maxLen)(b:G3 w a L)(h:F9 c L=AQ):Ar As 135 #[C Y c,G a (K L) cap] w λe f=>e=Ak (Af #[.agg CU,Ah AQ])/\A0 w f:=by
 by_cases d:1<=c/\c<=6/\K L<=30
 .obtain⟨n,rfl⟩:=PM (show 0<=c by omega);have i:Fv n L=AQ:=by grind [F9]
  refine Ce (aW E E d.2.2 b) ?_;grind [Ta]
 grind [nX]
theorem q4z{c:J}{a:A4}(cap:I)(b:G3 w a L)(h:F9 c L=AP):Ar As 135 #[C Y c,G a (K L) cap] w λe f=>e=Ak (Af #[.agg<|Dp c.toNat<|DY c.toNat L,Ah AP])/\A0 w f:=by unfold F9 at h;rw[Fj]at h;have d:=Dr h.1;obtain⟨n,rfl⟩:=PM (show 0<=c by omega);refine Ce (aW E E d.2.2 b) ?_;grind [aV]
def Ga(c:AI)(L:AJ<|AI×AI)(d k:AI):AI :=
 if F9 c L&&Dg c.toNat d&&Dg c.toNat k then(if ID c.toNat (DY c.toNat L)then 2 else if JA c.toNat (DY c.toNat L)then 0 else 3)else 1
def Jt(c:AI)(L:AJ<|AI×AI)(d k:AI):A3:=if Ga c L d k=0 then Dp c.toNat (DY c.toNat L)else CU
def Ju(c:AI)(L:AJ<|AI×AI)(d k:AI):Aq:=Af #[.agg<|Jt c L d k,Ab .i64<|Ga c L d k]
theorem YS{c:J}{k:J}(h:(F9 c L&&Dg c.toNat d&&Dg c.toNat k)=AQ):Ju c L d k=Af #[.agg CU,C Y 1]:=keM
theorem q8O{c:J}{k:J}(h:(F9 c L&&Dg c.toNat d&&Dg c.toNat k)=AP)(a:ID c.toNat (DY c.toNat L)=AP):Ju c L d k=Af #[.agg CU,C Y 2]:=keM
theorem q8D{c:J}{k:J}(h:(F9 c L&&Dg c.toNat d&&Dg c.toNat k)=AP)(a:ID c.toNat (DY c.toNat L)=AQ)(b:JA c.toNat (DY c.toNat L)=AQ):Ju c L d k=Af #[.agg CU,C Y 3]:=keM
theorem q85{c:J}{k:J}(h:(F9 c L&&Dg c.toNat d&&Dg c.toNat k)=AP)(a:ID c.toNat (DY c.toNat L)=AQ)(b:JA c.toNat (DY c.toNat L)=AP):Ju c L d k=Af #[.agg<|Dp c.toNat<|DY c.toNat L,C Y 0]:=keM
structure Sv(w:Ap)(N:AH)(arr A:A3)(W:Ap):Prop where
 ac:A0 w W
 h:W.heap[Au (Av w)]?=An (Aj arr 40)
 a:W.heap[Au (Av w)+1]?=An (Aj CU 123)
 a0:W.heap[N]?=An (Aj A 123)
 d:Au (Av w)+1<N
def Sv.aq{A:A3}(h:Sv w N arr A W)(hb:A0 W W'):Sv w N arr A W':=by have a:=Cd h.a0;have:=h.d;exact⟨Cs h.ac<|CG hb h.ac.size,Ca (Co hb _ E) h.h,Ca (Co hb _ E) h.a,Ca (Co hb _ a) h.a0,h.d⟩
theorem kF(w:X){A:A3}(hb:Below (O (U w)+1+1) (Az (Az w<|M arr 40)<|M CU 123) w2):Sv w (O<|U w2) arr A<|Az w2<|M A 123:=by
 have a:=hb.size;simp only[CL,A0]at a;refine⟨(Cs ((Cm).alloc Ba _)<|CG hb E).alloc E _,?_,?_,Cj _,E⟩
 .rw[CB _ _ _ E,Co hb _ E,CB _ _ _ Ba];exact Cj _
 rw[CB _ _ _ E,Co hb _ E];grind [Cj,World.size_alloc]
theorem qmf(arr:Array Value)(c:Int){L:List<|Int×Int}{ea:Option Addr}{ecap:Nat}{d k:Int}(f0:arr[0]?=some (.int .i64 c))(f1:arr[1]?=some (.slice ea L.length ecap))(f2:arr[2]?=some (.int .i64 d))(f4:arr[4]?=some (.int .i64 k))(hL:L.length<=maxLen){w:World}(hE:G3 w ea L):Calls prog 92 #[.agg arr] w λe w'=>e=.returned (Ju c L d k)/\Below w.heap.size w w':=by
 have HE2:Hid<|G3 ((w.alloc<|.cells arr 40).alloc<|.cells CU 123) ea L:=hE.ac ((Cm).alloc (by simp) _);have HL:=C9 hL;cases hnew:F9 c L
 .have HF:Hid<|Ju c L d k=.tuple #[.agg CU,.int .i64 1]:=YS (by rw[hnew];rfl);have cN:=q6P ecap HL.out HE2.out hnew;go_enter func92,ntmps92
  go_wp2_with(first
   |(refine Kz rfl rfl rfl (w.heap.size+1) ?hN ?_;case hN=>(simp only[CL,A0];done))
   |(go_at_call 135;refine Ce cN ?_;rintro e w2 ⟨rfl,hB2⟩;have HT:=C9<|kF w (w2:=w2) (arr:=arr) (A:=CU)<|by simp only[CL,A0]at hB2;exact hB2)
   |(refine Kz rfl rfl rfl w2.heap.size rfl ?_)
   |(refine Jh rfl rfl rfl ?hl OM ?_;case hl=>simp)
   |(refine D8 rfl 123 _ _ rfl w2.heap.size CU rfl rfl 123 CU (Cj w2) (DM<|Dc) rfl (Hm) ?_;rw[Ge])
   |(refine D8 rfl 123 _ _ rfl (w.heap.size+1) CU rfl rfl 123 CU HT.out.a (DM<|Dc) rfl (Hm) ?_))
  refine CS (IE results92 (g:=(w.heap.size+1)) (t:=123) (cs:=CU) (fr:=(0,0)) rfl (CR _ _ CU _ _ _ HT.out.a) underlying123 rfl (DM<|Dc) (.int .i64 1) rfl) rfl ⟨by rw[HF.out],Dq HT.out.ac<|by omega⟩
 have cN:=q4z ecap HE2.out hnew;have HNN:=C9 hnew;have hcb:1<=c/\c<=6:=by grind [F9]
 clear hnew;obtain⟨n,rfl⟩:=PM (show 0<=c by omega);have hn:n<=6:=by omega
 rw[OE]at cN;have HT:Hid (∀x,Dg ((n:Int)).toNat x=Dg n x):=λx=>by rw[OE]
 have HC:Hid<|ID ((n:Int)).toNat (DY ((n:Int)).toNat L)=ID n (DY n L):=by grind [Hid]
 have HD:Hid<|JA ((n:Int)).toNat (DY ((n:Int)).toNat L)=JA n (DY n L):=by grind
 have HA:Hid<|Dp ((n:Int)).toNat (DY ((n:Int)).toNat L)=Dp n (DY n L):=by grind
 generalize DY n L=M at *;have hW:(Dg n d=false/\Hid (Ju n L d k=.tuple #[.agg CU,.int .i64 1]))\/(Dg n d=true/\Dg n k=false/\Hid (Ju n L d k=.tuple #[.agg CU,.int .i64 1]))\/(Dg n d=true/\Dg n k=true/\ID n M=true/\Hid (Ju n L d k=.tuple #[.agg CU,.int .i64 2]))\/(Dg n d=true/\Dg n k=true/\ID n M=false/\JA n M=false/\Hid (Ju n L d k=.tuple #[.agg CU,.int .i64 3]))\/(Dg n d=true/\Dg n k=true/\ID n M=false/\JA n M=true/\Hid (Ju n L d k=.tuple #[.agg<|Dp n M,.int .i64 0])):=by
  cases hd:Dg n d
  .grind [Hid,YS]
  cases hk:Dg n k
  .grind [Hid,YS]
  grind [Hid,q8D,q85,q8O]
 clear HT HC HD HA HNN;have T1:=trivial;rcases hW with⟨hd,HF⟩|⟨hd,hk,HF⟩|⟨hd,hk,hcy,HF⟩|⟨hd,hk,hcy,hla,HF⟩|⟨hd,hk,hcy,hla,HF⟩
 all_goals
  go_enter func92,ntmps92
  go_wp2_with(first
   |(refine Kz rfl rfl rfl (w.heap.size+1) ?hN ?_;case hN=>(simp only[CL,A0];done))
   |(go_at_call 135;refine Ce cN ?_;clear cN;rintro e w2 ⟨rfl,hB2⟩;have HX:Hid<|Sv w w2.heap.size arr (Dp n M)<|w2.alloc<|.cells (Dp n M) 123:=kF w (by simp only[CL,A0]at hB2;exact hB2);have hc2:=Ca (Cc HX.out.h 2) f2)
   |(refine Kz rfl rfl rfl w2.heap.size rfl ?_)
   |(refine D8 rfl 123 _ _ rfl w2.heap.size (Dp n M) rfl rfl 123 CU (Cj w2) (DM<|Dc) (by rw[Dc];exact Dc) (Hm) ?_;rw[Ge])
   |(refine CO rfl 123 _ rfl _ rfl _ _ _ _ HX.out.a0 underlying123 rfl (DM<|Dc) ?_)
   |(refine F0 rfl rfl rfl HX.out.a0 underlying123 rfl (DM<|Dc) ?_)
   |(refine Jh rfl rfl rfl ?hl OM ?_;case hl=>simp)
   |(go_at_call 67;clear T1;refine Ce (ON (Hl n M).ad d _) ?_;rintro e w3 ⟨rfl,hB3⟩;have HX3:=HX.out.aq hB3;clear HX hc2;have HX:=C9 HX3;clear HX3 hB3;have hc2:=Ca (Cc HX.out.h 4) f4)
   |(go_at_call 67;skip;refine Ce (ON (Hl n M).ad k _) ?_;rintro e w3 ⟨rfl,hB3⟩;have HX3:=HX.out.aq hB3;clear HX hc2;have HX:=C9 HX3;clear HX3 hB3;have hc2:=Ca (Cc HX.out.h 4) f4)
   |(go_at_call 136;skip;refine Ce (nD (Hl n M) hn) ?_;rintro e w3 ⟨rfl,hB3⟩;have HX3:=HX.out.aq hB3;clear HX hc2;have HX:=C9 HX3;clear HX3 hB3;have hc2:=Ca (Cc HX.out.h 4) f4)
   |(go_at_call 137;skip;refine Ce (nO (Hl n M) hn) ?_;rintro e w3 ⟨rfl,hB3⟩;have HX3:=HX.out.aq hB3;clear HX hc2;have HX:=C9 HX3;clear HX3 hB3;have hc2:=Ca (Cc HX.out.h 4) f4)
   |(refine D8 rfl 123 _ _ rfl (w.heap.size+1) CU rfl rfl 123 CU HX.out.a (DM<|Dc) rfl (Hm) ?_)
   |(refine D8 rfl 123 _ _ rfl (w.heap.size+1) (Dp n M) rfl rfl 123 CU HX.out.a (DM<|Dc) (by rw[Dc];exact Dc) (Hm) ?_))
  first
  |refine CS (IE results92 (g:=(w.heap.size+1)) (cs:=CU) rfl (CR _ _ CU _ _ _ HX.out.a) underlying123 rfl (DM<|Dc) (.int .i64 _) rfl) rfl ⟨by rw[HF.out],Dq HX.out.ac<|by omega⟩
  |refine CS (IE results92 rfl (CR _ _ CU _ _ _ HX.out.a) underlying123 rfl (DM<|Dc) (.int .i64 0) rfl) rfl ⟨by rw[HF.out],Dq HX.out.ac<|by omega⟩
def DU(f:AI):AK:=f==1||f==2||f==3
def UO{f:J}:Ar As 48 #[C Y f] w λe a=>e=Ak (Ah<|DU f)/\a=w:=by
 go_enter func48,ntmps48;go_wp2
 all_goals go_ret
 all_goals exact⟨by simp[DU, *],rfl⟩
def UP(f:J):Ar As 45 #[C Y f] w λe a=>e=Ak (Ah<|DU f)/\a=w:=by
 go_enter func45,ntmps45;go_wp2
 all_goals go_ret
 all_goals exact⟨by simp[DU, *],rfl⟩
def EJ(i o d b:AI):AK:=DU i&&DU o&&AR (1<=d)&&AR (d<=16)&&AR (1<=b)&&AR (b<=4096)
theorem kG(i o d b:J)(w:X):Ar As 40 #[C Y i,C Y o,C Y d,C Y b] w λe f=>e=Ak (Ah<|EJ i o d b)/\f=w:=by
 cases g:DU i
 .have a:D<|EJ i o d b=AQ:=by grind [D,EJ]
  go_enter func40,ntmps40
  go_wp2_with(first
   |(go_at_call 48;skip;refine Ce (UO) ?_;rintro e c ⟨rfl,rfl⟩))
  go_ret;exact⟨by rw[AE a];rfl,rfl⟩
 cases h:DU o
 .have a:D<|EJ i o d b=AQ:=by grind [D,EJ]
  go_enter func40,ntmps40
  go_wp2_with(first
   |(go_at_call 48;refine Ce (UO) ?_;rintro e c ⟨rfl,rfl⟩))
  go_ret;exact⟨by rw[AE a];rfl,rfl⟩
 have a:D<|EJ i o d b=(AR (1<=d)&&AR (d<=16)&&AR (1<=b)&&AR (b<=4096)):=by grind [D,EJ]
 go_enter func40,ntmps40
 go_wp2_with(first
  |(go_at_call 48;refine Ce (UO) ?_;rintro e c ⟨rfl,rfl⟩))
 all_goals go_ret
 all_goals refine⟨?_,rfl⟩
 all_goals rw[AE a]
 all_goals simp[*]
 all_goals(intros;omega)
def Mg(c:CF):AK:=F9 c.a c.L&&Dg c.a.toNat c.c&&Dg c.a.toNat c.d
def CW(c:CF):AI :=
 if Mg c=AQ then 1
 else if Nf c.a.toNat (DZ c.a.toNat c.L)=AQ then 2
 else if Ng c.a.toNat (DZ c.a.toNat c.L)=AQ then 3
 else if EJ c.f c.out c.b c.bytes=AQ then 4
 else if IF c.B=AQ then 5
 else if 0<=E5 c.a.toNat c.e.data.toList then 6 else 0
def E9(c:CF):AI:=if CW c=6 then E5 c.a.toNat c.e.data.toList else 0
def qt9:br CW:=λ_ _=>rfl
def qtP:br E9:=λ_ _=>rfl
structure Nh(w:Ap)(c:CF)(W:Ap):Prop where
 ac:A0 w W
 h:W.heap[Au (Av w)]?=An (Aj c.ad 40)
def Nh.aq(h:Nh w c W)(hb:A0 W W'):Nh w c W' :=
 ⟨Cs h.ac<|CG hb h.ac.size,Ca (Co hb _<|Cd h.h) h.h⟩
def Pr(w:X)(c:CF):Nh w c<|Az w<|M c.ad 40:=⟨Cm,Cj _⟩
def Nh.cell(h:Nh w c W)(j:I):AC W ⟨O<|U w,j,Ao⟩=c.ad[j]?:=Cc h.h j
def Nh.ai(h:Nh w c W)(a:Fa w c):Fa W c:=a.ac h.ac
theorem qzn(h:Fa w c):Ar As 59 #[.agg c.ad] w λe d=>e=Ak (Ah<|F9 c.a c.L)/\A0 w d:=by
 by_cases a:1<=c.a/\c.a<=6/\K c.L<=30
 .have e:F9 c.a c.L=Fv c.a.toNat c.L:=by grind [F9]
  rw[e];have b:((c.a.toNat:I):J)=c.a:=PL E;exact yh ⟨c.size,by rw[b];rfl,rfl⟩ E E a.2.2 h.a
 have e:F9 c.a c.L=AQ:=by grind [F9]
 rw[e];exact yg Z Z (B4 h.eb) a
def Ps(h:F9 c.a c.L=AP):((c.a.toNat:I):J)=c.a/\Pq c.ad c.a.toNat c.L c.j c.h:=by unfold F9 at h;rw[Fj]at h;have b:=Dr h.1;have a:((c.a.toNat:I):J)=c.a:=PL E;exact⟨a,⟨⟨c.size,kfr,Z⟩,E,b.2.2,h.2⟩⟩
theorem kH{P:Program}{fn:Func}{p u u2:Tmp}{ty:AN}(h:fn.results=#[.cell p ty,.tmp u,.tmp u2]){tmps:A3}{w:X}{g:I}{t:AN}{cs:A3}{fr:I×I}{d:TypeDesc}(i:tmps.getD p AO=A8 g)(f:w.heap[g]?=H (M cs t fr))(j:P.underlying ty=H d)(c:(match d with|.struct _|.array _ _=>AP|_=>AQ)=AP)(hi:(P.info? ty).map (·.size)=H cs.size)(v b:Aq)(k:tmps.getD u AO=v)(l:tmps.getD u2 AO=b):(results fn tmps).run P w=.ok (Af #[.agg cs,v,b]) w:=by have e:(results fn tmps).run P w=((asAddr<|tmps.getD p AO).run P w).andThen λa m=>((loadVar ty a).run P m).andThen λv n=>.ok (Af #[v,tmps.getD u AO,tmps.getD u2 AO]) n:=Bm;subst k l;rw[e,i];simp only[asAddr,Gf,G0,Jz w g t ty cs fr d f j c hi]
def Ja(O:A3)(a:A4)(k c:AH):A3:=O.push<|Ac a k c
def EY:A3:=Ja CU Ao 0 0
def qts:prog.built 126 []=H EY:=B6
theorem qx5(n:I)(m:I->I->AK)(a:A4)(k c:I):prog.built 126 [(0,.agg<|Dp n m),(1,G a k c)]=H (Ja (Dp n m) a k c):=B6
def q2A:(prog.info? 126).map (·.size)=H 38:=B6
def qnU{ρ:Operand->Aq}(a:o.op=.alloc 126):(execOp ρ o).run As w=.ok (.value<|A8<|O<|U w) (Az w<|M EY 126):=BL
def Ni{rest:AJ Oper}{a:Act}(e:o.guard=Ao)(f:o.op=.alloc 126){d:Option Tmp}(c:o.dst=d)(N:I)(b:O (U w)=N)(h:wpList As ops Q rest (a.put d<|A8 N)<|Az w<|M EY 126):wpList As ops Q (o::rest) a w:=by subst b;exact R8 e d c _ _ (qnU f) h
def Sw{O:A3}(h:O.size=37){a:A4}{c:I}:(Ja O a k c).size=38:=by unfold Ja;simp[h]
def YT{O:A3}(h:O.all (·.oneCell')=AP){a:A4}{c:I}:(Ja O a k c).all (·.oneCell')=AP:=by unfold Ja;rw[Array.all_push,h];rfl
theorem Of:EY.size=38:=Sw<|Dc
def kI:EY.all (·.oneCell')=AP:=YT<|Hm
def KX{A:A3}(h:A.size=38):(prog.info? 126).map (·.size)=H A.size:=by rw[h];exact q2A
def He(c:CF):AI:=if¬Ga c.a c.L c.c c.d=0 then Ga c.a c.L c.c c.d else if EJ c.f c.out c.b c.bytes=AQ then 4 else if I9 c.B=AQ then 5 else Fg c.a.toNat c.e.data.toList
def KY(c:CF):AI:=if¬Ga c.a c.L c.c c.d=0 then 0 else if EJ c.f c.out c.b c.bytes=AQ then 0 else if I9 c.B=AQ then 0 else IW c.a.toNat c.e.data.toList
theorem kJ(c:CF):(F9 c.a c.L=AP->Ga c.a c.L c.c c.d=if Mg c=AQ then 1 else if Nf c.a.toNat (DZ c.a.toNat c.L)=AQ then 2 else if Ng c.a.toNat (DZ c.a.toNat c.L)=AQ then 3 else 0)/\(F9 c.a c.L=AQ->Ga c.a c.L c.c c.d=1/\Mg c=AQ):=by
 constructor
 .intro h;obtain⟨_,b⟩:=Ps h;have d:∀i j,i<c.a.toNat->j<c.a.toNat->DY c.a.toNat c.L i j=DZ c.a.toNat c.L i j:=λi j a e=>YO b.a a e;have f:=qpP d;have g:=quc d λi a=>qwj b.a a;grind [Ga,Mg]
 grind [Ga,Mg]
theorem QJ(c:CF):He c=CW c/\KY c=E9 c:=by
 have key:He c=CW c/\KY c=if CW c=6 then E5 c.a.toNat c.e.data.toList else 0:=by unfold He KY CW Fg IW;grind [oe,F9,kJ]
 exact⟨key.1,Ca key.2 Z⟩
theorem q6T(h:Ga c.a c.L c.c c.d=0):F9 c.a c.L=AP/\Jt c.a c.L c.c c.d=Dp c.a.toNat (DY c.a.toNat c.L):=by grind [kJ,Jt]
structure Pt(w:Ap)(c:CF)(W:Ap):Prop where
 ac:A0 w W
 h:W.heap[Au (Av w)]?=An (Aj c.ad 40)
 a:W.heap[Au (Av w)+1]?=An (Aj EY 126)
def Pt.aq(h:Pt w c W)(hb:A0 W W'):Pt w c W' :=
 ⟨Cs h.ac<|CG hb h.ac.size,Ca (Co hb _<|Cd h.h) h.h,Ca (Co hb _<|Cd h.a) h.a⟩
theorem q3N(w:X)(c:CF):Pt w c<|Az (Az w<|M c.ad 40)<|M EY 126:=by refine⟨(Cm).alloc Ba _,Ca (CB _ _ _ Ba)<|Cj _,?_⟩;grind [Cj,World.size_alloc]
def Pt.cell(h:Pt w c W)(j:I):AC W ⟨O<|U w,j,Ao⟩=c.ad[j]?:=Cc h.h j
theorem q8Z(h:¬Ga c.a c.L c.c c.d=0):He c=Ga c.a c.L c.c c.d/\KY c=0:=by grind [He,KY]
def DH(l:A1):AH×A1:=if l==[42]then(0,[])else if l==[42,42]then(1,[])else if l==[91,93]then(2,[])else(3,l)
def GN(s:AH×A1):AJ Aq:=[Ab .i64 s.1,Ae ⟨Aw s.2⟩]
def EZ(l:A1):AJ A1:=if l==[46]then[]else Db 47 l
def De(l:A1):AJ A1×AI×AI:=match Db 32 l with
 |[p,b,c]=>(EZ p,Lu b,F6 ⟨Aw c⟩)
 |_=>([],0,0)
def Ea(l:A1):AJ<|AJ A1×AI×AI:=if At l=0 then[]else(Db 10 l).map De
def DV(r:AJ A1×AI×AI):AJ (AH×A1)×AI×AI:=(r.1.map DH,r.2)
theorem kK(h:Dn n l=AP):Db 32 l=[(Lib.cut l [32]).1,(Lib.cut (Lib.cut l [32]).2.1 [32]).1,(Lib.cut (Lib.cut l [32]).2.1 [32]).2.1]:=by
 rw[<-jP]at h;unfold UF at h;rcases Nc 32 l with⟨f,i⟩|⟨a,r,f,_,i⟩
 .rw[f]at h;rcases Nc 32 []with⟨c,g⟩|⟨a,r,_,c,_⟩
  .simp[c,IQ]at h
  simp at c
 rw[f]at h ⊢;rw[i];rcases Nc 32 r with⟨c,g⟩|⟨b,q,c,_,g⟩
 .grind [YJ]
 rw[c]at h ⊢;rw[g];rcases Nc 32 q with⟨j,k⟩|⟨d,e,j,k,m⟩<;>grind [jO]
def YU{p b c:A1}(h:Db 32 l=[p,b,c]):De l=(EZ p,Lu b,F6 ⟨Aw c⟩):=by unfold De;rw[h]
def Fq(W:Ap)(lo:AH)(t:AN)(pa:A4)(cs:AJ Aq):Prop :=
 cs=[]\/∃b off cur fr,pa=An ⟨b,off,Ao⟩/\lo<=b/\W.heap[b]?=An (Aj cur t fr)/\∀j (h:j<At cs),cur[off+j]?=An cs[j]
def Fq.kept{cs:AJ Aq}(h:Fq W lo t pa cs)(g:∀b a fr,lo<=b->W.heap[b]?=H (M a t fr)->lo'<=b/\W'.heap[b]?=H (M a t fr)):Fq W' lo' t pa cs:=by
 rcases h with h|⟨b,off,a,fr,c,d,e,f⟩
 .exact AF h
 obtain⟨i,j⟩:=g b a fr d e;exact AG ⟨b,off,a,fr,c,i,j,f⟩
def Fq.ac{cs:AJ Aq}(h:Fq W lo t pa cs)(hb:A0 W W'):Fq W' lo t pa cs :=
 h.kept λb _ _ c a=>⟨c,Ca (Co hb b<|Cd a) a⟩
theorem kL{e:AN}(h:W.ownsRow base e size v n xs)(hl:lo<=base):∃d b,v=G d n b/\Fq W lo e d xs:=by
 obtain⟨k,⟨a,c⟩|⟨g,b,f,a,c,i,_,_,_,l⟩⟩:=h
 .subst c;exact⟨Ao,0,a,AF<|R0 E⟩
 refine⟨_,_,a,AG ⟨g,0,f,_,Z,E,i,λj m=>?_⟩⟩;grind
def Gb(W:Ap)(lo:AH)(t:AN)(xs:AJ Aq)(es:AJ<|AJ Aq×AH×AI×AI):Prop :=
 At xs=At es*3/\∀i (h:i<At es),∃pa pc,xs[i*3]?=An (Ac pa es[i].2.1 pc)/\xs[i*3+1]?=An (Ab .i64 es[i].2.2.1)/\xs[i*3+2]?=An (Ab .i64 es[i].2.2.2)/\Fq W lo t pa es[i].1
def UQ:Gb W lo t [] []:=⟨rfl,λi h=>BB⟩
def Gb.kept(h:Gb W lo t xs es)(j:∀b a fr,lo<=b->W.heap[b]?=H (M a t fr)->lo'<=b/\W'.heap[b]?=H (M a t fr)):Gb W' lo' t xs es:=by refine⟨h.1,λi g=>?_⟩;obtain⟨k,l,c,d,e,f⟩:=h.2 i g;exact⟨k,l,c,d,e,f.kept j⟩
def Gb.ac(h:Gb W lo t xs es)(hb:A0 W W'):Gb W' lo t xs es :=
 h.kept λb _ _ c a=>⟨c,Ca (Co hb b<|Cd a) a⟩
theorem Gb.push(h:Gb W lo t xs es){e:AJ Aq×I×J×J}(k:Fq W lo t pa e.1):Gb W lo t (xs++[G pa e.2.1 pc,C Y e.2.2.1,C Y e.2.2.2])<|es++[e]:=by
 have c:=h.1;refine⟨by simp[c];omega,λi a=>?_⟩;by_cases b:i<K es
 .obtain⟨m,n,d,f,g,j⟩:=h.2 i b;grind
 have l:i=K es:=by simp at a;omega
 simp_all
def kM:∀(ss:AJ<|I×A1) (j:I) (h:j<K ss),(ss.flatMap GN)[j*2]?=H (C Y ss[j].1)/\(ss.flatMap GN)[j*2+1]?=H (Ae ⟨ss[j].2.toArray⟩)
 |x::ss,0,_=>⟨rfl,rfl⟩
 |x::ss,j+1,h=>by have a:=kM ss j Bu;rw[VW,show(j+1)*2=j*2+2 by omega];exact a
def q5C(a:AJ<|I×A1):K (a.flatMap GN)=K a*2:=by
 induction a with
 |nil=>rfl
 |cons x a b =>
  rw[VW,Dj,b,FN];show 2+_=_;omega
def JZ(r:AJ (AH×A1)×AI×AI):AJ Aq×AH×AI×AI:=(r.1.flatMap GN,At r.1,r.2.1,r.2.2)
theorem q3X(h:Fq W lo t pa<|ss.flatMap GN):Ph W pa ss:=by
 refine⟨λi a=>?_⟩;have l:=q5C ss;rcases h with h|⟨b,off,e,fr,f,g,j,k⟩
 .grind
 obtain⟨c,d⟩:=kM ss i a;grind [cell_of_row]
theorem q4k(h:W.ownsRow base 249 3 v (K rs) xs)(f:Gb W lo t xs<|rs.map JZ):∃a c,v=G a (K rs) c/\J8 W a rs:=by
 obtain⟨k,⟨b,d⟩|⟨g,c,j,b,d,l,_,_,_,m⟩⟩:=h
 .exact⟨Ao,0,by rw[b,d],⟨λi e=>E⟩⟩
 refine⟨_,_,b,⟨λi e=>?_⟩⟩;obtain⟨r,s,n,o,p,q⟩:=f.2 i kf8;grind [cell_of_row,JZ,q3X]
section
attribute[local go_sem] Oper.semAt_some
structure I2(w:Ap)(pre:AJ E4)(W:Ap):Prop where
 ac:A0 w W
 d:Boxed W (Au (Av w)) 247 (Ac Ao 0 0)
 b:Boxed W (Au (Av w)+1) 4 (Ah AQ)
 c:∃ao cap xs,Boxed W (Au (Av w)+2) 247 (Ac ao (At pre) cap)/\W.ownsRow (Au (Av w)+6) 254 2 (Ac ao (At pre) cap) (At pre) xs/\Go.RowKit.Hid (xs=pre.flatMap λx=>GN (DH (CM x)))
 a:At pre<=8
 all:pre.all (λx=>GM (CM x))=AP
 size:Au (Av w)+6<=Au (Av W)
theorem I2.a0(h:I2 w pre W)(a:W.grownBy W'<|H row)(c:row=O (U w)+3\/(O (U w)+6<=row/\∃o,W.heap[row]?=H o/\o.isCells=AQ)):I2 w pre W':=by
 obtain⟨g,j,p,m,d,n⟩:=h.c;refine⟨Cs h.ac ⟨a.os,a.tape,a.output,a.size,λi u=>a.block i Bn BF⟩,h.d.kept a BF,h.b.kept a BF,⟨g,j,p,m.kept a BF,d.kept a ?_,n⟩,h.a,h.all,CE h.size a.size⟩;rcases d.2 with⟨b,_⟩|⟨s,q,r,b,t,l,_⟩
 .left;rw[b];rfl
 right;rw[b];intro e;cases e;rcases c with c|⟨_,o,f,k⟩
 .grind
 rw[l]at f;cases f;cases k
theorem I2.out{post:AJ E4}(h:I2 w pre W)(hb:8<K post\/post.all (λx=>GM<|CM x)=AQ):So w post .ret<|AB (AB W ⟨O<|U w,0,Ao⟩<|G Ao 0 0) ⟨O (U w)+1,0,Ao⟩<|Ah AQ:=by
 have a:=Tr.set (O<|U w) (O (U w)+3) W (O<|U w) (G Ao 0 0) (Cr _) E;have b:=Tr.set (O<|U w) (O (U w)+3) (AB W ⟨O<|U w,0,Ao⟩<|G Ao 0 0) (O (U w)+1) (Ah AQ) E E;refine⟨Z,Cs h.ac (a.trans b).ac,?_,?_,hb,?_⟩
 .exact(h.d.set _).kept (grownBy_setCell' _ _ _) B9
 .exact Boxed.set _<|h.b.kept (grownBy_setCell' _ _ _) B9
 simp[World.setCell];exact h.size
def I2.alloc(h:I2 w pre W)(o:Obj):I2 w pre<|Az W o:=h.a0 (L8 W o<|H<|O (U w)+3)<|AF rfl
def I2.ad(h:I2 w pre W)(hb:A0 W W'):I2 w pre W' :=
 h.a0 (row:=O (U w)+3) ⟨hb.os,hb.tape,hb.output,hb.size,λi a _=>Co hb i a⟩<|AF rfl
def q3G(a:(Az (Az (Az (Az (Az (Az w<|M #[G Ao 0 0] 247)<|M #[Ah AQ] 4)<|M #[G Ao 0 0] 247)<|M #[.string s] 9)<|M #[Ae ⟨#[47]⟩] 9)<|M #[C Y 0] 3)=W0):I2 w [] W0:=by
 subst a;refine⟨?_,?_,?_,⟨Ao,0,[],?_,Fi _ _ _ _,Z⟩,Ex _,Z,Ba⟩
 .exact(((((Cm).alloc Ba _).alloc B7 _).alloc B7 _).alloc B7 _).alloc B7 _
 .exact(((((Boxed.new w _ _).alloc _).alloc _).alloc _).alloc _).alloc _
 .have:=Boxed.new (Az w<|M #[G Ao 0 0] 247) 4<|Ah AQ;rw[CL]at this;exact(((this.alloc _).alloc _).alloc _).alloc _
 have:=Boxed.new (Az (Az w<|M #[G Ao 0 0] 247)<|M #[Ah AQ] 4) 247<|G Ao 0 0;rw[CL,CL]at this;exact((this.alloc _).alloc _).alloc _
theorem YV{x:E4}(hi:i<3)(h:(x.1.toList==Jp i)=AP):GN (DH<|CM x)=[C Y (i:I),Ae ⟨#[]⟩]:=by
 have e:CM x=Jp i:=kem;rw[e]
 match i,hi with
 |0,_=>rfl
 |1,_=>rfl
 |2,_=>rfl
theorem q5V{x:E4}(h:∀i,i<3->(x.1.toList==Jp i)=AQ):GN (DH<|CM x)=[C Y 3,.string x.1]:=by
 have e:CM x=x.1.toList:=kem;have b:=h 0 E;have c:=h 1 E;have d:=h 2 E;simp only[Jp]at b c d;have a:DH (CM x)=(3,CM x):=by grind [DH]
 rw[a];unfold GN CM;rw[Sn];rfl
def q6V(s:AT)(w:Ap)(e:Ending)(w':Ap):Prop :=
 ∃a n cap,e=Ak (Af #[Ac a n cap,Ah<|Fd s.data.toList])/\A0 w w'/\(Fd s.data.toList=AP->n=At (EZ s.data.toList)/\Fq w' (Au<|Av w) 254 a (((EZ s.data.toList).map DH).flatMap GN))
theorem q3c{hs:s.size<=2000}{xs:AJ E4}{D:I}(k:(s.toList==[46])=AQ)(h:xs.map CM=Db 47 (CM ⟨s,hs⟩))(n:W.ownsRow (O (U w)+6) 254 2 (G ao (K xs) cap) (K xs) ys)(hy:ys=xs.flatMap λx=>GN<|DH<|CM x)(r:W.heap[D]?=H (.deferred<|H []))(g:∀j,O (U w)+6<=j->V.heap[j]?=W.heap[j]?):K xs=K (EZ s.data.toList)/\Fq (V.putObj D<|.deferred Ao) (O<|U w) 254 ao (((EZ s.data.toList).map DH).flatMap GN):=by
 have o:EZ s.data.toList=xs.map CM:=by unfold EZ;rw[<-SM,k,SM];exact h.symm
 obtain⟨t,p,l,i⟩:=kL n<|Cr _;injection l with he1 _ he3;subst he1;rw[o,LO];refine⟨Z,?_⟩;rw[Mx,List.flatMap_map];have c:ys=xs.flatMap λa=>GN<|(DH∘CM) a:=hy;rw[<-c];refine i.kept λb q fr d e=>⟨E,?_⟩
 have m:b≠D:=B9;have:=grownBy_putObj' V D<|.deferred Ao;have f:=g b d;rw[this.block b B9 keA,f];exact e
theorem I2.push(x:E4)(h:I2 w pre W)(k:Boxed W (O (U w)+2) 247 v)(i:W.ownsRow (O (U w)+6) 254 2 v (K pre) xs)(c:w5.ownsRow (O (U w)+6) 254 2 v' (K pre+1) ys)(a:W.grownBy w5<|Ax v)(n:K pre<8)(m:GM (CM x)=AP)(o:D<|xs=pre.flatMap λx=>GN<|DH<|CM x)(p:ys=xs++GN (DH<|CM x)):I2 w (pre++[x]) (AB w5 ⟨O (U w)+1+1,0,Ao⟩ v')/\Tr (O<|U w) (O (U w)+3) W (AB w5 ⟨O (U w)+1+1,0,Ao⟩ v'):=by
 have key:=λg h=>DK i (g:=g) h;have d:Tr (O<|U w) (O (U w)+3) W w5:=Tr.grown i a h.size E E;have f:=Tr.set (O<|U w) (O (U w)+3) w5 (O (U w)+2) v' E E;have b:=grownBy_setCell' w5 (O (U w)+2) v';have l:=k.kept a λe=>B9;obtain⟨g,j,rfl⟩:=ownsRow_succ c;refine⟨⟨Cs h.ac (d.trans f).ac,?_,?_,⟨Aa g,j,ys,?_,?_,?hy⟩,?_,?_,?_⟩,d.trans f⟩
 case hy =>
  grind [D]
 .exact(h.d.kept a λe=>B9).kept b B9
 .exact(h.b.kept a λe=>B9).kept b B9
 .rw[Dj];exact l.set _
 .rw[Dj];refine c.kept b<|AG λe=>?_;have:=DK c e;omega
 .grind
 .rw[ST,h.all];simp[m]
 exact CE h.size (d.trans f).ac.size
def UR{x:E4}(h:I2 w pre V)(b:Tr (O<|U w) (O (U w)+3) W V)(g:Boxed V (O (U w)+2) 247 v)(e:V.ownsRow (O (U w)+6) 254 2 v (K pre) xs)(f:w5.ownsRow (O (U w)+6) 254 2 v' (K pre+1) ys)(d:V.grownBy w5<|Ax v)(l:¬(K pre:J)=8)(i:GM (CM x)=AP)(j:D<|xs=pre.flatMap λx=>GN<|DH<|CM x)(k:ys=xs++GN (DH<|CM x)):KeepsOthers W (AB w5 ⟨O (U w)+1+1,0,Ao⟩ v')/\Hc (O (U w)+3) (O (U w)+3+3) W (AB w5 ⟨O (U w)+1+1,0,Ao⟩ v')/\I2 w (pre++[x]) (AB w5 ⟨O (U w)+1+1,0,Ao⟩ v'):=by obtain⟨c,a⟩:=h.push x g e f d (AY h.a) i j k;exact⟨(b.trans a).aq,(b.trans a).a,c⟩
theorem qjC{s:ByteArray}{w:World}(hs:s.size<=2000)(bj:Ho w):Calls prog 175 #[.string s] w λe w'=>q6V s w e w':=by
 obtain⟨i0,hi,al,am,an⟩:=DL Tryz.infoSeg;cases hd:(s.toList==[46])
 .have HG:=T bj;have HD:=T hd;refine(Ky (n:=10)).1 ?_;refine callsIn_of_wp_marks func175 Z trivial ?_ Z;simp only[ntmps175,K9,FN,J2,Nat.reduceAdd,Nat.reduceSub,Mp,Mq,Ms,Mr,Ka,Kw]
  gi_wp2
  refine T7.2<|ax<|(T7 (n:=10)).1 ?_
  gi_wp2_with fail
  refine wpIn_label ?_
  gi_wp2_with fail
  refine⟨trivial,(Ky.2<|jr s ⟨#[47]⟩).mono ?_⟩;rintro e w' ⟨rfl,rfl⟩;simp only[CL,A0]
  gi_wp2
  obtain⟨W0,ak⟩:=DF<|((((((w.alloc<|.cells #[.slice none 0 0] 247).alloc<|.cells #[.bool false] 4).alloc<|.cells #[.slice none 0 0] 247).alloc<|.cells #[.string s] 9).alloc<|.cells #[.string ⟨#[47]⟩] 9).alloc<|.cells #[.int .i64 0] 3);have bv:W0.heap.size=w.heap.size+6:=by rw[<-ak];simp
  have bi:=q3G ak;have bg:=yw ak;rw[ak];refine jq Z E (gf:=195) Z trivial (enters_of func195 B6 Z)
   (st:=w.heap.size+3) E (lo:=w.heap.size+3) (hi:=w.heap.size+3+3) E (ju 9 (k:=(w.heap.size+3)) (s:=⟨s,hs⟩) bg) CT (λx=>rfl)
   (λpre W=>I2 w pre W) (λag pre W=>So w pre ag W)
   (λpre aa a7 h hg=>h.a0 hg<|.inl rfl) (λag pre aa a7 h hg=>h.a0 hg E)
   (λpre aa k ap o' h hB hk hc=>h.a0 (grownBy_putObj' aa k o')<|.inr ⟨E,ap,hk,hc⟩) (λag pre aa k ap o' h hB hk hc=>h.a0 (grownBy_putObj' aa k o') E)
   bi
   (λx=>{tmps:=#[.string s,undef,A8 w.heap.size,A8<|w.heap.size+1,A8<|w.heap.size+1+1,.string x.1,undef,undef,.string s,.bool false,.string s,.func (.func 195) #[] #[A8<|w.heap.size+1+1+1+1,A8<|w.heap.size+1+1+1,A8<|w.heap.size+1+1+1+1+1],.string x.1,undef,undef,undef,undef,undef,undef,undef,undef,undef,undef,undef,undef,undef,undef,undef,undef,undef,undef,undef,undef,undef,undef,undef,undef,undef,undef,undef,undef],defers:=[]}) ?assign ?body ?done ?stop
  case assign =>
   intro ae x W d a
   gi_wp2
   exact a
  case body =>
   intro ae pre x W m bu;have f:=T m;obtain⟨q,u,N,y,ho,bd⟩:=m.c;have bt:=m.a;have o:A6 W (w.heap.size+1+1) 0<|.slice q pre.length u:=y.cell;have c2:=m.d.cell;have f2:=m.d.frozen;have c3:=m.b.cell;have f3:=m.b.frozen;by_cases h8:(pre.length:Int)=8
   .clear m y ho bd
    gi_wp2
    exact⟨(jv w).aq,f.out.out<|.inl B9⟩
   have bs:=Nw.2 h8;obtain⟨b6,fr,l⟩:=(HG.out.ac m.ac).b;have s0:=Cc l 0;have s1:=Cc l 1;have s2:=Cc l 2;have s3:=Cc l 3;have s4:=Cc l 4;have s5:=Cc l 5
   gi_wp2
   gi_loopg[17] 4 (λbf aq wr=>∃j:Nat,Hid (j+bf=4)/\((j=0/\aq=.int .i64 0)\/(j=1/\aq=.int .i64 1)\/(j=2/\aq=.int .i64 2)\/(j=3/\aq=.int .i64 3))/\Hid (I2 w pre wr)/\Hid (Tr w.heap.size (w.heap.size+3) W wr)/\Hid (∀i,i<j->(x.1.toList==Jp i)=false))
   case atStart=>exact⟨0,rfl,.inl ⟨rfl,rfl⟩,f,Tr.refl _ _ _,λi hi=>E⟩
   case round =>
    obtain⟨j,hj,bk,f,t,ac⟩:=hrel;have b2:=λV=>yB V;have b3:=λV=>yC V;have b4:=λV=>yD V;obtain⟨af,ai,b7,a4,bm,au⟩:=f.out.c;have c:=T a4;have P:=T bm;have o:A6 wr (w.heap.size+1+1) 0<|.slice af pre.length ai:=a4.cell;have bw:=f.out.size;have br:=λap=>Ca (Iy wr _ ap<|by rw[o];rfl) o;rcases bk with⟨rfl,rfl⟩|⟨rfl,rfl⟩|⟨rfl,rfl⟩|⟨rfl,rfl⟩
    .cases b:(x.1.toList==[42])
     .have ab:Hid (∀i,i<1->(x.1.toList==Jp i)=false):=λi hi=>by
       rcases VE.1 hi with h|rfl
       .exact ac.out i h
       exact b
      gi_wp2
      gi_roundg 3
      case measure=>have:=hj.out;omega
      case rel=>exact⟨1,rfl,.inr<|.inl ⟨rfl,Bb⟩,f.out.alloc _,t.out.trans<|Tr.alloc _ _ _ _ E E,ab⟩
     gi_wp2_with(first
      |(gi_at_builtin;refine wpListIn_append_own _ Z _ _ 247 Z (w.heap.size+6) 254 i0 (.agg #[.int .i64 0,.string ByteArray.empty]) 2 24 underlying247 hi al am an Z B8 _ _ _ Z ((P.out.alloc _).alloc _) ⟨wr.heap.size+1,0,none⟩ 1 1 [.int .i64 0,.string ⟨#[]⟩] Z Z (Uz) (λx b=>BN) Bc E B7 ?_;intro v' L z v a3;obtain⟨g5,aw,rfl⟩:=ownsRow_succ z;have F:=((c.out.alloc _).alloc _).kept v λe=>ke2;have c5:A6 L (w.heap.size+1+1) 0<|.slice af pre.length ai:=F.cell;have f5:L.frozen? ⟨w.heap.size+1+1,0,none⟩=false:=F.frozen))
     exact UR ((f.out.alloc _).alloc _) ((t.out.trans<|Tr.alloc _ _ _ _ E E).trans<|Tr.alloc _ _ _ _ B7 B7) ((c.out.alloc _).alloc _) ((P.out.alloc _).alloc _) z v h8 (Yz (i:=0) b) au (by rw[YV (i:=0) E b];rfl)
    .cases b:(x.1.toList==[42,42])
     .have ab:Hid (∀i,i<2->(x.1.toList==Jp i)=false):=λi hi=>by
       rcases VE.1 hi with h|rfl
       .exact ac.out i h
       exact b
      gi_wp2
      gi_roundg 2
      case measure=>have:=hj.out;omega
      case rel=>exact⟨2,rfl,.inr<|.inr<|.inl ⟨rfl,Bb⟩,f.out.alloc _,t.out.trans<|Tr.alloc _ _ _ _ E E,ab⟩
     gi_wp2_with(first
      |(gi_at_builtin;refine wpListIn_append_own _ Z _ _ 247 Z (w.heap.size+6) 254 i0 (.agg #[.int .i64 0,.string ByteArray.empty]) 2 24 underlying247 hi al am an Z B8 _ _ _ Z ((P.out.alloc _).alloc _) ⟨wr.heap.size+1,0,none⟩ 1 1 [.int .i64 1,.string ⟨#[]⟩] Z Z (Uz) (λx b=>BN) Bc E B7 ?_;intro v' L z v a3;obtain⟨g5,aw,rfl⟩:=ownsRow_succ z;have F:=((c.out.alloc _).alloc _).kept v λe=>ke2;have c5:A6 L (w.heap.size+1+1) 0<|.slice af pre.length ai:=F.cell;have f5:L.frozen? ⟨w.heap.size+1+1,0,none⟩=false:=F.frozen))
     exact UR ((f.out.alloc _).alloc _) ((t.out.trans<|Tr.alloc _ _ _ _ E E).trans<|Tr.alloc _ _ _ _ B7 B7) ((c.out.alloc _).alloc _) ((P.out.alloc _).alloc _) z v h8 (Yz (i:=1) b) au (by rw[YV (i:=1) E b];rfl)
    .cases b:(x.1.toList==[91,93])
     .have ab:Hid (∀i,i<3->(x.1.toList==Jp i)=false):=λi hi=>by
       rcases VE.1 hi with h|rfl
       .exact ac.out i h
       exact b
      gi_wp2
      gi_roundg 1
      case measure=>have:=hj.out;omega
      case rel=>exact⟨3,rfl,.inr<|.inr<|.inr ⟨rfl,Bb⟩,f.out.alloc _,t.out.trans<|Tr.alloc _ _ _ _ E E,ab⟩
     gi_wp2_with(first
      |(gi_at_builtin;refine wpListIn_append_own _ Z _ _ 247 Z (w.heap.size+6) 254 i0 (.agg #[.int .i64 0,.string ByteArray.empty]) 2 24 underlying247 hi al am an Z B8 _ _ _ Z ((P.out.alloc _).alloc _) ⟨wr.heap.size+1,0,none⟩ 1 1 [.int .i64 2,.string ⟨#[]⟩] Z Z (Uz) (λx b=>BN) Bc E B7 ?_;intro v' L z v a3;obtain⟨g5,aw,rfl⟩:=ownsRow_succ z;have F:=((c.out.alloc _).alloc _).kept v λe=>ke2;have c5:A6 L (w.heap.size+1+1) 0<|.slice af pre.length ai:=F.cell;have f5:L.frozen? ⟨w.heap.size+1+1,0,none⟩=false:=F.frozen))
     exact UR ((f.out.alloc _).alloc _) ((t.out.trans<|Tr.alloc _ _ _ _ E E).trans<|Tr.alloc _ _ _ _ B7 B7) ((c.out.alloc _).alloc _) ((P.out.alloc _).alloc _) z v h8 (Yz (i:=2) b) au (by rw[YV (i:=2) E b];rfl)
    have cL:=wT x.2<|HG.out.ac f.out.ac
    gi_wp2_with fail
    refine⟨trivial,((Ky.2 cL).inRound ae).mono ?_⟩;rintro e R ⟨rfl,hB⟩;simp only[];have r:=T<|f.out.ad hB;have a2:=T<|t.out.trans<|Tr.ad hB E E;have bx:=r.out.size;obtain⟨g,B,bo,a5,bn,bc⟩:=r.out.c;have a9:=T a5;have a0:=T bn;have o:A6 R (w.heap.size+1+1) 0<|.slice g pre.length B:=a5.cell;have c2:=r.out.d.cell;have f2:=r.out.d.frozen;have c3:=r.out.b.cell;have f3:=r.out.b.frozen;have a6:=yy ac.out;have a8:=T<|q5V ac.out;cases bl:G9 x.1.data.toList
    .have HX:Hid<|(pre++[x]).all (λx=>GM<|CM x)=false:=B9
     gi_wp2
     exact⟨(a2.out.trans<|jv w).aq,r.out.out<|.inr HX.out⟩
    rw[bl]at a6;have ba:=T a6
    gi_wp2_with fail
    refine wpIn_region_any B6 ?_;have HC:=T λV=>yp x.1 V<|AY x.2;have ay:w.heap.size+1+1<R.heap.size:=E;have av:(World.drew R).cell? ⟨w.heap.size+1+1,0,none⟩=some (.slice g pre.length B):=o;change wpAnyIn _ _ _ _ _ _ _ _ _ (World.drew R);refine yE #[true,true,true,true,true,false,false] 2 (λV=>[(34,.slice g pre.length B),(35,.string x.1),(36,.string x.1),(37,.agg #[.int .i64 3,.string x.1]),(38,.slice (Aa V.heap.size) 1 1)]) (λV=>Below (World.drew R).heap.size (World.drew R) V) (λV=>V.alloc<|.cells #[.int .i64 3,.string x.1] 254) (λad=>?reg) ?tail
    case tail =>
     intro V bh;have aj:Below R.heap.size R V:=(Cs ((Cu _ R).drew) bh)
     have az:=T<|r.out.ad aj;have bb:=T<|a2.out.trans<|Tr.ad aj E E;have bz:=az.out.size;have a1:Hid<|Boxed V (w.heap.size+2) 247<|.slice g pre.length B:=Ca (Co aj _ E) a9.out;have ar:Hid<|V.ownsRow (w.heap.size+6) 254 2 (.slice g pre.length B) pre.length bo:=by
      refine⟨a0.out.1,?_⟩;rcases a0.out.2 with h0|⟨g',cp,be,h0,h1,hh,h2⟩
      .exact .inl h0
      exact .inr ⟨g',cp,be,h0,h1,Ca (Co aj g'<|Cd hh) hh,h2⟩
     simp only[List.foldl];refine wpAnyIn_ready (rs:=[5]) B6 Ba ?_;refine AllReadyIn.cons Z (λd a=>?_) AllReadyIn.nil;rw[Cp keJ];refine yG Z underlying247 hi al am an Z B8 Z (ar.out.alloc _) 1 1 Z Z (EU) (λx b=>BN) Bc E B7 ?_;intro v' L z v;obtain⟨g5,aw,rfl⟩:=ownsRow_succ z;have F:=(a1.out.alloc _).kept v λe=>AY<|DK ar.out e.symm;have c5:A6 L (w.heap.size+1+1) 0<|.slice g pre.length B:=F.cell;have f5:L.frozen? ⟨w.heap.size+1+1,0,none⟩=false:=F.frozen;refine a _ _ ?_;refine wpAnyIn_ready (rs:=[6]) B6 Ba ?_;refine AllReadyIn.cons Z (λd a=>?_) AllReadyIn.nil;go_simp;refine a _ _ ?_;refine wpAnyIn_done B6 ?_ _
     gi_wp2
     exact UR (az.out.alloc _) (bb.out.trans<|Tr.alloc _ _ _ _ E E) (a1.out.alloc _) (ar.out.alloc _) z v h8 ba.out bc (by rw[a8.out])
    case reg =>
     refine wpAnyIn_ready (rs:=[0,1]) B6 Ba ?_;refine AllReadyIn.cons Z (λd a=>?_)<|AllReadyIn.cons Z (λd a=>?_) AllReadyIn.nil
     .go_simp;refine a _ _ ?_;refine wpAnyIn_ready (rs:=[1]) B6 Ba ?_;refine AllReadyIn.cons Z (λd a=>?_) AllReadyIn.nil;go_simp;refine a _ _ ?_;refine wpAnyIn_ready (rs:=[2]) B6 Ba ?_;refine AllReadyIn.cons Z (λd a=>?_) AllReadyIn.nil;go_simp;refine⟨trivial,((Ky.2<|HC.out _).inRound ae).mono ?_⟩;rintro e w3 ⟨rfl,Q⟩;simp only[];have ah:=Ca (Q.cell (p:=⟨w.heap.size+1+1,0,none⟩) ay) av;refine a _ _ ?_;refine wpAnyIn_ready (rs:=[3]) B6 Ba ?_;refine AllReadyIn.cons Z (λd a=>?_) AllReadyIn.nil;go_simp;refine a _ _ ?_;refine wpAnyIn_ready (rs:=[4]) B6 Ba ?_;refine AllReadyIn.cons Z (λd a=>?_) AllReadyIn.nil;go_simp;refine a _ _ ?_;exact ad _ Q
     go_simp;refine a _ _ ?_;refine wpAnyIn_ready (rs:=[0,2]) B6 Ba ?_;refine AllReadyIn.cons Z (λd a=>?_)<|AllReadyIn.cons Z (λd a=>?_) AllReadyIn.nil
     .go_simp;refine a _ _ ?_;refine wpAnyIn_ready (rs:=[2]) B6 Ba ?_;refine AllReadyIn.cons Z (λd a=>?_) AllReadyIn.nil;go_simp;refine⟨trivial,((Ky.2<|HC.out _).inRound ae).mono ?_⟩;rintro e w3 ⟨rfl,Q⟩;simp only[];have ah:=Ca (Q.cell (p:=⟨w.heap.size+1+1,0,none⟩) ay) av;refine a _ _ ?_;refine wpAnyIn_ready (rs:=[3]) B6 Ba ?_;refine AllReadyIn.cons Z (λd a=>?_) AllReadyIn.nil;go_simp;refine a _ _ ?_;refine wpAnyIn_ready (rs:=[4]) B6 Ba ?_;refine AllReadyIn.cons Z (λd a=>?_) AllReadyIn.nil;go_simp;refine a _ _ ?_;exact ad _ Q
     go_simp;refine⟨trivial,((Ky.2<|HC.out _).inRound ae).mono ?_⟩;rintro e w3 ⟨rfl,Q⟩;simp only[];have ah:=Ca (Q.cell (p:=⟨w.heap.size+1+1,0,none⟩) ay) av;refine a _ _ ?_;refine wpAnyIn_ready (rs:=[0,3]) B6 Ba ?_;refine AllReadyIn.cons Z (λd a=>?_)<|AllReadyIn.cons Z (λd a=>?_) AllReadyIn.nil
     .go_simp;refine a _ _ ?_;refine wpAnyIn_ready (rs:=[3]) B6 Ba ?_;refine AllReadyIn.cons Z (λd a=>?_) AllReadyIn.nil;go_simp;refine a _ _ ?_;refine wpAnyIn_ready (rs:=[4]) B6 Ba ?_;refine AllReadyIn.cons Z (λd a=>?_) AllReadyIn.nil;go_simp;refine a _ _ ?_;exact ad _ Q
     go_simp;refine a _ _ ?_;refine wpAnyIn_ready (rs:=[0,4]) B6 Ba ?_;refine AllReadyIn.cons Z (λd a=>?_)<|AllReadyIn.cons Z (λd a=>?_) AllReadyIn.nil
     .go_simp;refine a _ _ ?_;refine wpAnyIn_ready (rs:=[4]) B6 Ba ?_;refine AllReadyIn.cons Z (λd a=>?_) AllReadyIn.nil;go_simp;refine a _ _ ?_;exact ad _ Q
     go_simp;refine a _ _ ?_;refine wpAnyIn_ready (rs:=[0]) B6 Ba ?_;refine AllReadyIn.cons Z (λd a=>?_) AllReadyIn.nil;have bq:(w3.alloc<|.cells #[.int .i64 3,.string x.1] 254).cell? ⟨w.heap.size+1+1,0,none⟩=some (.slice g pre.length B):=Ca (Iy w3 _ _<|by rw[ah];rfl) ah;go_simp;refine a _ _ ?_;exact ad _ Q
  case done =>
   intro S N W hD hS m a;obtain⟨q,u,ys,y,ho,bp⟩:=m.c;have P:=T ho;have f:=T m;have HS:=T hS;have HK:=T a;have o:A6 W (w.heap.size+1+1) 0<|.slice q N.length u:=y.cell;have c2:=m.d.cell;have f2:=m.d.frozen;have c3:=m.b.cell;have f3:=m.b.frozen
   gi_wp2
   refine MG ?_;have A:=yz HD.out HS.out f.out.a f.out.all;have t1:=Tr.set w.heap.size (w.heap.size+3) W w.heap.size (.slice q N.length u) (Cr _) E;have t2:=Tr.set w.heap.size (w.heap.size+3) (W.setCell ⟨w.heap.size,0,none⟩<|.slice q N.length u) (w.heap.size+1) (.bool true) E E;have b0:Boxed ((W.setCell ⟨w.heap.size,0,none⟩<|.slice q N.length u).setCell ⟨w.heap.size+1,0,none⟩<|.bool true) w.heap.size 247<|.slice q N.length u:=(f.out.d.set _).kept (grownBy_setCell' _ _ _) B9;have b1:Boxed ((W.setCell ⟨w.heap.size,0,none⟩<|.slice q N.length u).setCell ⟨w.heap.size+1,0,none⟩<|.bool true) (w.heap.size+1) 4<|.bool true:=Boxed.set _<|f.out.b.kept (grownBy_setCell' _ _ _) B9;have hb:=Cs f.out.ac (t1.trans t2).ac;have a:=(t1.trans t2).aq.same S _ HK.out Z;have HC:Hid (∀j,w.heap.size+6<=j->((W.setCell ⟨w.heap.size,0,none⟩<|.slice q N.length u).setCell ⟨w.heap.size+1,0,none⟩<|.bool true).heap[j]?=W.heap[j]?):=λj hj=>Ca (GB _ _ _ _ B7)<|GB _ _ _ _ B7;generalize(W.setCell ⟨w.heap.size,0,none⟩<|.slice q N.length u).setCell ⟨w.heap.size+1,0,none⟩ (.bool true)=V at *;refine⟨Ba,.inl ⟨S,_,Z,run_takeDeferred a,?_⟩⟩;have e0:=(b0.kept (grownBy_putObj' V S<|.deferred none) B9).cell;have e1:=(b1.kept (grownBy_putObj' V S<|.deferred none) B9).cell;refine⟨.tuple #[.slice q N.length u,.bool true],?_,⟨q,N.length,u,by rw[A],Qw hb E,λ_=>?_⟩⟩
   .simp[results,f175,go_sem,e0,e1]
   grind [Hid,q3c]
  case stop =>
   intro S ag pre W hD hS hX a;obtain rfl:=hX.ret
   gi_wp2
   refine MG ?_;have A:Fd s.data.toList=false:=by obtain⟨b5,hr⟩:=hS;exact yA HD.out hr hX.a
   refine⟨Ba,.inl ⟨S,_,Z,run_takeDeferred a,?_⟩⟩;have e0:=(hX.d.kept (grownBy_putObj' W S<|.deferred none) B9).cell;have e1:=(hX.b.kept (grownBy_putObj' W S<|.deferred none) B9).cell;refine⟨.tuple #[.slice none 0 0,.bool false],?_,⟨none,0,0,by rw[A],Qw hX.ac E,λe=>by rw[A]at e;cases e⟩⟩;simp[results,f175,go_sem,e0,e1]
 have A:Fd s.data.toList=true:=by grind [Fd,Lib.toList_data]
 have HY:=T A;refine(Ky (n:=10)).1 ?_;refine callsIn_of_wp_marks func175 Z trivial ?_ Z;simp only[ntmps175,K9,FN,J2,Nat.reduceAdd,Nat.reduceSub,Mp,Mq,Ms,Mr,Ka,Kw]
 gi_wp2
 refine T7.2<|ax<|(T7 (n:=10)).1 ?_
 gi_wp2
 repeat(first|refine Ui ?_|refine MG ?_)
 have e0:((w.alloc<|.cells #[.slice none 0 0] 247).alloc<|.cells #[.bool true] 4).cell? ⟨w.heap.size,0,none⟩=some (.slice none 0 0):=((Boxed.new w 247<|.slice none 0 0).alloc _).cell;have e1:((w.alloc<|.cells #[.slice none 0 0] 247).alloc<|.cells #[.bool true] 4).cell? ⟨w.heap.size+1,0,none⟩=some (.bool true):=Bv;refine⟨.tuple #[.slice none 0 0,.bool true],?_,⟨none,0,0,by rw[HY.out],?_,λ_=>?_⟩⟩
 .simp[results,f175,go_sem,e0,e1]
 .exact(Cm).alloc Ba _
 have y:EZ s.data.toList=[]:=ke8;rw[y];exact⟨Z,.inl Z⟩
end
def q6z(n:AH)(s:AT)(w:Ap)(e:Ending)(w':Ap):Prop :=
 ∃a m cap x y,e=Ak (Af #[.agg<|Fp a m cap x y,Ah<|Dn n s.data.toList])/\A0 w w'/\(Dn n s.data.toList=AP->m=(De s.data.toList).1.length/\x=(De s.data.toList).2.1/\y=(De s.data.toList).2.2/\Fq w' (Au<|Av w) 254 a (((De s.data.toList).1.map DH).flatMap GN))
theorem qnS(n:I)(hs:s.size<=2000)(hg:Ho w):Ar As 139 #[.string s,C Y n] w λe w'=>q6z n s w e w':=by
 have j:D ((prog.info? 249).map (·.size)=H E3.size):=Ss;have o:=T hg;obtain⟨i,r0,b0,A,B,ag,ah,W⟩:=jZ hs;obtain⟨d,f,b1,F,L,al,am,aa⟩:=jZ ah;have hv:Dn n s.data.toList=(Fd i.data.toList&&(IQ d.data.toList n&&F6 f != 0)):=by rw[<-jP];unfold UF;rw[<-A,<-B,<-F,<-L,Sn]
 have HV:=T hv;have V:D<|Dn n s.data.toList=AP->De s.data.toList=(EZ i.data.toList,Lu d.data.toList,F6 f):=by intro hb;have Q:=kK hb;rw[<-A,<-B,<-F,<-L]at Q;have:=YU Q;omega
 have y:=T<|q4Q w;have b:=W _<|o.ac y.ac;go_enter func139,ntmps139
 go_wp2_with(fail)
 refine Ce b ?_;rintro e w2 ⟨rfl,ac⟩;have z:=T<|y.aq ac;have ab:=aa _<|o.ac z.ac
 go_wp2_with(fail)
 refine Ce ab ?_;rintro e w3 ⟨rfl,ad⟩;have p:=T<|z.aq ad;have cP:=qjC ag<|o.ac p.ac
 go_wp2_with(fail)
 refine Ce cP ?_;rintro e w4 ⟨q,r,R,rfl,ae,af⟩;have S:=T af;have x:=T<|Cd p.a;have a:=T<|p.aq ae;cases N:Fd i.data.toList
 .have c:D<|Dn n s.data.toList=AQ:=B9
  go_wp2_with(first
   |(go_at_call 176;refine Ce (Xs d n _) ?_;rintro e u ⟨rfl,rfl⟩)
   |(go_at_call 177;refine Ce (Xq f _) ?_;rintro e v ⟨rfl,rfl⟩)
   |(refine D8 Z 249 _ _ Z (O<|U w) E3 Z Z 249 E3 a.a j Z Uv ?_))
  refine CS (IE results139 (g:=O<|U w) (t:=249) (cs:=E3) Z (CR _ _ E3 _ _ _ a.a) underlying249 Z Ss (Ah AQ) Z) Z ⟨Ao,0,0,0,0,by rw[AE c];rfl,Dq a.ac E,λe=>B9⟩
 cases P:IQ d.data.toList n
 .have c:D<|Dn n s.data.toList=AQ:=B9;have h:=λw=>Xs d n w;rw[P]at h
  go_wp2_with(first
   |(go_at_call 176;refine Ce (h _) ?_;rintro e u ⟨rfl,rfl⟩)
   |(go_at_call 177;refine Ce (Xq f _) ?_;rintro e v ⟨rfl,rfl⟩)
   |(refine D8 Z 249 _ _ Z (O<|U w) E3 Z Z 249 E3 a.a j Z Uv ?_))
  refine CS (IE results139 (g:=O<|U w) (t:=249) (cs:=E3) Z (CR _ _ E3 _ _ _ a.a) underlying249 Z Ss (Ah AQ) Z) Z ⟨Ao,0,0,0,0,by rw[AE c];rfl,Dq a.ac E,λe=>B9⟩
 have h:=λw=>Xs d n w;rw[P]at h;have k:=λw=>Xq f w;cases l:(F6 f != 0)
 .have c:D<|Dn n s.data.toList=AQ:=B9;rw[l]at k
  go_wp2_with(first
   |(go_at_call 176;refine Ce (h _) ?_;rintro e u ⟨rfl,rfl⟩)
   |(go_at_call 177;refine Ce (k _) ?_;rintro e v ⟨rfl,rfl⟩)
   |(refine D8 Z 249 _ _ Z (O<|U w) E3 Z Z 249 E3 a.a j Z Uv ?_))
  refine CS (IE results139 (g:=O<|U w) (t:=249) (cs:=E3) Z (CR _ _ E3 _ _ _ a.a) underlying249 Z Ss (Ah AQ) Z) Z ⟨Ao,0,0,0,0,by rw[AE c];rfl,Dq a.ac E,λe=>B9⟩
 have c:D<|Dn n s.data.toList=AP:=B9;rw[l]at k;have m:D<|De s.data.toList=(EZ i.data.toList,Lu d.data.toList,F6 f)/\r=K (EZ i.data.toList)/\Fq w4 (O<|U w3) 254 q (((EZ i.data.toList).map DH).flatMap GN):=⟨V c,S N⟩
 generalize Lu d.data.toList=li at *;generalize F6 f=ai at *
 go_wp2_with(first
  |(go_at_call 176;refine Ce (h _) ?_;rintro e u ⟨rfl,rfl⟩)
  |(go_at_call 177;refine Ce (k _) ?_;rintro e v ⟨rfl,rfl⟩)
  |(refine D8 Z 249 _ _ Z (O<|U w) (Fp q r R li ai) Z Z 249 E3 a.a j Z (Pn) ?_))
 refine CS (IE results139 (g:=O<|U w) (t:=249) (cs:=(Fp q r R li ai)) Z (CR _ _ E3 _ _ _ a.a) underlying249 Z Ss (Ah AP) Z) Z ⟨_,_,_,_,_,by rw[AE c],Dq a.ac E,λ_=>?_⟩;rw[m.1];exact⟨m.2.1,Z,Z,m.2.2.kept λaj ak fr N l=>⟨AY<|AE x,sx (AY<|AE x) l⟩⟩
section
attribute[local go_sem] Oper.semAt_some
structure I3(w:Ap)(n:AH)(pre:AJ E4)(W:Ap):Prop where
 ac:A0 w W
 g:Boxed W (Au (Av w)) 3 (Ab .i64 n)
 d:Boxed W (Au (Av w)+1) 124 (Ac Ao 0 0)
 b:Boxed W (Au (Av w)+2) 54 (Ab .i64 0)
 c:Boxed W (Au (Av w)+3) 3 (Ab .i64 0)
 f:∃ao cap xs,Boxed W (Au (Av w)+4) 124 (Ac ao (At pre) cap)/\W.ownsRow (Au (Av w)+8) 249 3 (Ac ao (At pre) cap) (At pre) xs/\Go.RowKit.Hid (Gb W (Au (Av w)+8) 254 xs (pre.map λx=>JZ (DV (De (CM x)))))
 a:At pre<=16
 all:(pre.map CM).all (Dn n)=AP
 size:Au (Av w)+8<=Au (Av W)
theorem I3.a0(h:I3 w n pre W)(a:W.grownBy W'<|H row)(d:row=O (U w)+5\/(O (U w)+8<=row/\∃o,W.heap[row]?=H o/\o.isCells=AQ)):I3 w n pre W':=by
 obtain⟨l,m,u,s,k,t⟩:=h.f;refine⟨Cs h.ac ⟨a.os,a.tape,a.output,a.size,λi z=>a.block i Bn B9⟩,h.g.kept a B9,h.d.kept a B9,h.b.kept a B9,h.c.kept a B9,⟨l,m,u,s.kept a B9,k.kept a ?_,?hx⟩,h.a,h.all,CE h.size a.size⟩
 case hx =>
  refine t.out.kept λb p fr q g=>⟨q,Ca (a.block b (Cd g) ?_) g⟩
  intro e;injection e with e;subst e;rcases d with d|⟨_,o,c,j⟩
  .omega
  rw[g]at c;cases c;cases j
 rcases k.2 with⟨f,_⟩|⟨x,v,p,f,y,r,_⟩
 .left;rw[f];rfl
 right;rw[f];intro e;cases e;rcases d with d|⟨_,o,c,j⟩
 .grind
 rw[r]at c;cases c;cases j
theorem I3.out(x:E4)(h:I3 w n pre W)(hx:¬(Dn n (CM x)=AP/\K pre<16)):Su w n (pre++[x]) .ret (AB (AB (AB W ⟨O (U w)+1,0,Ao⟩<|G Ao 0 0) ⟨O (U w)+1+1,0,Ao⟩<|C Y 6) ⟨O (U w)+1+1+1,0,Ao⟩<|C Y (K pre:I)) /\
  Tr (O<|U w) (O (U w)+5) W (AB (AB (AB W ⟨O (U w)+1,0,Ao⟩<|G Ao 0 0) ⟨O (U w)+1+1,0,Ao⟩<|C Y 6) ⟨O (U w)+1+1+1,0,Ao⟩<|C Y (K pre:I)):=by
 have d:=Tr.set (O<|U w) (O (U w)+5) W (O (U w)+1) (G Ao 0 0) E E;have e:=Tr.set (O<|U w) (O (U w)+5) (AB W ⟨O (U w)+1,0,Ao⟩<|G Ao 0 0) (O (U w)+1+1) (C Y 6) E E;have f:=Tr.set (O<|U w) (O (U w)+5) (AB (AB W ⟨O (U w)+1,0,Ao⟩<|G Ao 0 0) ⟨O (U w)+1+1,0,Ao⟩<|C Y 6) (O (U w)+1+1+1) (C Y (K pre:I)) E E;have a:=grownBy_setCell' W (O (U w)+1)<|G Ao 0 0;have b:=grownBy_setCell' (AB W ⟨O (U w)+1,0,Ao⟩<|G Ao 0 0) (O (U w)+1+1)<|C Y 6;have c:=grownBy_setCell' (AB (AB W ⟨O (U w)+1,0,Ao⟩<|G Ao 0 0) ⟨O (U w)+1+1,0,Ao⟩<|C Y 6) (O (U w)+1+1+1)<|C Y (K pre:I);refine⟨⟨Z,Cs h.ac ((d.trans e).trans f).ac,?_,?_,⟨pre,x,Z,?_,h.all,h.a,hx⟩,?_⟩,(d.trans e).trans f⟩
 .exact((h.d.set _).kept b B9).kept c B9
 .exact(Boxed.set _<|h.b.kept a B9).kept c B9
 .exact Boxed.set _<|(h.c.kept a B9).kept b B9
 simp[World.setCell];exact h.size
def I3.alloc(h:I3 w n pre W)(o:Obj):I3 w n pre<|Az W o:=h.a0 (L8 W o<|H<|O (U w)+5)<|AF rfl
def I3.ad(h:I3 w n pre W)(hb:A0 W W'):I3 w n pre W' :=
 h.a0 (row:=O (U w)+5) ⟨hb.os,hb.tape,hb.output,hb.size,λi a _=>Co hb i a⟩<|AF rfl
theorem q5W{x:E4}(h:I3 w n pre V)(o:Tr (O<|U w) (O (U w)+5) W V)(z:Boxed V (O (U w)+4) 124 v)(j:V.ownsRow (O (U w)+8) 249 3 v (K pre) xs)(k:w5.ownsRow (O (U w)+8) 249 3 v' (K pre+1) ys)(a:V.grownBy w5<|Ax v)(R:¬(K pre:J)=16)(B:Dn n (CM x)=AP)(F:D<|Gb V (O (U w)+8) 254 xs<|pre.map λx=>JZ<|DV<|De<|CM x)(y:Fq V (O (U w)+8) 254 pa<|((De<|CM x).1.map DH).flatMap GN)(L:ys=xs++[G pa (De<|CM x).1.length pc,C Y (De<|CM x).2.1,C Y (De<|CM x).2.2]):KeepsOthers W (AB w5 ⟨O (U w)+1+1+1+1,0,Ao⟩ v')/\Hc (O (U w)+5) (O (U w)+5+3) W (AB w5 ⟨O (U w)+1+1+1+1,0,Ao⟩ v')/\I3 w n (pre++[x]) (AB w5 ⟨O (U w)+1+1+1+1,0,Ao⟩ v'):=by
 have key:=λg h=>DK j (g:=g) h;have d:Tr (O<|U w) (O (U w)+5) V w5:=Tr.grown j a h.size E E;have f:=Tr.set (O<|U w) (O (U w)+5) w5 (O (U w)+4) v' E E;have c:=grownBy_setCell' w5 (O (U w)+4) v';have A:=z.kept a λe=>B9;obtain⟨g,p,rfl⟩:=ownsRow_succ k;refine⟨(o.trans<|d.trans f).aq,(o.trans<|d.trans f).a,⟨Cs h.ac (d.trans f).ac,?_,?_,?_,?_,⟨Aa g,p,ys,?_,?_,?hy⟩,?_,?_,?_⟩⟩
 case hy =>
  have r:(pre++[x]).map (λx=>JZ<|DV<|De<|CM x)=(pre.map λx=>JZ<|DV<|De<|CM x)++[JZ<|DV<|De<|CM x]:=B9;show Gb _ _ _ _ _;rw[L,r];have l:=Gb.push (pa:=pa) (pc:=pc) F.out (e:=JZ<|DV<|De<|CM x) y;have s:(JZ<|DV<|De<|CM x).2.1=(De<|CM x).1.length:=LO _;rw[s]at l;refine l.kept λb q fr t m=>⟨t,?_⟩
  have u:=Cd m;have k1:w5.heap[b]?=H (M q 254 fr):=by
   refine Ca (a.block b u λe=>?_) m;rcases j.2 with⟨i,_⟩|⟨Q,N,P,i,S,hh,_⟩
   .rw[i]at e;cases e
   rw[i]at e;injection e with e;grind
  grind [Below.heap_setCell]
 .exact(h.g.kept a λe=>B9).kept c B9
 .exact(h.d.kept a λe=>B9).kept c B9
 .exact(h.b.kept a λe=>B9).kept c B9
 .exact(h.c.kept a λe=>B9).kept c B9
 .rw[Dj];exact A.set _
 .rw[Dj];refine k.kept c<|AG λe=>?_;have:=DK k e;omega
 .have:=h.a;grind
 .rw[Kb,ST,h.all];simp[B]
 exact CE h.size (d.trans f).ac.size
theorem I3.drew(h:I3 w n pre W):I3 w n pre W.drew:=h.ad (Cu _ _).drew
def q4e(a:(Az (Az (Az (Az (Az (Az (Az (Az w<|M #[C Y n] 3)<|M #[G Ao 0 0] 124)<|M #[C Y 0] 54)<|M #[C Y 0] 3)<|M #[G Ao 0 0] 124)<|M #[.string s] 9)<|M #[Ae ⟨#[10]⟩] 9)<|M #[C Y 0] 3)=W0):I3 w n [] W0:=by
 subst a;refine⟨?_,?_,?_,?_,?_,⟨Ao,0,[],?_,Fi _ _ _ _,UQ⟩,Ex _,Z,Ba⟩
 .exact(((((((Cm).alloc Ba _).alloc B7 _).alloc B7 _).alloc B7 _).alloc B7 _).alloc B7 _).alloc B7 _
 .exact(((((((Boxed.new w _ _).alloc _).alloc _).alloc _).alloc _).alloc _).alloc _).alloc _
 .have:=Boxed.new (Az w<|M #[C Y n] 3) 124<|G Ao 0 0;rw[CL]at this;exact(((((this.alloc _).alloc _).alloc _).alloc _).alloc _).alloc _
 .have:=Boxed.new (Az (Az w<|M #[C Y n] 3)<|M #[G Ao 0 0] 124) 54<|C Y 0;rw[CL,CL]at this;exact((((this.alloc _).alloc _).alloc _).alloc _).alloc _
 .have:=Boxed.new (Az (Az (Az w<|M #[C Y n] 3)<|M #[G Ao 0 0] 124)<|M #[C Y 0] 54) 3<|C Y 0;rw[CL,CL,CL]at this;exact(((this.alloc _).alloc _).alloc _).alloc _
 have:=Boxed.new (Az (Az (Az (Az w<|M #[C Y n] 3)<|M #[G Ao 0 0] 124)<|M #[C Y 0] 54)<|M #[C Y 0] 3) 124<|G Ao 0 0;rw[CL,CL,CL,CL]at this;exact((this.alloc _).alloc _).alloc _
def KZ(W:Ap)(lo:AH)(v:Aq)(rs:AJ<|AJ (AH×A1)×AI×AI):Prop:=∃xs,W.ownsRow lo 249 3 v (At rs) xs/\Gb W lo 254 xs (rs.map JZ)
def KZ.kept(h:KZ W lo v rs)(i:∀b,lo<=b->b<O (U W)->W'.heap[b]?=W.heap[b]?):KZ W' lo v rs:=by
 obtain⟨m,a,d⟩:=h;refine⟨m,⟨a.1,?_⟩,d.kept λb e fr j k=>⟨j,Ca (i b j<|Cd k) k⟩⟩;rcases a.2 with c|⟨f,l,e,c,a,g,d⟩
 .exact AF c
 exact AG ⟨f,l,e,c,a,Ca (i f a<|Cd g) g,d⟩
def KZ.ac(h:KZ W lo v rs):∃a b,v=G a (K rs) b/\J8 W a rs:=by obtain⟨e,c,d⟩:=h;exact q4k c d
theorem kN{e:AN}(h:W.ownsRow base e size v n xs)(hl:lo<=base):W.ownsRow lo e size v n xs:=by
 refine⟨h.1,?_⟩;rcases h.2 with a|⟨d,b,c,a,i,g,f⟩
 .exact AF a
 exact AG ⟨d,b,c,a,E,g,f⟩
def q6I(n:AH)(s:AT)(w:Ap)(e:Ending)(w':Ap):Prop :=
 ∃a m cap,e=Ak (Af #[Ac a m cap,Ab .i64<|Fg n s.data.toList,Ab .i64<|IW n s.data.toList])/\A0 w w'/\(Fg n s.data.toList=0->KZ w' (Au<|Av w) (Ac a m cap) ((Ea s.data.toList).map DV))
theorem q4C{hs:s.size<=2000}{xs:AJ E4}{D:I}(l:¬s.size=0)(h:xs.map CM=Db 10 (CM ⟨s,hs⟩))(m:W.ownsRow (O (U w)+8) 249 3 (G ao (K xs) cap) (K xs) ys)(hy:Gb W (O (U w)+8) 254 ys<|xs.map λx=>JZ<|DV<|De<|CM x)(y:W.heap[D]?=H (.deferred<|H []))(q:∀j,O (U w)+8<=j->V.heap[j]?=W.heap[j]?):KZ (V.putObj D<|.deferred Ao) (O<|U w) (G ao (K xs) cap)<|(Ea s.data.toList).map DV:=by
 have z:K s.data.toList=s.size:=Fz;have n:Ea s.data.toList=(xs.map CM).map De:=by unfold Ea;rw[Cl E,h];rfl
 have k:∀b a t fr,O (U w)+8<=b->W.heap[b]?=H (M a t fr)->(V.putObj D<|.deferred Ao).heap[b]?=H (M a t fr):=by intro b a t fr c d;have l:b≠D:=B9;have i:=Ca (q b c) d;rw[(grownBy_putObj' V D<|.deferred Ao).block b (Cd i) kfg];exact i
 have u:(V.putObj D<|.deferred Ao).ownsRow (O (U w)+8) 249 3 (G ao (K xs) cap) (K<|(Ea s.data.toList).map DV) ys:=by
  have e:K ((Ea s.data.toList).map DV)=K xs:=by rw[n];simp
  rw[e];refine⟨m.1,?_⟩;rcases m.2 with f|⟨g,o,a,f,c,r,p⟩
  .exact AF f
  exact AG ⟨g,o,a,f,c,k g a _ _ c r,p⟩
 have v:Gb (V.putObj D<|.deferred Ao) (O (U w)+8) 254 ys<|((Ea s.data.toList).map DV).map JZ:=by
  have e:((Ea s.data.toList).map DV).map JZ=xs.map λx=>JZ<|DV<|De<|CM x:=by rw[n,Mx,Mx,Mx];rfl
  rw[e];exact hy.kept λb a fr c d=>⟨c,k b a _ fr c d⟩
 exact⟨ys,kN u E,v.kept λb a fr c d=>⟨E,d⟩⟩
theorem qqf(am:Ho w):Ar As 94 #[.string s,C Y n] w λe w'=>q6I n s w e w':=by
 have hl:K s.data.toList=s.size:=Fz;obtain⟨i0,hi,a4,a5,a6⟩:=DL Tryz.infoRule2;have HG:=T am;clear am;by_cases bb:(2000:J)<s.size
 .have hy:E5 n s.data.toList=0:=by grind [E5]
  have HE:D<|Fg n s.data.toList=6:=by grind [D,Fg]
  have HN:D<|IW n s.data.toList=0:=by grind [D,IW]
  clear hy;go_enter func94,ntmps94;go_wp2;have e3:=kg w n 6;have c:A0 w<|Az (Az (Az (Az w<|M #[C Y n] 3)<|M #[G Ao 0 0] 124)<|M #[C Y 6] 54)<|M #[C Y 0] 3:=((((Cm).alloc Ba _).alloc B7 _).alloc B7 _)
  generalize Az (Az (Az (Az w<|M #[C Y n] 3)<|M #[G Ao 0 0] 124)<|M #[C Y 6] 54) (M #[C Y 0] 3)=V at *;obtain⟨N,P,Q⟩:=e3;refine CS (v:=Af #[G Ao 0 0,C Y 6,C Y 0]) keN Z ?_;exact⟨Ao,0,0,by rw[AE HE,AE HN],c,λe=>by grind [D]⟩
 have hs:s.size<=2000:=E;cases hd:(s.toList==[])
 .have ae:D<|¬s.size=0:=by grind [D,Lib.toList_data]
  refine(Ky (n:=10)).1 ?_;refine callsIn_of_wp_marks func94 Z trivial ?_ Z;simp only[ntmps94,K9,FN,J2,Nat.reduceAdd,Nat.reduceSub,Mp,Mq,Ms,Mr,Ka,Kw]
  gi_wp2_with fail
  refine⟨trivial,(Ky.2<|jr s ⟨#[10]⟩).mono ?_⟩;rintro e w' ⟨rfl,rfl⟩;simp only[CL,A0]
  gi_wp2
  obtain⟨W0,l⟩:=DF<|(Az (Az (Az (Az (Az (Az (Az (Az w<|M #[C Y n] 3)<|M #[G Ao 0 0] 124)<|M #[C Y 0] 54)<|M #[C Y 0] 3)<|M #[G Ao 0 0] 124)<|M #[.string s] 9)<|M #[Ae ⟨#[10]⟩] 9)<|M #[C Y 0] 3);have a3:O (U W0)=O (U w)+8:=by rw[<-l];simp
  have al:=q4e l;have ak:=qu1 l;rw[l];refine jq Z E Z trivial (enters_of func195 B6 Z)
   (st:=O (U w)+5) E (lo:=O (U w)+5) (hi:=O (U w)+5+3) E (ju 9 (k:=(O (U w)+5)) (s:=⟨s,hs⟩) ak) CT (λx=>rfl)
   (λpre W=>I3 w n pre W) (λac pre W=>Su w n pre ac W)
   (λpre A av h hg=>h.a0 hg<|AF rfl) (λac pre A av h hg=>h.a0 hg E)
   (λpre A k o o' h r hk hc=>h.a0 (grownBy_putObj' A k o')<|AG ⟨E,o,hk,hc⟩) (λac pre A k o o' h r hk hc=>h.a0 (grownBy_putObj' A k o') E)
   al
   (λx=>{tmps:=#[.string s,C Y n,AO,A8<|O<|U w,A8<|O (U w)+1,A8<|O (U w)+1+1,A8<|O (U w)+1+1+1,A8<|O (U w)+1+1+1+1,.string x.1,AO,AO,.string s,C Y s.size,Ah AQ,.string s,Ah AQ,.string s,.func (.func 195) #[] #[A8<|O (U w)+1+1+1+1+1+1,A8<|O (U w)+1+1+1+1+1,A8<|O (U w)+1+1+1+1+1+1+1],.string x.1,AO,AO,AO,AO,AO,AO,AO,AO,AO,AO,AO,AO,AO,AO,AO,AO,AO,AO,AO,AO],defers:=[]}) ?assign ?body ?done ?stop
  case assign =>
   intro au x W a7 R
   gi_wp2
   exact R
  case body =>
   clear al ak l a3;intro au pre x W p bd;have F:=T p;have c0:=p.g.cell;have cR:=qnS n x.2<|HG.ac p.ac;clear p
   gi_wp2_with fail
   refine⟨trivial,((Ky.2 cR).inRound au).mono ?_⟩;clear cR c0;rintro e i ⟨t,u,L,y,z,rfl,r,B⟩;have aw:D<|Dn n x.1.data.toList=AP->u=(De x.1.data.toList).1.length/\y=(De x.1.data.toList).2.1/\z=(De x.1.data.toList).2.2/\Fq i (O (U w)+8) 254 t (((De x.1.data.toList).1.map DH).flatMap GN):=λe=>⟨(B e).1,(B e).2.1,(B e).2.2.1,(B e).2.2.2.kept λa8 ba fr h1 h3=>⟨kfa,h3⟩⟩
   clear B;simp only[Fp];have ah:=T<|F.ad r;have az:D<|Tr (O<|U w) (O (U w)+5) W i:=Tr.ad r kfa kfa;clear r F;have bg:=ah.size;have a:D<|I3 w n pre<|Az i<|M #[G t u L,C Y y,C Y z] 249:=ah.alloc _;have af:D<|Tr (O<|U w) (O (U w)+5) W<|Az i<|M #[G t u L,C Y y,C Y z] 249:=az.trans<|Tr.alloc _ _ _ _ E E;have bc:=a.a;cases j:Dn n x.1.data.toList
   .have ap:¬(Dn n (CM x)=AP/\K pre<16):=λh=>by have h1:Dn n x.1.data.toList=AP:=h.1;rw[j]at h1;cases h1
    have ab:=T ap;clear ap
    gi_wp2
    generalize Az i (M #[G t u L,C Y y,C Y z] 249)=V at *;obtain⟨d,f,m,S,ho,ai⟩:=a.f;have c4:A6 V (O (U w)+1+1+1+1) 0<|G d (K pre) f:=S.cell;have c1:=a.d.cell;have f1:=a.d.frozen;have c2:A6 V (O (U w)+1+1) 0<|C Y 0:=a.b.cell;have f2:V.frozen? ⟨O (U w)+1+1,0,Ao⟩=AQ:=a.b.frozen;have c3:A6 V (O (U w)+1+1+1) 0<|C Y 0:=a.c.cell;have f3:V.frozen? ⟨O (U w)+1+1+1,0,Ao⟩=AQ:=a.c.frozen
    gi_region
    all_goals gi_wp2
    all_goals exact⟨((af.trans<|ke keT keT).trans (a.drew.out x ab).2).aq,(a.drew.out x ab).1⟩
   have bf:O (U i)<O (U<|Az i<|M #[G t u L,C Y y,C Y z] 249):=Ba;obtain⟨d,f,m,S,ho,ai⟩:=a.f;have c4:(Az i<|M #[G t u L,C Y y,C Y z] 249).cell? ⟨O (U w)+1+1+1+1,0,Ao⟩=H (G d (K pre) f):=S.cell;have HP:=T S;have b:=T ho;by_cases aj:(K pre:J)=16
   .have ab:D<|¬(Dn n (CM x)=AP/\K pre<16):=λh=>E;have c1:=a.d.cell;have f1:=a.d.frozen;have c2:(Az i<|M #[G t u L,C Y y,C Y z] 249).cell? ⟨O (U w)+1+1,0,Ao⟩=H (C Y 0):=a.b.cell;have f2:(Az i<|M #[G t u L,C Y y,C Y z] 249).frozen? ⟨O (U w)+1+1,0,Ao⟩=AQ:=a.b.frozen;have c3:(Az i<|M #[G t u L,C Y y,C Y z] 249).cell? ⟨O (U w)+1+1+1,0,Ao⟩=H (C Y 0):=a.c.cell;have f3:(Az i<|M #[G t u L,C Y y,C Y z] 249).frozen? ⟨O (U w)+1+1+1,0,Ao⟩=AQ:=a.c.frozen
    gi_wp2
    generalize Az i (M #[G t u L,C Y y,C Y z] 249)=V at *
    gi_region
    all_goals gi_wp2
    all_goals
     have o:=a.drew.out x ab;rw[aj]at o;exact⟨((af.trans<|ke E E).trans o.2).aq,o.1⟩
   have ay:D<|Dn n (CM x)=AP:=j;have aa:=T<|aw j
   gi_wp2_with(first
    |(gi_at_builtin;refine wpListIn_append_own _ Z _ _ 124 Z (O (U w)+8) 249 i0 (.agg E3) 3 40 underlying124 hi a4 a5 a6 Z B8 _ _ _ Z (b.alloc _) ⟨O (U i)+1,0,Ao⟩ 1 1 [G t u L,C Y y,C Y z] Z Z (Uz) (λx hx=>kew) Bc E B7 ?_;intro v' w5 aq an be;obtain⟨g5,a9,rfl⟩:=ownsRow_succ aq;have ar:=(HP.alloc _).kept an λe=>AY<|DK b e.symm;have c5:A6 w5 (O (U w)+1+1+1+1) 0<|G d (K pre) f:=ar.cell;have f5:w5.frozen? ⟨O (U w)+1+1+1+1,0,Ao⟩=AQ:=ar.frozen))
   exact q5W (a.alloc _) (af.trans<|Tr.alloc _ _ _ _ B7 B7) (HP.alloc _) (b.alloc _) aq an aj ay (ai.ac Cm) ((aa.2.2.2.ac Cm).ac Cm) (by show _++[Go.Value.slice t u L,C Y y,C Y z]=_;rw[aa.1,aa.2.1,aa.2.2.1];rfl)
  case done =>
   intro g m W hD hS p R;obtain⟨d,f,ys,S,ho,a0⟩:=p.f;have b:=T ho;have F:=T p;have HS:=T hS;have HK:=T R;have c4:A6 W (O (U w)+1+1+1+1) 0<|G d (K m) f:=S.cell;have c1:=p.d.cell;have f1:=p.d.frozen;have c2:A6 W (O (U w)+1+1) 0<|C Y 0:=p.b.cell;have f2:W.frozen? ⟨O (U w)+1+1,0,Ao⟩=AQ:=p.b.frozen;have c3:A6 W (O (U w)+1+1+1) 0<|C Y 0:=p.c.cell;have f3:W.frozen? ⟨O (U w)+1+1+1,0,Ao⟩=AQ:=p.c.frozen
   gi_wp2
   have hy:=q7J ae HS F.a F.all;have hE:Fg n s.data.toList=0:=kfK;have hN:IW n s.data.toList=0:=by grind [IW]
   have t1:=Tr.set (O<|U w) (O (U w)+5) W (O (U w)+1) (G d (K m) f) E E;have t2:=Tr.set (O<|U w) (O (U w)+5) (AB W ⟨O (U w)+1,0,Ao⟩<|G d (K m) f) (O (U w)+1+1) (C Y 0) E E;have t3:=Tr.set (O<|U w) (O (U w)+5) (AB (AB W ⟨O (U w)+1,0,Ao⟩<|G d (K m) f) ⟨O (U w)+1+1,0,Ao⟩<|C Y 0) (O (U w)+1+1+1) (C Y 0) E E;have g1:=grownBy_setCell' W (O (U w)+1)<|G d (K m) f;have g2:=grownBy_setCell' (AB W ⟨O (U w)+1,0,Ao⟩<|G d (K m) f) (O (U w)+1+1)<|C Y 0;have g3:=grownBy_setCell' (AB (AB W ⟨O (U w)+1,0,Ao⟩<|G d (K m) f) ⟨O (U w)+1+1,0,Ao⟩<|C Y 0) (O (U w)+1+1+1)<|C Y 0;have b0:=((F.d.set<|G d (K m) f).kept g2 B9).kept g3 B9;have b1:=(Boxed.set (C Y 0)<|F.b.kept g1 B9).kept g3 B9;have b2:=Boxed.set (C Y 0)<|(F.c.kept g1 B9).kept g2 B9;have c:=Cs F.ac ((t1.trans t2).trans t3).ac;have R:=((t1.trans t2).trans t3).aq.same g _ HK Z;have HC:D (∀ad,O (U w)+8<=ad->(AB (AB (AB W ⟨O (U w)+1,0,Ao⟩<|G d (K m) f) ⟨O (U w)+1+1,0,Ao⟩<|C Y 0) ⟨O (U w)+1+1+1,0,Ao⟩<|C Y 0).heap[ad]?=W.heap[ad]?):=λad hj=>Ca (Ca (GB _ _ _ _ B7)<|GB _ _ _ _ B7)<|GB _ _ _ _ B7;generalize AB (AB (AB W ⟨O (U w)+1,0,Ao⟩<|G d (K m) f) ⟨O (U w)+1+1,0,Ao⟩<|C Y 0) ⟨O (U w)+1+1+1,0,Ao⟩ (C Y 0)=V at *;refine⟨Ba,AF ⟨g,_,Z,run_takeDeferred R,?_⟩⟩;have N:=(Boxed.kept b0 (grownBy_putObj' V g<|.deferred Ao) B9).cell;have P:(V.putObj g<|.deferred Ao).cell? ⟨O (U w)+1+1,0,Ao⟩=H (C Y 0):=(Boxed.kept b1 (grownBy_putObj' V g<|.deferred Ao) B9).cell;have Q:(V.putObj g<|.deferred Ao).cell? ⟨O (U w)+1+1+1,0,Ao⟩=H (C Y 0):=(Boxed.kept b2 (grownBy_putObj' V g<|.deferred Ao) B9).cell;refine⟨Af #[G d (K m) f,C Y 0,C Y 0],?_,⟨d,K m,f,by rw[hE,hN],Qw c E,λ_=>q4C ae HS b a0 HK HC⟩⟩;simp[results,f94,go_sem,N,P,Q]
  case stop =>
   intro g ac pre W hD hS q R;obtain rfl:=q.ret
   gi_wp2
   obtain⟨ag,x,rfl,a1,ha,a2,hx⟩:=q.a;obtain⟨bh,j⟩:=hS;have hy:=q8o ae j ha a2 hx;have hE:Fg n s.data.toList=6:=kfK;have hN:IW n s.data.toList=K ag:=by grind [IW]
   refine⟨Ba,AF ⟨g,_,Z,run_takeDeferred R,?_⟩⟩;have N:=(q.d.kept (grownBy_putObj' W g<|.deferred Ao) B9).cell;have P:(W.putObj g<|.deferred Ao).cell? ⟨O (U w)+1+1,0,Ao⟩=H (C Y 6):=(q.b.kept (grownBy_putObj' W g<|.deferred Ao) B9).cell;have Q:(W.putObj g<|.deferred Ao).cell? ⟨O (U w)+1+1+1,0,Ao⟩=H (C Y (K ag:I)):=(a1.kept (grownBy_putObj' W g<|.deferred Ao) B9).cell;refine⟨Af #[G Ao 0 0,C Y 6,C Y (K ag:I)],?_,⟨Ao,0,0,by rw[hE,hN],Qw q.ac E,λe=>by rw[hE]at e;cases e⟩⟩;simp[results,f94,go_sem,N,P,Q]
 have h0:s.data.toList=[]:=by grind [Lib.toList_data]
 have hy:E5 n s.data.toList = -1:=by grind [E5]
 have HE:D<|Fg n s.data.toList=0:=by grind [D,Fg]
 have HN:D<|IW n s.data.toList=0:=by grind [D,IW]
 have ax:D<|Ea s.data.toList=[]:=by grind [D,Ea]
 go_enter func94,ntmps94;go_wp2;have e3:=kg w n 0;have c:A0 w<|Az (Az (Az (Az w<|M #[C Y n] 3)<|M #[G Ao 0 0] 124)<|M #[C Y 0] 54)<|M #[C Y 0] 3:=((((Cm).alloc Ba _).alloc B7 _).alloc B7 _)
 generalize Az (Az (Az (Az w<|M #[C Y n] 3)<|M #[G Ao 0 0] 124)<|M #[C Y 0] 54) (M #[C Y 0] 3)=V at *;obtain⟨N,P,Q⟩:=e3;refine CS (v:=Af #[G Ao 0 0,C Y 0,C Y 0]) keN Z ?_;exact⟨Ao,0,0,by rw[AE HE,AE HN],c,λ_=>by rw[AE ax];exact⟨[],Fi _ _ _ _,UQ⟩⟩
end
def kO(c:CF)(w:Ap)(A:A3)(w':Ap):Prop:=A.size=38/\A.all (·.oneCell')=AP/\(He c=0->F9 c.a c.L=AP/\∃a k cap,A=Ja (Dp c.a.toNat<|DY c.a.toNat c.L) a k cap/\∃lo',Au (Av w)<=lo'/\KZ w' lo' (Ac a k cap) ((Ea c.e.data.toList).map DV))
def q6r(h:¬He c=0):kO c w EY w':=⟨Of,kI,λe=>absurd e h⟩
def q6C(c:CF)(w:Ap)(e:Ending)(w':Ap):Prop:=∃A,e=Ak (Af #[.agg A,Ab .i64<|He c,Ab .i64<|KY c])/\kO c w A w'/\A0 w w'
def kP(n:AH)(s:AT):AI:=Fg n s.data.toList
def PoK(n:AH)(s:AT)(w:Ap)(a:A4)(m cap:AH)(w':Ap):Prop:=kP n s=0->KZ w' (Au<|Av w) (Ac a m cap) ((Ea s.data.toList).map DV)
def qsQ(s:AT)(n:I)(h:Ho w):Ar As 94 #[.string s,C Y n] w λe c=>∃a m b,e=Ak (Af #[G a m b,C Y<|Fg n s.data.toList,C Y<|IW n s.data.toList])/\A0 w c/\PoK n s w a m b c:=by refine Ce (qqf h) ?_;rintro e c ⟨a,m,b,d,f,g⟩;exact⟨a,m,b,d,f,g⟩
theorem US(n:Fa w c)(hg:Ho w):Ar As 56 #[.agg c.ad] w<|q6C c w:=by
 have HC:=T n;have HG:=T hg;have HS:=T c.size;have q:=T<|q3N w c;have hL:K c.L<=maxLen:=B4 n.eb;have ap:K c.B<=maxLen:=B4 n.bb;have Q:Ar As 92 #[.agg c.ad] (Az (Az w<|M c.ad 40)<|M EY 126) λe w'=>e=Ak (Af #[.agg<|Jt c.a c.L c.c c.d,C Y<|Ga c.a c.L c.c c.d])/\Below (Au<|U<|Az (Az w<|M c.ad 40)<|M EY 126) (Az (Az w<|M c.ad 40)<|M EY 126) w' :=
  qmf c.ad c.a rfl rfl rfl rfl hL<|n.a.ac q.ac
 have v:(Jt c.a c.L c.c c.d).size=37:=by unfold Jt;split<;>exact Dc
 have h:(Jt c.a c.L c.c c.d).all (·.oneCell')=AP:=by unfold Jt;split<;>exact Hm
 have k:=T v;have p:=T h;have P:D<|CU.size=(Jt c.a c.L c.c c.d).size:=by show _=_;rw[v];exact Dc
 have F:D<|Ga c.a c.L c.c c.d=0->F9 c.a c.L=AP/\Jt c.a c.L c.c c.d=Dp c.a.toNat (DY c.a.toNat c.L):=q6T;have y:D<|¬Ga c.a c.L c.c c.d=0->He c=Ga c.a c.L c.c c.d/\KY c=0:=q8Z;have A:D<|Ga c.a c.L c.c c.d=0->He c=(if EJ c.f c.out c.b c.bytes=AQ then 4 else if I9 c.B=AQ then 5 else Fg c.a.toNat c.e.data.toList)/\KY c=(if EJ c.f c.out c.b c.bytes=AQ then 0 else if I9 c.B=AQ then 0 else IW c.a.toNat c.e.data.toList):=λao=>by grind [He,KY]
 clear v h n hg;generalize Jt c.a c.L c.c c.d=O at *;generalize Ga c.a c.L c.c c.d=E0 at *;go_enter func56,ntmps56
 go_wp2_with(first
  |(refine Ni Z Z Z (Au (U w)+1) ?hN ?_;case hN=>grind [World.size_alloc])
  |(refine CO Z 40 _ Z _ Z _ _ _ _ q.h underlying40 Z (DC HS) ?_)
  |fail)
 refine Ce Q ?_;clear Q;rintro e a ⟨rfl,V⟩;have N:=T<|q.aq V;clear V q;have d:D<|Pt w c<|Az a<|M O 123:=N.aq Cm;have ai:D<|(Az a<|M O 123).heap[Au<|U a]?=H (M O 123):=Cj _;have j:=d;by_cases b:E0=0
 case' neg =>
  obtain⟨ac,ad⟩:=y.out b;have l:=T ac;have m:=T ad;have o:D<|¬He c=0:=B9
 case' pos =>
  subst b;obtain⟨ab,W⟩:=F.out rfl;obtain⟨ac,ad⟩:=A.out rfl;have ah:=T W;have z:=T ab;have h6:(Az a<|M O 123).cell? ⟨Au<|U w,6,Ao⟩=H (C Y c.f):=d.cell 6;have h7:(Az a<|M O 123).cell? ⟨Au<|U w,7,Ao⟩=H (C Y c.out):=d.cell 7;have h8:(Az a<|M O 123).cell? ⟨Au<|U w,8,Ao⟩=H (C Y c.b):=d.cell 8;have h9:(Az a<|M O 123).cell? ⟨Au<|U w,9,Ao⟩=H (C Y c.bytes):=d.cell 9;have av:(Az a<|M O 123).cell? ⟨Au<|U w,10,Ao⟩=H (G c.i (K c.B) c.g):=d.cell 10;have h3:(Az a<|M O 123).cell? ⟨Au<|U w,3,Ao⟩=H (.string c.e):=d.cell 3;have h0:(Az a<|M O 123).cell? ⟨Au<|U w,0,Ao⟩=H (C Y c.a):=d.cell 0;have r:=λam=>kG c.f c.out c.b c.bytes am;clear F A y W ab;cases R:EJ c.f c.out c.b c.bytes
  case' false =>
   have l:D<|He c=4:=by grind [D]
   have m:D<|KY c=0:=B9;have o:D<|¬He c=0:=by grind [D]
  case' true =>
   have t:=og c.g ap<|HC.b.ac d.ac;cases S:I9 c.B
   case' false =>
    have l:D<|He c=5:=by grind [D]
    have m:D<|KY c=0:=B9;have o:D<|¬He c=0:=by grind [D]
   case' true =>
    have u:=qsQ c.e c.a.toNat<|HG.ac d.ac;rw[(Ps z).1]at u;have l:D<|He c=Fg c.a.toNat c.e.data.toList:=by grind [D]
    have m:D<|KY c=IW c.a.toNat c.e.data.toList:=B9;have ag:D<|Fg c.a.toNat c.e.data.toList=0->IW c.a.toNat c.e.data.toList=0:=λao=>by grind [Fg,IW]
    have af:D<|kP c.a.toNat c.e=Fg c.a.toNat c.e.data.toList:=rfl;generalize Fg c.a.toNat c.e.data.toList=E1 at *;generalize IW c.a.toNat c.e.data.toList=N1 at *;by_cases aq:E1=0
    case pos =>
     subst aq;rw[R]at r;rw[S]at t;have ar:=ag.out Z;subst ar;have ae:D (∀f i g,prog.built 126 [(0,.agg O),(1,G f i g)]=H (Ja O f i g)):=λf i g=>by grind [D,qx5]
     have al:D (∀f i g,EY.size=(Ja O f i g).size):=λf i g=>by rw[Sw k.out];exact Of
     have au:Au (U a)<Au (U<|Az a<|M O 123):=Ba
     go_wp2_with(first
      |(go_at_call 40;refine Ce (r _) ?_;rintro e x ⟨rfl,rfl⟩)
      |(go_at_call 93;refine Ce t ?_;rintro e x ⟨rfl,rfl⟩)
      |(go_at_call 94;refine Ce u ?_;rintro e w4 ⟨f,i,g,rfl,s,aa⟩;have ak:=T aa;have j:=T<|d.aq s;have aj:=T<|Ca (Co s _ au) ai)
      |(refine CO Z 123 _ Z _ Z _ _ _ _ aj underlying123 Z (DM k) ?_)
      |(refine Jh Z Z Z ?hl (ae f i g) ?_;case hl=>simp[go_sem])
      |(refine D8 Z 126 _ _ Z (Au (U w)+1) (Ja O f i g) Z Z 126 EY j.a (KX<|Sw k) (al _ _ _) (YT p) ?_)
      |(refine Kz Z Z Z (Au<|U a) Z ?_)
      |(refine D8 Z 123 _ _ Z (Au<|U a) O Z Z 123 CU (Cj a) (DM k) P p ?_;rw[Ge]))
     refine CS (kH results56 Z (CR _ _ EY _ _ _ j.a) underlying126 Z (KX<|Sw k) (C Y 0) (C Y 0) Z Z) Z ⟨Ja O f i g,by rw[AE l,AE m],?_,Dq j.ac E⟩;refine⟨Sw k,YT p,λ_=>⟨z,f,i,g,by rw[AE ah],?_⟩⟩;have hq:=ak.out af;have aw:=Cd N.a;exact⟨_,d.ac.size,hq.kept λan h1 _=>Do _ (Au (U w)+1) an _ E⟩
    have o:D<|¬He c=0:=B9
   rw[S]at t
  rw[R]at r
 all_goals
  go_wp2_with(first
   |(go_at_call 40;refine Ce (r _) ?_;rintro e x ⟨rfl,rfl⟩)
   |(go_at_call 93;refine Ce t ?_;rintro e x ⟨rfl,rfl⟩)
   |(go_at_call 94;refine Ce u ?_;rintro e w4 ⟨f,i,g,rfl,s,aa⟩;have j:=T<|d.aq s)
   |(refine D8 Z 126 _ _ Z (Au (U w)+1) EY Z Z 126 EY j.a (KX Of) Z kI ?_)
   |(refine Kz Z Z Z (Au<|U a) Z ?_)
   |(refine D8 Z 123 _ _ Z (Au<|U a) O Z Z 123 CU (Cj a) (DM k) P p ?_;rw[Ge])
   |(refine Jh Z Z Z ?hl qts ?_;case hl=>simp))
  refine CS (kH results56 Z (CR _ _ EY _ _ _ j.a) underlying126 Z (KX Of) _ _ Z Z) Z ⟨EY,by rw[AE l,AE m];rfl,q6r o,Dq j.ac E⟩
def FL(ks:AJ A1):Lit->Option AH
 |.string b=>if b∈ks then An (2+ks.idxOf b)else Ao
 |_=>Ao
theorem Og{b:A1}(h:b∈ks):FL ks (.string b)=H (2+ks.idxOf b):=Cp h
theorem QK{b:A1}(h:b∉ks):FL ks (.string b)=Ao:=Cl h
theorem q5j{b:A1}(h:b∉ks):FL (ks++[b]) (.string b)=H (2+K ks):=by grind [Og]
theorem q2n{b:A1}(_h:b∉ks)(l:Lit)(hl:l≠.string b):FL (ks++[b]) l=FL ks l:=by
 cases l with
 |string c =>
  grind [Og,QK]
 |_=>rfl
def I4(W:Ap)(m:AH)(ks:AJ A1):Prop :=
 ∃D:A2,W.ownsMap As 9 (plainElem As 3) m (At ks) D/\(∀l,Maps.has D l=(FL ks l).isSome/\∀v:AH,FL ks l=An v->D.atKey l (.lit<|.int .i64 0)=.lit (.int .i64 v))/\Maps.size D=At ks
def I4.im{m:I}(h:I4 W m ks):Ed W 9 m (K ks)<|FL ks:=by obtain⟨a,b,c,_⟩:=h;exact⟨a,b,c⟩
def I4.kept{m:I}{row:Option I}(h:I4 W m ks)(d:W.grownBy W' row)(e:H m≠row):I4 W' m ks:=C5
def YW(W:X):I4 (Az W<|.map #[] 0) (O<|U W) [] :=
 ⟨_,ZP W As _ _,λl=>⟨by cases l<;>simp[Maps.has,FL],λv h=>by cases l<;>simp[FL]at h⟩,rfl⟩
def I4.len{t m:I}(h:I4 W m ks)(d:prog.underlying t=H (.map 9 3))(a:AN):(Builtin.len_ #[t] a #[.map<|H m]).run As W=.ok (C Y<|K ks) W:=by obtain⟨e,b,_,c⟩:=h;rw[b.len d a,c]
theorem quu{t m:I}(h:I4 W m ks)(p:prog.underlying t=H (.map 9 3))(v:K ks<100000){b:A1}(hb:K b<=1000000000)(j:b∉ks):∃a,(Instr.mapUpdate t (.map<|H m) (Ae ⟨Aw b⟩)<|C Y ((2+K ks:I):J)).run As W=.ok () a/\I4 a m (ks++[b])/\W.grownBy a (H m):=by
 obtain⟨f,c,s,g⟩:=h;have d:=NN hb;obtain⟨a,o,n,i⟩:=c.store Nd p Bc d<|Wd underlying3<|jU (2+K ks) E;have k:Maps.has f (.string b)=AQ:=by grind [QK]
 refine⟨a,o,⟨_,by rw[Dj];exact n,λl=>?_,?_⟩,i.grown⟩
 .by_cases e:l=.string b
  .subst e;rw[q5j j];refine⟨VU c.isMap (Nd.key d) _,λu q=>?_⟩;have r:=Fl q;rw[<-r];exact af c.isMap (Nd.key d) _ _
  grind [q2n,Maps.has_put_other,Maps.atKey_put_other]
 rw[Maps.size_put<|c.tidy Nd,k,g,Dj];rfl
def Hf(ks:AJ A1)(s:AH×A1):AJ A1:=if s.1=3/\s.2∉ks then ks++[s.2]else ks
def Oh(ks:AJ A1)(r:AJ (AH×A1)×AI×AI):AJ A1:=r.1.foldl Hf ks
def FY(rs:AJ<|AJ (AH×A1)×AI×AI):AJ A1:=rs.foldl Oh []
theorem q4s(ks:AJ A1)(s:I×A1):K (Hf ks s)<=K ks+1:=by grind [Hf]
theorem kQ:∀(ss:AJ<|I×A1) (ks:AJ A1),K (ss.foldl Hf ks)<=K ks+K ss
 |[],ks=>Ba
 |s::ss,ks=>by have a:=kQ ss<|Hf ks s;grind [q4s]
def Oi{md:Region.Mode}{S:X->Prop}{oi:Oper}{fuel:I}{listed:Array AK}{a:Act}(i dst:I)(hi:ops[i]?=H oi)(b:(Region.noSelect ops&&Region.free md ops listed i&&(Region.ready md ops listed).contains i&&oi.dst==H dst && !Region.wanted oi (yielded ops a.tmps))=AP)(d:∀c a w,Q (.panic c) (a.put (H dst) AO) w->Q (.panic c) a w)(e:S w)(h:wpAnyH P md ops Q S fuel (Ay listed i AP) (a.put (H dst) AO) w):wpAnyH P md ops Q S (fuel+1) listed a w:=by simp only[Fj]at b;have f:oi.dst=H dst:=C7;rw[<-f]at d h;exact EN hi b.1.1.1.1 b.1.1.1.2 b.1.1.2 d (AG ⟨by simpa using b.2,Z⟩) e h
structure Bt(b:AH)(W W':Ap):Prop where
 os:W'.os=W.os
 tape:W'.tape=W.tape
 output:W'.output=W.output
 size:Au (Av W)<=Au (Av W')
 block:∀k,k<Au (Av W)->k≠b->W'.heap[k]?=W.heap[k]?
theorem Bt.refl(b:I)(W:X):Bt b W W:=⟨rfl,rfl,rfl,Cr _,λ_ _ _=>rfl⟩
def Bt.trans{A B C:X}(h:Bt b A B)(k:Bt b B C):Bt b A C :=
 ⟨k.os.trans h.os,k.tape.trans h.tape,k.output.trans h.output,CE h.size k.size,λi a c=>(k.block i (CQ a h.size) c).trans<|h.block i a c⟩
def Bt.of_below(h:A0 W W'):Bt b W W':=⟨h.os,h.tape,h.output,h.size,λk a _=>h.block k a⟩
structure Mh(W:Ap)(lm:AH)(ks:AJ A1)(V:Ap):Prop where
 ai:Bt lm W V
 ac:I4 V lm ks
theorem Mh.next(h:Mh W lm ks V)(hb:A0 V V'):Mh W lm ks V' :=
 ⟨h.ai.trans<|Bt.of_below hb,h.ac.kept (row:=Ao) ⟨hb.os,hb.tape,hb.output,hb.size,λi a _=>hb.block i a⟩ Ba⟩
def Bt.a0(h:Bt lm W V)(a:A0 W0 W)(hl:O (U W0)<=lm):A0 W0 V :=
 ⟨h.os.trans a.os,h.tape.trans a.tape,h.output.trans a.output,CE a.size h.size,λi b=>(h.block i (CQ b a.size) E).trans<|a.block i b⟩
theorem Bt.ac{u:Aq}(h:Bt lm W V)(a:A<O (U W))(b:A≠lm)(c:A6 W A j u):A6 V A j u:=by have e:=h.block A a b;grind [World.cell?]
theorem kR(h:n<=128):wrap64 (2+(n:J))=((2+n:I):J):=by unfold wrap64;omega
theorem qiF(ar:A0 W0 W)(Q:A<O (U W))(R:A≠lm)(hl:O (U W0)<=lm)(hn:K rs<=16)(h8:∀i (h:i<K rs),rs[i].1.length<=8)(av:∀i (h:i<K rs) j (h2:j<rs[i].1.length),rs[i].1[j].2.length<=1000000000)(c0:A6 W A 0<|G ra (K rs) rc)(c2:A6 W A 2<|.map<|H lm)(hr:J8 W0 ra rs)(hm:I4 W lm []):Ar As 95 #[A8 A] W λap W'=>ap=Ak (Af #[])/\Mh W lm (FY rs) W':=by
 have HR:=T hr;have N:=T ar;have HM:=T hm;go_enter func95,ntmps95;go_wp2
 go_loopg[12] (K rs) (λg z wr=>∃(k:I) (l:AJ A1),z=C Y k/\D (k+g=K rs)/\D (Mh W lm l wr)/\D (FY rs=(rs.drop k).foldl Oh l)/\D (K l<=8*k))
 exact⟨0,[],Z,Bg,⟨Bt.refl _ _,HM⟩,Z,kfV⟩;obtain⟨k,l,rfl,hg,L,HK,HL⟩:=hrel;obtain _|g:=gk
 .have ax:¬(k:J)<(K rs:J):=AY<|AE hg;have HE:D<|FY rs=l:=by grind [D]
  go_wp2;go_end0;grind [D]
 have w:k<K rs:=AY<|AE hg;have ax:(k:J)<(K rs:J):=E;obtain⟨ao,off,V,pc,rfl,hb,e0,e1,e2,bc⟩:=(HR.ac<|L.ai.a0 N hl).aq k w;have ak:D<|Ph W0 V rs[k].1:=by obtain⟨b',be,bg,bh,b,au,f0,f1,f2,bb⟩:=HR.aq k w;injection b with b;injection b with hab1 hab2;subst hab1;subst hab2;have e3:=((L.ai.a0 N hl).cell (p:=⟨ao,off+k*3,Ao⟩) au).trans f0;grind
 have a9:=h8 k w;have aj:=T<|av k w;have a1:D<|FY rs=(rs.drop<|k+1).foldl Oh (rs[k].1.foldl Hf l):=by have h:=AE HK;rw[K7 w]at h;exact h
 have a5:D<|Mh W lm l<|Az wr<|Aj #[G V rs[k].1.length pc,C Y rs[k].2.1,C Y rs[k].2.2] 249:=L.next Cm
 go_wp2;generalize Az wr (Aj #[G V rs[k].1.length pc,C Y rs[k].2.1,C Y rs[k].2.2] 249)=V0 at *;generalize hss:rs[k].1=ss at *
 go_loopg[19] (K ss) (λu z an=>∃(j:I) (c:AJ A1),z=C Y j/\D (j+u=K ss)/\D (Mh W lm c an)/\D (ss.foldl Hf l=(ss.drop j).foldl Hf c)/\D (K c<=K l+j))
 grind;obtain⟨j,c,rfl,ae,t,a2,a4⟩:=hrel;obtain _|u:=gk
 .have ay:¬(j:J)<(K ss:J):=AY<|AE ae;have HE:D<|ss.foldl Hf l=c:=by grind [D]
  go_wp2;go_roundg g;exact⟨k+1,c,Bb,B9,t,by grind [D],by grind [D]⟩;omega
 have af:j<K ss:=AY<|AE ae;have ay:(j:J)<(K ss:J):=E;obtain⟨b2,bf,rfl,a7,s0,s1⟩:=(ak.ac<|t.ai.a0 N hl).aq j af;have a3:D<|ss.foldl Hf l=(ss.drop<|j+1).foldl Hf (Hf c ss[j]):=BT;have F:=T<|aj j af;generalize ss[j]=sg at *;have s:D<|Mh W lm c<|Az wr<|Aj #[C Y sg.1,Ae ⟨Aw sg.2⟩] 254:=t.next Cm
 obtain⟨n,key⟩:=sg;have B:D<|(Az wr<|Aj #[C Y n,Ae ⟨Aw key⟩] 254).heap[O<|U wr]?=H (Aj #[C Y n,Ae ⟨Aw key⟩] 254):=Cj _;have a0:=T t.ac.im.lt;clear t;go_wp2;generalize Az wr (Aj #[C Y n,Ae ⟨Aw key⟩] 254)=V1 at *;generalize O (U wr)=M at *;refine Dl (S:=λd=>A6 d A 2 (.map<|H lm)/\A7 d M #[C Y n,Ae ⟨Aw key⟩] 254/\I4 d lm c) (⟨s.ai.ac Q R c2,B,s.ac⟩) B6 ?_;intro a;by_cases ag:n=3
 .subst ag;by_cases e:key∈c
  .obtain⟨x,hx⟩:=IB<|2+c.idxOf key;have P:D<|(FL c<|.string key).getD 0=x:=by grind [Og]
   have bd:((x:J)==0)=AQ:=B7;have aa:D<|Hf c (3,key)=c:=Cl λh=>h.2 e;clear hx;refine Cb 0 23 (A8 M) a <| Ch 1 24 (C Y 3) Z (λd f=>ke9) a <| Cb 2 25 (Ah AP) a <| Cb 3 26 (Ah AP) a <| Cb 4 27 (A8 A) a <| Cb 5 28 (A8 A) a <| Cb 6 29 (A9 A 2) a <| Ch 7 30 (.map<|H lm) Z (λd f=>kfe) a <| Cb 8 31 (A9 M 1) a <| Ch 9 32 (Ae ⟨Aw key⟩) Z (λd f=>kfS) a <| Ch 10 33 (C Y x) Z (λd f=>by have v:=Sj f.2.2.im Nd underlying178<|NN F;rw[AE P]at v;go_simp) a <| Ch 11 34 (Ah AQ) rfl (λd f=>Bh) a <| Cb 12 35 (Ah AQ) a <| CK ?_;go_simp;have m:=T<|s.next (Cu _ _).drew;go_wp2;go_roundg u;exact⟨j+1,c,Bb,B9,m,by grind [D],by grind [D]⟩;omega
  have P:D<|(FL c<|.string key).getD 0=0:=by grind [QK]
  have aa:D<|Hf c (3,key)=c++[key]:=Cp ⟨Z,e⟩;refine Cb 0 23 (A8 M) a <| Ch 1 24 (C Y 3) Z (λd f=>ke9) a <| Cb 2 25 (Ah AP) a <| Cb 3 26 (Ah AP) a <| Cb 4 27 (A8 A) a <| Cb 5 28 (A8 A) a <| Cb 6 29 (A9 A 2) a <| Ch 7 30 (.map<|H lm) Z (λd f=>kfe) a <| Cb 8 31 (A9 M 1) a <| Ch 9 32 (Ae ⟨Aw key⟩) Z (λd f=>kfS) a <| Ch 10 33 (C Y 0) Z (λd f=>by have v:=Sj f.2.2.im Nd underlying178<|NN F;rw[AE P]at v;go_simp) a <| Cb 11 34 (Ah AP) a <| Cb 12 35 (Ah AP) a <| CK ?_;go_simp;have m:=T<|s.next (Cu _ _).drew;have y:D<|(World.drew V1).heap[M]?=H (Aj #[C Y 3,Ae ⟨Aw key⟩] 254):=AE B;clear a s B;generalize World.drew V1=V2 at *;have d2:=m.ai.ac Q R c2;have ba:=m.ac.len underlying178;have aw:K c<=8*16:=by grind [D]
  obtain⟨ai,hv⟩:=IB<|2+K c;have am:D<|wrap64 (2+(K c:J))=(ai:J):=by grind [D,kR]
  have al:=T hv;clear hv aw;go_wp2;rw[AE am];have ab:=T<|m.next (Cu _ _).drew;obtain⟨w7,ah,ad,r⟩:=quu ab.ac underlying178 (by grind [D]) F e;rw[<-AE al]at ah;have ac:D<|Mh W lm (c++[key]) w7:=⟨ab.ai.trans ⟨r.os,r.tape,r.output,r.size,λi hi az=>r.block i hi<|by simpa using az⟩,ad⟩
  have q:(λd:X=>A6 d A 2 (.map<|H lm)/\A7 d M #[C Y 3,Ae ⟨Aw key⟩] 254) {V2 with drawn:=V2.drawn+1}:=⟨d2,y⟩
  have aq:(λd:X=>A6 d A 2 (.map<|H lm)/\A7 d M #[C Y 3,Ae ⟨Aw key⟩] 254) w7:=⟨ac.ai.ac Q R c2,(r.block M (Cd y)<|by grind [D]).trans y⟩
  clear ad r m y;refine Ei (S:=λd=>A6 d A 2 (.map<|H lm)/\A7 d M #[C Y 3,Ae ⟨Aw key⟩] 254) B6 ?_;refine Cb 0 42 (A8 A) q <| Cb 1 43 (A8 A) q <| Cb 2 44 (A9 A 2) q <| Ch 3 45 (.map<|H lm) Z (λd f=>kfe) q <| Cb 4 46 (A9 M 1) q <| Ch 5 47 (Ae ⟨Aw key⟩) Z (λd f=>by have o:=Cc f.2 1;go_simp) q <| Cb 6 48 (C Y ai) q <| CH 7 λa6 hK=>?_;go_simp;refine hK.out _ _ aq λ_=>?_;clear hK;refine CK ?_;go_simp;clear ah;go_wp2;go_roundg u;exact⟨j+1,c++[key],Bb,B9,ac,by grind [D],by grind [D]⟩;omega
 have a8:((n:J)==3)=AQ:=B7;have aa:D<|Hf c (n,key)=c:=Cl λh=>ag h.1;refine Cb 0 23 (A8 M) a <| Ch 1 24 (C Y n) Z (λd f=>ke9) a <| Ch 2 25 (Ah AQ) Z (λd f=>Bh) a <| Cb 3 26 (Ah AQ) a <| Oi 4 27 Z B6 (λ_ _ _ h=>h) a ?_;refine Oi 5 28 Z B6 (λ_ _ _ h=>h) a ?_;refine Oi 6 29 Z B6 (λ_ _ _ h=>h) a ?_;refine Oi 7 30 Z B6 (λ_ _ _ h=>h) a ?_;refine Oi 8 31 Z B6 (λ_ _ _ h=>h) a ?_;refine Oi 9 32 Z B6 (λ_ _ _ h=>h) a ?_;refine Oi 10 33 Z B6 (λ_ _ _ h=>h) a ?_;refine Oi 11 34 Z B6 (λ_ _ _ h=>h) a ?_;refine Cb 12 35 (Ah AQ) a <| CK ?_;go_simp;have m:=T<|s.next (Cu _ _).drew;go_wp2;go_roundg u;exact⟨j+1,c,Bb,B9,m,by grind [D],by grind [D]⟩;omega
def Nj(ks:AJ A1)(s:AH×A1)(x:AH):AK:=if s.1=0 then AP else if s.1=1 then AQ else if s.1=2 then x==1 else x==(FL ks<|.string s.2).getD 0
def gB(rs:AJ<|AJ (AH×A1)×AI×AI)(r p:AH)(f:AH×A1->AK):AK:=match rs[r]? with
 |some R=>(match R.1[p]? with|some s=>f s|none=>AQ)
 |none=>AQ
theorem q8w{p:I}{s:I×A1}(a:rs[r]?=H R)(b:R.1[p]?=H s)(f:I×A1->AK):gB rs r p f=f s:=by grind [gB]
theorem kS{p:I}(a:rs[r]?=H R)(b:K R.1<=p)(f:I×A1->AK):gB rs r p f=AQ:=by grind [gB]
theorem kT(a:K rs<=r)(p:I)(f:I×A1->AK):gB rs r p f=AQ:=by grind [gB]
structure IX(rs:AJ (AJ (AH×A1)×AI×AI))(ks:AJ A1)(i j:AH)(st:AH->AH)(tk:AH->AH->AH):Prop where
 s:∀r p,(st r).testBit p=(AR (r<i\/(r=i/\p<j))&&gB rs r p (λs=>s.1==1))
 t:∀x r p,(tk x r).testBit p=(AR (r<i\/(r=i/\p<j))&&gB rs r p (λs=>Nj ks s x))
def qxX:IX rs ks 0 0 (λ_=>0) (λ_ _=>0) :=
 ⟨λr p=>Ba,λx r p=>Ba⟩
def GO(st:AH->AH)(i j:AH)(b:AK):AH->AH:=λr=>if r=i/\b=AP then st r|||2^j else st r
theorem kU{f:I×A1->AK}{s:I×A1}(a:rs[i]?=H R)(b:R.1[j]?=H s)(h:∀r p,(st r).testBit p=(AR (r<i\/(r=i/\p<j))&&gB rs r p f))(r p:I):(GO st i j (f s) r).testBit p=(AR (r<i\/(r=i/\p<j+1))&&gB rs r p f):=by grind [GO,q8w]
def IX.place{tk:I->I->I}{s:I×A1}(h:IX rs ks i j st tk)(a:rs[i]?=H R)(b:R.1[j]?=H s):IX rs ks i (j+1) (GO st i j<|s.1==1) (λx=>GO (tk x) i j<|Nj ks s x) :=
 ⟨λr p=>kU a b h.s r p,λx r p=>kU a b (h.t x) r p⟩
theorem IX.rule{tk:I->I->I}(h:IX rs ks i j st tk)(a:rs[i]?=H R)(b:K R.1<=j):IX rs ks (i+1) 0 st tk:=by
 have key:∀(f:I×A1->AK) (r p:I),(AR (r<i\/(r=i/\p<j))&&gB rs r p f)=(AR (r<i+1\/(r=i+1/\p<0))&&gB rs r p f):=by grind [kS]
 exact⟨λr p=>Ca (h.s r p)<|key _ r p,λx r p=>Ca (h.t x r p)<|key _ r p⟩
structure LB(rs:AJ (AJ (AH×A1)×AI×AI))(ks:AJ A1)(st:AH->AH)(tk:AH->AH->AH):Prop where
 s:∀r p,(st r).testBit p=gB rs r p (λs=>s.1==1)
 t:∀x r p,(tk x r).testBit p=gB rs r p (λs=>Nj ks s x)
theorem IX.done{tk:I->I->I}(h:IX rs ks i 0 st tk)(hi:K rs<=i):LB rs ks st tk:=by
 have key:∀(f:I×A1->AK) (r p:I),(AR (r<i\/(r=i/\p<0))&&gB rs r p f)=gB rs r p f:=by grind [kT]
 exact⟨λr p=>Ca (h.s r p)<|key _ r p,λx r p=>Ca (h.t x r p)<|key _ r p⟩
def UT(h:∀p,8<=p->x.testBit p=AQ):x<256:=Nat.lt_pow_two_of_testBit (n:=8) x λp a=>h p a
theorem UU(b:∀i (h:i<K rs),rs[i].1.length<=8){p:I}(c:8<=p)(f:I×A1->AK):gB rs r p f=AQ:=by
 by_cases a:r<K rs
 .exact kS (D7 a) (CE (b r a) c) f
 grind [kT]
def IX.lt{tk:I->I->I}(h:IX rs ks i j st tk)(b:∀i (h:i<K rs),rs[i].1.length<=8):(∀r,st r<256)/\∀x r,tk x r<256 :=
 ⟨λr=>UT λp a=>by rw[h.s,UU b a];simp,λx r=>UT λp a=>by rw[h.t,UU b a];simp⟩
def Iu(q:D0)(st:AH->AH)(tv sv:Aq):A3:=#[Ac q.h (At q.a) q.e,Ab .i64 q.c,.map<|An q.f]++CD st++#[tv,sv,.map<|An q.d,.map<|An q.b]
def qzu(q:D0)(a:Aq):Sm q a=Iu q q.st (G (Aa q.g) q.L q.tc) a:=B6
def qxt(q:D0)(st:I->I)(c a b:Aq):Ay (Iu q st c a) 19 b=Iu q st b a:=B6
theorem qxz(st:I->I){v:I}(a:r<16):Ay (Iu q st tv sv) (3+r) (C .u16 v)=Iu q (λi=>if i=r then v else st i) tv sv:=by have h:=congrArg Array.toList<|Us st r v;rw[R2]at h;apply PS;unfold Iu;rw[R2];simp only[R9];grind [MZ]
theorem q2U(a:r<16):(Iu q st tv sv)[3+r]?=H (C .u16<|st r):=by have b:=MZ st;unfold Iu;rw[ZU B7,Nv Ba];grind [Lz]
structure Sx(cur:A3)(L:AH)(tk:AH->AH->AH):Prop where
 size:cur.size=L*16
 aq:∀x r,x<L->r<16->cur[x*16+r]?=An (Ab .u16 (tk x r))
def Sx.set{cur:A3}{L:I}{tk:I->I->I}(h:Sx cur L tk)(x r v:I)(hx:x<L)(c:r<16):Sx (Ay cur (x*16+r)<|C .u16 v) L λy i=>if y=x/\i=r then v else tk y i:=by
 refine⟨by rw[VD,h.size],λy i b a=>?_⟩;rw[PK];by_cases e:y=x/\i=r
 .rw[Cp<|by rw[e.1,e.2],Cp<|by rw[h.size];omega,Cp e]
 rw[Cl E,Cl e];exact h.aq y i b a
structure DO(W:Ap)(A tb L:AH)(q:D0)(sv:Aq)(st:AH->AH)(tk:AH->AH->AH)(V:Ap):Prop where
 ad:V.heap[A]?=An (Aj (Iu q st (Ac (Aa tb) L L) sv) 187)
 a:∃cur,V.heap[tb]?=An (Aj cur 183)/\Sx cur L tk
 os:V.os=W.os
 tape:V.tape=W.tape
 output:V.output=W.output
 size:Au (Av W)<=Au (Av V)
 block:∀k,k<Au (Av W)->k≠A->V.heap[k]?=W.heap[k]?
theorem DO.next{L:I}{tk:I->I->I}(h:DO W A tb L q sv st tk V)(hb:A0 V V'):DO W A tb L q sv st tk V':=by obtain⟨c,b,e⟩:=h.a;exact⟨Ca (Co hb _<|Cd h.ad) h.ad,⟨c,Ca (Co hb _<|Cd b) b,e⟩,Ca hb.os h.os,Ca hb.tape h.tape,Ca hb.output h.output,CE h.size hb.size,λk a d=>Ca (Co hb k<|CQ a h.size)<|h.block k a d⟩
theorem kV(V:X)(p:Addr)(v:Aq):O (U<|V.drew.setCell p v)=O (U V):=Bv
def DO.ai{L:I}{tk:I->I->I}(h:DO W A tb L q sv st tk V)(e:A≠tb)(r v:I)(f:r<16):DO W A tb L q sv (λi=>if i=r then v else st i) tk<|V.drew.setCell ⟨A,3+r,Ao⟩<|C .u16 v:=by obtain⟨c,g,j⟩:=h.a;have a:=DX V.drew A (3+r) _ _ (C .u16 v) h.ad;rw[qxz st f]at a;refine⟨a,⟨c,Ca (GB V.drew _ _ _<|by simpa using e.symm) g,j⟩,h.os,h.tape,h.output,by rw[kV];exact h.size,λk d b=>Ca (GB V.drew _ _ _ BG)<|h.block k d b⟩
theorem DO.took{L:I}{tk:I->I->I}(h:DO W A tb L q sv st tk V)(c:A≠tb)(j:O (U W)<=tb)(x r v:I)(hx:x<L)(d:r<16):DO W A tb L q sv st (λy i=>if y=x/\i=r then v else tk y i)<|V.drew.setCell ⟨tb,x*16+r,Ao⟩<|C .u16 v:=by obtain⟨g,e,f⟩:=h.a;exact⟨Ca (GB V.drew _ _ _ BO) h.ad,⟨_,DX V.drew tb (x*16+r) _ _ (C .u16 v) e,f.set x r v hx d⟩,h.os,h.tape,h.output,by grind [kV],λk a b=>Ca (GB V.drew _ _ _ B7)<|h.block k a b⟩
def YX:(Iu q st tv sv)[2]?=H (.map<|H q.f):=B6
def kX:(Iu q st tv sv)[19]?=H tv:=B6
def Tryz.infoPlc:(prog.info? 183).map (λi=>(i.zero,i.size,i.bytes))=H (H<|.agg<|CD E8,16,32):=B6
def q8y(h:n<=128)(w:X):(Instr.makeSlice 184 (C Y<|wrap64<|2+(n:J))<|C Y<|wrap64<|2+(n:J)).run As w=.ok (G (Aa<|O<|U w) (2+n)<|2+n) (Az w<|M (madeCells (CD E8)<|(2+n)*16) 183):=by obtain⟨i,f,c,a,d⟩:=DL Tryz.infoPlc;have e:((2+n:I):J).toNat=2+n:=OE _;have b:=run_makeSlice (P:=As) (w:=w) 184 183 i (.agg<|CD E8) underlying184 f c Y Y ((2+n:I):J) ((2+n:I):J) E (OI _) (by rw[e,a];omega) (by rw[d];omega) E;rw[e,a]at b;rw[kR h];exact b
theorem q4A{L:I}:Sx (madeCells (CD E8)<|L*16) L λ_ _=>0:=by refine⟨np _ _,λx r b a=>?_⟩;grind [E8,CD,MZ,madeCells]
theorem qtb{L:I}(b:A7 W A (Iu q (λ_=>0) (G Ao 0 0) sv) 187):DO W A (O<|U W) L q sv (λ_=>0) (λ_ _=>0)<|(Az W<|M (madeCells (CD E8)<|L*16) 183).setCell ⟨A,19,Ao⟩<|G (Aa<|O<|U W) L L:=by have e:=Cd b;have a:=DX (Az W<|M (madeCells (CD E8)<|L*16) 183) A 19 _ _ (G (Aa<|O<|U W) L L)<|Ca (CB W _ A e) b;rw[qxt]at a;refine⟨a,⟨_,Ca (GB _ _ _ _ B7)<|Cj W,q4A⟩,Z,Z,Z,?_,λk c d=>Ca (GB _ _ _ _ keo)<|CB W _ k c⟩;grind [World.setCell,World.size_alloc]
def YY:(Iu q st tv sv)[0]?=H (G q.h (K q.a) q.e):=B6
def DO.a0{L:I}{tk:I->I->I}(h:DO W A tb L q sv st tk V)(a:A0 W0 W)(c:O (U W0)<=A):A0 W0 V :=
 ⟨Ca h.os a.os,Ca h.tape a.tape,Ca h.output a.output,CE a.size h.size,λi b=>Ca (h.block i (CQ b a.size) E)<|Co a i b⟩
def DO.ac{L:I}{tk:I->I->I}(h:DO W A tb L q sv st tk V)(b:I4 W lm ks)(d:A≠lm):I4 V lm ks :=
 b.kept (row:=H A) ⟨h.os,h.tape,h.output,h.size,λi a c=>h.block i a BO⟩ (by simpa using d.symm)
def DO.c2{L:I}{tk:I->I->I}(h:DO W A tb L q sv st tk V):A6 V A 2<|.map<|H q.f:=Ca (Iz V A 2 _ _ _ h.ad)<|YX
def DO.a2{L:I}{tk:I->I->I}(h:DO W A tb L q sv st tk V):A6 V A 19<|G (Aa tb) L L:=Ca (Iz V A 19 _ _ _ h.ad)<|kX
def DO.cs{L:I}{tk:I->I->I}(h:DO W A tb L q sv st tk V)(r:I)(a:r<16):A6 V A (3+r) (C .u16<|st r)/\V.frozen? ⟨A,3+r,Ao⟩=AQ :=
 ⟨Ca (Iz V A (3+r) _ _ _ h.ad)<|q2U a,Dy V A (3+r) _ _ h.ad⟩
def DO.ct{L:I}{tk:I->I->I}(h:DO W A tb L q sv st tk V)(x r:I)(hx:x<L)(c:r<16):A6 V tb (x*16+r) (C .u16<|tk x r)/\V.frozen? ⟨tb,x*16+r,Ao⟩=AQ:=by obtain⟨d,a,b⟩:=h.a;exact⟨Ca (Iz V tb (x*16+r) _ _ _ a)<|b.aq x r hx c,Dy V tb (x*16+r) _ _ a⟩
theorem qy9(st:I->I)(k j:I):(λi=>if i=k then st k|||2^j else st i)=GO st k j AP:=by grind [GO]
theorem UV(st:I->I):GO st k j AQ=st:=by grind [GO]
theorem DO.alike{L:I}{tk tk':I->I->I}(h:DO W A tb L q sv st tk V)(e:∀x r,x<L->tk' x r=tk x r):DO W A tb L q sv st tk' V:=by obtain⟨a,b,c,d⟩:=h.a;exact⟨h.ad,⟨a,b,c,λx r g f=>B9⟩,h.os,h.tape,h.output,h.size,h.block⟩
def LC(tk:AH->AH->AH)(x k j:AH):AH->AH->AH:=λy i=>if y=x/\i=k then tk x k|||2^j else tk y i
theorem DO.aq{L:I}{tk:I->I->I}(h:DO W A tb L q sv st tk V)(b:A≠tb)(c:O (U W)<=tb)(x k j:I)(hx:x<L)(a:k<16):DO W A tb L q sv st (LC tk x k j)<|V.drew.setCell ⟨tb,x*16+k,Ao⟩<|C .u16 ((tk x k|||2^j:I):J):=h.took b c x k (tk x k|||2^j) hx a
def Nk(tk:AH->AH->AH)(m k j:AH):AH->AH->AH:=λy=>if y<m then GO (tk y) k j AP else tk y
theorem qz3(tk:I->I->I)(k j:I):Nk tk 0 k j=tk:=by grind [Nk]
theorem q0X(tk:I->I->I)(m k j:I):LC (Nk tk m k j) m k j=Nk tk (m+1) k j:=by funext y i;unfold LC Nk;grind [GO]
theorem kY(tk:I->I->I)(x:I){y:I}:LC tk x k j y=GO (tk y) k j (y==x):=by grind [LC,GO]
def q26{L:I}{tk:I->I->I}(h:DO W A tb L q sv st tk V)(b:A≠tb)(a:k<16)(c:w2=V.drew.setCell ⟨A,3+k,Ao⟩ (C .u16 ((st k|||2^j:I):J))):DO W A tb L q sv (GO st k j AP) tk w2:=by rw[c,<-qy9];exact h.ai b k (st k|||2^j) a
def YZ{L:I}{tk:I->I->I}(h:DO W A tb L q sv st tk V)(b:A≠tb)(d:O (U W)<=tb){o:I}(hx:x<L)(a:k<16)(c:o=x*16)(e:w2=V.drew.setCell ⟨tb,o+k,Ao⟩ (C .u16 ((tk x k|||2^j:I):J))):DO W A tb L q sv st (LC tk x k j) w2:=by rw[e,c];exact h.aq b d x k j hx a
def q6L(W:Ap)(A:AH)(q:D0)(sv:Aq)(ks:AJ A1)(e:Ending)(W':Ap):Prop :=
 e=Ak (Af #[])/\∃tb st tk,Au (Av W)<=tb/\DO W A tb (2+At ks) q sv st tk W'/\LB q.a ks st tk
theorem qj0(a3:A0 W0 W)(g:A7 W A (Iu q (λ_=>0) (G Ao 0 0) sv) 187)(an:O (U W0)<=A)(hn:K q.a<=16)(h8:∀i (h:i<K q.a),q.a[i].1.length<=8)(a6:∀i (h:i<K q.a) j (r:j<q.a[i].1.length),q.a[i].1[j].1<=3/\q.a[i].1[j].2.length<=1000000000)(hr:J8 W0 q.h q.a)(hm:I4 W q.f ks)(aq:K ks<=128)(a5:∀i (h:i<K q.a) j (r:j<q.a[i].1.length),q.a[i].1[j].1=3->q.a[i].1[j].2∈ks)(bl:A≠q.f):Ar As 96 #[A8 A] W<|q6L W A q sv ks:=by
 have c2:=(Iz W A 2 _ _ _ g).trans<|YX;have b6:=hm.len underlying178;have ai:=T g;have b0:=Dy W A 19 _ _ g;have c19:=(Iz W A 19 _ _ _ g).trans<|kX;have HR:=T hr;have ak:=T a3;have HM:=T hm;have bb:=T a6;have ba:=T a5;have H8:=T h8;have be:=T<|q8y aq;have bc:=T aq;clear g hr a3 hm a6 a5 h8 aq;go_enter func96,ntmps96;have b7:=AE be;have lA:=Cd ai;have bu:D<|(Az W<|Aj (madeCells (CD E8)<|(2+K ks)*16) 183).setCell ⟨A,19,Ao⟩ (G (Aa<|O<|U W) (2+K ks)<|2+K ks)=(AB W ⟨A,19,Ao⟩<|G (Aa<|O<|U W) (2+K ks)<|2+K ks).alloc (Aj (madeCells (CD E8)<|(2+K ks)*16) 183):=by show _=_;go_simp
 have bv:D<|DO W A (O<|U W) (2+K ks) q sv (λ_=>0) (λ_ _=>0)<|(AB W ⟨A,19,Ao⟩<|G (Aa<|O<|U W) (2+K ks)<|2+K ks).alloc<|Aj (madeCells (CD E8)<|(2+K ks)*16) 183:=by have h:=qtb (L:=2+K ks) ai;grind [D]
 have c0:=(Iz _ A 0 _ _ _ ai).trans<|YY;obtain⟨ra,bf⟩:=CC q.h;rw[AE bf]at c0;have a0:D<|J8 W0 ra q.a:=by grind [D]
 go_wp2;obtain⟨L,HL⟩:∃L,D<|L=2+K ks:=⟨_,rfl⟩
 obtain⟨a,aa⟩:∃a,D<|O (U W)<=a/\a=O (U W):=⟨_,Cr _,rfl⟩
 have ad:A≠a:=by grind [D]
 have bd:D<|DO W A a L q sv (λ_=>0) (λ_ _=>0)<|(AB W ⟨A,19,Ao⟩<|G (Aa<|O<|U W) (2+K ks)<|2+K ks).alloc<|Aj (madeCells (CD E8)<|(2+K ks)*16) 183:=by grind [D]
 generalize(AB W ⟨A,19,Ao⟩<|G (Aa<|O<|U W) (2+K ks)<|2+K ks).alloc (Aj (madeCells (CD E8)<|(2+K ks)*16) 183)=V00 at *
 go_loopg[22] (K q.a) (λam z wr=>∃(k:I) (st:I->I) (tk:I->I->I),z=C Y k/\D (k+am=K q.a)/\D (DO W A a L q sv st tk wr)/\D (IX q.a ks k 0 st tk))
 exact⟨0,_,_,Z,Bg,bd,qxX⟩;obtain⟨k,st,tk,rfl,hg,HN,HK⟩:=hrel;obtain _|am:=gk
 .have bq:¬(k:J)<(K q.a:J):=AY<|AE hg;go_wp2;go_end0;refine⟨Z,a,st,tk,aa.1,?_,HK.done<|AY<|AE hg⟩;grind [D]
 have N:k<K q.a:=AY<|AE hg;have bq:(k:J)<(K q.a:J):=E;obtain⟨bk,off,pa,pc,rfl,hb,e0,e1,e2,b9⟩:=(a0.ac<|HN.a0 ak an).aq k N;have a1:D<|Ph W0 pa q.a[k].1:=by obtain⟨b',cb,cd,ce,ao,bm,f0,f1,f2,b8⟩:=a0.aq k N;injection ao with ao;injection ao with hab1 hab2;subst hab1;subst hab2;have e3:=((HN.a0 ak an).cell (p:=⟨bk,off+k*3,Ao⟩) bm).trans f0;grind [D]
 have bn:=H8.out k N;have d:k<16:=E;have av:D (∀j (r:j<q.a[k].1.length),(q.a[k].1[j].1<=3/\q.a[k].1[j].2.length<=1000000000)/\(q.a[k].1[j].1=3->q.a[k].1[j].2∈ks)):=λj r=>⟨bb k N j r,ba k N j r⟩
 have az:=T<|D7 N;have bw:D<|DO W A a L q sv st tk<|Az wr<|Aj #[G pa q.a[k].1.length pc,C Y q.a[k].2.1,C Y q.a[k].2.2] 249:=HN.next Cm
 go_wp2;generalize Az wr (Aj #[G pa q.a[k].1.length pc,C Y q.a[k].2.1,C Y q.a[k].2.2] 249)=V0 at *;generalize q.a[k]=R at *;obtain⟨Q,lb,ac⟩:=R;dsimp only at a1 bn av
 go_loopg[30] (K Q) (λF z al=>∃(j:I) (st:I->I) (tk:I->I->I),z=C Y j/\D (j+F=K Q)/\D (DO W A a L q sv st tk al)/\D (IX q.a ks k j st tk))
 grind [D];obtain⟨j,st,tk,rfl,a4,B,ah⟩:=hrel;obtain _|F:=gk
 .have br:¬(j:J)<(K Q:J):=AY<|AE a4;go_wp2;go_roundg am;exact⟨k+1,st,tk,Bb,B9,B,ah.rule az B9⟩;omega
 have ap:j<K Q:=AY<|AE a4;have br:(j:J)<(K Q:J):=E;obtain⟨b2,cc,rfl,b5,s0,s1⟩:=(a1.ac<|B.a0 ak an).aq j ap;obtain⟨⟨bo,bp⟩,bt⟩:=av.out j ap;have bg:=T<|D7 ap;have aw:=T bp;have ay:=T bt;have au:=T bo;have af:j<16:=E;generalize Q[j]=sg at *;have l:D<|DO W A a L q sv st tk<|Az wr<|Aj #[C Y sg.1,Ae ⟨Aw sg.2⟩] 254:=B.next Cm
 have ax:=ah.lt H8;have bh:=T ax.1;have aj:=T ax.2;have v:=T<|ah.place az bg;have bi:D<|a<O (U wr):=by obtain⟨bz,h1,_⟩:=B.a;exact Cd h1
 obtain⟨P,key⟩:=sg;have ag:D<|(Az wr<|Aj #[C Y P,Ae ⟨Aw key⟩] 254).heap[O<|U wr]?=H (Aj #[C Y P,Ae ⟨Aw key⟩] 254):=Cj _;dsimp only at aw ay au;have ab:=B.a2;have b1:=Cd B.ad;have b3:(1:J)<(L:J):=AY<|AE HL;have b4:L<=130:=B3 (AE HL)<|AE bc;rcases(by have:=AE au;omega:P=0\/P=1\/P=2\/P=3)with rfl|rfl|rfl|rfl
 .have w:D<|IX q.a ks k (j+1) st λx=>GO (tk x) k j AP:=by have h:=AE v;have e:GO st k j (((0,key):I×A1).1==1)=st:=UV st;rw[e]at h;exact h
  go_wp2;generalize Az wr (Aj #[C Y ((0:I):J),Ae ⟨Aw key⟩] 254)=V1 at *
  go_loopg[44] L (λg3 z al=>∃m:I,z=C Y m/\D (m+g3=L)/\D (DO W A a L q sv st (Nk tk m k j) al))
  exact⟨0,Z,Bg,by rw[qz3];exact l⟩;obtain⟨m,rfl,ae,V⟩:=hrel;obtain _|g3:=gk
  .have bs:¬(m:J)<(L:J):=AY<|AE ae;have s:=T (V.alike λx cg hx=>by unfold Nk;rw[Cp<|AY<|AE ae]);go_wp2;go_roundg F;exact⟨j+1,st,_,Bb,B9,s,w⟩;omega
  have a8:m<L:=AY<|AE ae;have bs:(m:J)<(L:J):=E;have ab:=V.a2;obtain⟨ct,o⟩:=V.ct m k a8 d;have a7:Nk tk m k j m k<65536:=by unfold Nk;rw[Cl E];have:=aj.out m k;omega
  have n:=Sf d af a7 ct o;clear ct o a7
  go_wp2_with(first
   |(go_at_call 140;refine n.mono ?_;clear n;rintro e y ⟨rfl,f⟩;have s:=T<|YZ V ad aa.1 a8 d Z f;clear f ab))
  go_roundg g3;exact⟨m+1,Bb,AZ<|AE ae,by rw[<-q0X];exact s⟩;omega
 .have w:D<|IX q.a ks k (j+1) (GO st k j AP) tk:=by
   have h:=AE v;have e:(λx=>GO (tk x) k j<|Nj ks (1,key) x)=tk:=by funext x;exact UV<|tk x
   rw[e]at h;exact h
  obtain⟨ct,o⟩:=l.cs k d;have n:=Sf d af (AY<|bh.out k) ct o;clear v ct o
  go_wp2_with(first
   |(go_at_call 140;refine n.mono ?_;clear n;rintro e y ⟨rfl,f⟩;have s:=T<|q26 l ad d f;clear f ab l))
  go_roundg F;exact⟨j+1,_,tk,Bb,B9,s,w⟩;omega
 .have w:D<|IX q.a ks k (j+1) st<|LC tk 1 k j:=by
   have h:=AE v;have e:(λx=>GO (tk x) k j<|Nj ks (2,key) x)=LC tk 1 k j:=by funext x;exact(kY tk 1).symm
   have e2:GO st k j (((2,key):I×A1).1==1)=st:=UV st;rw[e,e2]at h;exact h
  obtain⟨ct,o⟩:=l.ct 1 k E d;have n:=Sf d af (AY<|aj.out 1 k) ct o;clear v ct o
  go_wp2_with(first
   |(go_at_call 140;refine n.mono ?_;clear n;rintro e y ⟨rfl,f⟩;have s:D<|DO W A a L q sv st (LC tk 1 k j) y:=YZ l ad aa.1 E d Z f;clear f ab l))
  go_roundg F;exact⟨j+1,st,_,Bb,B9,s,w⟩;omega
 obtain⟨x,HX⟩:∃x,D<|x=(FL ks<|.string key).getD 0:=⟨_,rfl⟩
 have bj:D<|x<L:=by have h:=ay.out Z;show x<L;rw[AE HX,Og h,AE HL];have:=VF.2 h;show 2+ks.idxOf key<_;omega
 have w:D<|IX q.a ks k (j+1) st<|LC tk x k j:=by
  have h:=AE v;have e:(λar=>GO (tk ar) k j<|Nj ks (3,key) ar)=LC tk x k j:=by funext ar;rw[kY,AE HX];rfl
  have e2:GO st k j (((3,key):I×A1).1==1)=st:=UV st;rw[e,e2]at h;exact h
 have hxL:=AE bj;have ca:(x:J)<(L:J):=E;clear v;go_wp2;generalize Az wr (Aj #[C Y ((3:I):J),Ae ⟨Aw key⟩] 254)=V1 at *;generalize O (U wr)=M at *;refine Dl (S:=λt=>(∃tk,DO W A a L q sv st tk t)/\A7 t M #[C Y ((3:I):J),Ae ⟨Aw key⟩] 254) (⟨⟨tk,l.next (Cu _ _).drew⟩,ag⟩) B6 λc=>Cb 0 77 (A8 A) c <| Cb 1 78 (A8 A) c <| Cb 2 79 (A9 A 19) c <| Ch 3 80 (G (Aa a) L L) rfl (λt u=>by obtain⟨a9,b⟩:=u.1;have z1:=b.a2;go_simp) c <| Cb 4 81 (A8 A) c <| Cb 5 82 (A8 A) c <| Cb 6 83 (A9 A 2) c <| Ch 7 84 (.map<|H q.f) rfl (λt u=>by obtain⟨a9,b⟩:=u.1;have z1:=b.c2;go_simp) c <| Cb 8 85 (A9 M 1) c <| Ch 9 86 (Ae ⟨Aw key⟩) rfl (λt u=>by have z1:=Cc u.2 1;go_simp) c <| Ch 10 87 (C Y x) rfl (λt u=>by obtain⟨a9,b⟩:=u.1;have z3:=Sj (b.ac HM bl).im Nd underlying178<|NN aw;rw[<-AE HX]at z3;go_simp) c <| Ch 11 88 (A9 a<|x*16) rfl (λt u=>Bh) c <| Cb 12 89 (C Y k) c <| Cb 13 90 (C Y j) c ?_;obtain⟨ct,o⟩:=(l.next (Cu _ _).drew).ct x k hxL d;have n:=Sf d af (AY<|aj.out x k) ct o;clear ct o;refine CH 14 λbx hK=>?_;go_simp;refine n.mono ?_;clear n;rintro e y ⟨rfl,f⟩;have s:=T<|YZ (l.next (Cu _ _).drew) ad aa.1 hxL d rfl f;have a2:(λt:X=>(∃tk,DO W A a L q sv st tk t)/\A7 t M #[C Y ((3:I):J),Ae ⟨Aw key⟩] 254) y:=⟨⟨_,s⟩,by rw[f];exact(GB _ _ _ _<|B0<|AE bi).trans ag⟩
 clear f l ag;refine hK.out _ _ a2 λ_=>?_;clear hK c a2;refine CK ?_;go_simp;go_wp2;go_roundg F;exact⟨j+1,st,_,Bb,B9,s,w⟩;omega
def Dz(dflt:AI):AJ (AJ (AH×A1)×AI×AI)->AJ (A1×AK)->AI×AI
 |[],_=>(dflt,1)
 |x::rs,p=>if O9 x.1 p then x.2 else Dz dflt rs p
def Oj(rs:AJ<|AJ (AH×A1)×AI×AI)(p:AJ<|A1×AK)(Y:AH->AH):Prop:=∀r (h:r<At rs),∀k,(Y r).testBit k=Me rs[r].1 p k
def Z0{st:I}{P:I->AK}(a:∀k,st.testBit k=Is ss k)(hx:∀k,x.testBit k=P k):∀k,KS st x k=MY ss P k
 |0=>hx 0
 |k+1=>by rw[KS,MY,hx,a,Z0 a hx k]
theorem q3T{st tk:I}{t:A1×AK}{P:I->AK}(a:∀k,st.testBit k=Is ss k)(b:∀k,tk.testBit k=Pg ss t k)(hx:∀k,x.testBit k=P k)(k:I):(N5 st tk x).testBit k=QB ss t P k:=by unfold N5;rw[Nat.testBit_or,Nat.testBit_and,Nat.testBit_shiftLeft,Nat.testBit_and,hx,a];cases k<;>grind [QB]
theorem kZ(h:r<K rs)(k:I):gB rs r k (λs=>s.1==1)=Is rs[r].1 k:=by grind [gB,Is]
theorem q4r{a b:A1}(d:a∈ks)(hb:b∈ks)(e:ks.idxOf a=ks.idxOf b):a=b:=by have c:=VF.2 d;have g:=VF.2 hb;have f:=List.getElem_idxOf c;grind
theorem q4d{s:I×A1}(h:s.1=3->s.2∈ks)(d:s.1<=3)(key:A1)(a:AK):Nj ks s (Js (FL ks) key a)=Ir s (key,a):=by
 unfold Nj Ir;split
 .rfl
 split
 .rfl
 split
 .cases a
  .show(((FL ks<|.string key).getD 0)==1)=AQ;by_cases b:key∈ks<;>grind [Og,QK]
  rfl
 have c:=h E;rw[Og c];cases a
 .show(((FL ks<|.string key).getD 0)==2+ks.idxOf s.2)=(!AQ&&key==s.2)
  by_cases b:key∈ks<;>grind [Og,q4r,QK]
 show((1:I)==2+ks.idxOf s.2)=AQ;simp;omega
theorem l5:Js (FL ks) key ix<2+K ks:=by grind [Js,Og,QK]
theorem q5o(h:r<K rs)(b:∀s∈rs[r].1,s.1<=3/\(s.1=3->s.2∈ks))(key:A1)(a:AK):gB rs r k (λs=>Nj ks s<|Js (FL ks) key a)=Pg rs[r].1 (key,a) k:=by grind [gB,Pg,q4d]
theorem l6{tk:I->I->I}(b:LB rs ks st tk){Y:I->I}(a:Pj (K rs) st (one<|K rs) Y):Oj rs [] Y:=by
 intro r h k;rw[a.1 r h k];have c:=λk=>Ca (b.s r k)<|kZ h k;have d:∀k,(one (K rs) r).testBit k=(k==0):=by intro k;unfold one;rw[Cp h];cases k<;>grind
 rw[Z0 c d k];rfl
def l7{tk:I->I->I}(a:LB rs ks st tk)(c:∀r (h:r<K rs),∀s∈rs[r].1,s.1<=3/\(s.1=3->s.2∈ks)){P Y:I->I}(d:Oj rs p P)(e:Pj (K rs) st (I1 st (tk<|Js (FL ks) key ix) P<|K rs) Y):Oj rs ((key,ix)::p) Y:=by
 intro r h k;rw[e.1 r h k];have b:=λk=>Ca (a.s r k)<|kZ h k;have f:=λk=>Ca (a.t _ r k)<|q5o h (c r h) key ix;have g:∀k,(I1 st (tk<|Js (FL ks) key ix) P (K rs) r).testBit k=QB rs[r].1 (key,ix) (Me rs[r].1 p) k:=by intro k;unfold I1;rw[Cp h];exact q3T b f (d r h) k
 rw[Z0 b g k];rfl
def UW{X Y:I->I}(h:Oj rs p Y)(c:K rs<=16)(a:∀r,r<16->X r=Y r):Oj rs p X:=by intro r b k;rw[a r E];exact h r b k
def l8(a:I->I):∀(rs:AJ<|AJ (I×A1)×J×J) (o:I),(∀r (h:r<K rs),∀k,(a<|o+r).testBit k=Me rs[r].1 p.reverse k)->EI dflt rs a o=Dz dflt rs p
 |[],_,_=>rfl
 |x::rs,o,h=>by have b:=h 0 Ba<|K x.1;rw[EI,Dz];have e:(a o).testBit (K x.1)=O9 x.1 p:=Ca b<|xD;rw[e,l8 a rs (o+1) λr c k=>by have:=h (r+1) BO k;rw[show o+1+r=o+(r+1) by omega,this];rfl]
def l9{Y:I->I}(h:Oj rs p.reverse Y)(dflt:J):EI dflt rs Y 0=Dz dflt rs p :=
 l8 Y rs 0 (λr a k=>by rw[Gg];exact h r a k)
theorem qzx{s:I×A1}{b:A1}(h:b∈ks):b∈Hf ks s:=by grind [Hf]
def Z1{b:A1}:∀(ss:AJ<|I×A1) (ks:AJ A1),b∈ks->b∈ss.foldl Hf ks
 |[],_,h=>h
 |_::ss,_,h=>Z1 ss _<|qzx h
def lc:∀(ss:AJ<|I×A1) (ks:AJ A1) (s:I×A1),s∈ss->s.1=3->s.2∈ss.foldl Hf ks
 |x::ss,ks,s,b,h3=>by
  rcases IA.1 b with rfl|b
  .refine Z1 ss _ ?_;unfold Hf;by_cases a:s.2∈ks
   .rw[Cl λh=>h.2 a];exact a
   rw[Cp ⟨h3,a⟩];simp
  exact lc ss _ s b h3
def ld{b:A1}:∀(rs:AJ<|AJ (I×A1)×J×J) (ks:AJ A1),b∈ks->b∈rs.foldl Oh ks
 |[],_,h=>h
 |r::rs,_,h=>ld rs _<|Z1 r.1 _ h
def lg:∀(rs:AJ<|AJ (I×A1)×J×J) (ks:AJ A1) (r:AJ (I×A1)×J×J),r∈rs->∀s∈r.1,s.1=3->s.2∈rs.foldl Oh ks
 |x::rs,ks,r,a,s,hs,h3=>by
  rcases IA.1 a with rfl|a
  .exact ld rs _<|lc r.1 ks s hs h3
  exact lg rs _ r a s hs h3
theorem Z2(h:i<K rs)(a:j<rs[i].1.length)(b:rs[i].1[j].1=3):rs[i].1[j].2∈FY rs :=
 lg rs [] rs[i] (PR h) _ (PR a) b
theorem lh:∀(rs:AJ<|AJ (I×A1)×J×J) (ks:AJ A1),(∀r∈rs,K r.1<=8)->K (rs.foldl Oh ks)<=K ks+8*K rs
 |[],_,_=>Ba
 |r::rs,ks,h=>by have b:=lh rs (Oh ks r) λx a=>h x<|LM _ a;have c:K (Oh ks r)<=K ks+K r.1:=kQ r.1 ks;have d:=h r Ba;rw[W6,FN];omega
theorem Z3(b:K rs<=16)(a:∀i (h:i<K rs),rs[i].1.length<=8):K (FY rs)<=128:=by grind [lh,List.getElem_of_mem,FY]
structure Z4(W:Ap)(rs:AJ (AJ (AH×A1)×AI×AI))(dflt:AI)(A:AH)(q:D0)(sts:AJ ((AH->AH)×AI×AI))(sa:A4)(sc:AH)(nf:Lit->Option AH)(mf:Lit->Option AH)(W':Ap):Prop where
 a:Dv W A q sts (Ac sa (At sts) sc) nf 0 mf W'
 b:q.a=rs
 k:q.c=dflt
 e:q.i=FL (FY rs)
 o:q.L=2+At (FY rs)
 n:LB rs (FY rs) q.st q.j
 d:KW q sts mf
 m:At sts<=1
 first:∃t Y,sts[0]?=An t/\Pj (At rs) q.st (one (At rs)) Y/\∀r,r<16->t.1 r=Y r
def lj(W:Ap)(ra:A4)(rs:AJ<|AJ (AH×A1)×AI×AI)(dflt:AI)(e:Ending)(W':Ap):Prop :=
 ∃A q sts sa sc nf mf,e=Ak (A8 A)/\q.h=ra/\Z4 W rs dflt A q sts sa sc nf mf W'
def Pu(W:Ap):Ap:=Az (Az (Az W<|.map #[] 0)<|.map #[] 0)<|.map #[] 0
theorem lp(W:X):O (U<|Pu W)=O (U W)+3:=by simp[Pu]
def q95(a:AN)(e:O (U W)<=b)(f:b<O (U W)+3):Ed (Pu W) a b 0 λ_=>Ao:=by
 have c:O (U<|Az W<|.map #[] 0)=O (U W)+1:=Ba;have d:O (U<|Az (Az W<|.map #[] 0)<|.map #[] 0)=O (U W)+2:=Ba;rcases(by omega:b=O (U W)\/b=O (U W)+1\/b=O (U W)+2)with rfl|rfl|rfl
 .exact((Yr W a).kept (L8 _ _ Ao) Ba).kept (L8 _ _ Ao) Ba
 .have h:=(Yr (Az W<|.map #[] 0) a).kept (L8 _ (.map #[] 0) Ao) Ba;rw[c]at h;exact h
 have h:=Yr (Az (Az W<|.map #[] 0)<|.map #[] 0) a;rw[d]at h;exact h
def q8l(d:O (U W)<=b)(e:b<O (U W)+3):I4 (Pu W) b []:=by
 have a:O (U<|Az W<|.map #[] 0)=O (U W)+1:=Ba;have c:O (U<|Az (Az W<|.map #[] 0)<|.map #[] 0)=O (U W)+2:=Ba;rcases(by omega:b=O (U W)\/b=O (U W)+1\/b=O (U W)+2)with rfl|rfl|rfl
 .exact((YW W).kept (L8 _ _ Ao) Ba).kept (L8 _ _ Ao) Ba
 .have h:=(YW<|Az W<|.map #[] 0).kept (L8 _ (.map #[] 0) Ao) Ba;rw[a]at h;exact h
 have h:=YW<|Az (Az W<|.map #[] 0)<|.map #[] 0;rw[c]at h;exact h
def q0(ra:A4)(rc:AH)(rs:AJ<|AJ (AH×A1)×AI×AI)(dflt:AI)(lm nb mb:AH):D0 :=
 {h:=ra,e:=rc,a:=rs,c:=dflt,f:=lm,ln:=0,i:=λ_=>Ao,st:=λ_=>0,g:=0,L:=0,tc:=0,j:=λ_ _=>0,d:=nb,b:=mb}
def q1(ra:A4)(rc:AH)(rs:AJ<|AJ (AH×A1)×AI×AI)(dflt:AI)(lm nb mb:AH)(st:AH->AH)(tb:AH)(tk:AH->AH->AH):D0 :=
 {h:=ra,e:=rc,a:=rs,c:=dflt,f:=lm,ln:=At<|FY rs,i:=FL<|FY rs,st:=st,g:=tb,L:=2+At (FY rs),tc:=2+At (FY rs),j:=tk,d:=nb,b:=mb}
def LB.lt{tk:I->I->I}(h:LB rs ks st tk)(b:∀i (h:i<K rs),rs[i].1.length<=8):(∀r,st r<256)/\∀x r,tk x r<256 :=
 ⟨λr=>UT λp a=>by rw[h.s,UU b a],λx r=>UT λp a=>by rw[h.t,UU b a]⟩
theorem q2I{V0 V1 V2 V3:X}{nb mb:I}{tk:I->I->I}(N:J8 W ra rs)(L:K rs<=16)(o:∀i (h:i<K rs),rs[i].1.length<=8)(hA:A=O (U W)+3)(n:O (U W)<=lm/\lm<O (U W)+3)(d:O (U W)<=nb/\nb<O (U W)+3)(e:O (U W)<=mb/\mb<O (U W)+3)(k:lm≠nb)(m:lm≠mb)(v:nb≠mb)(p:V0=(Pu W).alloc (M (Iu (q0 ra rc rs dflt lm nb mb) (λ_=>0) (G Ao 0 0)<|G Ao 0 0) 187))(c:Mh V0 lm (FY rs) V1)(ac:O (U V1)<=tb)(y:DO V1 A tb (2+K (FY rs)) (q0 ra rc rs dflt lm nb mb) (G Ao 0 0) st tk V2)(x:LB rs (FY rs) st tk)(w:A0 V2 V3):Dv W A (q1 ra rc rs dflt lm nb mb st tb tk) [] (G Ao 0 0) (λ_=>Ao) 0 (λ_=>Ao) V3:=by
 have aa:O (U V0)=O (U W)+4:=by rw[p,CL,lp]
 have ab:=c.ai.size;have a:=y.next w
 have r:A0 W V0:=by rw[p];exact(((Cm).alloc Ba _).alloc B7 _).alloc B7 _
 have s:=c.ai.a0 r n.1;have t:=a.a0 s E;have B:(Pu W).grownBy V0 Ao:=by grind [World.grownBy_alloc]
 have F:V0.grownBy V1<|H lm:=⟨c.ai.os,c.ai.tape,c.ai.output,c.ai.size,λi f j=>c.ai.block i f kf6⟩
 have q:V1.grownBy V3<|H A:=⟨a.os,a.tape,a.output,a.size,λi f j=>a.block i f kf6⟩
 have key:=λS b P Q R =>
  (((q95 S (b:=b) P Q).kept B Ba).kept F kf7).kept q B7
 obtain⟨u,V,g⟩:=a.a;refine⟨?_,N,⟨L,o⟩,t,?_,⟨u,V,g.aq⟩,Fi _ _ _ _,key _ nb d.1 d.2 k.symm,key _ mb e.1 e.2 m.symm,?_,?_,?_,x.lt o,?_,?_,λad i h=>Bs⟩
 .rw[qzu];exact a.ad
 .exact(c.ac.kept q B7).im
 .exact⟨E,n.1,show O (U W)<=tb by omega,d.1,e.1⟩
 .refine⟨show A≠lm by omega,show A≠tb by omega,show A≠nb by omega,show A≠mb by omega,show lm≠tb by omega,k,m,show tb≠nb by omega,show tb≠mb by omega,v⟩
 .intro l z;cases z
 .grind
 grind
def q6S{L:I}{tk:I->I->I}(h:DO W A tb L q sv st tk V):Oa V A q.h q.e (K q.a) st :=
 ⟨(Cd h.ad),Ca (Iz V A 0 _ _ _ h.ad)<|YY,λr a=>(h.cs r a).1⟩
def q2M(d:A4)(rc:I)(rs:AJ<|AJ (I×A1)×J×J)(dflt:J)(a c b:I):Iu (q0 d rc rs dflt a c b) (λ_=>0) (G Ao 0 0) (G Ao 0 0)=#[G d (K rs) rc,C Y dflt,.map<|H a,C .u16 0,C .u16 0,C .u16 0,C .u16 0,C .u16 0,C .u16 0,C .u16 0,C .u16 0,C .u16 0,C .u16 0,C .u16 0,C .u16 0,C .u16 0,C .u16 0,C .u16 0,C .u16 0,G Ao 0 0,G Ao 0 0,.map<|H c,.map<|H b]:=B6
def q8H(V:X):(Instr.makeMap 178 Ao).run As V=.ok (.map<|H<|O<|U V) (Az V<|.map #[] 0):=B6
def q86(V:X):(Instr.makeMap 179 Ao).run As V=.ok (.map<|H<|O<|U V) (Az V<|.map #[] 0):=B6
def q8L(V:X):(Instr.makeMap 180 Ao).run As V=.ok (.map<|H<|O<|U V) (Az V<|.map #[] 0):=B6
theorem lu(rc:I)(dflt:J)(hr:J8 W ra rs)(c:K rs<=16)(k:∀i (h:i<K rs),rs[i].1.length<=8)(af:∀i (h:i<K rs) j (d:j<rs[i].1.length),rs[i].1[j].1<=3/\rs[i].1[j].2.length<=1000000000):Ar As 57 #[G ra (K rs) rc,C Y dflt] W<|lj W ra rs dflt:=by
 have m:=T hr;have b:=T k;have r:=T af;have m1:=q8H;have m2:=q86;have m3:=q8L;have F:D (∃a,a=(Az (Az (Az (Az W<|.map #[] 0)<|.map #[] 0)<|.map #[] 0)<|M #[G ra (K rs) rc,C Y dflt,.map<|H<|O<|U W,C .u16 0,C .u16 0,C .u16 0,C .u16 0,C .u16 0,C .u16 0,C .u16 0,C .u16 0,C .u16 0,C .u16 0,C .u16 0,C .u16 0,C .u16 0,C .u16 0,C .u16 0,C .u16 0,G Ao 0 0,G Ao 0 0,.map<|H<|O (U W)+1,.map<|H<|O (U W)+1+1] 187)/\a=(Pu W).alloc (M (Iu (q0 ra rc rs dflt (O<|U W) (O (U W)+1)<|O (U W)+1+1) (λ_=>0) (G Ao 0 0)<|G Ao 0 0) 187)):=⟨_,Z,by rw[q2M];rfl⟩
 obtain⟨a,ac,ad⟩:=AE F;have o:=T ad;have s:D<|O (U a)=O (U W)+4:=Bx;have p:D<|A0 W a:=by show Below _ _ _;rw[AE o];exact(((Cm).alloc Ba _).alloc B7 _).alloc B7 _
 have n:D<|A7 a (O (U W)+3) (Iu (q0 ra rc rs dflt (O<|U W) (O (U W)+1)<|O (U W)+1+1) (λ_=>0) (G Ao 0 0)<|G Ao 0 0) 187:=by grind [Cj,lp]
 have A:D<|I4 a (O<|U W) []:=by show I4 _ _ _;rw[AE o];exact(q8l (Cr _) E).kept (L8 _ _ Ao) Ba
 have R:=qiF p (AY<|AE s) E (Cr _) c b (λi h j d=>(r i h j d).2) (Ca (Iz a _ 0 _ _ _ n)<|YY) (Ca (Iz a _ 2 _ _ _ n)<|YX) m A;go_enter func57,ntmps57
 go_wp2_with(fail)
 rw[<-ac];refine Ce R ?_;rintro e V1 ⟨rfl,g⟩;have z:=T g;have aa:=g.ai.a0 p<|Cr _;have ah:=Ca (g.ai.block (O (U W)+3) (AY<|AE s) E) n;have Q:=qj0 aa ah E c b r m g.ac (Z3 c b) (λi h j d f=>Z2 h d f) (by show O (U W)+1+1+1≠O (U W);omega)
 go_wp2_with(fail)
 refine Ce Q ?_;rintro e V2 ⟨rfl,tb,st,tk,ai,u,t⟩;have y:=T u;have B:=T ai;have q:D<|LB rs (FY rs) st tk:=t;have S:=xW (t.lt b).1 c<|q6S u
 go_wp2_with(fail)
 refine Ce S ?_;rintro e V3 ⟨⟨P,rfl,v⟩,ab⟩;have L:=T v;have ae:=q2I m c b Z ⟨Cr _,E⟩ ⟨E,E⟩ ⟨E,E⟩ E E E o z B y q ab;have V:=YI ae v.2.2 Ba
 go_wp2_with(fail)
 refine Ce V ?_;rintro e N ⟨i,an,sa,sc,nf,rfl,_,_,l,_,ag,x,hx,aj⟩;have w:D<|lj W ra rs dflt (Ak<|A8<|O (U W)+1+1+1) N:=by
  refine⟨_,_,_,_,_,_,_,Z,Z,⟨l,Z,Z,Z,Z,q,?_,by simpa using ag,x,P,?_,L,aj⟩⟩
  .intro ak x am al _ h;cases h
  grind
 go_wp2;go_ret;exact w
theorem Z5:∀(q:AJ A1) (i:I),JV n q i<0->i<=16->(∀x∈q,Dn n x=AP)/\i+K q<=16
 |[],i,_,hi=>⟨λx a=>absurd a Ba,kf4⟩
 |x::q,i,h,_=>by
  unfold JV at h;split at h
  .next hc =>
   obtain⟨b,c⟩:=Z5 q (i+1) h E;grind
  omega
theorem qwJ(h:Fd l=AP):K (EZ l)<=8:=by grind [Fd,EZ]
def qvM{s:A1}(h:s∈EZ l):K s<=K l:=by
 unfold EZ at h;split at h
 .cases h
 exact Pm 47 l s h
def quA(h:Dn n l=AP):(De l).1.length<=8/\∀s∈(De l).1,K s<=K l:=by
 have b:=kK h;have c:=YU b;have a:Od n [(Lib.cut l [32]).1,(Lib.cut (Lib.cut l [32]).2.1 [32]).1,(Lib.cut (Lib.cut l [32]).2.1 [32]).2.1]=AP:=by rw[<-b];exact h
 unfold Od at a;rw[Fj]at a;rw[c];have e:(Lib.cut l [32]).1.length<=K l:=Pm 32 l _ (by rw[b];simp);exact⟨qwJ a.1,λs d=>CE (qvM d) e⟩
theorem Z6(h:Fg n l=0):K (Ea l)<=16/\∀r∈Ea l,K r.1<=8/\∀s∈r.1,K s<=2000:=by
 have a:E5 n l<0:=kfK;unfold E5 at a;unfold Ea;split at a
 .omega
 next hb =>
 split at a
 .grind
 next h0 =>
 rw[Cl h0];obtain⟨c,i⟩:=Z5 (Db 10 l) 0 a E;refine⟨B9,λr d=>?_⟩;obtain⟨x,b,rfl⟩:=Kx.1 d;obtain⟨f,g⟩:=quA<|c x b;refine⟨f,λs e=>?_⟩;have:=g s e;have:=Pm 10 l x b;omega
theorem UX(h:Fg n l=0):K ((Ea l).map DV)<=16/\(∀i (h:i<K ((Ea l).map DV)),((Ea l).map DV)[i].1.length<=8)/\∀i (h:i<K ((Ea l).map DV)) j (h2:j<((Ea l).map DV)[i].1.length),((Ea l).map DV)[i].1[j].1<=3/\((Ea l).map DV)[i].1[j].2.length<=1000000000:=by grind [Z6,DH,DV]
structure Gc(w:Ap)(a:A4)(ps:AJ (A1×AK)):Prop where
 aq:∀i (h:i<At ps),∃b off,a=An ⟨b,off,Ao⟩/\b<Au (Av w)/\AC w ⟨b,off+i*2,Ao⟩=An (Ae ⟨ps[i].1.toArray⟩)/\AC w ⟨b,off+i*2+1,Ao⟩=An (Ah ps[i].2)
def Gc.ac{a:A4}(h:Gc w a ps)(hb:A0 w w'):Gc w' a ps :=
 ⟨λi g=>by obtain⟨b,off,d,c,e,f⟩:=h.aq i g;exact⟨b,off,d,CQ c hb.size,Ca (hb.cell (p:=⟨b,_,Ao⟩) c) e,Ca (hb.cell (p:=⟨b,_,Ao⟩) c) f⟩⟩
def GP(t:A1×AK):AK := !t.2||t.1.isEmpty
def Jb(ps:AJ<|A1×AK):AK:=AR (At ps<=4096)&&ps.all GP
theorem lw{a:A4}(cap:I)(h:Gc w a ps):Ar As 70 #[G a (K ps) cap] w λe s=>e=Ak (Ah<|Jb ps)/\A0 w s:=by
 have p:=T h;clear h;by_cases y:(4096:J)<K ps
 .have d:D<|Jb ps=AQ:=by grind [D,Jb]
  go_enter func70,ntmps70;go_wp2;go_ret;rw[AE d];exact⟨Z,Cu _ _⟩
 have d:D<|Jb ps=ps.all GP:=by grind [D,Jb]
 go_enter func70,ntmps70;go_wp2
 go_loopg[10] (K ps) (λg z V=>∃k:I,z=C Y k/\D (k+g=K ps)/\D (A0 w V)/\D (ps.all GP=(ps.drop k).all GP))
 grind [D,Below.refl];obtain⟨k,rfl,m,c,l⟩:=hrel;obtain _|g:=gk
 .have r:¬(k:J)<(K ps:J):=AY<|AE m;have i:D<|Jb ps=AP:=by grind [D]
  clear d l;go_wp2;go_ret;rw[AE i];exact⟨Z,c⟩
 have q:k<K ps:=AY<|AE m;have r:(k:J)<(K ps:J):=E;obtain⟨b,off,rfl,x,u,v⟩:=(p.ac c).aq k q;have j:D<|ps.all GP=(GP ps[k]&&(ps.drop<|k+1).all GP):=BT;clear l;generalize ps[k]=t at *;obtain⟨key,n⟩:=t;have f:D<|A0 w<|Az wr<|M #[Ae ⟨Aw key⟩,Ah n] 146:=c.alloc c.size _;cases n
 .go_wp2;go_roundg g;exact⟨k+1,Bb,B9,f,by have h:=AE j;exact h⟩;omega
 cases A:key.isEmpty
 .have i:D<|Jb ps=AQ:=by grind [D,GP]
  clear j d;go_wp2;go_ret;rw[AE i];exact⟨Z,f⟩
 have o:D<|ps.all GP=(ps.drop<|k+1).all GP:=by grind [GP]
 clear j;go_wp2;go_roundg g;exact⟨k+1,Bb,B9,f,o⟩;omega
def LD(c:CF)(ps:AJ<|A1×AK):AI:=if¬CW c=0 then CW c else if Jb ps=AQ then 7 else 0
def Kt(c:CF)(ps:AJ<|A1×AK):AI×AI:=if¬CW c=0 then(0,0)else if Jb ps=AQ then(0,0)else Dz c.c ((Ea c.e.data.toList).map DV) ps
structure LE(W:Ap)(A:AH)(q:D0)(rs:AJ (AJ (AH×A1)×AI×AI))(dflt:AI)(ps:AJ (A1×AK))(i f:AH)(V:Ap):Prop where
 b:q.a=rs
 k:q.c=dflt
 e:q.i=FL (FY rs)
 o:q.L=2+At (FY rs)
 n:LB rs (FY rs) q.st q.j
 j:∃sts sa sc nf mn mf s,Dv W A q sts (Ac sa (At sts) sc) nf mn mf V/\KW q sts mf/\mn<=i/\At sts<=i+1/\sts[f]?=An s/\Oj rs (ps.take i).reverse s.1
def q0V(h:Z4 W rs dflt A q sts sa sc nf mf V)(d:K rs<=16)(ps:AJ<|A1×AK):LE W A q rs dflt ps 0 0 V:=by
 obtain⟨t,e,a,b,c⟩:=h.first
 exact⟨h.b,h.k,h.e,h.o,h.n,sts,sa,sc,nf,0,mf,t,h.a,h.d,Cr _,h.m,a,UW (l6 h.n b) d c⟩
theorem q2V{h:LE W A q rs dflt ps i f V}(d:K rs<=16)(o:∀i (h:i<K rs),rs[i].1.length<=8)(hk:∀i (h:i<K rs) j (c:j<rs[i].1.length),rs[i].1[j].1<=3/\rs[i].1[j].2.length<=1000000000)(hi:i<K ps)(aa:K ps<=4096)(hb:ps[i].1.length<=maxLen):Ar As 71 #[A8 A,C Y f,.agg #[Ae ⟨ps[i].1.toArray⟩,Ah ps[i].2]] V λe b=>∃a,e=Ak (C Y (a:I))/\LE W A q rs dflt ps (i+1) a b:=by
 obtain⟨ac,sa,sc,nf,mn,mf,s,l,c,R,S,m,n⟩:=h.j;have r:=Z3 d o;have p:Js q.i ps[i].1 ps[i].2<q.L:=by rw[h.e,h.o];exact l5
 refine Ce (q00 l c E E m hb Z p<|by rw[h.o];omega) ?_;rintro e b ⟨a,P,F,N,B,z,y,rfl,u,v,k3,k4,k5,t,Q,w,g,x⟩;refine⟨a,Z,h.b,h.k,h.e,h.o,h.n,P,F,N,B,z,y,t,u,v,E,E,w,?_⟩;have k:(ps.take<|i+1).reverse=(ps[i].1,ps[i].2)::(ps.take i).reverse:=by rw[VA hi,SP];rfl
 rw[k];rw[h.e,h.b]at g;refine UW (l7 h.n (λab hr s hs=>?_) n g) d x;grind [List.getElem_of_mem,Z2]
def q8a(h:LE W A q rs dflt ps (K ps) f V):Ar As 72 #[A8 A,C Y f] V λe b=>e=Ak (Af #[C Y (Dz dflt rs ps).1,C Y (Dz dflt rs ps).2])/\A0 W b:=by obtain⟨t,p,r,o,n,m,s,a,j,k,l,c,d⟩:=h.j;have g:=(a.j f s c).1;rw[LN]at d;rw[h.k,h.b,l9 d]at g;refine Ce (jT a c) ?_;rintro e b ⟨rfl,i⟩;rw[g];exact⟨Z,Cs a.ac<|CG i a.ac.size⟩
def LE.aq(h:LE W A q rs dflt ps i f V)(hb:A0 V V'):LE W A q rs dflt ps i f V':=by obtain⟨k,g,j,e,d,c,s,a,b⟩:=h.j;exact⟨h.b,h.k,h.e,h.o,h.n,k,g,j,e,d,c,s,a.next hb,b⟩
def LE.ac(h:LE W A q rs dflt ps i f V):A0 W V:=by obtain⟨k,g,j,e,d,c,s,a,b⟩:=h.j;exact a.ac
end
end Go.Proofs.YtaehkdnabiccnaaGreatDoor


