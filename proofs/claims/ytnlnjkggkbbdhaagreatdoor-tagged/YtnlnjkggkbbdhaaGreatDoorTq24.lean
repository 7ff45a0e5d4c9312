import Derived.Test.YtnlnjkggkbbdhaaGreatDoorTq18
import Derived.Test.YtnlnjkggkbbdhaaGreatDoorTq20
set_option maxRecDepth 100000
set_option maxHeartbeats 8000000
set_option linter.all false
namespace Go.Proofs.YtnlnjkggkbbdhaaGreatDoor
open Go.Proofs.Tryz
open Go.Value renaming int->I,slice->G
open Option renaming some->U,none->Y
open Go.IntKind renaming i64->K
open Go renaming World->O
open Go.Obj renaming cells->E
open Go.Proofs.Tryz renaming prog->X
open Go.Value renaming int->A6,pointer->A8,string->A9,tuple->Aa,agg->Ab
open Go.Ending renaming returned->Af
open Go.IntKind renaming i64->Ag
open Go renaming World->Ak,Value->Al,Calls->Am
variable{fn:Func}{B N b base g i k last n p q:Nat}{u v v':Al}{u2:Tmp}{A a y:A3}{V V' W W' w:O}{F f x:Int×Int}{R:Except (Int×Int) (DataW Unit×Nat)}{acc bs:A1}{d fm kd l lim z:Int}{r:A5 Int}{c:UInt8}{xs:List Al}{s:ByteArray}{ex:Nat->Prop}{ds:List (DataW Unit)}
section
open Go.RowKit Go.Lib
def ud{P:Program}{p u:Tmp}{ty:TypeId}(h:fn.results=#[.tmp u,.tmp u2,.cell p ty])(b:A3)(w:O)(g:Nat)(t:TypeId)(cs:A3)(c:Nat×Nat)(d:TypeDesc)(k:b.getD p undef=A8 (U ⟨g,0,Y⟩))(j:w.heap[g]?=U (E cs t c))(l:P.underlying ty=U d)(i:(match d with|.struct _|.array _ _=>true|_=>false)=true)(hi:(P.info? ty).map (·.size)=U cs.size)(v f:Al)(m:b.getD u undef=v)(n:b.getD u2 undef=f):(results fn b).run P w=.ok (Aa #[v,f,.agg cs]) w:=by
 have e:(results fn b).run P w=((asAddr (b.getD p undef)).run P w).andThen λa o=>((loadVar ty a).run P o).andThen λv q=>.ok (Aa #[b.getD u undef,b.getD u2 undef,v]) q:=by
  simp only[results,h];simp[Ei,Result.andThen]
 subst m n;rw[e,k];simp only[asAddr,Fq,EA,I5 w g t ty cs c d j l i hi]
def ue{p u:Tmp}{tmps:A3}(h:fn.results=#[.tmp u,.tmp u2,.cell p 76])(b:w.heap[g]?=U (E (BH F) 76))(v a:Al)(c:tmps.getD p undef=A8 (U ⟨g,0,Y⟩))(d:tmps.getD u undef=v)(e:tmps.getD u2 undef=a):(results fn tmps).run X w=.ok (Aa #[v,a,.agg (BH F)]) w :=
 ud h _ _ g _ _ _ _ c b underlying76 rfl (J5 _) v a d e
def J7{p u:Tmp}{A:Act}{R:Ending->O->Prop}{B:Prop}(h:fn.results=#[.tmp u,.tmp u2,.cell p 76])(c:w.heap[g]?=U (E (BH F) 76)/\B)(v a:Al)(d:A.tmps.getD p undef=A8 (U ⟨g,0,Y⟩))(e:A.tmps.getD u undef=v)(f:A.tmps.getD u2 undef=a)(b:A.defers=[])(k:R (Af (Aa #[v,a,.agg (BH F)])) w):bodyPost X fn R .ret A w:=Cc (ue h c.1 v a d e f) b k
structure FO(W:World)(A:A3)(M:Nat)(f:Int×Int)(V:World):Prop where
 box:V.heap[W.heap.size]?=some (.cells A 116)
 flt:V.heap[W.heap.size+1]?=some (.cells (BH (0,0)) 76)
 loc:V.heap[M]?=some (.cells (BH f) 76)
 below:A0 W V
 lt:W.heap.size+1<M
def FO.next{M:Nat}(h:FO W A M f V)(hb:A0 V V'):FO W A M f V' :=
 ⟨(hb.block _ (BC h.box)).trans h.box,(hb.block _ (BC h.flt)).trans h.flt,(hb.block _ (BC h.loc)).trans h.loc,h.below.trans (hb.mono h.below.size),h.lt⟩
def FO.drew{M:Nat}(h:FO W A M f V):FO W A M f V.drew:=⟨h.box,h.flt,h.loc,h.below.drew,h.lt⟩
def FO.put{M:Nat}(h:FO W A M f V)(g:Int×Int):FO W A M g (V.setRow M (BH g)):=by
 have a:=h.lt;exact⟨sx J h.box,sx J h.flt,Ca _ _ _ _ _ _ h.loc,CF h.below J _,h.lt⟩
def dw(h:Ij W A (W.heap.size+1) V)(g:Int×Int):FO W A V.heap.size g ((V.alloc (E (BH (0,0)) 76)).setRow V.heap.size (BH g)):=by
 have a:=BC h.flt;have b:FO W A V.heap.size (0,0) (V.alloc (E (BH (0,0)) 76)) :=
  ⟨(BT _ _ _ J).trans h.box,(BT _ _ _ a).trans h.flt,BI _ _,h.below.alloc J _,a⟩
 exact b.put g
def FO.fin{M:Nat}(h:FO W A M f V)(g:Int×Int):(V.setRow (W.heap.size+1) (BH g)).heap[W.heap.size+1]?=U (E (BH g) 76)/\A0 W (V.setRow (W.heap.size+1) (BH g))/\(V.setRow (W.heap.size+1) (BH g)).heap[M]?=U (E (BH f) 76) :=
 ⟨Ca _ _ _ _ _ _ h.flt,CF h.below J _,(CQ _ _ _ _ (Ao h.lt)).trans h.loc⟩
def PS:∀(k p a x q:Nat),C1 bs lim p->Do bs lim k p a=.ok (x,q)->q=p+k/\C1 bs lim q/\x<(a+1)*16^k
 |0,p,a,x,q,hi,h=>by
  rw[Do]at h;injection h with h;injection h with h1 h2;subst h1 h2;exact⟨Z,hi,J⟩
 |k+1,p,a,x,q,hi,h=>by
  rw[Do]at h
  cases b:bs[p]? with
  |none=>rw[b]at h;cases h
  |some c =>
   rw[b]at h;simp only[]at h;by_cases d:(p:Int)=lim
   ·rw[BA d]at h;cases h
   rw[Bz d]at h
   cases e:Ia c with
   |none=>rw[e]at h;cases h
   |some i =>
    rw[e]at h;obtain⟨j,f,g⟩:=PS k (p+1) (a*16+i) x q (Fp hi b d) h;have l:=QU e;refine⟨J,f,CA g ?_⟩;rw[Jf,JJ (16^k) 16,<-Qo];exact Qa _ J
def PT:∀(w:A1) (p q:Nat),C1 bs lim p->Ci bs lim w p=.ok ((),q)->q=p+w.length/\C1 bs lim q
 |[],p,q,hi,h=>by
  rw[Ci]at h;injection h with h;injection h with _ h2;subst h2;exact⟨Z,hi⟩
 |x::w,p,q,hi,h=>by
  rw[Ci]at h
  cases a:bs[p]? with
  |none=>rw[a]at h;cases h
  |some c =>
   rw[a]at h;simp only[]at h;by_cases b:(p:Int)=lim
   ·rw[BA b]at h;cases h
   rw[Bz b]at h;by_cases d:c=x
   ·rw[BA d]at h;obtain⟨f,e⟩:=PT w (p+1) q (Fp hi a b) h;exact⟨by rw[Cu];omega,e⟩
   rw[Bz d]at h;cases h
def dx(a:Lm bs l lim)(hi:C1 bs lim (p+1))(e:Int):CS bs l p e=(e,(p:Int)):=by
 have b:=hi.1;have c:=hi.2;have d:=a p J;unfold CS;rw[Bz J,Bz J]
def VO(h:BG W' b v bs)(hb:N<b):v.ownBlock≠U N:=λe=>Ao (Fa h.1 e)
def VP{b':Nat}(h:BG W' b v bs)(hb:b'<=b):BG W' b' v bs:=by
 obtain⟨⟨i,d⟩,k,j⟩:=h;refine⟨⟨i,?_⟩,J,j⟩;rcases d with d|⟨g,e,f,a,b,c⟩
 ·exact .inl d
 exact .inr ⟨g,e,f,a,J,c⟩
def VQ(h:BG W' b v bs)(N:Nat)(cs:A3)(n:v.ownBlock≠U N):BG (W'.setRow N cs) b v bs:=by
 obtain⟨⟨k,f⟩,l,m⟩:=h;refine⟨⟨k,?_⟩,by simpa using l,m⟩;rcases f with f|⟨g,i,j,a,b,c,d⟩
 ·exact .inl f
 refine .inr ⟨g,i,j,a,b,(CQ _ _ _ _ (λe=>n ?_)).trans c,d⟩;rw[a,<-e];rfl
def Mc(W:Ak)(r:A5 Int)(e:Ending)(W':Ak):Prop:=match r with
 |.ok (x,q)=>∃v,e=Af (Aa #[v,A6 Ag q,.agg (BH (0,0))])/\BG W' W.heap.size v (Du x)
 |.error f=>e=Af (Aa #[.slice none 0 0,A6 Ag 0,.agg (BH f)])
def FO.ck{f:FuncId}{args:A3}{r:Ending}{Q:Ending->O->Prop}{M:Nat}(h:FO W (BP bs fm d l) M x V)(c:Am X f args V λe a=>e=r/\A0 V a)(k:∀w,Hid (FO W (BP bs fm d l) M x w)->w.cell? ⟨W.heap.size,0,Y⟩=(#[A9 ⟨bs.toArray⟩,I K fm,I K d,I K l]:A3)[0]?->w.cell? ⟨W.heap.size,1,Y⟩=(#[A9 ⟨bs.toArray⟩,I K fm,I K d,I K l]:A3)[1]?->w.cell? ⟨W.heap.size,2,Y⟩=(#[A9 ⟨bs.toArray⟩,I K fm,I K d,I K l]:A3)[2]?->w.cell? ⟨W.heap.size,3,Y⟩=(#[A9 ⟨bs.toArray⟩,I K fm,I K d,I K l]:A3)[3]?->w.cell? ⟨M,0,Y⟩=U (I K x.1)->Q r w):Am X f args V Q :=
 _root_.Go.Proofs.YtnlnjkggkbbdhaaGreatDoor.ck c h.next λw H=>k w H (CL H.out.box).1 (CL H.out.box).2.1 (CL H.out.box).2.2.1 (CL H.out.box).2.2.2 (BB H.out.loc 0)
def FO.st{ops:Array Oper}{rest:List Oper}{o:Oper}{a:Act}{Q:Exit->Act->O->Prop}{M:Nat}(h:FO W (BP bs fm d l) M (0,0) V)(x y:Nat)(c:o.guard=Y)(e:o.op=.store 76 (.tmp x) (.tmp y))(F:Int×Int)(b:a.eval (.tmp x)=A8 (U ⟨M,0,Y⟩)/\a.eval (.tmp y)=.agg (BH F))(k:∀w,Hid (FO W (BP bs fm d l) M F w)->w.cell? ⟨W.heap.size,0,Y⟩=(#[A9 ⟨bs.toArray⟩,I K fm,I K d,I K l]:A3)[0]?->w.cell? ⟨W.heap.size,1,Y⟩=(#[A9 ⟨bs.toArray⟩,I K fm,I K d,I K l]:A3)[1]?->w.cell? ⟨W.heap.size,2,Y⟩=(#[A9 ⟨bs.toArray⟩,I K fm,I K d,I K l]:A3)[2]?->w.cell? ⟨W.heap.size,3,Y⟩=(#[A9 ⟨bs.toArray⟩,I K fm,I K d,I K l]:A3)[3]?->w.cell? ⟨M,0,Y⟩=U (I K F.1)->wpList X ops Q rest (a.put o.dst undef) w):wpList X ops Q (o::rest) a V :=
 En x y c e M F b.1 b.2 h.loc (k _ (h.put F) (CL (h.put F).box).1 (CL (h.put F).box).2.1 (CL (h.put F).box).2.2.1 (CL (h.put F).box).2.2.2 (BB (h.put F).loc 0))
def J8(bs:A1)(fm d l:Int)(i x:Int)(F:Int×Int):Prop:=∀V,Am prog 175 #[Ab #[A9 ⟨bs.toArray⟩,A6 Ag fm,A6 Ag d,A6 Ag l],A6 Ag i] V λe W'=>e=Af (Aa #[A6 Ag x,.agg (BH F)])/\A0 V W'
def PU(bs:A1)(fm d l:Int)(i x:Int)(F:Int×Int):Prop:=∀V,Am prog 106 #[Ab #[A9 ⟨bs.toArray⟩,A6 Ag fm,A6 Ag d,A6 Ag l],A6 Ag i,A9 ⟨#[92,117]⟩] V λe W'=>e=Af (Aa #[A6 Ag x,.agg (BH F)])/\A0 V W'
def Sb(bs:A1)(fm d l:Int)(i:Int)(F:Int×Int):Prop:=∀V,Am prog 47 #[Ab #[A9 ⟨bs.toArray⟩,A6 Ag fm,A6 Ag d,A6 Ag l],A6 Ag i,A6 Ag 9] V λe W'=>e=Af (.agg (BH F))/\A0 V W'
def VR(x:Int):Prop:=∀V,Am prog 176 #[A6 Ag x] V λe W'=>∃v,e=Af v/\BG W' V.heap.size v (Du x)/\A0 V W'
def uf(W:World)(bs:List UInt8)(fm d l:Int)(i:Nat)(af:i<=bs.length)(hb:bs.length<=281474976710656)(R:Except (Int×Int) (Int×Nat))(x y:Int)(F:Int×Int)(ag:0<=x)(ah:x<65536)(ai:0<=y)(aj:y<65536)(hw:(J8 bs fm d l i 0 F/\(F.1==0)=false/\R=.error F)\/(J8 bs fm d l i x (0,0)/\55296<=x/\x<56320/\PU bs fm d l ((i:Int)+4) 0 F/\(F.1==0)=false/\R=.error F)\/(J8 bs fm d l i x (0,0)/\55296<=x/\x<56320/\PU bs fm d l ((i:Int)+4) ((i:Int)+6) (0,0)/\J8 bs fm d l ((i:Int)+6) 0 F/\(F.1==0)=false/\R=.error F)\/(J8 bs fm d l i x (0,0)/\56320<=x/\x<=57343/\Sb bs fm d l ((i:Int)+3) F/\R=.error F)\/(J8 bs fm d l i x (0,0)/\55296<=x/\x<56320/\PU bs fm d l ((i:Int)+4) ((i:Int)+6) (0,0)/\J8 bs fm d l ((i:Int)+6) y (0,0)/\(y<56320\/57343<y)/\Sb bs fm d l ((i:Int)+6+3) F/\R=.error F)\/(J8 bs fm d l i x (0,0)/\(x<55296\/57343<x)/\VR x/\F=(0,0)/\R=.ok (x,i+4))\/(J8 bs fm d l i x (0,0)/\55296<=x/\x<56320/\PU bs fm d l ((i:Int)+4) ((i:Int)+6) (0,0)/\J8 bs fm d l ((i:Int)+6) y (0,0)/\56320<=y/\y<=57343/\VR (65536+(x-55296)*1024+y-56320)/\F=(0,0)/\R=.ok (65536+(x-55296)*1024+y-56320,i+10))):Calls prog 158 #[.agg (BP bs fm d l),.int .i64 i] W λe V=>Mc W R e V/\Below W.heap.size W V:=by
 have HX:=RU W bs fm d l;have n:∀{p:Prop} [Decidable p],¬p->Hid (decide p=false):=λh=>CO h;have C:∀{p:Prop} [Decidable p],p->Hid (decide p=true):=λh=>CH h;unfold BP;rcases hw with⟨k,aa,rfl⟩|⟨k,o,u,r,aa,rfl⟩|⟨k,o,u,r,t,aa,rfl⟩|⟨k,o,u,A,rfl⟩|⟨k,o,u,r,t,h3|h3,A,rfl⟩|⟨k,o|o,B,rfl,rfl⟩|⟨k,o,u,r,t,h3,h4,B,rfl,rfl⟩
 let b:Nat:=20;rotate_left
 let b:Nat:=48;rotate_left
 let b:Nat:=58;rotate_left
 rotate_left 6
 all_goals
  unfold J8 at *
  try unfold PU at *
  try unfold Sb at *
  try unfold VR at *
  try have d1:=(n (p:=x<55296) J).out
  try have d2:=(n (p:=57343<x) J).out
  try have d3:=(n (p:=56320<=x) J).out
  try have P:=n (p:=y<56320) J
  try have P:=C (p:=y<56320) J
  try have Q:=n (p:=57343<y) J
  try have Q:=C (p:=57343<y) J
  clear n C;go_enter func158,ntmps158
  go_wp2_with(first
   |(go_at_call 175;refine G3 (k _) HX.out.next ?_;clear k;intro m ac s;obtain⟨c,f,c2,g⟩:=CL s.out.box)
   |(go_at_call 106;refine a.out.ck (r _) ?_;clear r d1 d2 d3 c f c2 g j a;intro w3 a c f c2 g j)
   |(go_at_call 175;refine a.out.ck (t _) ?_;clear t c f c2 g j a;intro w4 a c f c2 g j)
   |(go_at_call 47;refine a.out.ck (A _) ?_;clear A c f c2 g j a;intro w5 a c f c2 g j)
   |(go_at_call 176;refine(B _).mono ?_;clear B c f c2 g j;rintro e w5 ⟨ak,rfl,w,ad⟩;obtain⟨H,N,L,rfl⟩:=w.2.2;have HO:Hid (BG w5 W.heap.size (.slice H N L) _):=VP w a.out.below.size;have ab:Hid ((Value.slice H N L).ownBlock≠some (W.heap.size+1)):=VO w (BC a.out.flt);clear w;have a:=T (a.out.next ad))
   |((first|((with_reducible refine En 8 16 rfl rfl (m.heap.size) (0,0) ?_ ?_ ?_ ?_);exact Z;exact Z;exact BI m _;refine F8 ?_;intro z q;have a:Hid (FO W (BP bs fm d l) m.heap.size (0,0) z):=q▸dw s.out _;clear q)|((with_reducible refine En 8 16 rfl rfl (m.heap.size) F ?_ ?_ ?_ ?_);exact Z;exact Z;exact BI m _;refine F8 ?_;intro z q;have a:Hid (FO W (BP bs fm d l) m.heap.size F z):=q▸dw s.out _;clear q));generalize m.heap.size=M at *;clear c f c2 g ac s;have j:=BB a.out.loc 0;unfold BH at j;obtain⟨c,f,c2,g⟩:=CL a.out.box)
   |((with_reducible refine a.out.st 8 _ rfl rfl (0,0) ?_ ?_);exact⟨Z,Z⟩;clear c f c2 g j a;intro V3 a c f c2 g j;try(have e1:=P.out;have e2:=Q.out))
   |((with_reducible refine a.out.st 8 _ rfl rfl F ?_ ?_);exact⟨Z,Z⟩;clear c f c2 g j a;intro V3 a c f c2 g j)
   |((with_reducible refine En 6 _ rfl rfl (W.heap.size+1) F ?_ ?_ ?_ ?_);exact Z;exact Z;exact a.out.flt)
   |((with_reducible refine En 6 _ rfl rfl (W.heap.size+1) (0,0) ?_ ?_ ?_ ?_);exact Z;exact Z;exact a.out.flt))
  try exact J7 results158 (a.out.fin _) (.slice none 0 0) (.int .i64 0) rfl rfl rfl rfl ⟨rfl,(a.out.fin _).2.1⟩
  try exact J7 results158 (a.out.fin _) (.slice H N L) _ rfl rfl rfl rfl ⟨⟨_,by congr 4,VQ HO.out _ _ ab.out⟩,(a.out.fin _).2.1⟩
 all_goals
  refine DA (S:=λv=>v.heap[M]?=some (.cells (BH F) 76)) (a.out.loc) Aw ?_;intro D;refine BE 1 4 (.slice none 0 0) D ?_;refine BE 2 5 (.int .i64 0) D ?_;refine tk 0 b (.agg (BH F)) Z Aw EV (λv hZ=>yF 8 hZ Z Z) D ?_;refine C9 3 (λae hK=>?_);rw[BA Aw];refine Hp 76 _ _ Z (W.heap.size+1) (BH F) Z Z 76 (BH (0,0)) a.out.drew.flt (J5 _) Z (M6 _) ?_;refine hK.out _ _ (a.out.drew.fin F).2.2 (λ_=>?_);clear hK;refine Cv ?_;dsimp only[b];go_simp;clear c f c2 g j;go_wp2;exact J7 results158 (a.out.drew.fin F) _ _ Z Z Z Z ⟨Z,(a.out.drew.fin F).2.1⟩
def dC(a:Lm bs l lim)(hi:C1 bs lim i)(hb:bs.length<=281474976710656)(h:Do bs lim 4 i 0=.error f):J8 bs fm d l i 0 f:=λV=>ke4
def dD{x:Nat}(a:Lm bs l lim)(hi:C1 bs lim i)(hb:bs.length<=281474976710656)(h:Do bs lim 4 i 0=.ok (x,q)):J8 bs fm d l i x (0,0):=λV=>ke4
def dE(a:Lm bs l lim)(hi:C1 bs lim (p+1)):Sb bs fm d l p (9,(p:Int)):=λV=>by have h:=N6 V bs fm d l p 9;rw[dx a hi]at h;exact h
def uo(W:O)(bs:A1)(fm d l lim:Int)(i:Nat)(a:Lm bs l lim)(hi:C1 bs lim i)(hb:bs.length<=281474976710656):Am X 158 #[.agg (BP bs fm d l),I K i] W λe B=>Mc W (FU bs lim i) e B/\A0 W B:=by
 have b:=uf W bs fm d l i hi.1 hb;have v:∀z:Int,¬z=0->(z==0)=false:=λz h=>B3
 unfold FU
 cases n:Do bs lim 4 i 0 with
 |error f=>exact b _ 0 0 f Ay Ay Ay Ay (.inl ⟨dC a hi hb n,v _ (PA bs lim 4 i 0 f.1 f.2 n),rfl⟩)
 |ok r =>
  obtain⟨x,q⟩:=r;simp only[];obtain⟨w,s,Q⟩:=PS 4 i 0 x q hi n;have ab:x<65536:=by simpa using Q
  have g:=dD (fm:=fm) (d:=d) a hi hb n;by_cases k:Ks x=true
  ·rw[BA k];unfold Ks at k;have F:=CD k;rw[show(q:Int)-1=(i:Int)+3 by omega];exact b _ x 0 _ J J Ay Ay (.inr (.inr (.inr (.inl ⟨g,J,J,λV=>dE a (p:=i+3) (by rw[w]at s;exact s) V,Z⟩))))
  rw[Bz k];have aa:¬(56320<=x/\x<=57343):=λh=>k (CH h);by_cases j:NQ x=true
  ·rw[BA j];unfold NQ at j;have F:=CD j;subst w;have c:=λV=>RV V bs fm d l lim (i+4) [92,117] Ay a s hb
   cases t:Ci bs lim [92,117] (i+4)with
   |error f =>
    rw[t]at c;exact b _ x 0 f J J Ay Ay (.inr (.inl ⟨g,J,J,c,v _ (Ls bs lim [92,117] (i+4) f.1 f.2 t),Z⟩))
   |ok r =>
    obtain⟨ae,D⟩:=r;simp only[];obtain⟨H,A⟩:=PT [92,117] (i+4) D s t;have L:D=i+6:=by simpa using H
    subst L;rw[t]at c
    cases o:Do bs lim 4 (i+6) 0 with
    |error f=>exact b _ x 0 f J J Ay Ay (.inr (.inr (.inl ⟨g,J,J,c,dC a A hb o,v _ (PA bs lim 4 (i+6) 0 f.1 f.2 o),rfl⟩)))
    |ok r =>
     obtain⟨y,S⟩:=r;simp only[];obtain⟨N,P,R⟩:=PS 4 (i+6) 0 y S A o;have ac:y<65536:=by simpa using R
     have C:=dD (fm:=fm) (d:=d) a A hb o;subst N;by_cases m:Ks y=true
     ·rw[BA m];unfold Ks at m;have h4:=CD m;rw[show 65536+((x:Int)-55296)*1024+((y:Int)-56320)=65536+((x:Int)-55296)*1024+(y:Int)-56320 by omega];exact b _ x y _ J J J J (.inr (.inr (.inr (.inr (.inr (.inr ⟨g,J,J,c,C,J,J,λV=>dv V _ J J J,Z,Z⟩))))))
     rw[Bz m,show((i+6+4:Nat):Int)-1=(i:Int)+9 by omega];have ad:¬(56320<=y/\y<=57343):=λh=>m (CH h);exact b _ x y _ J J J J (.inr (.inr (.inr (.inr (.inl ⟨g,J,J,c,C,J,λV=>dE a (p:=i+9) P V,Z⟩)))))
  rw[Bz j];have u:¬(55296<=x/\x<=56319):=λh=>j (CH h);subst w;exact b _ x 0 _ J J Ay Ay (.inr (.inr (.inr (.inr (.inr (.inl ⟨g,J,λV=>dv V _ J J J,Z,Z⟩))))))
def ur(r:Int)(a:0<=r)(b:r<=127):runeCells r=[I .u8 r]:=by unfold runeCells;rw[encodeRuneZ_one a b];rfl
def VT(W:O)(bs:A1)(fm d l:Int)(i:Nat)(x:Int×Int)(p:CS bs l i 9=x)(t:Cy bs l i=false\/(Cy bs l i=true/\∃c,bs[i]?=U c/\∀x,x∈[34,92,47,98,102,110,114,116,117]->¬c.toNat=x)):Am X 135 #[.agg (BP bs fm d l),I K i] W λe g=>Mc W (.error x) e g/\A0 W g:=by
 have n:=PF fm d p;have r:=RU W bs fm d l;clear p;unfold BP;rcases t with b|⟨b,c,f,q⟩
 all_goals
  have o:=J6 fm d b;clear b
  try
   have v:=DI bs i c f;have u:=Cf f;simp only[Ho,Nn,Qu,WM,forall_eq]at q;have C:=BS (c:=c) 34 J;have F:=BS (c:=c) 92 J;have D:=BS (c:=c) 47 J;have H:=BS (c:=c) 98 J;have w:=BS (c:=c) 102 J;have y:=BS (c:=c) 110 J;have z:=BS (c:=c) 114 J;have A:=BS (c:=c) 116 J;have B:=BS (c:=c) 117 J;clear f q
  go_enter func135,ntmps135
  go_wp2_with(first
   |(go_at_call 68;refine CT (o _) r.next (λ_ h=>h.box) ?_;clear o;intro L s j k c2 m)
   |(go_at_call 47;refine CT (n _) s.next (λ_ h=>h.box) ?_;clear n j k c2 m;intro N a j k c2 m)
   |(refine En 6 _ Z Z (W.heap.size+1) x Z Z ?_ ?_;exact a.flt))
  exact J7 results135 (Gu a Cm _) (G Y 0 0) (I K 0) Z Z Z Z ⟨Z,(Gu a Cm _).2⟩
def Md(W:O)(bs:A1)(fm d l:Int)(i:Nat)(c:UInt8)(b:bs[i]?=U c)(j:Cy bs l i=true)(hb:bs.length<=281474976710656)(v:Nat)(r:Int)(m:c.toNat=v)(n:(v,r)∈([(34,34),(92,92),(47,47),(98,8),(102,12),(110,10),(114,13),(116,9)]:List (Nat×Int))):Am X 135 #[.agg (BP bs fm d l),I K i] W λe f=>Mc W (.ok (r,i+1)) e f/\A0 W f:=by
 have x:=PG b m;have w:=Cf b;have g:=J6 fm d j;have p:=RU W bs fm d l;clear j b m;unfold BP;simp only[Ho,OH,Nn,Qu]at n;rcases n with h|h|h|h|h|h|h|h
 all_goals
  obtain⟨rfl,rfl⟩:=h
 let r:Int:=34;rotate_left
 let r:Int:=92;rotate_left
 let r:Int:=47;rotate_left
 let r:Int:=8;rotate_left
 let r:Int:=12;rotate_left
 let r:Int:=10;rotate_left
 let r:Int:=13;rotate_left
 let r:Int:=9;rotate_left
 all_goals
  have q:runeCells r=[I .u8 r]:=ur r (CD Z) (CD Z);go_enter func135,ntmps135
  go_wp2_with(first
   |(go_at_call 68;refine CT (g _) p.next (λ_ h=>h.box) ?_;clear g;intro o a s t c2 u)
   |(refine En 6 _ Z Z (W.heap.size+1) (0,0) Z Z ?_ ?_;exact(a.next (OP _)).flt))
  have k:=(PR o r [I .u8 r] 1 Z q).1;exact J7 results135 (Gu (a.next (OP _)) Cm _) (G (U ⟨o.heap.size,0,Y⟩) 1 1) (I K ((i:Int)+1)) rfl rfl rfl rfl ⟨⟨_,rfl,VQ (VP k a.below.size) _ _ (VO k (BC a.flt))⟩,(Gu (a.next (OP _)) Cm _).2⟩
def us(W:O)(bs:A1)(fm d l lim:Int)(i:Nat)(hb:bs.length<=281474976710656)(c:UInt8)(k:bs[i]?=U c)(p:Cy bs l i=true)(t:c.toNat=117)(s:Lm bs l lim)(hi:C1 bs lim (i+1)):Am X 135 #[.agg (BP bs fm d l),I K i] W λe b=>Mc W (FU bs lim (i+1)) e b/\A0 W b:=by
 have F:=PG k t;have D:=Cf k;have n:=J6 fm d p;have u:=RU W bs fm d l;have o:∀V,Am X 158 #[Ab #[A9 ⟨bs.toArray⟩,I K fm,I K d,I K l],I K ((i:Int)+1)] V λe b=>Mc V (FU bs lim (i+1)) e b/\A0 V b:=λV=>uo V bs fm d l lim (i+1) s hi hb;clear p k t s hi;generalize FU bs lim (i+1)=R at *;unfold BP;go_enter func135,ntmps135
 go_wp2_with(first
  |(go_at_call 68;refine CT (n _) u.next (λ_ h=>h.box) ?_;clear n;intro H g w x c2 y))
 refine(o _).mono ?_;clear o w x c2 y;rintro e L ⟨q,z⟩;have a:=T (g.next z)
 cases R with
 |error f =>
  obtain rfl:=q
  go_wp2_with(first
   |(refine En 6 68 Z Z (W.heap.size+1) f Z Z ?_ ?_;exact a.flt))
  exact J7 results135 (Gu a Cm _) (G Y 0 0) (I K 0) Z Z Z Z ⟨Z,(Gu a Cm _).2⟩
 |ok r =>
  obtain⟨v,rfl,j⟩:=q;obtain⟨A,C,B,rfl⟩:=j.2.2;have m:=T j;clear j
  go_wp2_with(first
   |(refine En 6 68 Z Z (W.heap.size+1) (0,0) Z Z ?_ ?_;exact a.flt))
  exact J7 results135 (Gu a Cm _) (G A C B) (I K r.2) Z Z Z Z ⟨⟨_,Z,VQ (VP m g.below.size) _ _ (VO m (BC g.flt))⟩,(Gu a Cm _).2⟩
def ut(W:O)(bs:A1)(fm d l lim:Int)(i:Nat)(g:Lm bs l lim)(hi:C1 bs lim i)(hb:bs.length<=281474976710656):Am X 135 #[.agg (BP bs fm d l),I K i] W λe s=>Mc W (Fw bs lim i) e s/\A0 W s:=by
 unfold Fw
 cases a:bs[i]? with
 |none=>exact VT W bs fm d l i _ (Lu hi.1 a 9) (.inl (K2 a))
 |some c =>
  simp only[];by_cases f:(i:Int)=lim
  ·rw[BA f];exact VT W bs fm d l i _ (IC g a f 9) (.inl (Jw g a f))
  rw[Bz f];have b:=Lv g hi a f;by_cases o:c.toNat=34
  ·rw[BA o];exact Md W bs fm d l i c a b hb 34 34 o Ay
  rw[Bz o];by_cases q:c.toNat=92
  ·rw[BA q];exact Md W bs fm d l i c a b hb 92 92 q Ay
  rw[Bz q];by_cases p:c.toNat=47
  ·rw[BA p];exact Md W bs fm d l i c a b hb 47 47 p Ay
  rw[Bz p];by_cases r:c.toNat=98
  ·rw[BA r];exact Md W bs fm d l i c a b hb 98 8 r Ay
  rw[Bz r];by_cases h:c.toNat=102
  ·rw[BA h];exact Md W bs fm d l i c a b hb 102 12 h Ay
  rw[Bz h];by_cases j:c.toNat=110
  ·rw[BA j];exact Md W bs fm d l i c a b hb 110 10 j Ay
  rw[Bz j];by_cases k:c.toNat=114
  ·rw[BA k];exact Md W bs fm d l i c a b hb 114 13 k Ay
  rw[Bz k];by_cases m:c.toNat=116
  ·rw[BA m];exact Md W bs fm d l i c a b hb 116 9 m Ay
  rw[Bz m];by_cases n:c.toNat=117
  ·rw[BA n];exact us W bs fm d l lim i hb c a b n g (Fp hi a f)
  rw[Bz n];exact VT W bs fm d l i _ (J4 g hi a f 9) (.inr ⟨b,c,a,by simp[*]⟩)
def dF(h:BG W b v bs)(f:A0 W W'):BG W' b v bs:=by
 obtain⟨⟨k,e⟩,l,m⟩:=h;refine⟨⟨k,?_⟩,C7 l f.size,m⟩;rcases e with e|⟨g,i,j,a,b,c,d⟩
 ·exact .inl e
 exact .inr ⟨g,i,j,a,b,(f.block _ (BC c)).trans c,d⟩
structure IF(W:World)(A:A3)(v:Value)(acc:A1)(V:World):Prop where
 box:V.heap[W.heap.size]?=some (.cells A 116)
 flt:V.heap[W.heap.size+1]?=some (.cells (BH (0,0)) 76)
 own:BG V (W.heap.size+2) v acc
 below:A0 W V
def IF.next(h:IF W A v acc V)(hb:A0 V V'):IF W A v acc V' :=
 ⟨(hb.block _ (BC h.box)).trans h.box,(hb.block _ (BC h.flt)).trans h.flt,dF h.own hb,h.below.trans (hb.mono h.below.size)⟩
def IF.drew(h:IF W A v acc V):IF W A v acc V.drew:=⟨h.box,h.flt,h.own,h.below.drew⟩
def IF.grow{acc':A1}(h:IF W A v acc V)(a:V.grownBy V' v.ownBlock)(d:BG V' (W.heap.size+2) v' acc'):IF W A v' acc' V':=by
 have b:∀k,k<W.heap.size+2->U k≠v.ownBlock:=λk f e=>Ao (Fa h.own.1 e.symm)
 exact⟨(a.block _ (BC h.box) (b _ J)).trans h.box,(a.block _ (BC h.flt) (b _ J)).trans h.flt,d,
  h.below.trans ⟨a.os,a.tape,a.output,a.size,λi c=>a.block i (CA c h.below.size) (b _ J)⟩⟩
def LA(V:O)(f:Int×Int):A0 V ((V.alloc (E (BH (0,0)) 76)).setRow V.heap.size (BH f)):=CF BN (BM _) _
def IF.fin(h:IF W A v acc V)(g:Int×Int):(V.setRow (W.heap.size+1) (BH g)).heap[W.heap.size+1]?=U (E (BH g) 76)/\A0 W (V.setRow (W.heap.size+1) (BH g)) :=
 ⟨Ca _ _ _ _ _ _ h.flt,CF h.below J _⟩
def uK(W:O)(A:A3):IF W A (G Y 0 0) [] ((W.alloc (E A 116)).alloc (E (BH (0,0)) 76)) :=
 ⟨(Ob W A).box,(Ob W A).flt,⟨FQ _ _ _ _,Az,Y,0,0,rfl⟩,(Ob W A).below⟩
def PV(r:A5 A1)(e:Ending):Prop:=match r with
 |.ok (x,q)=>e=Af (Aa #[A9 ⟨x.toArray⟩,A6 Ag q,.agg (BH (0,0))])
 |.error f=>e=Af (Aa #[A9 ⟨#[]⟩,A6 Ag 0,.agg (BH f)])
def uL(a:Lm bs l lim)(b:k<bs.length)(h:(k:Int)<lim):min (bs.length:Int) l=min (bs.length:Int) lim:=by
 have c:=a k b;have d:=a (bs.length-1) J;by_cases e:l<bs.length
 ·have f:=a l.toNat J;have g:=a (l.toNat-1) J;omega
 omega
def uM(bs:A1)(p j:Nat):(⟨bs.toArray⟩:ByteArray).extract p (p+j)=⟨(EO bs p j).toArray⟩:=by
 apply Mr;apply WN.1;rw[SL];simp[EO]
def uN{l:A1}(h:BG W b v l)(f:0<l.length):∃g a,v=G (U ⟨g,0,Y⟩) l.length a:=by
 rcases h.1.2 with⟨_,d⟩|⟨g,a,c,e,_⟩
 ·omega
 exact⟨g,a,e⟩
def uO{cap:Nat}{l:A1}(h:BG W b (G (U ⟨g,0,Y⟩) l.length cap) l):∀j u,(l.map Cg)[j]?=U u->W.cell? ((⟨g,0,Y⟩:Addr).add j)=U u:=h.1.cells (g:=g) rfl
def uP{l:A1}(h:BG W base v bs)(a:W'.ownsRow base 5 1 v' (bs.length+l.length) (bs.map Cg++l.map Cg))(b:W.grownBy W' v.ownBlock):BG W' base v' (bs++l):=by
 refine⟨by rw[BK,G9];exact a,C7 h.2.1 b.size,?_⟩;rcases a.2 with⟨e,_⟩|⟨g,c,d,e,_⟩
 ·exact⟨Y,0,0,e⟩
 exact⟨_,_,_,e⟩
def uQ(l:A1):∀u∈l.map Cg,u.oneCell'=true:=λu a=>by
 obtain⟨b,_,rfl⟩:=Mt.1 a;rfl
def uR(r:Int):0<(Du r).length:=by
 unfold Du;rw[Eo];exact(encodeRuneZ_length r).1
def dG{r:Int}(hi:C1 bs lim p)(h:Fw bs lim p=.ok (r,q)):C1 bs lim q/\p<q:=by
 unfold Fw at h
 cases g:bs[p]? with
 |none=>rw[g]at h;cases h
 |some c =>
  rw[g]at h;simp only[]at h;by_cases i:(p:Int)=lim
  ·rw[BA i]at h;cases h
  rw[Bz i]at h;have j:=Fp hi g i
  repeat' split at h
  all_goals first
   |(cases h;done)
   |(injection h with h;injection h with _ h;subst h;exact⟨j,J⟩)
   |skip
  rename_i hu
  unfold FU at h
  cases b:Do bs lim 4 (p+1) 0 with
  |error f=>rw[b]at h;cases h
  |ok x =>
   obtain⟨x,q1⟩:=x;obtain⟨t,k,_⟩:=PS 4 (p+1) 0 x q1 j b;rw[b]at h;simp only[]at h;split at h
   ·cases h
   split at h
   ·cases d:Ci bs lim [92,117] q1 with
    |error f=>rw[d]at h;cases h
    |ok s =>
     obtain⟨u,a⟩:=s;obtain⟨l,m⟩:=PT [92,117] q1 a k d;have v:a=q1+2:=l;rw[d]at h;simp only[]at h
     cases e:Do bs lim 4 a 0 with
     |error f=>rw[e]at h;cases h
     |ok y =>
      obtain⟨y,o⟩:=y;obtain⟨w,n,_⟩:=PS 4 a 0 y o m e;rw[e]at h;simp only[]at h;split at h
      ·injection h with h;injection h with _ h;subst h;exact⟨n,J⟩
      cases h
   injection h with h;injection h with _ h;subst h;exact⟨k,J⟩
def uS(r:Int):(Du r).length<=4:=by
 unfold Du;rw[Eo];exact(encodeRuneZ_length r).2
def PW(W:O)(bs:A1)(fm d l lim:Int)(i:Nat)(hl:Lm bs l lim)(hi:C1 bs lim (i+1))(hb:bs.length<=281474976710656)(br:lim<=200000000):Am X 107 #[.agg (BP bs fm d l),I K i] W λe W'=>PV (Ct bs lim (bs.length+1-(i+1)) (i+1) [] 0) e/\A0 W W':=by
 obtain⟨i0,bb,bf,bg,bh⟩:=DZ Tryz.infoU8;obtain⟨ak,F⟩:∃ak,Hid (Ct bs lim (bs.length+1-(i+1)) (i+1) [] 0=ak):=⟨_,show _=_ from rfl⟩
 rw[F.out];have b3:=hi.1;have ca:=M5 bs;have HL:=T hl;have Q:=T hi;have c:=Od bs fm d l;have x:=Oe bs fm d l;have a:∀V (k:Nat),C1 bs lim k->Am X 135 #[Ab #[A9 ⟨bs.toArray⟩,I K fm,I K d,I K l],I K k] V λe W'=>Mc V (Fw bs lim k) e W'/\A0 V W':=λV k hk=>ut V bs fm d l lim k hl hk hb;clear hl hi;unfold BP;go_enter func107,ntmps107;go_wp2
 go_loopg[1,7] (bs.length+1-(i+1)) (λg b0 bz wr=>∃(k:Nat) (D:A1) (al:A4) (ap am:Nat),b0=I K k/\bz=G al ap am/\Hid (bs.length+1<=k+g)/\Hid (D.length<=4*k)/\Hid (IF W (BP bs fm d l) (G al ap am) D wr)/\Hid (C1 bs lim k)/\Hid (Ct bs lim g k D D.length=ak))
 case atStart=>exact⟨i+1,[],Y,0,0,rfl,rfl,AL,DK _,uK _ _,Q,F⟩
 case round =>
  clear F Q;obtain⟨k,D,al,ap,am,rfl,rfl,R,z,b,Q,F⟩:=hrel;have bq:=Q.1;obtain⟨g,rfl⟩:∃g,gk=g+1:=⟨gk-1,Ao R.out⟩
  obtain⟨o,s,c2,t⟩:=CL b.box;have A:=λV=>c V k;have L:=λV=>x V k 9;have m:=F.out;rw[Ct]at m
  cases u:bs[k]? with
  |none =>
   rw[u]at m;simp only[]at m;rw[K2 u]at A;rw[Lu bq u]at L;have v:=T m.symm;clear m u x c a F R z
   go_wp2_with(first
    |(go_at_call 68;refine CT (A _) b.next (λ_ h=>h.box) ?_;clear A o s c2 t;intro w2 w o s c2 t)
    |(go_at_call 47;refine CT (L _) w.next (λ_ h=>h.box) ?_;clear L o s c2 t;intro N H o s c2 t)
    |(refine En 6 29 Z Z (W.heap.size+1) (9,(k:Int)) Z Z ?_ ?_;exact H.flt))
   have B:=H.fin (9,(k:Int));refine J7 results107 B (A9 ⟨#[]⟩) (I K 0) Z Z Z Z ⟨?_,B.2⟩;rw[v.out];rfl
  |some P =>
   rw[u]at m;simp only[]at m;have bo:=λV=>DI bs k P u V;have bp:=Cf u;by_cases C:(k:Int)=lim
   ·rw[BA C]at m;rw[Jw HL u C]at A;rw[IC HL u C]at L;have v:=T m.symm;clear m u x c a F R z C bo
    go_wp2_with(first
     |(go_at_call 68;refine CT (A _) b.next (λ_ h=>h.box) ?_;clear A o s c2 t;intro w2 w o s c2 t)
     |(go_at_call 47;refine CT (L _) w.next (λ_ h=>h.box) ?_;clear L o s c2 t;intro N H o s c2 t)
     |(refine En 6 29 Z Z (W.heap.size+1) (8,(k:Int)) Z Z ?_ ?_;exact H.flt))
    have B:=H.fin (8,(k:Int));refine J7 results107 B (A9 ⟨#[]⟩) (I K 0) Z Z Z Z ⟨?_,B.2⟩;rw[v.out];rfl
   rw[Bz C]at m;rw[Lv HL Q u C]at A;rw[J4 HL Q u C]at L;by_cases ab:P.toNat<32
   ·rw[Bz J,Bz J,BA ab]at m;have v:=T m.symm;have bm:(P.toNat:Int)<32:=J
    clear m u x c a F R z C ab
    go_wp2_with(first
     |(go_at_call 68;refine CT (A _) b.next (λ_ h=>h.box) ?_;clear A o s c2 t;intro w2 w o s c2 t)
     |(go_at_call 47;refine CT (L _) w.next (λ_ h=>h.box) ?_;clear L o s c2 t;intro N H o s c2 t)
     |(refine En 6 29 Z Z (W.heap.size+1) (9,(k:Int)) Z Z ?_ ?_;exact H.flt))
    have B:=H.fin (9,(k:Int));refine J7 results107 B (A9 ⟨#[]⟩) (I K 0) Z Z Z Z ⟨?_,B.2⟩;rw[v.out];rfl
   have bm:decide ((P.toNat:Int)<32)=false:=Ax
   have cb:32<=(P.toNat:Int):=J
   clear L;by_cases n:P.toNat=34
   ·rw[BA ⟨n,trivial⟩]at m;have v:=T m.symm;have bv:((P.toNat:Int)==34)=true:=by rw[n];rfl
    have ba:∀V,IF W (BP bs fm d l) (G al ap am) D V->(convert 38 9 (G al ap am)).run X V=.ok (A9 ⟨D.toArray⟩) V:=λV h=>P4 h.own;clear m u x c a F R z C ab n
    go_wp2_with(first
     |(go_at_call 68;refine CT (A _) b.next (λ_ h=>h.box) ?_;clear A o s c2 t;intro w2 w o s c2 t;have b2:=ba _ w;clear ba)
     |(refine En 6 73 Z Z (W.heap.size+1) (0,0) Z Z ?_ ?_;exact w.flt))
    have B:=w.fin (0,0);refine J7 results107 B (A9 ⟨D.toArray⟩) (I K ((k:Int)+1)) Z Z Z Z ⟨?_,B.2⟩;rw[v.out];rfl
   rw[Bz (λh=>n h.1)]at m;have bv:((P.toNat:Int)==34)=false:=Ax
   by_cases ac:P.toNat=92
   ·rw[BA ⟨ac,trivial⟩]at m;have bw:((P.toNat:Int)==92)=true:=by rw[ac];rfl
    have ae:=λV=>a V (k+1) (Fp Q u C);rw[show((k+1:Nat):Int)=(k:Int)+1 by omega]at ae;have az:=λr q h=>dG (r:=r) (q:=q) (Fp Q u C) h;have a8:=λf=>Vi bs lim (k+1) f
    cases ai:Fw bs lim (k+1)with
    |error f =>
     rw[ai]at m ae;have v:Hid (ak=.error f):=m.symm;have b7:(f.1==0)=false:=Au (Vi bs lim (k+1) f.1 f.2 ai)
     clear m u x c a F R z C ab n ac az a8 ai
     go_wp2_with(first
      |(go_at_call 68;refine CT (A _) b.next (λ_ h=>h.box) ?_;clear A o s c2 t;intro w2 w o s c2 t)
      |(go_at_call 135;refine(ae _).mono ?_;clear ae o s c2 t;rintro e N ⟨he,aw⟩;obtain rfl:=he;have H:=T (w.next aw))
      |(refine En 10 83 Z Z (N.heap.size) (f) Z Z ?_ ?_;exact BI N _;refine F8 ?_;intro V4 aa;have y:=T (aa▸H.next (LA _ _));have HM:Hid (V4.heap[N.heap.size]?=U (E (BH (f)) 76)):=aa▸Ca _ _ _ _ _ _ (BI _ _);have a4:=T (BC H.flt);clear aa;generalize N.heap.size=M at *;have u0:=BB HM 0;unfold BH at u0))
     refine DA (S:=λa6=>a6.heap[M]?=U (E (BH f) 76)) (HM) Aw ?_;intro hS;refine BE 1 4 (A9 ⟨#[]⟩) hS ?_;refine BE 2 5 (I K 0) hS ?_;refine BL 0 87 (.agg (BH f)) Z (λa6 hZ=>yF 10 hZ Z Z) hS ?_;refine C9 3 (λb1 hK=>?_);rw[BA Aw];refine Hp 76 _ _ Z (W.heap.size+1) (BH f) Z Z 76 (BH (0,0)) y.drew.flt (J5 _) Z (M6 _) ?_;refine hK.out _ _ (sx (Ao a4.out) hS) (λ_=>?_);clear hK;refine Cv ?_;go_simp;clear u0;go_wp2;have B:=y.drew.fin (f);refine J7 results107 B (A9 ⟨#[]⟩) (I K 0) Z Z Z Z ⟨?_,B.2⟩;rw[v.out];rfl
    |ok bx =>
     obtain⟨r,q⟩:=bx;rw[ai]at m ae;have HN:Hid (Ct bs lim g q (D++Du r) (D++Du r).length=ak):=m;obtain⟨be,bd⟩:=az r q ai;have bl:=T be;have a3:=T bd;have b9:=uS r;have bu:=uR r;have bn:D.length<=800000000:=Aq z.out Q.2
     clear m u x c a F C ab n ac az a8 ai be bd
     go_wp2_with(first
      |(go_at_call 68;refine CT (A _) b.next (λ_ h=>h.box) ?_;clear A o s c2 t;intro w2 w o s c2 t)
      |(go_at_call 135;refine(ae _).mono ?_;clear ae o s c2 t;rintro e N ⟨he,aw⟩;obtain⟨cc,rfl,hO⟩:=he;obtain⟨vg,vc,rfl⟩:=uN hO bu;have bj:=T hO;clear hO;have H:=T (w.next aw))
      |(refine En 10 83 Z Z (N.heap.size) (0,0) Z Z ?_ ?_;exact BI N _;refine F8 ?_;intro V4 aa;have y:=T (aa▸H.next (LA _ _));have HM:Hid (V4.heap[N.heap.size]?=U (E (BH (0,0)) 76)):=aa▸Ca _ _ _ _ _ _ (BI _ _);have bk:=T (aa▸dF bj (LA _ _));have a4:=T (BC H.flt);clear aa;generalize N.heap.size=M at *;have u0:=BB HM 0;unfold BH at u0)
      |(at_builtin;(refine JG _ Z _ _ 38 Z (W.heap.size+2) 5 i0 (I .u8 0) 1 1 underlying38 bb bf bg bh Z Ay _ _ _ Z y.own.1 ⟨vg,0,Y⟩ (Du r).length vc ((Du r).map Cg) Z Az (uO bk) (uQ _) AC J y.own.2.1 ?_);intro v' w5 aj af a1;clear a1;have ad:=uP y.own aj af;obtain⟨a5,n5,c5,rfl⟩:=ad.2.2;have au:=T (y.grow af ad);clear aj af ad))
     go_roundg g
     case measure=>omega
     case rel=>exact⟨q,D++Du r,a5,n5,c5,rfl,rfl,by show _<=_;have:=R.out;have:=a3.out;omega,by show _<=_;rw[BK];have:=z.out;have:=a3.out;omega,au,bl,HN⟩
   rw[Bz (λh=>ac h.1)]at m;have bw:((P.toNat:Int)==92)=false:=Ax
   have a0:(k:Int)<lim:=Ao Q.2
   have bt:=uL HL bp a0;obtain⟨nn,aq⟩:∃nn:Nat,(nn:Int)=min (bs.length:Int) lim:=⟨(min (bs.length:Int) lim).toNat,J⟩
   have ah:=sR HL aq Q u C n ac ab D (g+1) R.out;rw[F.out]at ah;rw[<-aq]at bt;have cG:=λV=>uJ V bs k nn P u hb J;have b8:nn<=bs.length:=J
   have a7:=x;obtain⟨j,av,ax⟩:∃j av,Of bs nn k P=(j,av):=⟨_,_,rfl⟩
   rw[ax]at ah cG;cases av
   ·simp only[]at ah;obtain⟨ag,ao⟩:=ah;have v:=T ao;have L:=λV=>x V (k+j) 9;rw[show((k+j:Nat):Int)=(k:Int)+(j:Int) by omega]at L;have bc:=ag.1;generalize CS bs l (k+j) 9=xx at *;clear m u x a7 c a F C ab n ac aq ax ag ao a0 z;have an:∀V,Am X 136 #[A9 ⟨bs.toArray⟩,I K k,I K nn] V λe W'=>e=Af (Aa #[I K j,.bool false])/\W'=V:=cG;clear cG
    go_wp2_with(first
     |(go_at_call 68;refine CT (A _) b.next (λ_ h=>h.box) ?_;clear A o s c2 t;intro w2 w o s c2 t)
     |(go_at_call 136;refine(an _).mono ?_;clear an;rintro e N ⟨rfl,a2⟩;subst a2)
     |(go_at_call 47;refine CT (L _) w.next (λ_ h=>h.box) ?_;clear L o s c2 t;intro w4 y o s c2 t)
     |(refine En 6 54 Z Z (W.heap.size+1) (xx) Z Z ?_ ?_;exact y.flt))
    have B:=y.fin (xx);refine J7 results107 B (A9 ⟨#[]⟩) (I K 0) Z Z Z Z ⟨?_,B.2⟩;rw[v.out];rfl
   simp only[]at ah;obtain⟨b4,ag,b5,ao⟩:=ah;have HN:=T ao.symm;have bi:=T ag;have bc:=ag.1;have b6:((k+j:Nat):Int)<=200000000:=SX ag.2 br;have ay:=VA (bs:=bs) (p:=k) (k:=j) bc;have ar:Hid ((⟨bs.toArray⟩:ByteArray).extract (k:Int).toNat ((k:Int)+(j:Int)).toNat=⟨(EO bs k j).toArray⟩):=by
    show _=_;rw[show(k:Int).toNat=k by omega,show((k:Int)+(j:Int)).toNat=k+j by omega];exact uM bs k j
   have a9:=M5 (EO bs k j);have bn:D.length<=800000000:=Aq z.out Q.2
   clear m u x a7 c a F C ab n ac aq ax ag ao a0;have an:∀V,Am X 136 #[A9 ⟨bs.toArray⟩,I K k,I K nn] V λe W'=>e=Af (Aa #[I K j,.bool true])/\W'=V:=cG;clear cG
   go_wp2_with(first
    |(go_at_call 68;refine CT (A _) b.next (λ_ h=>h.box) ?_;clear A o s c2 t;intro w2 w o s c2 t)
    |(go_at_call 136;refine(an _).mono ?_;clear an;rintro e N ⟨rfl,a2⟩;subst a2)
    |(at_builtin;(refine wpList_append_own_string _ Z _ _ 38 9 Z (W.heap.size+2) 5 i0 underlying38 underlying9 bb bf bg bh _ _ _ Z w.own.1 ((⟨bs.toArray⟩:ByteArray).extract (k:Int).toNat ((k:Int)+(j:Int)).toNat) Z (by rw[ar.out,a9,ay];unfold maxLen;omega) (by rw[ar.out,a9,ay];omega) w.own.2.1 ?_);intro v' w5 aj af a1;clear a1;rw[ar.out]at aj;obtain⟨ad,_⟩:=NC w.own aj af;obtain⟨a5,n5,c5,rfl⟩:=ad.2.2;have au:=T (w.grow af ad);clear aj af ad))
   go_roundg (g+1-j)
   case measure=>omega
   case rel=>exact⟨k+j,D++EO bs k j,a5,n5,c5,AE,rfl,by show _<=_;have:=R.out;omega,by show _<=_;rw[BK,ay];have:=z.out;omega,au,bi,HN⟩
def uV{x:UInt8}{xs:A1}(a:bs[i]?=U c)(b:¬(i:Int)=lim)(d:c=x):Ci bs lim (x::xs) i=Ci bs lim xs (i+1):=by
 rw[Ci,a];simp only[];rw[Bz b,BA d]
def Se:∀(g p:Nat) (a:A1) (j:Nat) (x:A1) (q:Nat),C1 bs lim p->Ct bs lim g p a j=.ok (x,q)->C1 bs lim q
 |0,p,a,j,x,q,_,h=>by rw[Ct]at h;cases h
 |g+1,p,a,j,x,q,hi,h=>by
  rw[Ct]at h
  cases b:bs[p]? with
  |none=>rw[b]at h;cases h
  |some c =>
   rw[b]at h;simp only[]at h;by_cases i:(p:Int)=lim
   ·rw[BA i]at h;cases h
   rw[Bz i]at h;have e:=Fp hi b i;split at h
   ·injection h with h;injection h with _ h;subst h;exact e
   split at h
   ·cases d:Fw bs lim (p+1)with
    |error f=>rw[d]at h;cases h
    |ok y =>
     obtain⟨r,q1⟩:=y;rw[d]at h;exact Se g q1 _ _ x q (dG e d).1 h
   split at h
   ·cases h
   split at h
   ·cases h
   exact Se g (p+1) _ _ x q e h
def uW{w2 w3:O}{d:A2}(h:CM k w3 (λj=>w2.heap.size<=j/\j<w3.heap.size) v d)(e:B<=w2.heap.size)(f:N+2<w2.heap.size):CM k ((w3.setRow (N+1) y).setRow (N+2) (BH x)) (λj=>B<=j/\j<((w3.setRow (N+1) y).setRow (N+2) (BH x)).heap.size) v d:=by
 refine h.same (λj c=>⟨J,?a⟩) (λj c=>?b)
 case a =>
  have:=c.2;simpa using this
 case b=>rw[CQ _ _ _ _ J,CQ _ _ _ _ J]
def dJ(r:A5 Int):Except (Int×Int) (DataW Unit×Nat):=match r with
 |.error e=>.error e
 |.ok (z,q)=>.ok (.lit (.int Ag z),q)
def uX(h:FL bs lim r (.error f)):FL bs lim (dJ r) (.error f):=by
 rcases h with h|⟨q,_,_,_,x,a⟩
 ·rw[h];exact .inl Z
 cases a
def uY(h:FL bs lim r (.ok (z,q))):FL bs lim (dJ r) (.ok (.lit (.int K z),q)):=by
 rcases h with h|⟨e,b,c,d,x,a⟩
 ·rw[h];exact .inl Z
 injection a with a;injection a with h5 h6;subst h6;rw[b];exact .inr ⟨q,Z,c,d,_,Z⟩
def dK{F:Nat->Prop}{d:A2}(h:CM 1 V F v d):CM (k+1) V F v d:=h.more J
def Ok{r:Except (Int×Int) (DataW Unit×Nat)}{e:Ending}(h:ER k bs lim W r e W'):A0 W W'/\∃g c n s a i j b p m z F,FL bs lim r g/\e=Af (Aa #[.agg (BJ c n s (G a i j) (G b p m)),I K z,.agg (BH F)])/\(∀d q,g=.ok (d,q)->C1 bs lim q/\z=(q:Int)/\F=(0,0)/\CM k W' (λj=>W.heap.size<=j/\j<W'.heap.size) (.agg (BJ c n s (G a i j) (G b p m))) d)/\(∀f,g=.error f->F=f):=by
 obtain⟨v,g,o,t⟩:=h;refine⟨v,g,?_⟩
 cases g with
 |error f =>
  obtain⟨c,n,s,a,i,j,b,p,m,z,l⟩:=t;exact⟨c,n,s,a,i,j,b,p,m,z,f,o,l,(λd q e=>by cases e),(λu e=>by injection e)⟩
 |ok x =>
  obtain⟨d,q⟩:=x;obtain⟨y,c,n,s,a,i,j,b,p,m,l,w⟩:=t;refine⟨c,n,s,a,i,j,b,p,m,q,(0,0),o,l,λA B e=>?_,(λu e=>by cases e)⟩;injection e with e;injection e with e1 e2;subst e1;subst e2;exact⟨y,Z,Z,w⟩
def PX(k:Nat)(bs:A1)(lim:Int)(W:Ak)(r:Except (Int×Int) (DataW Unit×Nat))(T:A3)(z:Int)(F:Int×Int):Prop :=
 ∀W',A0 W W'->ER k bs lim W r (Af (Aa #[.agg T,A6 Ag z,.agg (BH F)])) W'
def PY{n:Int}(f:Int×Int):PX k bs lim W (.error f) (BJ kd n s BV BV) z f :=
 λ_ h=>⟨h,.error f,.inl rfl,_,_,_,_,_,_,_,_,_,_,rfl⟩
def dL{n:Int}{dd:A2}(c:C1 bs lim q)(h:∀a,CM 1 a (λj=>W.heap.size<=j/\j<a.heap.size) (.agg (BJ kd n s BV BV)) dd):PX (k+1) bs lim W (.ok (dd,q)) (BJ kd n s BV BV) q (0,0) :=
 λa b=>⟨b,.ok (dd,q),.inl rfl,c,_,_,_,_,_,_,_,_,_,rfl,dK (h a)⟩
def VV(k:Nat)(W:O)(bs:A1)(fm d l lim:Int)(i:Nat)(u:Int)(x:Int×Int)(o:CS bs l i 9=x)(p:PX (k+1) bs lim W R BZ 0 x)(f:Cy bs l i=false\/(Cy bs l i=true/\∃c,bs[i]?=U c/\(∀x,x∈[110,102,116,34,91,123,45]->¬c.toNat=x)/\((c.toNat:Int)<48\/57<(c.toNat:Int)))):Am X 70 #[.agg (BP bs fm d l),I K i,I K u] W (ER (k+1) bs lim W R):=by
 have m:=PF fm d o;have s:=Mb W bs fm d l;have r:=T p;clear o p;unfold BP;rcases f with b|⟨b,c,e,q,f|f⟩
 all_goals
  have n:=J6 fm d b;clear b
  try
   have A:=DI bs i c e;have z:=Cf e;simp only[Ho,Nn,Qu,WM,forall_eq]at q;have C:=BS (c:=c) 110 J;have B:=BS (c:=c) 102 J;have D:=BS (c:=c) 116 J;have H:=BS (c:=c) 34 J;have N:=BS (c:=c) 91 J;have F:=BS (c:=c) 123 J;have L:=BS (c:=c) 45 J
   first
    |have w:decide (48<=(c.toNat:Int))=false:=Ax
    |(have v:48<=(c.toNat:Int):=J;have y:decide ((c.toNat:Int)<=57)=false:=Ax)
   clear e q
  go_enter func70,ntmps70
  go_wp2_with(first
   |(go_at_call 68;refine s.ck (n _) ?_;clear n;intro P t g h c2 j)
   |(go_at_call 47;refine t.ck (m _) ?_;clear m g h c2 j;intro Q a g h c2 j)
   |((with_reducible refine zT 6 _ rfl rfl (W.heap.size+1) (BZ) ?_ ?_);exact⟨Z,Z,a.th,thg⟩)
   |((with_reducible refine zF 8 _ rfl rfl (W.heap.size+2) x ?_ ?_);exact⟨Z,Z,G6 a Cm _⟩))
  refine EQ results70 (EP a Cm _ _) (I K 0) Z Z Z Z (r _ (EP a Cm _ _).2.2)
def dM(k:Nat)(W:O)(bs:A1)(fm d l lim:Int)(i:Nat)(dp:Int)(c:UInt8)(r:bs[i]?=U c)(y:Cy bs l i=true)(v:Nat)(a:Array UInt8)(f q:Int)(F:Int×Int)(B:c.toNat=v)(C:(v,a,f)∈([(110,#[110,117,108,108],0),(102,#[102,97,108,115,101],1),(116,#[116,114,117,101],2)]:List (Nat×Array UInt8×Int)))(x:∀V,Am X 106 #[.agg (BP bs fm d l),I K i,A9 ⟨a⟩] V λe P=>e=Af (Aa #[I K q,.agg (BH F)])/\A0 V P)(z:PX (k+1) bs lim W R (BJ f 0 ⟨#[]⟩ BV BV) q F):Am X 70 #[.agg (BP bs fm d l),I K i,I K dp] W (ER (k+1) bs lim W R):=by
 have ab:=PG r B;have aa:=Cf r;have w:=J6 fm d y;have L:=Mb W bs fm d l;have D:=T z;clear y r B z;unfold BP at *;simp only[Ho,OH,Nn,Qu]at C;rcases C with h|h|h
 all_goals
  obtain⟨rfl,rfl,rfl⟩:=h
 let f:Int:=0;let b:Nat:=40;rotate_left
 let f:Int:=1;let b:Nat:=52;rotate_left
 let f:Int:=2;let b:Nat:=64;rotate_left
 all_goals
  go_enter func70,ntmps70
  go_wp2_with(first
   |(go_at_call 68;refine L.ck (w _) ?_;clear w;intro w2 N Q c1 c2 c3)
   |(go_at_call 106;refine ck (x _) N.next ?_;clear x Q c1 c2 c3;intro g t)
   |((with_reducible refine zF _ _ rfl rfl (g.heap.size) F ?_ ?_);exact⟨Z,Z,BI g _⟩;refine F8 ?_;intro u n;have j:Hid (Hi W (BP bs fm d l) u):=n▸t.next (LA _ _);have H:Hid (u.heap[g.heap.size]?=U (E (BH F) 76)):=n▸Ca _ _ _ _ _ _ (BI _ _);have s:Hid (W.heap.size+2<g.heap.size):=BC t.flt;clear n;generalize g.heap.size=M at *))
  refine DA (S:=λo=>o.heap[M]?=U (E (BH F) 76)) (H) Aw ?_;intro m;refine tk 0 b (.agg (BJ f 0 ⟨#[]⟩ BV BV)) Z Aw EV (λo A=>?y0) m ?_
  case y0=>(unfold BJ BV;dsimp only[f];go_simp)
  refine sf 1 (b+1) (I K q) Aw EV m ?_;refine tk 2 (b+2) (.agg (BH F)) Z Aw EV (λo A=>yF _ A Z Z) m ?_;have p:=(CQ _ (W.heap.size+1) M (BJ f 0 ⟨#[]⟩ BV BV) (Ao s.out)).trans m;refine Jy 3 6 b (W.heap.size+1) (BJ f 0 ⟨#[]⟩ BV BV) Aw (j.drew.th) thg p ?_;refine BE 4 7 (I K q) p ?_;refine sF 5 8 (b+2) (W.heap.size+2) F Aw (G6 j.drew Cm _) (sx (Ao s.out) p) ?_;refine Cv ?_;dsimp only[b];go_simp;go_wp2;refine EQ results70 (EP j.drew Cm _ _) (I K q) Z Z Z Z (D _ (EP j.drew Cm _ _).2.2)
def dN(k:Nat)(W:O)(bs:A1)(fm d l lim:Int)(i:Nat)(N:Int)(c:UInt8)(m:bs[i]?=U c)(u:Cy bs l i=true)(s:ByteArray)(q:Int)(F:Int×Int)(x:c.toNat=34)(t:∀V,Am X 107 #[.agg (BP bs fm d l),I K i] V λe C=>e=Af (Aa #[.string s,I K q,.agg (BH F)])/\A0 V C)(v:PX (k+1) bs lim W R (BJ 4 0 s BV BV) q F):Am X 70 #[.agg (BP bs fm d l),I K i,I K N] W (ER (k+1) bs lim W R):=by
 have Q:=PG m x;have P:=Cf m;have r:=J6 fm d u;have A:=Mb W bs fm d l;have y:=T v;clear u m x v;unfold BP at *;go_enter func70,ntmps70
 go_wp2_with(first
  |(go_at_call 68;refine A.ck (r _) ?_;clear r;intro w2 B D H c2 L)
  |(go_at_call 107;refine ck (t _) B.next ?_;clear t D H c2 L;intro b o)
  |((with_reducible refine zF _ _ rfl rfl (b.heap.size) F ?_ ?_);exact⟨Z,Z,BI b _⟩;refine F8 ?_;intro p g;have f:Hid (Hi W (BP bs fm d l) p):=g▸o.next (LA _ _);have z:Hid (p.heap[b.heap.size]?=U (E (BH F) 76)):=g▸Ca _ _ _ _ _ _ (BI _ _);have n:Hid (W.heap.size+2<b.heap.size):=BC o.flt;clear g;generalize b.heap.size=M at *))
 refine DA (S:=λh=>h.heap[M]?=U (E (BH F) 76)) (z) Aw ?_;intro a;refine BE 0 77 (.string s) a ?_;refine BL 1 78 (.agg (BJ 4 0 s BV BV)) Z (λh w=>?y0) a ?_
 case y0=>(unfold BJ BV;go_simp)
 refine BE 2 79 (I K q) a ?_;refine BL 3 80 (.agg (BH F)) Z (λh w=>yF _ w Z Z) a ?_;have j:=(CQ _ (W.heap.size+1) M (BJ 4 0 s BV BV) (Ao n.out)).trans a;refine Jy 4 6 78 (W.heap.size+1) (BJ 4 0 s BV BV) Aw (f.drew.th) thg j ?_;refine BE 5 7 (I K q) j ?_;refine sF 6 8 80 (W.heap.size+2) F Aw (G6 f.drew Cm _) (sx (Ao n.out) j) ?_;refine Cv ?_;go_simp;go_wp2;refine EQ results70 (EP f.drew Cm _ _) (I K q) Z Z Z Z (y _ (EP f.drew Cm _ _).2.2)
def VW(k:Nat)(W:O)(bs:A1)(fm d l lim:Int)(i:Nat)(r:Int)(c:UInt8)(j:bs[i]?=U c)(a:Cy bs l i=true)(b:((c.toNat=91\/c.toNat=123)/\∀V,Am X 108 #[.agg (BP bs fm d l),I K i,I K r] V (ER (k+1) bs lim V R))\/((c.toNat=45\/(48<=(c.toNat:Int)/\(c.toNat:Int)<=57))/\∀V,Am X 109 #[.agg (BP bs fm d l),I K i] V (ER (k+1) bs lim V R))):Am X 70 #[.agg (BP bs fm d l),I K i,I K r] W (ER (k+1) bs lim W R):=by
 have ae:=Cf j;have q:=J6 fm d a;have w:=Mb W bs fm d l;clear a;unfold BP at *;rcases b with⟨b|b,n⟩|⟨b|⟨ac,ad⟩,n⟩
 all_goals
  have p:=T n;clear n
  first
   |(have Q:=PG j b;clear b)
   |(have Q:=DI bs i c j;have ag:=BS (c:=c) 110 J;have af:=BS (c:=c) 102 J;have ah:=BS (c:=c) 116 J;have aj:=BS (c:=c) 34 J;have al:=BS (c:=c) 91 J;have ai:=BS (c:=c) 123 J;have ak:=BS (c:=c) 45 J)
  clear j;go_enter func70,ntmps70
  go_wp2_with(first
   |(go_at_call 68;refine w.ck (q _) ?_;clear q;intro w2 m D H c2 L))
  refine(p _).mono ?_;clear D H c2 L p;rintro aa w3 o;have e:=BC m.flt;obtain⟨t,r',kk,nn,s,A,y,j1,C,p1,m1,z,F,S,rfl,P,hF⟩:=Ok o;have g:=T (m.next t);have v:=T o.2;clear o S P hF t;simp only[]
  go_wp2_with(first
   |((with_reducible refine zT 6 _ rfl rfl (W.heap.size+1) (BJ kk nn s (G A y j1) (G C p1 m1)) ?_ ?_);exact⟨Z,Z,g.th,thg⟩)
   |((with_reducible refine zF 8 _ rfl rfl (W.heap.size+2) F ?_ ?_);exact⟨Z,Z,G6 g Cm _⟩))
  refine EQ results70 (EP g Cm _ _) (I K z) Z Z Z Z ⟨(EP g Cm _ _).2.2,?_⟩;obtain⟨u,a,h⟩:=v.out;refine⟨u,a,?_⟩
  cases u with
  |error ab=>exact h
  |ok am =>
   obtain⟨a,kd,n',s',x,f,j',B,p',m',h,N⟩:=h;exact⟨a,kd,n',s',x,f,j',B,p',m',h,uW N m.below.size e⟩
def Jz(k:Nat)(V:Ak)(b:Nat)(u:Al)(ex:Nat->Prop)(ds:List (DataW Unit)):Prop :=
 ∃xs,V.ownsRow b 74 5 u ds.length xs/\∀(i:Nat) (d:A2),ds[i]?=some d->∃a,Hj xs i a/\CM k V (λj=>b<=j/\j<V.heap.size/\some j≠u.ownBlock/\¬ex j) (.agg a) d
def IG{e:TypeId}{size:Nat}(c:W.ownsRow base e size v n xs)(h:v.ownBlock=U g):g<W.heap.size:=by
 rcases c.2 with⟨a,_⟩|⟨i,d,f,rfl,_,b,_⟩
 ·subst a;cases h
 cases h;exact BC b
def uZ{t:TypeId}{size:Nat}(h:V.ownsRow b t size u n xs)(l:∀j,b<=j->j<V.heap.size->V'.heap[j]?=V.heap[j]?):V'.ownsRow b t size u n xs:=by
 refine⟨h.1,?_⟩;rcases h.2 with i|⟨g,d,f,e,a,c,k⟩
 ·exact .inl i
 exact .inr ⟨g,d,f,e,a,(l g a (BC c)).trans c,k⟩
def Jz.next(h:Jz k V b u ex ds)(p:V.heap.size<=V'.heap.size)(e:∀j,b<=j->j<V.heap.size->V'.heap[j]?=V.heap[j]?):Jz k V' b u ex ds:=by
 obtain⟨o,l,m⟩:=h;refine⟨o,uZ l e,λi d n=>?_⟩;obtain⟨a,f,g⟩:=m i d n;exact⟨a,f,g.same (λj c=>⟨c.1,Ao c.2.1,c.2.2⟩) (λj c=>e j c.1 c.2.1)⟩
def dO{ys:List Al}(b:xs.length=n*5)(hi:i<n)(h:Hj xs i a):Hj (xs++ys) i a:=by
 unfold Hj at *;rw[Ot J,List.take_append_of_le_length (by rw[Eb];omega)];exact h
def dP(c:xs.length=n*5)(b:a.size=5):Hj (xs++a.toList) n a:=by
 unfold Hj;rw[show 5*n=xs.length by omega,I8,II Ax]
def Jz.push{w5:O}{L:Nat}{d:A2}{o:Obj}(m:V.ownsRow b 74 5 u ds.length xs)(y:∀(i:Nat) (d:A2),ds[i]?=U d->∃a,Hj xs i a/\CM k V (λj=>b<=j/\j<V.heap.size/\U j≠u.ownBlock/\¬ex j) (.agg a) d)(C:CM k V (λj=>L<=j/\j<V.heap.size) (.agg a) d)(z:∀g,u.ownBlock=U g->g<L)(hb:b<=L)(B:∀j,L<=j->¬ex j)(A:a.size=5)(D:w5.ownsRow b 74 5 v' (ds.length+1) (xs++a.toList))(n:(V.alloc o).grownBy w5 u.ownBlock)(h:v'.ownBlock=u.ownBlock\/v'.ownBlock=U (V.alloc o).heap.size):Jz k w5 b v' ex (ds++[d]):=by
 have F:V.heap.size+1<=w5.heap.size:=keQ
 have q:∀j,j<V.heap.size->U j≠u.ownBlock->w5.heap[j]?=V.heap[j]?:=λj c l=>(n.block j Ax l).trans (BT _ _ _ c);have r:∀j,j<V.heap.size->U j≠u.ownBlock->U j≠v'.ownBlock:=λj c l=>by
  rcases h with h|h
  ·rw[h];exact l
  rw[h];intro e;injection e with e;simp at e;omega
 refine⟨xs++a.toList,by rw[BK];exact D,λi v f=>?_⟩;by_cases p:i<ds.length
 ·rw[F6 p]at f;obtain⟨t,w,x⟩:=y i v f;exact⟨t,dO m.1 p w,x.same (λj c=>⟨c.1,Ao c.2.1,r j c.2.1 c.2.2.1,c.2.2.2⟩) (λj c=>q j c.2.1 c.2.2.1)⟩
 have e:i=ds.length:=by
  have:=Cf f;rw[BK]at this;simp at this;omega
 subst e;rw[Ez (BM _),LJ]at f;injection f with f;subst f;have s:∀j,L<=j->U j≠u.ownBlock:=λj c e=>Ao (z j e.symm)
 exact⟨a,dP m.1 A,C.same (λj c=>⟨Ao c.1,Ao c.2,r j c.2 (s j c.1),B j c.1⟩) (λj c=>q j c.2 (s j c.1))⟩
def Jz.list(h:Jz k V b u ex ds)(q:B<=b):CM (k+1) V (λj=>B<=j/\j<V.heap.size) (.agg (BJ 6 0 ⟨#[]⟩ BV u)) (.agg ds):=by
 obtain⟨p,l,m⟩:=h;refine⟨u,p,Z,Oj l _ (λg r o=>⟨J,o⟩),λi d n=>?_⟩;obtain⟨a,e,f⟩:=m i d n;exact⟨a,e,f.same (λj c=>⟨Ao c.1,c.2.1⟩) (λ_ _=>rfl)⟩
def VX(k:Nat)(V:O)(b:Nat)(a:Nat->Prop):Jz k V b BV a []:=⟨[],FQ _ _ _ _,λi d h=>keT⟩
def Me{α:Type}(bs:A1)(lim:Int)(itF:α->Nat->A5 α)(last g p1:Nat)(acc:α):A5 α:=match itF acc p1 with
   |.error e=>.error e
   |.ok (acc',p2)=>match Cd bs lim (bs.length+1-p2) p2 with
    |.error e=>.error e
    |.ok (_,p3)=>match bs[p3]? with
     |none=>.error (9,p3)
     |some c=>if(p3:Int)=lim then .error (8,p3)else if c.toNat=last then .ok (acc',p3+1)else if c.toNat=44 then Dp bs lim itF last g (p3+1) acc' else .error (9,p3)
def dQ{α:Type}(bs:A1)(lim:Int)(itF:α->Nat->A5 α)(last g p:Nat)(a:α):Dp bs lim itF last (g+1) p a=match Cd bs lim (bs.length+1-p) p with
  |.error e=>.error e
  |.ok (_,p1)=>Me bs lim itF last g p1 a:=by
 rw[Dp];rfl
def KL{α:Type}(bs:A1)(lim:Int)(itF:α->Nat->A5 α)(last g p:Nat)(acc:α)(R:A5 α):Prop :=
 C1 bs lim p/\((∃g',g=g'+1/\Me bs lim itF last g' p acc=R)\/((p:Int)=lim/\p<bs.length/\R=.error (8,(p:Int))))
def dR{α:Type}(f:Lm bs l lim){itF:α->Nat->A5 α}{acc:α}{R:A5 α}(hi:C1 bs lim p)(a:Dp bs lim itF last (g+1) p acc=R):KL bs lim itF last (g+1) (DR bs l (bs.length+1-p) p) acc R:=by
 rw[dQ]at a;rcases KI f (bs.length+1-p) p hi with⟨q,b,c,d,e,_⟩|⟨q,b,c,d,e⟩
 ·rw[b]at a;rw[c];exact⟨d,.inl ⟨g,Z,a⟩⟩
 rw[b]at a;rw[c];exact⟨⟨J,J⟩,.inr ⟨d,e,a.symm⟩⟩
def Tryz.infoThR:(prog.info? 74).map (λi=>(i.zero,i.size,i.bytes))=U (U (.agg BZ),5,80):=M
structure E7(W:World)(A:A3)(y:A3)(V:World):Prop where
 box:V.heap[W.heap.size]?=some (.cells A 116)
 th:V.heap[W.heap.size+1]?=some (.cells BZ 74)
 flt:V.heap[W.heap.size+2]?=some (.cells (BH (0,0)) 76)
 tv:V.heap[W.heap.size+3]?=some (.cells y 74)
 below:A0 W V
def E7.rth(h:E7 W A y V):Hi W A V:=⟨h.box,h.th,h.flt,h.below⟩
def E7.next(h:E7 W A y V)(hb:A0 V V'):E7 W A y V' :=
 ⟨(hb.block _ (BC h.box)).trans h.box,(hb.block _ (BC h.th)).trans h.th,(hb.block _ (BC h.flt)).trans h.flt,(hb.block _ (BC h.tv)).trans h.tv,h.below.trans (hb.mono h.below.size)⟩
def E7.size(h:E7 W A y V):W.heap.size+4<=V.heap.size:=BC h.tv
def Sf(W:O)(A y:A3):E7 W A y (((((W.alloc (E A 116)).alloc (E BZ 74)).alloc (E (BH (0,0)) 76)).alloc (E BZ 74)).setRow (W.heap.size+3) y):=by
 have h:=dm W A;have c:(((W.alloc (E A 116)).alloc (E BZ 74)).alloc (E (BH (0,0)) 76)).heap.size=W.heap.size+3:=Az
 have b:=BI (((W.alloc (E A 116)).alloc (E BZ 74)).alloc (E (BH (0,0)) 76)) (E BZ 74);rw[c]at b;generalize(((W.alloc (E A 116)).alloc (E BZ 74)).alloc (E (BH (0,0)) 76))=V at *;have a:=h.next (OP (E BZ 74))
 exact⟨sx J a.box,sx J a.th,sx J a.flt,Ca _ _ _ _ _ _ b,CF a.below J _⟩
def Sg(W:O)(A:A3):((((W.alloc (E A 116)).alloc (E BZ 74)).alloc (E (BH (0,0)) 76)).alloc (E BZ 74)).heap[W.heap.size+3]?=U (E BZ 74):=by
 have b:(((W.alloc (E A 116)).alloc (E BZ 74)).alloc (E (BH (0,0)) 76)).heap.size=W.heap.size+3:=Az
 have a:=BI (((W.alloc (E A 116)).alloc (E BZ 74)).alloc (E (BH (0,0)) 76)) (E BZ 74);rw[b]at a;exact a
def vb(wr b:O)(a:A3)(f:A3)(c:Below (wr.heap.size+2) ((wr.alloc (E (BH (0,0)) 76)).alloc (E BZ 74)) b):A0 wr ((b.setRow (wr.heap.size+1) a).setRow wr.heap.size f) :=
 CF (CF (((BN).alloc Az _).trans (c.mono J)) J _) (BM _) _
def vd(r:Except (Int×Int) (List (DataW Unit)×Nat)):Except (Int×Int) (DataW Unit×Nat):=match r with
 |.error e=>.error e
 |.ok (ds,q)=>.ok (.agg ds,q)
def dS(h:∀a,Cd bs lim a q=.ok ((),q))(b:bs[q]?=U c):¬(q:Int)=lim:=λe=>by
 have:=h 1;rw[Cd,b]at this;simp only[]at this;rw[BA e]at this;cases this
def dT{α:Type}(n:Lm bs l lim){itF:α->Nat->A5 α}{p1:Nat}{acc:α}{R:A5 α}(hi:C1 bs lim p)(f:p1=DR bs l (bs.length+1-p) p)(a:Di bs lim itF last p acc=R):C1 bs lim p1/\((∃c,bs[p1]?=U c/\Cy bs l p1=true/\c.toNat=last/\R=.ok (acc,p1+1)/\C1 bs lim (p1+1))\/((Cy bs l p1=false\/∃c,bs[p1]?=U c/\Cy bs l p1=true/\¬c.toNat=last)/\KL bs lim itF last (bs.length+1-p1) p1 acc R)):=by
 unfold Di at a;rcases KI n (bs.length+1-p) p hi with⟨q,i,j,b,k,w⟩|⟨q,i,j,b,k⟩
 ·rw[j]at f;subst f;rw[i]at a;simp only[]at a;have u:=w (Ao hi.1);refine⟨b,?_⟩;have v:∀h,Dp bs lim itF last (bs.length+1-p1) p1 acc=h->KL bs lim itF last (bs.length+1-p1) p1 acc h:=λh m=>by
   obtain⟨g,s⟩:∃g,bs.length+1-p1=g+1:=⟨bs.length-p1,Ao b.1⟩
   rw[s]at m ⊢;rw[dQ,s,u (g+1)]at m;exact⟨b,.inl ⟨g,Z,m⟩⟩
  cases d:bs[p1]? with
  |none =>
   rw[d]at a;exact .inr ⟨.inl (K2 d),v R a⟩
  |some c =>
   rw[d]at a;simp only[]at a;have o:=dS u d;rw[Bz o]at a;have t:=Lv n b d o;by_cases e:c.toNat=last
   ·rw[BA e]at a;exact .inl ⟨c,Z,t,e,a.symm,Fp b d o⟩
   rw[Bz e]at a;exact .inr ⟨.inr ⟨c,Z,t,e⟩,v R a⟩
 rw[j]at f;subst f;rw[i]at a;simp only[]at a;obtain⟨c,d⟩:∃c,bs[p1]?=U c:=⟨_,C6 k⟩
 have r:C1 bs lim p1:=⟨J,J⟩
 exact⟨r,.inr ⟨.inl (Jw n d b),r,.inr ⟨b,k,a.symm⟩⟩⟩
def dU{α:Type}(e:Lm bs l lim){itF:α->Nat->A5 α}{p2 p3:Nat}{acc acc':α}{R:A5 α}(hi:C1 bs lim p2)(j:p3=DR bs l (bs.length+1-p2) p2)(r:itF acc p=.ok (acc',p2))(a:Me bs lim itF last g p acc=R):C1 bs lim p3/\p2<=p3/\((Cy bs l p3=false/\R=.error (CS bs l p3 9))\/∃c,bs[p3]?=U c/\Cy bs l p3=true/\((c.toNat=last/\R=.ok (acc',p3+1)/\C1 bs lim (p3+1))\/(¬c.toNat=last/\c.toNat=44/\C1 bs lim (p3+1)/\Dp bs lim itF last g (p3+1) acc'=R)\/(¬c.toNat=last/\¬c.toNat=44/\R=.error (CS bs l p3 9)))):=by
 unfold Me at a;rw[r]at a;simp only[]at a;rcases KI e (bs.length+1-p2) p2 hi with⟨q,k,m,d,n,o⟩|⟨q,k,m,d,n⟩
 ·rw[m]at j;subst j;rw[k]at a;simp only[]at a;refine⟨d,n,?_⟩
  cases b:bs[p3]? with
  |none =>
   rw[b]at a;exact .inl ⟨K2 b,by rw[Lu d.1 b];exact a.symm⟩
  |some c =>
   rw[b]at a;simp only[]at a;have h:=dS (o (Ao hi.1)) b;rw[Bz h]at a;refine .inr ⟨c,Z,Lv e d b h,?_⟩;by_cases f:c.toNat=last
   ·rw[BA f]at a;exact .inl ⟨f,a.symm,Fp d b h⟩
   rw[Bz f]at a;by_cases i:c.toNat=44
   ·rw[BA i]at a;exact .inr (.inl ⟨f,i,Fp d b h,a⟩)
   rw[Bz i]at a;exact .inr (.inr ⟨f,i,by rw[J4 e d b h];exact a.symm⟩)
 rw[m]at j;subst j;rw[k]at a;simp only[]at a;obtain⟨c,b⟩:∃c,bs[p3]?=U c:=⟨_,C6 n⟩
 refine⟨⟨J,J⟩,Ao hi.2,.inl ⟨Jw e b d,?_⟩⟩;rw[IC e b d];exact a.symm
def dV(b:Lm bs l lim)(d:(q:Int)=lim)(h:q<bs.length):DR bs l (bs.length+1-q) q=q/\Cy bs l q=false/\CS bs l q 9=(8,(q:Int)):=by
 obtain⟨c,f⟩:∃c,bs[q]?=U c:=⟨_,C6 h⟩
 refine⟨?_,Jw b f d,IC b f d 9⟩;rcases KI b (bs.length+1-q) q ⟨J,J⟩with⟨j,g,a,e,i,_⟩|⟨j,g,a,e,i⟩
 ·have:=e.2;rw[a];omega
 rw[a];omega
end
end Go.Proofs.YtnlnjkggkbbdhaaGreatDoor
