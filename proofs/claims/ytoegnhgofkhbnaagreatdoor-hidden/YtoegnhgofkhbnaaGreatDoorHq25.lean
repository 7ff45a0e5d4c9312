import Derived.Test.YtoegnhgofkhbnaaGreatDoorHq22
set_option maxRecDepth 100000
set_option maxHeartbeats 8000000
set_option linter.all false
namespace Go.Proofs.YtoegnhgofkhbnaaGreatDoor
open Go.Proofs.Tryz
open Go.Value renaming int->A7,slice->A8,pointer->A9,string->Aa,tuple->Ab,agg->Ac
open Go.Obj renaming cells->Af
open Go.Ending renaming returned->Ag
open Go.IntKind renaming i64->Ah
open Option renaming some->Aj,none->Ak
open Go renaming World->Al,Value->Am,Calls->An
open Go.Proofs.Tryz renaming prog->Ao
variable{fn:Func}{B M N b base g i k last n p q:Nat}{u v v':Am}{u2:Tmp}{A a y:A4}{V V' W W' w:Al}{F f x:Int×Int}{R:Except (Int×Int) (DataW Unit×Nat)}{acc bs:A2}{d fm kd l lim z:Int}{r:A6 Int}{c:UInt8}{xs:List Am}{s:ByteArray}{ex:Nat->Prop}{ds:List (DataW Unit)}
section
open Go.RowKit Go.Lib
theorem qf{P:Program}{p u:Tmp}{ty:TypeId}(h:fn.results=#[.tmp u,.tmp u2,.cell p ty])(b:A4)(w:Al)(g:Nat)(t:TypeId)(cs:A4)(c:Nat×Nat)(d:TypeDesc)(k:b.getD p undef=A9 (Aj ⟨g,0,Ak⟩))(j:w.heap[g]?=Aj (Af cs t c))(l:P.underlying ty=Aj d)(i:(match d with|.struct _|.array _ _=>true|_=>false)=true)(hi:(P.info? ty).map (·.size)=Aj cs.size)(v f:Am)(m:b.getD u undef=v)(n:b.getD u2 undef=f):(results fn b).run P w=.ok (Ab #[v,f,.agg cs]) w:=by
 have e:(results fn b).run P w=((asAddr (b.getD p undef)).run P w).andThen λa o=>((loadVar ty a).run P o).andThen λv q=>.ok (Ab #[b.getD u undef,b.getD u2 undef,v]) q:=by
  simp only[results,h];simp[D8,Result.andThen]
 subst m n;rw[e,k];simp only[asAddr,E4,Dl,FZ w g t ty cs c d j l i hi]
theorem qg{p u:Tmp}{tmps:A4}(h:fn.results=#[.tmp u,.tmp u2,.cell p 64])(b:w.heap[g]?=Aj (Af (Aw F) 64))(v a:Am)(c:tmps.getD p undef=A9 (Aj ⟨g,0,Ak⟩))(d:tmps.getD u undef=v)(e:tmps.getD u2 undef=a):(results fn tmps).run Ao w=.ok (Ab #[v,a,.agg (Aw F)]) w :=
 qf h _ _ g _ _ _ _ c b underlying64 rfl (Hd _) v a d e
theorem Hf{p u:Tmp}{A:Act}{R:Ending->Al->Prop}{B:Prop}(h:fn.results=#[.tmp u,.tmp u2,.cell p 64])(c:w.heap[g]?=Aj (Af (Aw F) 64)/\B)(v a:Am)(d:A.tmps.getD p undef=A9 (Aj ⟨g,0,Ak⟩))(e:A.tmps.getD u undef=v)(f:A.tmps.getD u2 undef=a)(b:A.defers=[])(k:R (Ag (Ab #[v,a,.agg (Aw F)])) w):bodyPost Ao fn R .ret A w:=Bd (qg h c.1 v a d e f) b k
structure Er(W:World)(A:A4)(M:Nat)(f:Int×Int)(V:World):Prop where
 box:V.heap[W.heap.size]?=some (.cells A 102)
 flt:V.heap[W.heap.size+1]?=some (.cells (Aw (0,0)) 64)
 loc:V.heap[M]?=some (.cells (Aw f) 64)
 below:A1 W V
 lt:W.heap.size+1<M
theorem Er.next(h:Er W A M f V)(a:A1 V V'):Er W A M f V' :=
 ⟨(a.block _ (At h.box)).trans h.box,(a.block _ (At h.flt)).trans h.flt,(a.block _ (At h.loc)).trans h.loc,h.below.trans (a.mono h.below.size),h.lt⟩
theorem Er.drew(h:Er W A M f V):Er W A M f V.drew:=⟨h.box,h.flt,h.loc,h.below.drew,h.lt⟩
theorem Er.put(h:Er W A M f V)(g:Int×Int):Er W A M g (V.setRow M (Aw g)):=by
 have a:=h.lt;exact⟨sx (by omega) h.box,sx (by omega) h.flt,B4 _ _ _ _ _ _ h.loc,Bu h.below (by omega) _,h.lt⟩
theorem Z7(h:Gd W A (W.heap.size+1) V)(g:Int×Int):Er W A V.heap.size g ((V.alloc (Af (Aw (0,0)) 64)).setRow V.heap.size (Aw g)):=by
 have a:=At h.flt;have b:Er W A V.heap.size (0,0) (V.alloc (Af (Aw (0,0)) 64)) :=
  ⟨(AL _ _ _ (by omega)).trans h.box,(AL _ _ _ a).trans h.flt,Ay _ _,h.below.alloc (by omega) _,a⟩
 exact b.put g
theorem Er.fin(h:Er W A M f V)(g:Int×Int):(V.setRow (W.heap.size+1) (Aw g)).heap[W.heap.size+1]?=Aj (Af (Aw g) 64)/\A1 W (V.setRow (W.heap.size+1) (Aw g))/\(V.setRow (W.heap.size+1) (Aw g)).heap[M]?=Aj (Af (Aw f) 64) :=
 ⟨B4 _ _ _ _ _ _ h.flt,Bu h.below (by omega) _,(BO _ _ _ _ (by have:=h.lt;omega)).trans h.loc⟩
theorem Ob:∀(k p a x q:Nat),AS bs lim p->Ce bs lim k p a=.ok (x,q)->q=p+k/\AS bs lim q/\x<(a+1)*16^k
 |0,p,a,x,q,hi,h=>by
  rw[Ce]at h;injection h with h;injection h with h1 h2;subst h1 h2;exact⟨rfl,hi,by omega⟩
 |k+1,p,a,x,q,hi,h=>by
  rw[Ce]at h
  cases b:bs[p]? with
  |none=>rw[b]at h;cases h
  |some c =>
   rw[b]at h;simp only[]at h;by_cases d:(p:Int)=lim
   ·rw[As d]at h;cases h
   rw[Aq d]at h
   cases e:G4 c with
   |none=>rw[e]at h;cases h
   |some i =>
    rw[e]at h;obtain⟨j,f,g⟩:=Ob k (p+1) (a*16+i) x q (DZ hi b d) h;have l:=Pc e;refine⟨by omega,f,Br g ?_⟩;rw[LL,Gk (16^k) 16,<-Nat.mul_assoc];exact QC _ (by omega)
theorem Oc:∀(w:A2) (p q:Nat),AS bs lim p->Ba bs lim w p=.ok ((),q)->q=p+w.length/\AS bs lim q
 |[],p,q,hi,h=>by
  rw[Ba]at h;injection h with h;injection h with _ h2;subst h2;exact⟨rfl,hi⟩
 |x::w,p,q,hi,h=>by
  rw[Ba]at h
  cases a:bs[p]? with
  |none=>rw[a]at h;cases h
  |some c =>
   rw[a]at h;simp only[]at h;by_cases b:(p:Int)=lim
   ·rw[As b]at h;cases h
   rw[Aq b]at h;by_cases d:c=x
   ·rw[As d]at h;obtain⟨f,e⟩:=Oc w (p+1) q (DZ hi a b) h;exact⟨by rw[Bq];omega,e⟩
   rw[Aq d]at h;cases h
theorem Z8(a:Lm bs l lim)(hi:AS bs lim (p+1))(e:Int):BM bs l p e=(e,(p:Int)):=by
 have b:=hi.1;have c:=hi.2;have d:=a p (by omega);unfold BM;rw[Aq (by omega),Aq (by omega)]
theorem TG(h:Av W' b v bs)(a:N<b):v.ownBlock≠Aj N:=λe=>by have:=E7 h.1 e;omega
theorem TH{b':Nat}(h:Av W' b v bs)(l:b'<=b):Av W' b' v bs:=by
 obtain⟨⟨i,d⟩,k,j⟩:=h;refine⟨⟨i,?_⟩,by omega,j⟩;rcases d with d|⟨g,e,f,a,b,c⟩
 ·exact .inl d
 exact .inr ⟨g,e,f,a,by omega,c⟩
theorem TI(h:Av W' b v bs)(N:Nat)(cs:A4)(n:v.ownBlock≠Aj N):Av (W'.setRow N cs) b v bs:=by
 obtain⟨⟨k,f⟩,l,m⟩:=h;refine⟨⟨k,?_⟩,by simpa using l,m⟩;rcases f with f|⟨g,i,j,a,b,c,d⟩
 ·exact .inl f
 refine .inr ⟨g,i,j,a,b,(BO _ _ _ _ (λe=>n ?_)).trans c,d⟩;rw[a,<-e];rfl
def Kw(W:Al)(r:A6 Int)(e:Ending)(W':Al):Prop:=match r with
 |.ok (x,q)=>∃v,e=Ag (Ab #[v,A7 Ah q,.agg (Aw (0,0))])/\Av W' W.heap.size v (Cu x)
 |.error f=>e=Ag (Ab #[A8 Ak 0 0,A7 Ah 0,.agg (Aw f)])
theorem Er.ck{f:FuncId}{args:A4}{r:Ending}{Q:Ending->Al->Prop}(h:Er W (AF bs fm d l) M x V)(c:An Ao f args V λe a=>e=r/\A1 V a)(k:∀w,Hid (Er W (AF bs fm d l) M x w)->w.cell? ⟨W.heap.size,0,Ak⟩=(#[Aa ⟨bs.toArray⟩,A7 Ah fm,A7 Ah d,A7 Ah l]:A4)[0]?->w.cell? ⟨W.heap.size,1,Ak⟩=(#[Aa ⟨bs.toArray⟩,A7 Ah fm,A7 Ah d,A7 Ah l]:A4)[1]?->w.cell? ⟨W.heap.size,2,Ak⟩=(#[Aa ⟨bs.toArray⟩,A7 Ah fm,A7 Ah d,A7 Ah l]:A4)[2]?->w.cell? ⟨W.heap.size,3,Ak⟩=(#[Aa ⟨bs.toArray⟩,A7 Ah fm,A7 Ah d,A7 Ah l]:A4)[3]?->w.cell? ⟨M,0,Ak⟩=Aj (A7 Ah x.1)->Q r w):An Ao f args V Q :=
 _root_.Go.Proofs.YtoegnhgofkhbnaaGreatDoor.ck c h.next λw H=>k w H (BF H.out.box).1 (BF H.out.box).2.1 (BF H.out.box).2.2.1 (BF H.out.box).2.2.2 (Ar H.out.loc 0)
theorem Er.st{ops:Array Oper}{rest:List Oper}{o:Oper}{a:Act}{Q:Exit->Act->Al->Prop}(h:Er W (AF bs fm d l) M (0,0) V)(x y:Nat)(c:o.guard=Ak)(e:o.op=.store 64 (.tmp x) (.tmp y))(F:Int×Int)(b:a.eval (.tmp x)=A9 (Aj ⟨M,0,Ak⟩)/\a.eval (.tmp y)=.agg (Aw F))(k:∀w,Hid (Er W (AF bs fm d l) M F w)->w.cell? ⟨W.heap.size,0,Ak⟩=(#[Aa ⟨bs.toArray⟩,A7 Ah fm,A7 Ah d,A7 Ah l]:A4)[0]?->w.cell? ⟨W.heap.size,1,Ak⟩=(#[Aa ⟨bs.toArray⟩,A7 Ah fm,A7 Ah d,A7 Ah l]:A4)[1]?->w.cell? ⟨W.heap.size,2,Ak⟩=(#[Aa ⟨bs.toArray⟩,A7 Ah fm,A7 Ah d,A7 Ah l]:A4)[2]?->w.cell? ⟨W.heap.size,3,Ak⟩=(#[Aa ⟨bs.toArray⟩,A7 Ah fm,A7 Ah d,A7 Ah l]:A4)[3]?->w.cell? ⟨M,0,Ak⟩=Aj (A7 Ah F.1)->wpList Ao ops Q rest (a.put o.dst undef) w):wpList Ao ops Q (o::rest) a V :=
 Dd x y c e M F b.1 b.2 h.loc (k _ (h.put F) (BF (h.put F).box).1 (BF (h.put F).box).2.1 (BF (h.put F).box).2.2.1 (BF (h.put F).box).2.2.2 (Ar (h.put F).loc 0))
def Hg(bs:A2)(fm d l:Int)(i x:Int)(F:Int×Int):Prop:=∀V,An Ao 168 #[Ac #[Aa ⟨bs.toArray⟩,A7 Ah fm,A7 Ah d,A7 Ah l],A7 Ah i] V λe W'=>e=Ag (Ab #[A7 Ah x,.agg (Aw F)])/\A1 V W'
def Od(bs:A2)(fm d l:Int)(i x:Int)(F:Int×Int):Prop:=∀V,An Ao 88 #[Ac #[Aa ⟨bs.toArray⟩,A7 Ah fm,A7 Ah d,A7 Ah l],A7 Ah i,Aa ⟨#[92,117]⟩] V λe W'=>e=Ag (Ab #[A7 Ah x,.agg (Aw F)])/\A1 V W'
def Qg(bs:A2)(fm d l:Int)(i:Int)(F:Int×Int):Prop:=∀V,An Ao 37 #[Ac #[Aa ⟨bs.toArray⟩,A7 Ah fm,A7 Ah d,A7 Ah l],A7 Ah i,A7 Ah 9] V λe W'=>e=Ag (.agg (Aw F))/\A1 V W'
def TJ(x:Int):Prop:=∀V,An Ao 169 #[A7 Ah x] V λe W'=>∃v,e=Ag v/\Av W' V.heap.size v (Cu x)/\A1 V W'
theorem qh(W:World)(bs:List UInt8)(fm d l:Int)(i:Nat)(ad:i<=bs.length)(hb:bs.length<=281474976710656)(R:Except (Int×Int) (Int×Nat))(x y:Int)(F:Int×Int)(ae:0<=x)(af:x<65536)(ag:0<=y)(ah:y<65536)(hw:(Hg bs fm d l i 0 F/\(F.1==0)=false/\R=.error F)\/(Hg bs fm d l i x (0,0)/\55296<=x/\x<56320/\Od bs fm d l ((i:Int)+4) 0 F/\(F.1==0)=false/\R=.error F)\/(Hg bs fm d l i x (0,0)/\55296<=x/\x<56320/\Od bs fm d l ((i:Int)+4) ((i:Int)+6) (0,0)/\Hg bs fm d l ((i:Int)+6) 0 F/\(F.1==0)=false/\R=.error F)\/(Hg bs fm d l i x (0,0)/\56320<=x/\x<=57343/\Qg bs fm d l ((i:Int)+3) F/\R=.error F)\/(Hg bs fm d l i x (0,0)/\55296<=x/\x<56320/\Od bs fm d l ((i:Int)+4) ((i:Int)+6) (0,0)/\Hg bs fm d l ((i:Int)+6) y (0,0)/\(y<56320\/57343<y)/\Qg bs fm d l ((i:Int)+6+3) F/\R=.error F)\/(Hg bs fm d l i x (0,0)/\(x<55296\/57343<x)/\TJ x/\F=(0,0)/\R=.ok (x,i+4))\/(Hg bs fm d l i x (0,0)/\55296<=x/\x<56320/\Od bs fm d l ((i:Int)+4) ((i:Int)+6) (0,0)/\Hg bs fm d l ((i:Int)+6) y (0,0)/\56320<=y/\y<=57343/\TJ (65536+(x-55296)*1024+y-56320)/\F=(0,0)/\R=.ok (65536+(x-55296)*1024+y-56320,i+10))):Calls prog 150 #[.agg (AF bs fm d l),.int .i64 i] W λe L=>Kw W R e L/\Below W.heap.size W L:=by
 have V:=Qa W bs fm d l;have n:∀{p:Prop} [Decidable p],¬p->Hid (decide p=false):=λh=>BJ h;have C:∀{p:Prop} [Decidable p],p->Hid (decide p=true):=λh=>Bs h;unfold AF;rcases hw with⟨k,P,rfl⟩|⟨k,o,u,r,P,rfl⟩|⟨k,o,u,r,t,P,rfl⟩|⟨k,o,u,A,rfl⟩|⟨k,o,u,r,t,N|N,A,rfl⟩|⟨k,o|o,B,rfl,rfl⟩|⟨k,o,u,r,t,N,h4,B,rfl,rfl⟩
 let b:Nat:=20;rotate_left
 let b:Nat:=48;rotate_left
 let b:Nat:=58;rotate_left
 rotate_left 6
 all_goals
  unfold Hg at *
  try unfold Od at *
  try unfold Qg at *
  try unfold TJ at *
  try have Y:=(n (p:=x<55296) (by omega)).out
  try have v:=(n (p:=57343<x) (by omega)).out
  try have K:=(n (p:=56320<=x) (by omega)).out
  try have I:=n (p:=y<56320) (by omega)
  try have I:=C (p:=y<56320) (by omega)
  try have J:=n (p:=57343<y) (by omega)
  try have J:=C (p:=57343<y) (by omega)
  clear n C;go_enter func150,ntmps150
  go_wp2_with(first
   |(go_at_call 168;refine EG (k _) V.out.next ?_;clear k;intro m aa s;obtain⟨c,f,c2,g⟩:=BF s.out.box)
   |(go_at_call 88;refine a.out.ck (r _) ?_;clear r Y v K c f c2 g j a;intro w3 a c f c2 g j)
   |(go_at_call 168;refine a.out.ck (t _) ?_;clear t c f c2 g j a;intro w4 a c f c2 g j)
   |(go_at_call 37;refine a.out.ck (A _) ?_;clear A c f c2 g j a;intro Q a c f c2 g j)
   |(go_at_call 169;refine(B _).mono ?_;clear B c f c2 g j;rintro e Q ⟨ai,rfl,w,ab⟩;obtain⟨E,H,G,rfl⟩:=w.2.2;have U:Hid (Av Q W.heap.size (.slice E H G) _):=TH w a.out.below.size;have T:Hid ((Value.slice E H G).ownBlock≠some (W.heap.size+1)):=TG w (At a.out.flt);clear w;have a:=Ap (a.out.next ab))
   |((first|((with_reducible refine Dd 8 16 rfl rfl (m.heap.size) (0,0) ?_ ?_ ?_ ?_);exact rfl;exact rfl;exact Ay m _;refine DM ?_;intro z q;have a:Hid (Er W (AF bs fm d l) m.heap.size (0,0) z):=q▸Z7 s.out _;clear q)|((with_reducible refine Dd 8 16 rfl rfl (m.heap.size) F ?_ ?_ ?_ ?_);exact rfl;exact rfl;exact Ay m _;refine DM ?_;intro z q;have a:Hid (Er W (AF bs fm d l) m.heap.size F z):=q▸Z7 s.out _;clear q));generalize m.heap.size=M at *;clear c f c2 g aa s;have j:=Ar a.out.loc 0;unfold Aw at j;obtain⟨c,f,c2,g⟩:=BF a.out.box)
   |((with_reducible refine a.out.st 8 _ rfl rfl (0,0) ?_ ?_);exact⟨rfl,rfl⟩;clear c f c2 g j a;intro X a c f c2 g j;try(have e1:=I.out;have e2:=J.out))
   |((with_reducible refine a.out.st 8 _ rfl rfl F ?_ ?_);exact⟨rfl,rfl⟩;clear c f c2 g j a;intro X a c f c2 g j)
   |((with_reducible refine Dd 6 _ rfl rfl (W.heap.size+1) F ?_ ?_ ?_ ?_);exact rfl;exact rfl;exact a.out.flt)
   |((with_reducible refine Dd 6 _ rfl rfl (W.heap.size+1) (0,0) ?_ ?_ ?_ ?_);exact rfl;exact rfl;exact a.out.flt))
  try exact Hf results150 (a.out.fin _) (.slice none 0 0) (.int .i64 0) rfl rfl rfl rfl ⟨rfl,(a.out.fin _).2.1⟩
  try exact Hf results150 (a.out.fin _) (.slice E H G) _ rfl rfl rfl rfl ⟨⟨_,by congr 4,TI U.out _ _ T.out⟩,(a.out.fin _).2.1⟩
 all_goals
  refine Cp (S:=λZ=>Z.heap[M]?=some (.cells (Aw F) 64)) (a.out.loc) (by kernel_rfl) ?_;intro D;refine Au 1 4 (.slice none 0 0) D ?_;refine Au 2 5 (.int .i64 0) D ?_;refine tk 0 b (.agg (Aw F)) rfl (by kernel_rfl) DC (λZ hZ=>yF 8 hZ rfl rfl) D ?_;refine Bc 3 (λac O=>?_);rw[As (by kernel_rfl)];refine IB 64 _ _ rfl (W.heap.size+1) (Aw F) rfl rfl 64 (Aw (0,0)) a.out.drew.flt (Hd _) rfl (Kt _) ?_;refine O.out _ _ (a.out.drew.fin F).2.2 (λ_=>?_);clear O;refine Bw ?_;dsimp only[b];go_simp;clear c f c2 g j;go_wp2;exact Hf results150 (a.out.drew.fin F) _ _ rfl rfl rfl rfl ⟨rfl,(a.out.drew.fin F).2.1⟩
theorem Zc(b:Lm bs l lim)(hi:AS bs lim i)(a:bs.length<=281474976710656)(h:Ce bs lim 4 i 0=.error f):Hg bs fm d l i 0 f:=λV=>by have k:=Z5 V bs fm d l lim i b hi a;rw[h]at k;exact k
theorem Zd{x:Nat}(b:Lm bs l lim)(hi:AS bs lim i)(a:bs.length<=281474976710656)(h:Ce bs lim 4 i 0=.ok (x,q)):Hg bs fm d l i x (0,0):=λV=>by have k:=Z5 V bs fm d l lim i b hi a;rw[h]at k;exact k
theorem Ze(a:Lm bs l lim)(hi:AS bs lim (p+1)):Qg bs fm d l p (9,(p:Int)):=λV=>by have h:=Lk V bs fm d l p 9;rw[Z8 a hi]at h;exact h
theorem qn(W:Al)(bs:A2)(fm d l lim:Int)(i:Nat)(a:Lm bs l lim)(hi:AS bs lim i)(j:bs.length<=281474976710656):An Ao 150 #[.agg (AF bs fm d l),A7 Ah i] W λe C=>Kw W (Ey bs lim i) e C/\A1 W C:=by
 have b:=qh W bs fm d l i hi.1 j;have w:∀z:Int,¬z=0->(z==0)=false:=λz h=>by simpa using h
 unfold Ey
 cases o:Ce bs lim 4 i 0 with
 |error f=>exact b _ 0 0 f (by decide) (by decide) (by decide) (by decide) (.inl ⟨Zc a hi j o,w _ (NX bs lim 4 i 0 f.1 f.2 o),rfl⟩)
 |ok r =>
  obtain⟨x,q⟩:=r;simp only[];obtain⟨A,t,K⟩:=Ob 4 i 0 x q hi o;have Q:x<65536:=by simpa using K
  have g:=Zd (fm:=fm) (d:=d) a hi j o;by_cases m:qIO x=true
  ·rw[As m];unfold qIO at m;have F:=By m;rw[show(q:Int)-1=(i:Int)+3 by omega];exact b _ x 0 _ (by omega) (by omega) (by decide) (by decide) (.inr (.inr (.inr (.inl ⟨g,by omega,by omega,λV=>Ze a (p:=i+3) (by rw[A]at t;exact t) V,rfl⟩))))
  rw[Aq m];have P:¬(56320<=x/\x<=57343):=λh=>m (Bs h);by_cases k:Mb x=true
  ·rw[As k];unfold Mb at k;have F:=By k;subst A;have c:=λV=>Qb V bs fm d l lim (i+4) [92,117] (by decide) a t j
   cases v:Ba bs lim [92,117] (i+4)with
   |error f =>
    rw[v]at c;exact b _ x 0 f (by omega) (by omega) (by decide) (by decide) (.inr (.inl ⟨g,by omega,by omega,c,w _ (JK bs lim [92,117] (i+4) f.1 f.2 v),rfl⟩))
   |ok r =>
    obtain⟨u,E⟩:=r;simp only[];obtain⟨G,B⟩:=Oc [92,117] (i+4) E t v;have H:E=i+6:=by simpa using G
    subst H;rw[v]at c
    cases s:Ce bs lim 4 (i+6) 0 with
    |error f=>exact b _ x 0 f (by omega) (by omega) (by decide) (by decide) (.inr (.inr (.inl ⟨g,by omega,by omega,c,Zc a B j s,w _ (NX bs lim 4 (i+6) 0 f.1 f.2 s),rfl⟩)))
    |ok r =>
     obtain⟨y,M⟩:=r;simp only[];obtain⟨I,J,L⟩:=Ob 4 (i+6) 0 y M B s;have R:y<65536:=by simpa using L
     have D:=Zd (fm:=fm) (d:=d) a B j s;subst I;by_cases n:qIO y=true
     ·rw[As n];unfold qIO at n;have N:=By n;rw[show 65536+((x:Int)-55296)*1024+((y:Int)-56320)=65536+((x:Int)-55296)*1024+(y:Int)-56320 by omega];exact b _ x y _ (by omega) (by omega) (by omega) (by omega) (.inr (.inr (.inr (.inr (.inr (.inr ⟨g,by omega,by omega,c,D,by omega,by omega,λV=>Z6 V _ (by omega) (by omega) (by omega),rfl,rfl⟩))))))
     rw[Aq n,show((i+6+4:Nat):Int)-1=(i:Int)+9 by omega];have S:¬(56320<=y/\y<=57343):=λh=>n (Bs h);exact b _ x y _ (by omega) (by omega) (by omega) (by omega) (.inr (.inr (.inr (.inr (.inl ⟨g,by omega,by omega,c,D,by omega,λV=>Ze a (p:=i+9) J V,rfl⟩)))))
  rw[Aq k];have O:¬(55296<=x/\x<=56319):=λh=>k (Bs h);subst A;exact b _ x 0 _ (by omega) (by omega) (by decide) (by decide) (.inr (.inr (.inr (.inr (.inr (.inl ⟨g,by omega,λV=>Z6 V _ (by omega) (by omega) (by omega),rfl,rfl⟩))))))
theorem qo(r:Int)(a:0<=r)(b:r<=127):runeCells r=[A7 .u8 r]:=by unfold runeCells;rw[encodeRuneZ_one a b];rfl
theorem TL(W:Al)(bs:A2)(fm d l:Int)(i:Nat)(x:Int×Int)(p:BM bs l i 9=x)(t:Bo bs l i=false\/(Bo bs l i=true/\∃c,bs[i]?=Aj c/\∀x,x∈[34,92,47,98,102,110,114,116,117]->¬c.toNat=x)):An Ao 117 #[.agg (AF bs fm d l),A7 Ah i] W λe g=>Kw W (.error x) e g/\A1 W g:=by
 have n:=O4 fm d p;have r:=Qa W bs fm d l;clear p;unfold AF;rcases t with b|⟨b,c,f,q⟩
 all_goals
  have o:=He fm d b;clear b
  try
   have v:=D6 bs i c f;have u:=B9 f;simp only[Gi,OH,OO,UE,forall_eq]at q;have C:=AI (c:=c) 34 (by omega);have E:=AI (c:=c) 92 (by omega);have D:=AI (c:=c) 47 (by omega);have F:=AI (c:=c) 98 (by omega);have w:=AI (c:=c) 102 (by omega);have y:=AI (c:=c) 110 (by omega);have z:=AI (c:=c) 114 (by omega);have A:=AI (c:=c) 116 (by omega);have B:=AI (c:=c) 117 (by omega);clear f q
  go_enter func117,ntmps117
  go_wp2_with(first
   |(go_at_call 57;refine BN (o _) r.next (λ_ h=>h.box) ?_;clear o;intro G s j k c2 m)
   |(go_at_call 37;refine BN (n _) s.next (λ_ h=>h.box) ?_;clear n j k c2 m;intro H a j k c2 m)
   |(refine Dd 6 _ rfl rfl (W.heap.size+1) x rfl rfl ?_ ?_;exact a.flt))
  exact Hf results117 (F3 a Bb _) (A8 Ak 0 0) (A7 Ah 0) rfl rfl rfl rfl ⟨rfl,(F3 a Bb _).2⟩
theorem Kx(W:Al)(bs:A2)(fm d l:Int)(i:Nat)(c:UInt8)(b:bs[i]?=Aj c)(j:Bo bs l i=true)(w:bs.length<=281474976710656)(v:Nat)(r:Int)(m:c.toNat=v)(n:(v,r)∈([(34,34),(92,92),(47,47),(98,8),(102,12),(110,10),(114,13),(116,9)]:List (Nat×Int))):An Ao 117 #[.agg (AF bs fm d l),A7 Ah i] W λe f=>Kw W (.ok (r,i+1)) e f/\A1 W f:=by
 have y:=O5 b m;have x:=B9 b;have g:=He fm d j;have p:=Qa W bs fm d l;clear j b m;unfold AF;simp only[Gi,N7,OH,OO]at n;rcases n with h|h|h|h|h|h|h|h
 all_goals
  obtain⟨rfl,rfl⟩:=h
 let r:Int:=34;rotate_left
 let r:Int:=92;rotate_left
 let r:Int:=47;rotate_left
 let r:Int:=8;rotate_left
 let r:Int:=12;rotate_left
 let r:Int:=10;rotate_left
 let r:Int:=13;rotate_left
 let r:Int:=9;rotate_left
 all_goals
  have q:runeCells r=[A7 .u8 r]:=qo r (By rfl) (By rfl);go_enter func117,ntmps117
  go_wp2_with(first
   |(go_at_call 57;refine BN (g _) p.next (λ_ h=>h.box) ?_;clear g;intro o a s t c2 u)
   |(refine Dd 6 _ rfl rfl (W.heap.size+1) (0,0) rfl rfl ?_ ?_;exact(a.next (LR _)).flt))
  have k:=(Oa o r [A7 .u8 r] 1 rfl q).1;exact Hf results117 (F3 (a.next (LR _)) Bb _) (A8 (Aj ⟨o.heap.size,0,Ak⟩) 1 1) (A7 Ah ((i:Int)+1)) rfl rfl rfl rfl ⟨⟨_,rfl,TI (TH k a.below.size) _ _ (TG k (At a.flt))⟩,(F3 (a.next (LR _)) Bb _).2⟩
theorem qp(W:Al)(bs:A2)(fm d l lim:Int)(i:Nat)(A:bs.length<=281474976710656)(c:UInt8)(k:bs[i]?=Aj c)(p:Bo bs l i=true)(t:c.toNat=117)(s:Lm bs l lim)(hi:AS bs lim (i+1)):An Ao 117 #[.agg (AF bs fm d l),A7 Ah i] W λe b=>Kw W (Ey bs lim (i+1)) e b/\A1 W b:=by
 have F:=O5 k t;have E:=B9 k;have n:=He fm d p;have u:=Qa W bs fm d l;have o:∀V,An Ao 150 #[Ac #[Aa ⟨bs.toArray⟩,A7 Ah fm,A7 Ah d,A7 Ah l],A7 Ah ((i:Int)+1)] V λe b=>Kw V (Ey bs lim (i+1)) e b/\A1 V b:=λV=>qn V bs fm d l lim (i+1) s hi A;clear p k t s hi;generalize Ey bs lim (i+1)=R at *;unfold AF;go_enter func117,ntmps117
 go_wp2_with(first
  |(go_at_call 57;refine BN (n _) u.next (λ_ h=>h.box) ?_;clear n;intro G g w x c2 y))
 refine(o _).mono ?_;clear o w x c2 y;rintro e H ⟨q,z⟩;have a:=Ap (g.next z)
 cases R with
 |error f =>
  obtain rfl:=q
  go_wp2_with(first
   |(refine Dd 6 68 rfl rfl (W.heap.size+1) f rfl rfl ?_ ?_;exact a.flt))
  exact Hf results117 (F3 a Bb _) (A8 Ak 0 0) (A7 Ah 0) rfl rfl rfl rfl ⟨rfl,(F3 a Bb _).2⟩
 |ok r =>
  obtain⟨v,rfl,j⟩:=q;obtain⟨B,D,C,rfl⟩:=j.2.2;have m:=Ap j;clear j
  go_wp2_with(first
   |(refine Dd 6 68 rfl rfl (W.heap.size+1) (0,0) rfl rfl ?_ ?_;exact a.flt))
  exact Hf results117 (F3 a Bb _) (A8 B D C) (A7 Ah r.2) rfl rfl rfl rfl ⟨⟨_,rfl,TI (TH m g.below.size) _ _ (TG m (At g.flt))⟩,(F3 a Bb _).2⟩
theorem qq(W:Al)(bs:A2)(fm d l lim:Int)(i:Nat)(h:Lm bs l lim)(hi:AS bs lim i)(f:bs.length<=281474976710656):An Ao 117 #[.agg (AF bs fm d l),A7 Ah i] W λe t=>Kw W (Eb bs lim i) e t/\A1 W t:=by
 unfold Eb
 cases a:bs[i]? with
 |none=>exact TL W bs fm d l i _ (JM hi.1 a 9) (.inl (Ir a))
 |some c =>
  simp only[];by_cases g:(i:Int)=lim
  ·rw[As g];exact TL W bs fm d l i _ (GB h a g 9) (.inl (Hz h a g))
  rw[Aq g];have b:=JN h hi a g;by_cases p:c.toNat=34
  ·rw[As p];exact Kx W bs fm d l i c a b f 34 34 p (by decide)
  rw[Aq p];by_cases r:c.toNat=92
  ·rw[As r];exact Kx W bs fm d l i c a b f 92 92 r (by decide)
  rw[Aq r];by_cases q:c.toNat=47
  ·rw[As q];exact Kx W bs fm d l i c a b f 47 47 q (by decide)
  rw[Aq q];by_cases s:c.toNat=98
  ·rw[As s];exact Kx W bs fm d l i c a b f 98 8 s (by decide)
  rw[Aq s];by_cases j:c.toNat=102
  ·rw[As j];exact Kx W bs fm d l i c a b f 102 12 j (by decide)
  rw[Aq j];by_cases k:c.toNat=110
  ·rw[As k];exact Kx W bs fm d l i c a b f 110 10 k (by decide)
  rw[Aq k];by_cases m:c.toNat=114
  ·rw[As m];exact Kx W bs fm d l i c a b f 114 13 m (by decide)
  rw[Aq m];by_cases n:c.toNat=116
  ·rw[As n];exact Kx W bs fm d l i c a b f 116 9 n (by decide)
  rw[Aq n];by_cases o:c.toNat=117
  ·rw[As o];exact qp W bs fm d l lim i f c a b o h (DZ hi a g)
  rw[Aq o];exact TL W bs fm d l i _ (Hc h hi a g 9) (.inr ⟨b,c,a,by simp[*]⟩)
theorem Zf(h:Av W b v bs)(f:A1 W W'):Av W' b v bs:=by
 obtain⟨⟨k,e⟩,l,m⟩:=h;refine⟨⟨k,?_⟩,AW l f.size,m⟩;rcases e with e|⟨g,i,j,a,b,c,d⟩
 ·exact .inl e
 exact .inr ⟨g,i,j,a,b,(f.block _ (At c)).trans c,d⟩
structure GD(W:World)(A:A4)(v:Value)(acc:A2)(V:World):Prop where
 box:V.heap[W.heap.size]?=some (.cells A 102)
 flt:V.heap[W.heap.size+1]?=some (.cells (Aw (0,0)) 64)
 own:Av V (W.heap.size+2) v acc
 below:A1 W V
theorem GD.next(h:GD W A v acc V)(a:A1 V V'):GD W A v acc V' :=
 ⟨(a.block _ (At h.box)).trans h.box,(a.block _ (At h.flt)).trans h.flt,Zf h.own a,h.below.trans (a.mono h.below.size)⟩
theorem GD.drew(h:GD W A v acc V):GD W A v acc V.drew:=⟨h.box,h.flt,h.own,h.below.drew⟩
theorem GD.grow{acc':A2}(h:GD W A v acc V)(a:V.grownBy V' v.ownBlock)(d:Av V' (W.heap.size+2) v' acc'):GD W A v' acc' V':=by
 have b:∀k,k<W.heap.size+2->Aj k≠v.ownBlock:=λk f e=>by have:=E7 h.own.1 e.symm;omega
 exact⟨(a.block _ (At h.box) (b _ (by omega))).trans h.box,(a.block _ (At h.flt) (b _ (by omega))).trans h.flt,d,
  h.below.trans ⟨a.os,a.tape,a.output,a.size,λi c=>a.block i (Br c h.below.size) (b _ (by omega))⟩⟩
theorem JS(V:Al)(f:Int×Int):A1 V ((V.alloc (Af (Aw (0,0)) 64)).setRow V.heap.size (Aw f)):=Bu AH (AB _) _
theorem GD.fin(h:GD W A v acc V)(g:Int×Int):(V.setRow (W.heap.size+1) (Aw g)).heap[W.heap.size+1]?=Aj (Af (Aw g) 64)/\A1 W (V.setRow (W.heap.size+1) (Aw g)) :=
 ⟨B4 _ _ _ _ _ _ h.flt,Bu h.below (by omega) _⟩
theorem qG(W:Al)(A:A4):GD W A (A8 Ak 0 0) [] ((W.alloc (Af A 102)).alloc (Af (Aw (0,0)) 64)) :=
 ⟨(Mz W A).box,(Mz W A).flt,⟨FK _ _ _ _,by simp,Ak,0,0,rfl⟩,(Mz W A).below⟩
def Oe(r:A6 A2)(e:Ending):Prop:=match r with
 |.ok (x,q)=>e=Ag (Ab #[Aa ⟨x.toArray⟩,A7 Ah q,.agg (Aw (0,0))])
 |.error f=>e=Ag (Ab #[Aa ⟨#[]⟩,A7 Ah 0,.agg (Aw f)])
theorem qH(a:Lm bs l lim)(b:k<bs.length)(h:(k:Int)<lim):min (bs.length:Int) l=min (bs.length:Int) lim:=by
 have c:=a k b;have d:=a (bs.length-1) (by omega);by_cases e:l<bs.length
 ·have f:=a l.toNat (by omega);have g:=a (l.toNat-1) (by omega);omega
 omega
theorem qI(bs:A2)(p j:Nat):(⟨bs.toArray⟩:ByteArray).extract p (p+j)=⟨(Dx bs p j).toArray⟩:=by
 apply LI;apply Array.toList_inj.1;rw[QN];simp[Dx]
theorem qJ{l:A2}(h:Av W b v l)(f:0<l.length):∃g a,v=A8 (Aj ⟨g,0,Ak⟩) l.length a:=by
 rcases h.1.2 with⟨_,d⟩|⟨g,a,c,e,_⟩
 ·omega
 exact⟨g,a,e⟩
theorem qK{cap:Nat}{l:A2}(h:Av W b (A8 (Aj ⟨g,0,Ak⟩) l.length cap) l):∀j u,(l.map B0)[j]?=Aj u->W.cell? ((⟨g,0,Ak⟩:Addr).add j)=Aj u:=h.1.cells (g:=g) rfl
theorem qL{l:A2}(h:Av W base v bs)(a:W'.ownsRow base 5 1 v' (bs.length+l.length) (bs.map B0++l.map B0))(b:W.grownBy W' v.ownBlock):Av W' base v' (bs++l):=by
 refine⟨by rw[AC,Eg];exact a,AW h.2.1 b.size,?_⟩;rcases a.2 with⟨e,_⟩|⟨g,c,d,e,_⟩
 ·exact⟨Ak,0,0,e⟩
 exact⟨_,_,_,e⟩
theorem qM(l:A2):∀u∈l.map B0,u.oneCell'=true:=λu a=>by
 obtain⟨b,_,rfl⟩:=KJ.1 a;rfl
theorem qN(r:Int):0<(Cu r).length:=by
 unfold Cu;rw[De];exact(encodeRuneZ_length r).1
theorem Zg{r:Int}(hi:AS bs lim p)(h:Eb bs lim p=.ok (r,q)):AS bs lim q/\p<q:=by
 unfold Eb at h
 cases g:bs[p]? with
 |none=>rw[g]at h;cases h
 |some c =>
  rw[g]at h;simp only[]at h;by_cases i:(p:Int)=lim
  ·rw[As i]at h;cases h
  rw[Aq i]at h;have j:=DZ hi g i
  repeat' split at h
  all_goals first
   |(cases h;done)
   |(injection h with h;injection h with _ h;subst h;exact⟨j,by omega⟩)
   |skip
  rename_i hu
  unfold Ey at h
  cases b:Ce bs lim 4 (p+1) 0 with
  |error f=>rw[b]at h;cases h
  |ok x =>
   obtain⟨x,q1⟩:=x;obtain⟨t,k,_⟩:=Ob 4 (p+1) 0 x q1 j b;rw[b]at h;simp only[]at h;split at h
   ·cases h
   split at h
   ·cases d:Ba bs lim [92,117] q1 with
    |error f=>rw[d]at h;cases h
    |ok s =>
     obtain⟨u,a⟩:=s;obtain⟨l,m⟩:=Oc [92,117] q1 a k d;have v:a=q1+2:=l;rw[d]at h;simp only[]at h
     cases e:Ce bs lim 4 a 0 with
     |error f=>rw[e]at h;cases h
     |ok y =>
      obtain⟨y,o⟩:=y;obtain⟨w,n,_⟩:=Ob 4 a 0 y o m e;rw[e]at h;simp only[]at h;split at h
      ·injection h with h;injection h with _ h;subst h;exact⟨n,by omega⟩
      cases h
   injection h with h;injection h with _ h;subst h;exact⟨k,by omega⟩
theorem qO(r:Int):(Cu r).length<=4:=by
 unfold Cu;rw[De];exact(encodeRuneZ_length r).2
theorem Of(W:Al)(bs:A2)(fm d l lim:Int)(i:Nat)(hl:Lm bs l lim)(hi:AS bs lim (i+1))(hb:bs.length<=281474976710656)(bk:lim<=200000000):An Ao 89 #[.agg (AF bs fm d l),A7 Ah i] W λe K=>Oe (Bn bs lim (bs.length+1-(i+1)) (i+1) [] 0) e/\A1 W K:=by
 obtain⟨i0,a3,a8,a9,ba⟩:=BH Tryz.infoU8;obtain⟨ad,E⟩:∃ad,Hid (Bn bs lim (bs.length+1-(i+1)) (i+1) [] 0=ad):=⟨_,show _=_ from rfl⟩
 rw[E.out];have bv:=hi.1;have b3:=Ks bs;have R:=Ap hl;have J:=Ap hi;have U:=MB bs fm d l;have N:=MC bs fm d l;have T:∀V (k:Nat),AS bs lim k->An Ao 117 #[Ac #[Aa ⟨bs.toArray⟩,A7 Ah fm,A7 Ah d,A7 Ah l],A7 Ah k] V λe K=>Kw V (Eb bs lim k) e K/\A1 V K:=λV k hk=>qq V bs fm d l lim k hl hk hb;clear hl hi;unfold AF;go_enter func89,ntmps89;go_wp2
 go_loopg[1,7] (bs.length+1-(i+1)) (λg br bq wr=>∃(k:Nat) (D:A2) (ae:A5) (ai af:Nat),br=A7 Ah k/\bq=A8 ae ai af/\Hid (bs.length+1<=k+g)/\Hid (D.length<=4*k)/\Hid (GD W (AF bs fm d l) (A8 ae ai af) D wr)/\Hid (AS bs lim k)/\Hid (Bn bs lim g k D D.length=ad))
 case atStart=>exact⟨i+1,[],Ak,0,0,rfl,rfl,by show _<=_;omega,Cy _,qG _ _,J,E⟩
 case round =>
  clear E J;obtain⟨k,D,ae,ai,af,rfl,rfl,Y,P,Q,J,E⟩:=hrel;have bj:=J.1;obtain⟨g,rfl⟩:∃g,gk=g+1:=⟨gk-1,by have:=Y.out;omega⟩
  obtain⟨o,s,c2,t⟩:=BF Q.box;have A:=λV=>U V k;have G:=λV=>N V k 9;have m:=E.out;rw[Bn]at m
  cases u:bs[k]? with
  |none =>
   rw[u]at m;simp only[]at m;rw[Ir u]at A;rw[JM bj u]at G;have L:=Ap m.symm;clear m u N U T E Y P
   go_wp2_with(first
    |(go_at_call 57;refine BN (A _) Q.next (λ_ h=>h.box) ?_;clear A o s c2 t;intro n w o s c2 t)
    |(go_at_call 37;refine BN (G _) w.next (λ_ h=>h.box) ?_;clear G o s c2 t;intro H F o s c2 t)
    |(refine Dd 6 29 rfl rfl (W.heap.size+1) (9,(k:Int)) rfl rfl ?_ ?_;exact F.flt))
   have B:=F.fin (9,(k:Int));refine Hf results89 B (Aa ⟨#[]⟩) (A7 Ah 0) rfl rfl rfl rfl ⟨?_,B.2⟩;rw[L.out];rfl
  |some I =>
   rw[u]at m;simp only[]at m;have bh:=λV=>D6 bs k I u V;have bi:=B9 u;by_cases C:(k:Int)=lim
   ·rw[As C]at m;rw[Hz R u C]at A;rw[GB R u C]at G;have L:=Ap m.symm;clear m u N U T E Y P C bh
    go_wp2_with(first
     |(go_at_call 57;refine BN (A _) Q.next (λ_ h=>h.box) ?_;clear A o s c2 t;intro n w o s c2 t)
     |(go_at_call 37;refine BN (G _) w.next (λ_ h=>h.box) ?_;clear G o s c2 t;intro H F o s c2 t)
     |(refine Dd 6 29 rfl rfl (W.heap.size+1) (8,(k:Int)) rfl rfl ?_ ?_;exact F.flt))
    have B:=F.fin (8,(k:Int));refine Hf results89 B (Aa ⟨#[]⟩) (A7 Ah 0) rfl rfl rfl rfl ⟨?_,B.2⟩;rw[L.out];rfl
   rw[Aq C]at m;rw[JN R J u C]at A;rw[Hc R J u C]at G;by_cases x:I.toNat<32
   ·rw[Aq (by omega),Aq (by omega),As x]at m;have L:=Ap m.symm;have bf:(I.toNat:Int)<32:=by omega
    clear m u N U T E Y P C x
    go_wp2_with(first
     |(go_at_call 57;refine BN (A _) Q.next (λ_ h=>h.box) ?_;clear A o s c2 t;intro n w o s c2 t)
     |(go_at_call 37;refine BN (G _) w.next (λ_ h=>h.box) ?_;clear G o s c2 t;intro H F o s c2 t)
     |(refine Dd 6 29 rfl rfl (W.heap.size+1) (9,(k:Int)) rfl rfl ?_ ?_;exact F.flt))
    have B:=F.fin (9,(k:Int));refine Hf results89 B (Aa ⟨#[]⟩) (A7 Ah 0) rfl rfl rfl rfl ⟨?_,B.2⟩;rw[L.out];rfl
   have bf:decide ((I.toNat:Int)<32)=false:=by simp;omega
   have b4:32<=(I.toNat:Int):=by omega
   clear G;by_cases X:I.toNat=34
   ·rw[As ⟨X,trivial⟩]at m;have L:=Ap m.symm;have bn:((I.toNat:Int)==34)=true:=by rw[X];rfl
    have a2:∀V,GD W (AF bs fm d l) (A8 ae ai af) D V->(convert 49 9 (A8 ae ai af)).run Ao V=.ok (Aa ⟨D.toArray⟩) V:=λV h=>RV h.own;clear m u N U T E Y P C x X
    go_wp2_with(first
     |(go_at_call 57;refine BN (A _) Q.next (λ_ h=>h.box) ?_;clear A o s c2 t;intro n w o s c2 t;have bu:=a2 _ w;clear a2)
     |(refine Dd 6 73 rfl rfl (W.heap.size+1) (0,0) rfl rfl ?_ ?_;exact w.flt))
    have B:=w.fin (0,0);refine Hf results89 B (Aa ⟨D.toArray⟩) (A7 Ah ((k:Int)+1)) rfl rfl rfl rfl ⟨?_,B.2⟩;rw[L.out];rfl
   rw[Aq (λh=>X h.1)]at m;have bn:((I.toNat:Int)==34)=false:=by simp;omega
   by_cases y:I.toNat=92
   ·rw[As ⟨y,trivial⟩]at m;have bo:((I.toNat:Int)==92)=true:=by rw[y];rfl
    have Z:=λV=>T V (k+1) (DZ J u C);rw[show((k+1:Nat):Int)=(k:Int)+1 by omega]at Z;have aq:=λr q h=>Zg (r:=r) (q:=q) (DZ J u C) h;have a0:=λf=>Tb bs lim (k+1) f
    cases ab:Eb bs lim (k+1)with
    |error f =>
     rw[ab]at m Z;have L:Hid (ad=.error f):=m.symm;have b0:(f.1==0)=false:=by have:=Tb bs lim (k+1) f.1 f.2 ab;simpa using this
     clear m u N U T E Y P C x X y aq a0 ab
     go_wp2_with(first
      |(go_at_call 57;refine BN (A _) Q.next (λ_ h=>h.box) ?_;clear A o s c2 t;intro n w o s c2 t)
      |(go_at_call 117;refine(Z _).mono ?_;clear Z o s c2 t;rintro e H ⟨he,an⟩;obtain rfl:=he;have F:=Ap (w.next an))
      |(refine Dd 10 83 rfl rfl (H.heap.size) (f) rfl rfl ?_ ?_;exact Ay H _;refine DM ?_;intro V4 v;have O:=Ap (v▸F.next (JS _ _));have HM:Hid (V4.heap[H.heap.size]?=Aj (Af (Aw (f)) 64)):=v▸B4 _ _ _ _ _ _ (Ay _ _);have ax:=Ap (At F.flt);clear v;generalize H.heap.size=M at *;have u0:=Ar HM 0;unfold Aw at u0))
     refine Cp (S:=λay=>ay.heap[M]?=Aj (Af (Aw f) 64)) (HM) (by kernel_rfl) ?_;intro hS;refine Au 1 4 (Aa ⟨#[]⟩) hS ?_;refine Au 2 5 (A7 Ah 0) hS ?_;refine AD 0 87 (.agg (Aw f)) rfl (λay hZ=>yF 10 hZ rfl rfl) hS ?_;refine Bc 3 (λbt hK=>?_);rw[As (by kernel_rfl)];refine IB 64 _ _ rfl (W.heap.size+1) (Aw f) rfl rfl 64 (Aw (0,0)) O.drew.flt (Hd _) rfl (Kt _) ?_;refine hK.out _ _ (sx (by have:=ax.out;omega) hS) (λ_=>?_);clear hK;refine Bw ?_;go_simp;clear u0;go_wp2;have B:=O.drew.fin (f);refine Hf results89 B (Aa ⟨#[]⟩) (A7 Ah 0) rfl rfl rfl rfl ⟨?_,B.2⟩;rw[L.out];rfl
    |ok bp =>
     obtain⟨r,q⟩:=bp;rw[ab]at m Z;have HN:Hid (Bn bs lim g q (D++Cu r) (D++Cu r).length=ad):=m;obtain⟨a7,a6⟩:=aq r q ab;have be:=Ap a7;have aw:=Ap a6;have b2:=qO r;have bm:=qN r;have bg:D.length<=800000000:=by have:=P.out;have:=J.2;omega
     clear m u N U T E C x X y aq a0 ab a7 a6
     go_wp2_with(first
      |(go_at_call 57;refine BN (A _) Q.next (λ_ h=>h.box) ?_;clear A o s c2 t;intro n w o s c2 t)
      |(go_at_call 117;refine(Z _).mono ?_;clear Z o s c2 t;rintro e H ⟨he,an⟩;obtain⟨b5,rfl,hO⟩:=he;obtain⟨vg,vc,rfl⟩:=qJ hO bm;have bc:=Ap hO;clear hO;have F:=Ap (w.next an))
      |(refine Dd 10 83 rfl rfl (H.heap.size) (0,0) rfl rfl ?_ ?_;exact Ay H _;refine DM ?_;intro V4 v;have O:=Ap (v▸F.next (JS _ _));have HM:Hid (V4.heap[H.heap.size]?=Aj (Af (Aw (0,0)) 64)):=v▸B4 _ _ _ _ _ _ (Ay _ _);have bd:=Ap (v▸Zf bc (JS _ _));have ax:=Ap (At F.flt);clear v;generalize H.heap.size=M at *;have u0:=Ar HM 0;unfold Aw at u0)
      |(at_builtin;(refine Bz _ rfl _ _ 49 rfl (W.heap.size+2) 5 i0 (A7 .u8 0) 1 1 underlying49 a3 a8 a9 ba rfl (by decide) _ _ _ rfl O.own.1 ⟨vg,0,Ak⟩ (Cu r).length vc ((Cu r).map B0) rfl (by simp) (qK bd) (qM _) (by unfold maxLen;omega) (by omega) O.own.2.1 ?_);intro v' w5 ac b au;clear au;have z:=qL O.own ac b;obtain⟨a5,n5,c5,rfl⟩:=z.2.2;have al:=Ap (O.grow b z);clear ac b z))
     go_roundg g
     case measure=>omega
     case rel=>exact⟨q,D++Cu r,a5,n5,c5,rfl,rfl,by show _<=_;have:=Y.out;have:=aw.out;omega,by show _<=_;rw[AC];have:=P.out;have:=aw.out;omega,al,be,HN⟩
   rw[Aq (λh=>y h.1)]at m;have bo:((I.toNat:Int)==92)=false:=by simp;omega
   have ar:(k:Int)<lim:=by have:=J.2;omega
   have bl:=qH R bi ar;obtain⟨c,aj⟩:∃c:Nat,(c:Int)=min (bs.length:Int) lim:=⟨(min (bs.length:Int) lim).toNat,by omega⟩
   have aa:=pE R aj J u C X y x D (g+1) Y.out;rw[E.out]at aa;rw[<-aj]at bl;have cG:=λV=>qF V bs k c I u hb (by omega);have b1:c<=bs.length:=by omega
   have az:=N;obtain⟨j,am,ao⟩:∃j am,My bs c k I=(j,am):=⟨_,_,rfl⟩
   rw[ao]at aa cG;cases am
   ·simp only[]at aa;obtain⟨a,ah⟩:=aa;have L:=Ap ah;have G:=λV=>N V (k+j) 9;rw[show((k+j:Nat):Int)=(k:Int)+(j:Int) by omega]at G;have a4:=a.1;generalize BM bs l (k+j) 9=xx at *;clear m u N az U T E C x X y aj ao a ah ar P;have ag:∀V,An Ao 118 #[Aa ⟨bs.toArray⟩,A7 Ah k,A7 Ah c] V λe K=>e=Ag (Ab #[A7 Ah j,.bool false])/\K=V:=cG;clear cG
    go_wp2_with(first
     |(go_at_call 57;refine BN (A _) Q.next (λ_ h=>h.box) ?_;clear A o s c2 t;intro n w o s c2 t)
     |(go_at_call 118;refine(ag _).mono ?_;clear ag;rintro e H ⟨rfl,av⟩;subst av)
     |(go_at_call 37;refine BN (G _) w.next (λ_ h=>h.box) ?_;clear G o s c2 t;intro w4 O o s c2 t)
     |(refine Dd 6 54 rfl rfl (W.heap.size+1) (xx) rfl rfl ?_ ?_;exact O.flt))
    have B:=O.fin (xx);refine Hf results89 B (Aa ⟨#[]⟩) (A7 Ah 0) rfl rfl rfl rfl ⟨?_,B.2⟩;rw[L.out];rfl
   simp only[]at aa;obtain⟨bw,a,bx,ah⟩:=aa;have HN:=Ap ah.symm;have bb:=Ap a;have a4:=a.1;have bz:((k+j:Nat):Int)<=200000000:=R0 a.2 bk;have ap:=Tt (bs:=bs) (p:=k) (k:=j) a4;have ak:Hid ((⟨bs.toArray⟩:ByteArray).extract (k:Int).toNat ((k:Int)+(j:Int)).toNat=⟨(Dx bs k j).toArray⟩):=by
    show _=_;rw[show(k:Int).toNat=k by omega,show((k:Int)+(j:Int)).toNat=k+j by omega];exact qI bs k j
   have a1:=Ks (Dx bs k j);have bg:D.length<=800000000:=by have:=P.out;have:=J.2;omega
   clear m u N az U T E C x X y aj ao a ah ar;have ag:∀V,An Ao 118 #[Aa ⟨bs.toArray⟩,A7 Ah k,A7 Ah c] V λe K=>e=Ag (Ab #[A7 Ah j,.bool true])/\K=V:=cG;clear cG
   go_wp2_with(first
    |(go_at_call 57;refine BN (A _) Q.next (λ_ h=>h.box) ?_;clear A o s c2 t;intro n w o s c2 t)
    |(go_at_call 118;refine(ag _).mono ?_;clear ag;rintro e H ⟨rfl,av⟩;subst av)
    |(at_builtin;(refine wpList_append_own_string _ rfl _ _ 49 9 rfl (W.heap.size+2) 5 i0 underlying49 underlying9 a3 a8 a9 ba _ _ _ rfl w.own.1 ((⟨bs.toArray⟩:ByteArray).extract (k:Int).toNat ((k:Int)+(j:Int)).toNat) rfl (by rw[ak.out,a1,ap];unfold maxLen;omega) (by rw[ak.out,a1,ap];omega) w.own.2.1 ?_);intro v' w5 ac b au;clear au;rw[ak.out]at ac;obtain⟨z,_⟩:=IG w.own ac b;obtain⟨a5,n5,c5,rfl⟩:=z.2.2;have al:=Ap (w.grow b z);clear ac b z))
   go_roundg (g+1-j)
   case measure=>omega
   case rel=>exact⟨k+j,D++Dx bs k j,a5,n5,c5,by go_num,rfl,by show _<=_;have:=Y.out;omega,by show _<=_;rw[AC,ap];have:=P.out;omega,al,bb,HN⟩
theorem qR{x:UInt8}{xs:A2}(a:bs[i]?=Aj c)(b:¬(i:Int)=lim)(d:c=x):Ba bs lim (x::xs) i=Ba bs lim xs (i+1):=by
 rw[Ba,a];simp only[];rw[Aq b,As d]
theorem Qj:∀(g p:Nat) (a:A2) (j:Nat) (x:A2) (q:Nat),AS bs lim p->Bn bs lim g p a j=.ok (x,q)->AS bs lim q
 |0,p,a,j,x,q,_,h=>by rw[Bn]at h;cases h
 |g+1,p,a,j,x,q,hi,h=>by
  rw[Bn]at h
  cases b:bs[p]? with
  |none=>rw[b]at h;cases h
  |some c =>
   rw[b]at h;simp only[]at h;by_cases i:(p:Int)=lim
   ·rw[As i]at h;cases h
   rw[Aq i]at h;have e:=DZ hi b i;split at h
   ·injection h with h;injection h with _ h;subst h;exact e
   split at h
   ·cases d:Eb bs lim (p+1)with
    |error f=>rw[d]at h;cases h
    |ok y =>
     obtain⟨r,q1⟩:=y;rw[d]at h;exact Qj g q1 _ _ x q (Zg e d).1 h
   split at h
   ·cases h
   split at h
   ·cases h
   exact Qj g (p+1) _ _ x q e h
theorem qS{w2 w3:Al}{d:A3}(h:BG k w3 (λj=>w2.heap.size<=j/\j<w3.heap.size) v d)(e:B<=w2.heap.size)(f:N+2<w2.heap.size):BG k ((w3.setRow (N+1) y).setRow (N+2) (Aw x)) (λj=>B<=j/\j<((w3.setRow (N+1) y).setRow (N+2) (Aw x)).heap.size) v d:=by
 refine h.same (λj c=>⟨by omega,?a⟩) (λj c=>?b)
 case a =>
  have:=c.2;simpa using this
 case b=>rw[BO _ _ _ _ (by omega),BO _ _ _ _ (by omega)]
def Zi(r:A6 Int):Except (Int×Int) (DataW Unit×Nat):=match r with
 |.error e=>.error e
 |.ok (z,q)=>.ok (.lit (.int Ah z),q)
theorem qT(h:Ep bs lim r (.error f)):Ep bs lim (Zi r) (.error f):=by
 rcases h with h|⟨q,_,_,_,x,a⟩
 ·rw[h];exact .inl rfl
 cases a
theorem qU(h:Ep bs lim r (.ok (z,q))):Ep bs lim (Zi r) (.ok (.lit (.int Ah z),q)):=by
 rcases h with h|⟨e,b,c,d,x,a⟩
 ·rw[h];exact .inl rfl
 injection a with a;injection a with h5 h6;subst h6;rw[b];exact .inr ⟨q,rfl,c,d,_,rfl⟩
theorem Zj{F:Nat->Prop}{d:A3}(h:BG 1 V F v d):BG (k+1) V F v d:=h.more (by omega)
theorem MF{r:Except (Int×Int) (DataW Unit×Nat)}{e:Ending}(h:DA k bs lim W r e W'):A1 W W'/\∃g c n s a i j b p m z F,Ep bs lim r g/\e=Ag (Ab #[.agg (Ax c n s (A8 a i j) (A8 b p m)),A7 Ah z,.agg (Aw F)])/\(∀d q,g=.ok (d,q)->AS bs lim q/\z=(q:Int)/\F=(0,0)/\BG k W' (λj=>W.heap.size<=j/\j<W'.heap.size) (.agg (Ax c n s (A8 a i j) (A8 b p m))) d)/\(∀f,g=.error f->F=f):=by
 obtain⟨v,g,o,t⟩:=h;refine⟨v,g,?_⟩
 cases g with
 |error f =>
  obtain⟨c,n,s,a,i,j,b,p,m,z,l⟩:=t;exact⟨c,n,s,a,i,j,b,p,m,z,f,o,l,(λd q e=>by cases e),(λu e=>by injection e)⟩
 |ok x =>
  obtain⟨d,q⟩:=x;obtain⟨y,c,n,s,a,i,j,b,p,m,l,w⟩:=t;refine⟨c,n,s,a,i,j,b,p,m,q,(0,0),o,l,λA B e=>?_,(λu e=>by cases e)⟩;injection e with e;injection e with e1 e2;subst e1;subst e2;exact⟨y,rfl,rfl,w⟩
def Og(k:Nat)(bs:A2)(lim:Int)(W:Al)(r:Except (Int×Int) (DataW Unit×Nat))(T:A4)(z:Int)(F:Int×Int):Prop :=
 ∀W',A1 W W'->DA k bs lim W r (Ag (Ab #[.agg T,A7 Ah z,.agg (Aw F)])) W'
theorem Oh{n:Int}(f:Int×Int):Og k bs lim W (.error f) (Ax kd n s AK AK) z f :=
 λ_ h=>⟨h,.error f,.inl rfl,_,_,_,_,_,_,_,_,_,_,rfl⟩
theorem Zk{n:Int}{dd:A3}(c:AS bs lim q)(h:∀a,BG 1 a (λj=>W.heap.size<=j/\j<a.heap.size) (.agg (Ax kd n s AK AK)) dd):Og (k+1) bs lim W (.ok (dd,q)) (Ax kd n s AK AK) q (0,0) :=
 λa b=>⟨b,.ok (dd,q),.inl rfl,c,_,_,_,_,_,_,_,_,_,rfl,Zj (h a)⟩
theorem TO(k:Nat)(W:Al)(bs:A2)(fm d l lim:Int)(i:Nat)(u:Int)(x:Int×Int)(o:BM bs l i 9=x)(p:Og (k+1) bs lim W R AR 0 x)(f:Bo bs l i=false\/(Bo bs l i=true/\∃c,bs[i]?=Aj c/\(∀x,x∈[110,102,116,34,91,123,45]->¬c.toNat=x)/\((c.toNat:Int)<48\/57<(c.toNat:Int)))):An Ao 59 #[.agg (AF bs fm d l),A7 Ah i,A7 Ah u] W (DA (k+1) bs lim W R):=by
 have m:=O4 fm d o;have s:=Kv W bs fm d l;have r:=Ap p;clear o p;unfold AF;rcases f with b|⟨b,c,e,q,f|f⟩
 all_goals
  have n:=He fm d b;clear b
  try
   have A:=D6 bs i c e;have z:=B9 e;simp only[Gi,OH,OO,UE,forall_eq]at q;have C:=AI (c:=c) 110 (by omega);have B:=AI (c:=c) 102 (by omega);have D:=AI (c:=c) 116 (by omega);have F:=AI (c:=c) 34 (by omega);have H:=AI (c:=c) 91 (by omega);have E:=AI (c:=c) 123 (by omega);have G:=AI (c:=c) 45 (by omega)
   first
    |have w:decide (48<=(c.toNat:Int))=false:=(by simp;omega)
    |(have v:48<=(c.toNat:Int):=(by omega);have y:decide ((c.toNat:Int)<=57)=false:=(by simp;omega))
   clear e q
  go_enter func59,ntmps59
  go_wp2_with(first
   |(go_at_call 57;refine s.ck (n _) ?_;clear n;intro I t g h c2 j)
   |(go_at_call 37;refine t.ck (m _) ?_;clear m g h c2 j;intro J a g h c2 j)
   |((with_reducible refine zT 6 _ rfl rfl (W.heap.size+1) (AR) ?_ ?_);exact⟨rfl,rfl,a.th,thg⟩)
   |((with_reducible refine zF 8 _ rfl rfl (W.heap.size+2) x ?_ ?_);exact⟨rfl,rfl,EI a Bb _⟩))
  refine Dz results59 (Dy a Bb _ _) (A7 Ah 0) rfl rfl rfl rfl (r _ (Dy a Bb _ _).2.2)
theorem Zl(k:Nat)(W:Al)(bs:A2)(fm d l lim:Int)(i:Nat)(L:Int)(c:UInt8)(p:bs[i]?=Aj c)(x:Bo bs l i=true)(v:Nat)(a:Array UInt8)(f q:Int)(F:Int×Int)(A:c.toNat=v)(B:(v,a,f)∈([(110,#[110,117,108,108],0),(102,#[102,97,108,115,101],1),(116,#[116,114,117,101],2)]:List (Nat×Array UInt8×Int)))(w:∀V,An Ao 88 #[.agg (AF bs fm d l),A7 Ah i,Aa ⟨a⟩] V λe H=>e=Ag (Ab #[A7 Ah q,.agg (Aw F)])/\A1 V H)(y:Og (k+1) bs lim W R (Ax f 0 ⟨#[]⟩ AK AK) q F):An Ao 59 #[.agg (AF bs fm d l),A7 Ah i,A7 Ah L] W (DA (k+1) bs lim W R):=by
 have O:=O5 p A;have N:=B9 p;have u:=He fm d x;have E:=Kv W bs fm d l;have C:=Ap y;clear x p A y;unfold AF at *;simp only[Gi,N7,OH,OO]at B;rcases B with h|h|h
 all_goals
  obtain⟨rfl,rfl,rfl⟩:=h
 let f:Int:=0;let b:Nat:=40;rotate_left
 let f:Int:=1;let b:Nat:=52;rotate_left
 let f:Int:=2;let b:Nat:=64;rotate_left
 all_goals
  go_enter func59,ntmps59
  go_wp2_with(first
   |(go_at_call 57;refine E.ck (u _) ?_;clear u;intro P G I J c2 K)
   |(go_at_call 88;refine ck (w _) G.next ?_;clear w I J c2 K;intro g s)
   |((with_reducible refine zF _ _ rfl rfl (g.heap.size) F ?_ ?_);exact⟨rfl,rfl,Ay g _⟩;refine DM ?_;intro t n;have j:Hid (FG W (AF bs fm d l) t):=n▸s.next (JS _ _);have D:Hid (t.heap[g.heap.size]?=Aj (Af (Aw F) 64)):=n▸B4 _ _ _ _ _ _ (Ay _ _);have r:Hid (W.heap.size+2<g.heap.size):=At s.flt;clear n;generalize g.heap.size=M at *))
  refine Cp (S:=λZ=>Z.heap[M]?=Aj (Af (Aw F) 64)) (D) (by kernel_rfl) ?_;intro m;refine tk 0 b (.agg (Ax f 0 ⟨#[]⟩ AK AK)) rfl (by kernel_rfl) DC (λZ z=>?y0) m ?_
  case y0=>(unfold Ax AK;dsimp only[f];go_simp)
  refine pG 1 (b+1) (A7 Ah q) (by kernel_rfl) DC m ?_;refine tk 2 (b+2) (.agg (Aw F)) rfl (by kernel_rfl) DC (λZ z=>yF _ z rfl rfl) m ?_;have o:=(BO _ (W.heap.size+1) M (Ax f 0 ⟨#[]⟩ AK AK) (by have:=r.out;omega)).trans m;refine I1 3 6 b (W.heap.size+1) (Ax f 0 ⟨#[]⟩ AK AK) (by kernel_rfl) (j.drew.th) thg o ?_;refine Au 4 7 (A7 Ah q) o ?_;refine sF 5 8 (b+2) (W.heap.size+2) F (by kernel_rfl) (EI j.drew Bb _) (sx (by have:=r.out;omega) o) ?_;refine Bw ?_;dsimp only[b];go_simp;go_wp2;refine Dz results59 (Dy j.drew Bb _ _) (A7 Ah q) rfl rfl rfl rfl (C _ (Dy j.drew Bb _ _).2.2)
theorem Zm(k:Nat)(W:Al)(bs:A2)(fm d l lim:Int)(i:Nat)(G:Int)(c:UInt8)(j:bs[i]?=Aj c)(t:Bo bs l i=true)(s:ByteArray)(q:Int)(F:Int×Int)(w:c.toNat=34)(r:∀V,An Ao 89 #[.agg (AF bs fm d l),A7 Ah i] V λe B=>e=Ag (Ab #[.string s,A7 Ah q,.agg (Aw F)])/\A1 V B)(u:Og (k+1) bs lim W R (Ax 4 0 s AK AK) q F):An Ao 59 #[.agg (AF bs fm d l),A7 Ah i,A7 Ah G] W (DA (k+1) bs lim W R):=by
 have I:=O5 j w;have H:=B9 j;have p:=He fm d t;have z:=Kv W bs fm d l;have x:=Ap u;clear t j w u;unfold AF at *;go_enter func59,ntmps59
 go_wp2_with(first
  |(go_at_call 57;refine z.ck (p _) ?_;clear p;intro J A C D c2 E)
  |(go_at_call 89;refine ck (r _) A.next ?_;clear r C D c2 E;intro b n)
  |((with_reducible refine zF _ _ rfl rfl (b.heap.size) F ?_ ?_);exact⟨rfl,rfl,Ay b _⟩;refine DM ?_;intro o g;have f:Hid (FG W (AF bs fm d l) o):=g▸n.next (JS _ _);have y:Hid (o.heap[b.heap.size]?=Aj (Af (Aw F) 64)):=g▸B4 _ _ _ _ _ _ (Ay _ _);have m:Hid (W.heap.size+2<b.heap.size):=At n.flt;clear g;generalize b.heap.size=M at *))
 refine Cp (S:=λZ=>Z.heap[M]?=Aj (Af (Aw F) 64)) (y) (by kernel_rfl) ?_;intro a;refine Au 0 77 (.string s) a ?_;refine AD 1 78 (.agg (Ax 4 0 s AK AK)) rfl (λZ v=>?y0) a ?_
 case y0=>(unfold Ax AK;go_simp)
 refine Au 2 79 (A7 Ah q) a ?_;refine AD 3 80 (.agg (Aw F)) rfl (λZ v=>yF _ v rfl rfl) a ?_;have h:=(BO _ (W.heap.size+1) M (Ax 4 0 s AK AK) (by have:=m.out;omega)).trans a;refine I1 4 6 78 (W.heap.size+1) (Ax 4 0 s AK AK) (by kernel_rfl) (f.drew.th) thg h ?_;refine Au 5 7 (A7 Ah q) h ?_;refine sF 6 8 80 (W.heap.size+2) F (by kernel_rfl) (EI f.drew Bb _) (sx (by have:=m.out;omega) h) ?_;refine Bw ?_;go_simp;go_wp2;refine Dz results59 (Dy f.drew Bb _ _) (A7 Ah q) rfl rfl rfl rfl (x _ (Dy f.drew Bb _ _).2.2)
theorem TP(k:Nat)(W:Al)(bs:A2)(fm d l lim:Int)(i:Nat)(r:Int)(c:UInt8)(j:bs[i]?=Aj c)(a:Bo bs l i=true)(b:((c.toNat=91\/c.toNat=123)/\∀V,An Ao 90 #[.agg (AF bs fm d l),A7 Ah i,A7 Ah r] V (DA (k+1) bs lim V R))\/((c.toNat=45\/(48<=(c.toNat:Int)/\(c.toNat:Int)<=57))/\∀V,An Ao 91 #[.agg (AF bs fm d l),A7 Ah i] V (DA (k+1) bs lim V R))):An Ao 59 #[.agg (AF bs fm d l),A7 Ah i,A7 Ah r] W (DA (k+1) bs lim W R):=by
 have ad:=B9 j;have q:=He fm d a;have w:=Kv W bs fm d l;clear a;unfold AF at *;rcases b with⟨b|b,n⟩|⟨b|⟨ab,ac⟩,n⟩
 all_goals
  have p:=Ap n;clear n
  first
   |(have J:=O5 j b;clear b)
   |(have J:=D6 bs i c j;have af:=AI (c:=c) 110 (by omega);have ae:=AI (c:=c) 102 (by omega);have ag:=AI (c:=c) 116 (by omega);have ai:=AI (c:=c) 34 (by omega);have ak:=AI (c:=c) 91 (by omega);have ah:=AI (c:=c) 123 (by omega);have aj:=AI (c:=c) 45 (by omega))
  clear j;go_enter func59,ntmps59
  go_wp2_with(first
   |(go_at_call 57;refine w.ck (q _) ?_;clear q;intro w2 m D E c2 G))
  refine(p _).mono ?_;clear D E c2 G p;rintro y w3 o;have L:=At m.flt;obtain⟨t,r',S,Y,s,A,N,P,C,e,U,z,F,K,rfl,I,hF⟩:=MF o;have g:=Ap (m.next t);have v:=Ap o.2;clear o K I hF t;simp only[]
  go_wp2_with(first
   |((with_reducible refine zT 6 _ rfl rfl (W.heap.size+1) (Ax S Y s (A8 A N P) (A8 C e U)) ?_ ?_);exact⟨rfl,rfl,g.th,thg⟩)
   |((with_reducible refine zF 8 _ rfl rfl (W.heap.size+2) F ?_ ?_);exact⟨rfl,rfl,EI g Bb _⟩))
  refine Dz results59 (Dy g Bb _ _) (A7 Ah z) rfl rfl rfl rfl ⟨(Dy g Bb _ _).2.2,?_⟩;obtain⟨u,a,h⟩:=v.out;refine⟨u,a,?_⟩
  cases u with
  |error aa=>exact h
  |ok al =>
   obtain⟨a,Q,X,f,x,M,O,B,Z,T,h,H⟩:=h;exact⟨a,Q,X,f,x,M,O,B,Z,T,h,qS H m.below.size L⟩
def I2(k:Nat)(V:Al)(b:Nat)(u:Am)(ex:Nat->Prop)(ds:List (DataW Unit)):Prop :=
 ∃xs,V.ownsRow b 62 5 u ds.length xs/\∀(i:Nat) (d:A3),ds[i]?=Aj d->∃a,FH xs i a/\BG k V (λj=>b<=j/\j<V.heap.size/\Aj j≠u.ownBlock/\¬ex j) (.agg a) d
theorem GE{e:TypeId}{size:Nat}(c:W.ownsRow base e size v n xs)(h:v.ownBlock=Aj g):g<W.heap.size:=by
 rcases c.2 with⟨a,_⟩|⟨i,d,f,rfl,_,b,_⟩
 ·subst a;cases h
 cases h;exact At b
theorem qV{t:TypeId}{size:Nat}(h:V.ownsRow b t size u n xs)(l:∀j,b<=j->j<V.heap.size->V'.heap[j]?=V.heap[j]?):V'.ownsRow b t size u n xs:=by
 refine⟨h.1,?_⟩;rcases h.2 with i|⟨g,d,f,e,a,c,k⟩
 ·exact .inl i
 exact .inr ⟨g,d,f,e,a,(l g a (At c)).trans c,k⟩
theorem I2.next(h:I2 k V b u ex ds)(p:V.heap.size<=V'.heap.size)(e:∀j,b<=j->j<V.heap.size->V'.heap[j]?=V.heap[j]?):I2 k V' b u ex ds:=by
 obtain⟨o,l,m⟩:=h;refine⟨o,qV l e,λi d n=>?_⟩;obtain⟨a,f,g⟩:=m i d n;exact⟨a,f,g.same (λj c=>⟨c.1,by have:=c.2.1;omega,c.2.2⟩) (λj c=>e j c.1 c.2.1)⟩
theorem Zn{ys:List Am}(b:xs.length=n*5)(hi:i<n)(h:FH xs i a):FH (xs++ys) i a:=by
 unfold FH at *;rw[ML (by omega),List.take_append_of_le_length (by rw[DK];omega)];exact h
theorem Zo(c:xs.length=n*5)(b:a.size=5):FH (xs++a.toList) n a:=by
 unfold FH;rw[show 5*n=xs.length by omega,List.drop_left,FJ (by simp;omega)]
theorem I2.push{w5:Al}{L:Nat}{d:A3}{o:Obj}(m:V.ownsRow b 62 5 u ds.length xs)(y:∀(i:Nat) (d:A3),ds[i]?=Aj d->∃a,FH xs i a/\BG k V (λj=>b<=j/\j<V.heap.size/\Aj j≠u.ownBlock/\¬ex j) (.agg a) d)(C:BG k V (λj=>L<=j/\j<V.heap.size) (.agg a) d)(z:∀g,u.ownBlock=Aj g->g<L)(E:b<=L)(B:∀j,L<=j->¬ex j)(A:a.size=5)(D:w5.ownsRow b 62 5 v' (ds.length+1) (xs++a.toList))(n:(V.alloc o).grownBy w5 u.ownBlock)(h:v'.ownBlock=u.ownBlock\/v'.ownBlock=Aj (V.alloc o).heap.size):I2 k w5 b v' ex (ds++[d]):=by
 have F:V.heap.size+1<=w5.heap.size:=by have:=n.size;simpa using this
 have q:∀j,j<V.heap.size->Aj j≠u.ownBlock->w5.heap[j]?=V.heap[j]?:=λj c l=>(n.block j (by simp;omega) l).trans (AL _ _ _ c);have r:∀j,j<V.heap.size->Aj j≠u.ownBlock->Aj j≠v'.ownBlock:=λj c l=>by
  rcases h with h|h
  ·rw[h];exact l
  rw[h];intro e;injection e with e;simp at e;omega
 refine⟨xs++a.toList,by rw[AC];exact D,λi v f=>?_⟩;by_cases p:i<ds.length
 ·rw[E3 p]at f;obtain⟨t,w,x⟩:=y i v f;exact⟨t,Zn m.1 p w,x.same (λj c=>⟨c.1,by have:=c.2.1;omega,r j c.2.1 c.2.2.1,c.2.2.2⟩) (λj c=>q j c.2.1 c.2.2.1)⟩
 have e:i=ds.length:=by
  have:=B9 f;rw[AC]at this;simp at this;omega
 subst e;rw[E2 (AB _),Nc]at f;injection f with f;subst f;have s:∀j,L<=j->Aj j≠u.ownBlock:=λj c e=>by have:=z j e.symm;omega
 exact⟨a,Zo m.1 A,C.same (λj c=>⟨by have:=c.1;omega,by have:=c.2;omega,r j c.2 (s j c.1),B j c.1⟩) (λj c=>q j c.2 (s j c.1))⟩
theorem I2.list(h:I2 k V b u ex ds)(q:B<=b):BG (k+1) V (λj=>B<=j/\j<V.heap.size) (.agg (Ax 6 0 ⟨#[]⟩ AK u)) (.agg ds):=by
 obtain⟨p,l,m⟩:=h;refine⟨u,p,rfl,ME l _ (λg r o=>⟨by omega,o⟩),λi d n=>?_⟩;obtain⟨a,e,f⟩:=m i d n;exact⟨a,e,f.same (λj c=>⟨by have:=c.1;omega,c.2.1⟩) (λ_ _=>rfl)⟩
theorem TQ(k:Nat)(V:Al)(b:Nat)(a:Nat->Prop):I2 k V b AK a []:=⟨[],FK _ _ _ _,λi d h=>by simp at h⟩
def Kz{α:Type}(bs:A2)(lim:Int)(itF:α->Nat->A6 α)(last g p1:Nat)(acc:α):A6 α:=match itF acc p1 with
   |.error e=>.error e
   |.ok (acc',p2)=>match Bk bs lim (bs.length+1-p2) p2 with
    |.error e=>.error e
    |.ok (_,p3)=>match bs[p3]? with
     |none=>.error (9,p3)
     |some c=>if(p3:Int)=lim then .error (8,p3)else if c.toNat=last then .ok (acc',p3+1)else if c.toNat=44 then C8 bs lim itF last g (p3+1) acc' else .error (9,p3)
theorem Zp{α:Type}(bs:A2)(lim:Int)(b:α->Nat->A6 α)(last g p:Nat)(a:α):C8 bs lim b last (g+1) p a=match Bk bs lim (bs.length+1-p) p with
  |.error e=>.error e
  |.ok (_,p1)=>Kz bs lim b last g p1 a:=by
 rw[C8];rfl
def J7{α:Type}(bs:A2)(lim:Int)(itF:α->Nat->A6 α)(last g p:Nat)(acc:α)(R:A6 α):Prop :=
 AS bs lim p/\((∃g',g=g'+1/\Kz bs lim itF last g' p acc=R)\/((p:Int)=lim/\p<bs.length/\R=.error (8,(p:Int))))
theorem Zq{α:Type}(f:Lm bs l lim){itF:α->Nat->A6 α}{acc:α}{R:A6 α}(hi:AS bs lim p)(a:C8 bs lim itF last (g+1) p acc=R):J7 bs lim itF last (g+1) (CI bs l (bs.length+1-p) p) acc R:=by
 rw[Zp]at a;rcases J2 f (bs.length+1-p) p hi with⟨q,b,c,d,e,_⟩|⟨q,b,c,d,e⟩
 ·rw[b]at a;rw[c];exact⟨d,.inl ⟨g,rfl,a⟩⟩
 rw[b]at a;rw[c];exact⟨⟨by omega,by omega⟩,.inr ⟨d,e,a.symm⟩⟩
theorem Tryz.infoThR:(prog.info? 62).map (λi=>(i.zero,i.size,i.bytes))=Aj (Aj (.agg AR),5,80):=by kernel_rfl
structure CS(W:World)(A:A4)(y:A4)(V:World):Prop where
 box:V.heap[W.heap.size]?=some (.cells A 102)
 th:V.heap[W.heap.size+1]?=some (.cells AR 62)
 flt:V.heap[W.heap.size+2]?=some (.cells (Aw (0,0)) 64)
 tv:V.heap[W.heap.size+3]?=some (.cells y 62)
 below:A1 W V
theorem CS.rth(h:CS W A y V):FG W A V:=⟨h.box,h.th,h.flt,h.below⟩
theorem CS.next(h:CS W A y V)(a:A1 V V'):CS W A y V' :=
 ⟨(a.block _ (At h.box)).trans h.box,(a.block _ (At h.th)).trans h.th,(a.block _ (At h.flt)).trans h.flt,(a.block _ (At h.tv)).trans h.tv,h.below.trans (a.mono h.below.size)⟩
theorem CS.size(h:CS W A y V):W.heap.size+4<=V.heap.size:=At h.tv
theorem Qk(W:Al)(A y:A4):CS W A y (((((W.alloc (Af A 102)).alloc (Af AR 62)).alloc (Af (Aw (0,0)) 64)).alloc (Af AR 62)).setRow (W.heap.size+3) y):=by
 have h:=Z3 W A;have c:(((W.alloc (Af A 102)).alloc (Af AR 62)).alloc (Af (Aw (0,0)) 64)).heap.size=W.heap.size+3:=by simp
 have b:=Ay (((W.alloc (Af A 102)).alloc (Af AR 62)).alloc (Af (Aw (0,0)) 64)) (Af AR 62);rw[c]at b;generalize(((W.alloc (Af A 102)).alloc (Af AR 62)).alloc (Af (Aw (0,0)) 64))=V at *;have a:=h.next (LR (Af AR 62))
 exact⟨sx (by omega) a.box,sx (by omega) a.th,sx (by omega) a.flt,B4 _ _ _ _ _ _ b,Bu a.below (by omega) _⟩
theorem Ql(W:Al)(A:A4):((((W.alloc (Af A 102)).alloc (Af AR 62)).alloc (Af (Aw (0,0)) 64)).alloc (Af AR 62)).heap[W.heap.size+3]?=Aj (Af AR 62):=by
 have b:(((W.alloc (Af A 102)).alloc (Af AR 62)).alloc (Af (Aw (0,0)) 64)).heap.size=W.heap.size+3:=by simp
 have a:=Ay (((W.alloc (Af A 102)).alloc (Af AR 62)).alloc (Af (Aw (0,0)) 64)) (Af AR 62);rw[b]at a;exact a
theorem qW(wr b:Al)(a:A4)(f:A4)(c:Below (wr.heap.size+2) ((wr.alloc (Af (Aw (0,0)) 64)).alloc (Af AR 62)) b):A1 wr ((b.setRow (wr.heap.size+1) a).setRow wr.heap.size f) :=
 Bu (Bu (((AH).alloc (by simp) _).trans (c.mono (by omega))) (by omega) _) (AB _) _
def qX(r:Except (Int×Int) (List (DataW Unit)×Nat)):Except (Int×Int) (DataW Unit×Nat):=match r with
 |.error e=>.error e
 |.ok (ds,q)=>.ok (.agg ds,q)
theorem Zr(h:∀a,Bk bs lim a q=.ok ((),q))(b:bs[q]?=Aj c):¬(q:Int)=lim:=λe=>by
 have:=h 1;rw[Bk,b]at this;simp only[]at this;rw[As e]at this;cases this
theorem Zs{α:Type}(n:Lm bs l lim){itF:α->Nat->A6 α}{p1:Nat}{acc:α}{R:A6 α}(hi:AS bs lim p)(f:p1=CI bs l (bs.length+1-p) p)(a:BW bs lim itF last p acc=R):AS bs lim p1/\((∃c,bs[p1]?=Aj c/\Bo bs l p1=true/\c.toNat=last/\R=.ok (acc,p1+1)/\AS bs lim (p1+1))\/((Bo bs l p1=false\/∃c,bs[p1]?=Aj c/\Bo bs l p1=true/\¬c.toNat=last)/\J7 bs lim itF last (bs.length+1-p1) p1 acc R)):=by
 unfold BW at a;rcases J2 n (bs.length+1-p) p hi with⟨q,i,j,b,k,w⟩|⟨q,i,j,b,k⟩
 ·rw[j]at f;subst f;rw[i]at a;simp only[]at a;have u:=w (by have:=hi.1;omega);refine⟨b,?_⟩;have v:∀h,C8 bs lim itF last (bs.length+1-p1) p1 acc=h->J7 bs lim itF last (bs.length+1-p1) p1 acc h:=λh m=>by
   obtain⟨g,s⟩:∃g,bs.length+1-p1=g+1:=⟨bs.length-p1,by have:=b.1;omega⟩
   rw[s]at m ⊢;rw[Zp,s,u (g+1)]at m;exact⟨b,.inl ⟨g,rfl,m⟩⟩
  cases d:bs[p1]? with
  |none =>
   rw[d]at a;exact .inr ⟨.inl (Ir d),v R a⟩
  |some c =>
   rw[d]at a;simp only[]at a;have o:=Zr u d;rw[Aq o]at a;have t:=JN n b d o;by_cases e:c.toNat=last
   ·rw[As e]at a;exact .inl ⟨c,rfl,t,e,a.symm,DZ b d o⟩
   rw[Aq e]at a;exact .inr ⟨.inr ⟨c,rfl,t,e⟩,v R a⟩
 rw[j]at f;subst f;rw[i]at a;simp only[]at a;obtain⟨c,d⟩:∃c,bs[p1]?=Aj c:=⟨_,AY k⟩
 have r:AS bs lim p1:=⟨by omega,by omega⟩
 exact⟨r,.inr ⟨.inl (Hz n d b),r,.inr ⟨b,k,a.symm⟩⟩⟩
theorem Zt{α:Type}(e:Lm bs l lim){itF:α->Nat->A6 α}{p2 p3:Nat}{acc acc':α}{R:A6 α}(hi:AS bs lim p2)(j:p3=CI bs l (bs.length+1-p2) p2)(r:itF acc p=.ok (acc',p2))(a:Kz bs lim itF last g p acc=R):AS bs lim p3/\p2<=p3/\((Bo bs l p3=false/\R=.error (BM bs l p3 9))\/∃c,bs[p3]?=Aj c/\Bo bs l p3=true/\((c.toNat=last/\R=.ok (acc',p3+1)/\AS bs lim (p3+1))\/(¬c.toNat=last/\c.toNat=44/\AS bs lim (p3+1)/\C8 bs lim itF last g (p3+1) acc'=R)\/(¬c.toNat=last/\¬c.toNat=44/\R=.error (BM bs l p3 9)))):=by
 unfold Kz at a;rw[r]at a;simp only[]at a;rcases J2 e (bs.length+1-p2) p2 hi with⟨q,k,m,d,n,o⟩|⟨q,k,m,d,n⟩
 ·rw[m]at j;subst j;rw[k]at a;simp only[]at a;refine⟨d,n,?_⟩
  cases b:bs[p3]? with
  |none =>
   rw[b]at a;exact .inl ⟨Ir b,by rw[JM d.1 b];exact a.symm⟩
  |some c =>
   rw[b]at a;simp only[]at a;have h:=Zr (o (by have:=hi.1;omega)) b;rw[Aq h]at a;refine .inr ⟨c,rfl,JN e d b h,?_⟩;by_cases f:c.toNat=last
   ·rw[As f]at a;exact .inl ⟨f,a.symm,DZ d b h⟩
   rw[Aq f]at a;by_cases i:c.toNat=44
   ·rw[As i]at a;exact .inr (.inl ⟨f,i,DZ d b h,a⟩)
   rw[Aq i]at a;exact .inr (.inr ⟨f,i,by rw[Hc e d b h];exact a.symm⟩)
 rw[m]at j;subst j;rw[k]at a;simp only[]at a;obtain⟨c,b⟩:∃c,bs[p3]?=Aj c:=⟨_,AY n⟩
 refine⟨⟨by omega,by omega⟩,by have:=hi.2;omega,.inl ⟨Hz e b d,?_⟩⟩;rw[GB e b d];exact a.symm
theorem Zu(b:Lm bs l lim)(d:(q:Int)=lim)(h:q<bs.length):CI bs l (bs.length+1-q) q=q/\Bo bs l q=false/\BM bs l q 9=(8,(q:Int)):=by
 obtain⟨c,f⟩:∃c,bs[q]?=Aj c:=⟨_,AY h⟩
 refine⟨?_,Hz b f d,GB b f d 9⟩;rcases J2 b (bs.length+1-q) q ⟨by omega,by omega⟩with⟨j,g,a,e,i,_⟩|⟨j,g,a,e,i⟩
 ·have:=e.2;rw[a];omega
 rw[a];omega
end
end Go.Proofs.YtoegnhgofkhbnaaGreatDoor
