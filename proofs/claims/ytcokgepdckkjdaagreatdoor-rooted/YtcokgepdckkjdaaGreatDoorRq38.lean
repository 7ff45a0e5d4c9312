import Derived.Test.YtcokgepdckkjdaaGreatDoorRq26
import Derived.Test.YtcokgepdckkjdaaGreatDoorRq28
set_option maxRecDepth 100000
set_option maxHeartbeats 8000000
namespace Go.Proofs.YtcokgepdckkjdaaGreatDoor
open Go.Proofs.Tryz
variable {fn:Func}{p u u2:Tmp}{A:Array Value}{V V' W W' w:World}{M b g i q:Nat}{F f:Int×Int}{acc bs:List UInt8}{d fm l lim:Int}{v v':Value}
section
open Go.RowKit Go.Lib
theorem qz0 {P:Program}{ty:TypeId}(h:fn.results=#[.tmp u,.tmp u2,.cell p ty])(b:Array Value)(w:World)(g:Nat)(t:TypeId)(cs:Array Value)(c:Nat×Nat)(d:TypeDesc)(k:b.getD p undef=.pointer (some ⟨g,0,none⟩))(j:w.heap[g]? = some (.cells cs t c))(l:P.underlying ty=some d)(i:(match d with|.struct _|.array _ _=>true|_=>false)=true)(hi:(P.info? ty).map (·.size)=some cs.size)(v f:Value)(m:b.getD u undef=v)(n:b.getD u2 undef=f):(results fn b).run P w=.ok (.tuple #[v,f,.agg cs]) w:=by
 have e:(results fn b).run P w=((asAddr (b.getD p undef)).run P w).andThen fun a o=>((loadVar ty a).run P o).andThen fun v q=>.ok (.tuple #[b.getD u undef,b.getD u2 undef,v]) q:=by
  simp only[results,h];simp[Sem.run_bind,Result.andThen]
 subst m n;rw[e,k];simp only[asAddr,Sem.run_pure,Result.andThen_ok,run_loadVar_row w g t ty cs c d j l i hi]
theorem q3e {tmps:Array Value}(h:fn.results=#[.tmp u,.tmp u2,.cell p 57])(b:w.heap[g]? = some (.cells (qqp F) 57))(v a:Value)(c:tmps.getD p undef=.pointer (some ⟨g,0,none⟩))(d:tmps.getD u undef=v)(e:tmps.getD u2 undef=a):(results fn tmps).run prog w=.ok (.tuple #[v,a,.agg (qqp F)]) w :=
 qz0 h _ _ g _ _ _ _ c b underlying57 rfl (qxL _) v a d e
theorem q0A {A:Act}{R:Ending->World->Prop}{B:Prop}(h:fn.results=#[.tmp u,.tmp u2,.cell p 57])(c:w.heap[g]? = some (.cells (qqp F) 57)/\B)(v a:Value)(d:A.tmps.getD p undef=.pointer (some ⟨g,0,none⟩))(e:A.tmps.getD u undef=v)(f:A.tmps.getD u2 undef=a)(b:A.defers=[])(k:R (.returned (.tuple #[v,a,.agg (qqp F)])) w):bodyPost prog fn R .ret A w:=bodyPost_ret (q3e h c.1 v a d e f) b k
structure qyT (W:World)(A:Array Value)(M:Nat)(f:Int×Int)(V:World):Prop where
 box:V.heap[W.heap.size]? = some (.cells A 77)
 flt:V.heap[W.heap.size+1]? = some (.cells (qqp (0,0)) 57)
 loc:V.heap[M]? = some (.cells (qqp f) 57)
 below:Below W.heap.size W V
 lt:W.heap.size+1<M
theorem qyT.next (h:qyT W A M f V)(a:Below V.heap.size V V'):qyT W A M f V' :=
 ⟨(a.block _ (ltA h.box)).trans h.box,(a.block _ (ltA h.flt)).trans h.flt,(a.block _ (ltA h.loc)).trans h.loc,h.below.trans (a.mono h.below.size),h.lt⟩
theorem qyT.drew (h:qyT W A M f V):qyT W A M f V.drew:=⟨h.box,h.flt,h.loc,h.below.drew,h.lt⟩
theorem qyT.put (h:qyT W A M f V)(g:Int×Int):qyT W A M g (V.setRow M (qqp g)):=by
 have a:=h.lt;exact⟨sx (by omega) h.box,sx (by omega) h.flt,setRow_heap _ _ _ _ _ _ h.loc,qah h.below (by omega) _,h.lt⟩
theorem q2g (h:RIn W A (W.heap.size+1) V)(g:Int×Int):qyT W A V.heap.size g ((V.alloc (.cells (qqp (0,0)) 57)).setRow V.heap.size (qqp g)):=by
 have a:=ltA h.flt;have b:qyT W A V.heap.size (0,0) (V.alloc (.cells (qqp (0,0)) 57)) :=
  ⟨(Below.heap_alloc _ _ _ (by omega)).trans h.box,(Below.heap_alloc _ _ _ a).trans h.flt,qac _ _,h.below.alloc (by omega) _,a⟩
 exact b.put g
theorem qyT.fin (h:qyT W A M f V)(g:Int×Int):(V.setRow (W.heap.size+1) (qqp g)).heap[W.heap.size+1]? = some (.cells (qqp g) 57)/\Below W.heap.size W (V.setRow (W.heap.size+1) (qqp g))/\(V.setRow (W.heap.size+1) (qqp g)).heap[M]? = some (.cells (qqp f) 57) :=
 ⟨setRow_heap _ _ _ _ _ _ h.flt,qah h.below (by omega) _,(setRow_other _ _ _ _ (by have:=h.lt;omega)).trans h.loc⟩
theorem qy7:∀(k p a x q:Nat),InR bs lim p->qgA bs lim k p a=.ok (x,q)->q=p+k/\InR bs lim q/\x<(a+1)*16^k
 |0,p,a,x,q,hi,h=>by
  rw[qgA] at h;injection h with h;injection h with h1 h2;subst h1 h2;exact⟨rfl,hi,by omega⟩
 |k+1,p,a,x,q,hi,h=>by
  rw[qgA] at h
  cases b:bs[p]? with
  |none=>rw[b] at h;cases h
  |some c =>
   rw[b] at h;simp only[] at h;by_cases d:(p:Int)=lim
   ·rw[if_pos d] at h;cases h
   rw[if_neg d] at h
   cases e:qqh c with
   |none=>rw[e] at h;cases h
   |some i =>
    rw[e] at h;obtain⟨j,f,g⟩:=qy7 k (p+1) (a*16+i) x q (qxG hi b d) h;have l:=qnW e;refine⟨by omega,f,Nat.lt_of_lt_of_le g ?_⟩;rw[Nat.pow_succ,Nat.mul_comm (16^k) 16,<-Nat.mul_assoc];exact Nat.mul_le_mul_right _ (by omega)
theorem qyr:∀(w:List UInt8) (p q:Nat),InR bs lim p->qaT bs lim w p=.ok ((),q)->q=p+w.length/\InR bs lim q
 |[],p,q,hi,h=>by
  rw[qaT] at h;injection h with h;injection h with _ h2;subst h2;exact⟨rfl,hi⟩
 |x::w,p,q,hi,h=>by
  rw[qaT] at h
  cases a:bs[p]? with
  |none=>rw[a] at h;cases h
  |some c =>
   rw[a] at h;simp only[] at h;by_cases b:(p:Int)=lim
   ·rw[if_pos b] at h;cases h
   rw[if_neg b] at h;by_cases d:c=x
   ·rw[if_pos d] at h;obtain⟨f,e⟩:=qyr w (p+1) q (qxG hi a b) h;exact⟨by rw[List.length_cons];omega,e⟩
   rw[if_neg d] at h;cases h
theorem q1R {p:Nat}(a:Lm bs l lim)(hi:InR bs lim (p+1))(e:Int):qr0 bs l p e=(e,(p:Int)):=by
 have b:=hi.1;have c:=hi.2;have d:=a p (by omega);unfold qr0;rw[if_neg (by omega),if_neg (by omega)]
theorem qzH {N:Nat}(h:Own W' b v bs)(a:N<b):v.ownBlock≠some N:=fun e=>by have:=qbA h.1 e;omega
theorem qzf {b':Nat}(h:Own W' b v bs)(l:b'<=b):Own W' b' v bs:=by
 obtain⟨⟨i,d⟩,k,j⟩:=h;refine⟨⟨i,?_⟩,by omega,j⟩;rcases d with d|⟨g,e,f,a,b,c⟩
 ·exact .inl d
 exact .inr ⟨g,e,f,a,by omega,c⟩
theorem qzJ (h:Own W' b v bs)(N:Nat)(cs:Array Value)(n:v.ownBlock≠some N):Own (W'.setRow N cs) b v bs:=by
 obtain⟨⟨k,f⟩,l,m⟩:=h;refine⟨⟨k,?_⟩,by simpa using l,m⟩;rcases f with f|⟨g,i,j,a,b,c,d⟩
 ·exact .inl f
 refine .inr ⟨g,i,j,a,b,(setRow_other _ _ _ _ (fun e=>n ?_)).trans c,d⟩;rw[a,<-e];rfl
def qzs (W:World)(r:Except (Int×Int) (Int×Nat))(e:Ending)(W':World):Prop:=match r with
 |.ok (x,q)=>∃v,e=.returned (.tuple #[v,.int .i64 q,.agg (qqp (0,0))])/\Own W' W.heap.size v (qcD x)
 |.error f=>e=.returned (.tuple #[.slice none 0 0,.int .i64 0,.agg (qqp f)])
theorem qyT.ck {f:FuncId}{args:Array Value}{r:Ending}{Q:Ending->World->Prop}{x:Int×Int}(h:qyT W (inA bs fm d l) M x V)(c:Calls prog f args V fun e a=>e=r/\Below V.heap.size V a)(k:∀w,Hid (qyT W (inA bs fm d l) M x w)->w.cell? ⟨W.heap.size,0,none⟩=(#[.string ⟨bs.toArray⟩,.int .i64 fm,.int .i64 d,.int .i64 l]:Array Value)[0]?->w.cell? ⟨W.heap.size,1,none⟩=(#[.string ⟨bs.toArray⟩,.int .i64 fm,.int .i64 d,.int .i64 l]:Array Value)[1]?->w.cell? ⟨W.heap.size,2,none⟩=(#[.string ⟨bs.toArray⟩,.int .i64 fm,.int .i64 d,.int .i64 l]:Array Value)[2]?->w.cell? ⟨W.heap.size,3,none⟩=(#[.string ⟨bs.toArray⟩,.int .i64 fm,.int .i64 d,.int .i64 l]:Array Value)[3]?->w.cell? ⟨M,0,none⟩=some (.int .i64 x.1)->Q r w):Calls prog f args V Q :=
 _root_.Go.Proofs.YtcokgepdckkjdaaGreatDoor.ck c h.next fun w H=>k w H (qya H.out.box).1 (qya H.out.box).2.1 (qya H.out.box).2.2.1 (qya H.out.box).2.2.2 (qab H.out.loc 0)
theorem qyT.st {ops:Array Oper}{rest:List Oper}{o:Oper}{a:Act}{Q:Exit->Act->World->Prop}(h:qyT W (inA bs fm d l) M (0,0) V)(x y:Nat)(c:o.guard=none)(e:o.op=.store 57 (.tmp x) (.tmp y))(F:Int×Int)(b:a.eval (.tmp x)=.pointer (some ⟨M,0,none⟩)/\a.eval (.tmp y)=.agg (qqp F))(k:∀w,Hid (qyT W (inA bs fm d l) M F w)->w.cell? ⟨W.heap.size,0,none⟩=(#[.string ⟨bs.toArray⟩,.int .i64 fm,.int .i64 d,.int .i64 l]:Array Value)[0]?->w.cell? ⟨W.heap.size,1,none⟩=(#[.string ⟨bs.toArray⟩,.int .i64 fm,.int .i64 d,.int .i64 l]:Array Value)[1]?->w.cell? ⟨W.heap.size,2,none⟩=(#[.string ⟨bs.toArray⟩,.int .i64 fm,.int .i64 d,.int .i64 l]:Array Value)[2]?->w.cell? ⟨W.heap.size,3,none⟩=(#[.string ⟨bs.toArray⟩,.int .i64 fm,.int .i64 d,.int .i64 l]:Array Value)[3]?->w.cell? ⟨M,0,none⟩=some (.int .i64 F.1)->wpList prog ops Q rest (a.put o.dst undef) w):wpList prog ops Q (o::rest) a V :=
 stF x y c e M F b.1 b.2 h.loc (k _ (h.put F) (qya (h.put F).box).1 (qya (h.put F).box).2.1 (qya (h.put F).box).2.2.1 (qya (h.put F).box).2.2.2 (qab (h.put F).loc 0))
def HxC (bs:List UInt8)(fm d l:Int)(i x:Int)(F:Int×Int):Prop:=∀V,Calls prog 155 #[.agg #[.string ⟨bs.toArray⟩,.int .i64 fm,.int .i64 d,.int .i64 l],.int .i64 i] V fun e W'=>e=.returned (.tuple #[.int .i64 x,.agg (qqp F)])/\Below V.heap.size V W'
def WdC (bs:List UInt8)(fm d l:Int)(i x:Int)(F:Int×Int):Prop:=∀V,Calls prog 71 #[.agg #[.string ⟨bs.toArray⟩,.int .i64 fm,.int .i64 d,.int .i64 l],.int .i64 i,.string ⟨#[92,117]⟩] V fun e W'=>e=.returned (.tuple #[.int .i64 x,.agg (qqp F)])/\Below V.heap.size V W'
def BdC (bs:List UInt8)(fm d l:Int)(i:Int)(F:Int×Int):Prop:=∀V,Calls prog 31 #[.agg #[.string ⟨bs.toArray⟩,.int .i64 fm,.int .i64 d,.int .i64 l],.int .i64 i,.int .i64 9] V fun e W'=>e=.returned (.agg (qqp F))/\Below V.heap.size V W'
def UtC (x:Int):Prop:=∀V,Calls prog 156 #[.int .i64 x] V fun e W'=>∃v,e=.returned v/\Own W' V.heap.size v (qcD x)/\Below V.heap.size V W'
theorem q12 (W:World)(bs:List UInt8)(fm d l:Int)(i:Nat)(ad:i<=bs.length)(hb:bs.length<=281474976710656)(R:Except (Int×Int) (Int×Nat))(x y:Int)(F:Int×Int)(ae:0<=x)(af:x<65536)(ag:0<=y)(ah:y<65536)(hw:(HxC bs fm d l i 0 F/\(F.1==0)=false/\R=.error F)\/(HxC bs fm d l i x (0,0)/\55296<=x/\x<56320/\WdC bs fm d l ((i:Int)+4) 0 F/\(F.1==0)=false/\R=.error F)\/(HxC bs fm d l i x (0,0)/\55296<=x/\x<56320/\WdC bs fm d l ((i:Int)+4) ((i:Int)+6) (0,0)/\HxC bs fm d l ((i:Int)+6) 0 F/\(F.1==0)=false/\R=.error F)\/(HxC bs fm d l i x (0,0)/\56320<=x/\x<=57343/\BdC bs fm d l ((i:Int)+3) F/\R=.error F)\/(HxC bs fm d l i x (0,0)/\55296<=x/\x<56320/\WdC bs fm d l ((i:Int)+4) ((i:Int)+6) (0,0)/\HxC bs fm d l ((i:Int)+6) y (0,0)/\(y<56320\/57343<y)/\BdC bs fm d l ((i:Int)+6+3) F/\R=.error F)\/(HxC bs fm d l i x (0,0)/\(x<55296\/57343<x)/\UtC x/\F=(0,0)/\R=.ok (x,i+4))\/(HxC bs fm d l i x (0,0)/\55296<=x/\x<56320/\WdC bs fm d l ((i:Int)+4) ((i:Int)+6) (0,0)/\HxC bs fm d l ((i:Int)+6) y (0,0)/\56320<=y/\y<=57343/\UtC (65536+(x-55296)*1024+y-56320)/\F=(0,0)/\R=.ok (65536+(x-55296)*1024+y-56320,i+10))):Calls prog 125 #[.agg (inA bs fm d l),.int .i64 i] W fun e L=>qzs W R e L/\Below W.heap.size W L:=by
 have V:=q16 W bs fm d l;have n:∀{p:Prop} [Decidable p],¬p->Hid (decide p=false):=fun h=>decide_eq_false h;have C:∀{p:Prop} [Decidable p],p->Hid (decide p=true):=fun h=>decide_eq_true h;unfold inA;rcases hw with ⟨k,P,rfl⟩|⟨k,o,u,r,P,rfl⟩|⟨k,o,u,r,t,P,rfl⟩|⟨k,o,u,A,rfl⟩|⟨k,o,u,r,t,N|N,A,rfl⟩|⟨k,o|o,B,rfl,rfl⟩|⟨k,o,u,r,t,N,h4,B,rfl,rfl⟩
 let b:Nat:=20;rotate_left
 let b:Nat:=48;rotate_left
 let b:Nat:=58;rotate_left
 rotate_left 6
 all_goals
  unfold HxC at *
  try unfold WdC at *
  try unfold BdC at *
  try unfold UtC at *
  try have Y:=(n (p:=x<55296) (by omega)).out
  try have v:=(n (p:=57343<x) (by omega)).out
  try have K:=(n (p:=56320<=x) (by omega)).out
  try have I:=n (p:=y<56320) (by omega)
  try have I:=C (p:=y<56320) (by omega)
  try have J:=n (p:=57343<y) (by omega)
  try have J:=C (p:=57343<y) (by omega)
  clear n C;go_enter func125,ntmps125
  go_wp2_with (first
   |(go_at_call 155;refine ckB (k _) V.out.next ?_;clear k;intro m aa s;obtain⟨c,f,c2,g⟩:=qya s.out.box)
   |(go_at_call 71;refine a.out.ck (r _) ?_;clear r Y v K c f c2 g j a;intro w3 a c f c2 g j)
   |(go_at_call 155;refine a.out.ck (t _) ?_;clear t c f c2 g j a;intro w4 a c f c2 g j)
   |(go_at_call 31;refine a.out.ck (A _) ?_;clear A c f c2 g j a;intro Q a c f c2 g j)
   |(go_at_call 156;refine(B _).mono ?_;clear B c f c2 g j;rintro e Q ⟨ai,rfl,w,ab⟩;obtain⟨E,H,G,rfl⟩:=w.2.2;have U:Hid (Own Q W.heap.size (.slice E H G) _):=qzf w a.out.below.size;have T:Hid ((Value.slice E H G).ownBlock≠some (W.heap.size+1)):=qzH w (ltA a.out.flt);clear w;have a:=qaa (a.out.next ab))
   |((first|((with_reducible refine stF 8 16 rfl rfl (m.heap.size) (0,0) ?_ ?_ ?_ ?_);exact rfl;exact rfl;exact qac m _;refine nmd ?_;intro z q;have a:Hid (qyT W (inA bs fm d l) m.heap.size (0,0) z):=q▸q2g s.out _;clear q)|((with_reducible refine stF 8 16 rfl rfl (m.heap.size) F ?_ ?_ ?_ ?_);exact rfl;exact rfl;exact qac m _;refine nmd ?_;intro z q;have a:Hid (qyT W (inA bs fm d l) m.heap.size F z):=q▸q2g s.out _;clear q));generalize m.heap.size=M at *;clear c f c2 g aa s;have j:=qab a.out.loc 0;unfold qqp at j;obtain⟨c,f,c2,g⟩:=qya a.out.box)
   |((with_reducible refine a.out.st 8 _ rfl rfl (0,0) ?_ ?_);exact⟨rfl,rfl⟩;clear c f c2 g j a;intro X a c f c2 g j;try (have e1:=I.out;have e2:=J.out))
   |((with_reducible refine a.out.st 8 _ rfl rfl F ?_ ?_);exact⟨rfl,rfl⟩;clear c f c2 g j a;intro X a c f c2 g j)
   |((with_reducible refine stF 6 _ rfl rfl (W.heap.size+1) F ?_ ?_ ?_ ?_);exact rfl;exact rfl;exact a.out.flt)
   |((with_reducible refine stF 6 _ rfl rfl (W.heap.size+1) (0,0) ?_ ?_ ?_ ?_);exact rfl;exact rfl;exact a.out.flt))
  try exact q0A results125 (a.out.fin _) (.slice none 0 0) (.int .i64 0) rfl rfl rfl rfl ⟨rfl,(a.out.fin _).2.1⟩
  try exact q0A results125 (a.out.fin _) (.slice E H G) _ rfl rfl rfl rfl ⟨⟨_,by congr 4,qzJ U.out _ _ T.out⟩,(a.out.fin _).2.1⟩
 all_goals
  refine rgn (S:=fun Z=>Z.heap[M]? = some (.cells (qqp F) 57)) (a.out.loc) (by kernel_rfl) ?_;intro D;refine tkk 1 4 (.slice none 0 0) (by kernel_rfl) iQ3 D ?_;refine tkk 2 5 (.int .i64 0) (by kernel_rfl) iQ3 D ?_;refine tk 0 b (.agg (qqp F)) rfl (by kernel_rfl) iQ3 (fun Z hZ=>yF 8 hZ rfl rfl) D ?_;refine rdH 3 rfl (by kernel_rfl) (fun ac O => ?_);rw[if_pos (by kernel_rfl)];refine wp_store_row 57 _ _ rfl (W.heap.size+1) (qqp F) rfl rfl 57 (qqp (0,0)) a.out.drew.flt (qxL _) rfl (qyg _) ?_;refine O.out _ _ (a.out.drew.fin F).2.2 (fun _ => ?_);clear O;refine wpAnyH_done (by kernel_rfl) ?_ _;dsimp only [b];go_simp;clear c f c2 g j;go_wp2;exact q0A results125 (a.out.drew.fin F) _ _ rfl rfl rfl rfl ⟨rfl,(a.out.drew.fin F).2.1⟩

theorem q1S (b:Lm bs l lim)(hi:InR bs lim i)(a:bs.length<=281474976710656)(h:qgA bs lim 4 i 0=.error f):HxC bs fm d l i 0 f:=fun V=>by have k:=q0Y V bs fm d l lim i b hi a;rw[h] at k;exact k
theorem q1P {x:Nat}(b:Lm bs l lim)(hi:InR bs lim i)(a:bs.length<=281474976710656)(h:qgA bs lim 4 i 0=.ok (x,q)):HxC bs fm d l i x (0,0):=fun V=>by have k:=q0Y V bs fm d l lim i b hi a;rw[h] at k;exact k
theorem bdc {p:Nat}(a:Lm bs l lim)(hi:InR bs lim (p+1)):BdC bs fm d l p (9,(p:Int)):=fun V=>by have h:=qyn V bs fm d l p 9;rw[q1R a hi] at h;exact h
theorem q14 (W:World)(bs:List UInt8)(fm d l lim:Int)(i:Nat)(a:Lm bs l lim)(hi:InR bs lim i)(j:bs.length<=281474976710656):Calls prog 125 #[.agg (inA bs fm d l),.int .i64 i] W fun e C=>qzs W (qgy bs lim i) e C/\Below W.heap.size W C:=by
 have b:=q12 W bs fm d l i hi.1 j;have w:∀z:Int,¬z=0->(z==0)=false:=fun z h=>by simpa using h
 unfold qgy
 cases o:qgA bs lim 4 i 0 with
 |error f=>exact b _ 0 0 f (by decide) (by decide) (by decide) (by decide) (.inl ⟨q1S a hi j o,w _ (qio bs lim 4 i 0 f.1 f.2 o),rfl⟩)
 |ok r =>
  obtain⟨x,q⟩:=r;simp only[];obtain⟨A,t,K⟩:=qy7 4 i 0 x q hi o;have Q:x<65536:=by simpa using K
  have g:=q1P (fm:=fm) (d:=d) a hi j o;by_cases m:qvc x=true
  ·rw[if_pos m];unfold qvc at m;have F:=of_decide_eq_true m;rw[show(q:Int)-1=(i:Int)+3 by omega];exact b _ x 0 _ (by omega) (by omega) (by decide) (by decide) (.inr (.inr (.inr (.inl ⟨g,by omega,by omega,fun V=>bdc a (p:=i+3) (by rw[A] at t;exact t) V,rfl⟩))))
  rw[if_neg m];have P:¬(56320<=x/\x<=57343):=fun h=>m (decide_eq_true h);by_cases k:qwL x=true
  ·rw[if_pos k];unfold qwL at k;have F:=of_decide_eq_true k;subst A;have c:=fun V=>qyH V bs fm d l lim (i+4) [92,117] (by decide) a t j
   cases v:qaT bs lim [92,117] (i+4) with
   |error f =>
    rw[v] at c;exact b _ x 0 f (by omega) (by omega) (by decide) (by decide) (.inr (.inl ⟨g,by omega,by omega,c,w _ (qbW bs lim [92,117] (i+4) f.1 f.2 v),rfl⟩))
   |ok r =>
    obtain⟨u,E⟩:=r;simp only[];obtain⟨G,B⟩:=qyr [92,117] (i+4) E t v;have H:E=i+6:=by simpa using G
    subst H;rw[v] at c
    cases s:qgA bs lim 4 (i+6) 0 with
    |error f=>exact b _ x 0 f (by omega) (by omega) (by decide) (by decide) (.inr (.inr (.inl ⟨g,by omega,by omega,c,q1S a B j s,w _ (qio bs lim 4 (i+6) 0 f.1 f.2 s),rfl⟩)))
    |ok r =>
     obtain⟨y,M⟩:=r;simp only[];obtain⟨I,J,L⟩:=qy7 4 (i+6) 0 y M B s;have R:y<65536:=by simpa using L
     have D:=q1P (fm:=fm) (d:=d) a B j s;subst I;by_cases n:qvc y=true
     ·rw[if_pos n];unfold qvc at n;have N:=of_decide_eq_true n;rw[show 65536+((x:Int)-55296)*1024+((y:Int)-56320)=65536+((x:Int)-55296)*1024+(y:Int)-56320 by omega];exact b _ x y _ (by omega) (by omega) (by omega) (by omega) (.inr (.inr (.inr (.inr (.inr (.inr ⟨g,by omega,by omega,c,D,by omega,by omega,fun V=>q1i V _ (by omega) (by omega) (by omega),rfl,rfl⟩))))))
     rw[if_neg n,show((i+6+4:Nat):Int)-1=(i:Int)+9 by omega];have S:¬(56320<=y/\y<=57343):=fun h=>n (decide_eq_true h);exact b _ x y _ (by omega) (by omega) (by omega) (by omega) (.inr (.inr (.inr (.inr (.inl ⟨g,by omega,by omega,c,D,by omega,fun V=>bdc a (p:=i+9) J V,rfl⟩)))))
  rw[if_neg k];have O:¬(55296<=x/\x<=56319):=fun h=>k (decide_eq_true h);subst A;exact b _ x 0 _ (by omega) (by omega) (by decide) (by decide) (.inr (.inr (.inr (.inr (.inr (.inl ⟨g,by omega,fun V=>q1i V _ (by omega) (by omega) (by omega),rfl,rfl⟩))))))
theorem q2P (r:Int)(a:0<=r)(b:r<=127):runeCells r=[.int .u8 r]:=by unfold runeCells;rw[encodeRuneZ_one a b];rfl
theorem qyP (W:World)(bs:List UInt8)(fm d l:Int)(i:Nat)(x:Int×Int)(p:qr0 bs l i 9=x)(t:qxS bs l i=false\/(qxS bs l i=true/\∃c,bs[i]? = some c/\∀x,x∈[34,92,47,98,102,110,114,116,117]->¬c.toNat=x)):Calls prog 97 #[.agg (inA bs fm d l),.int .i64 i] W fun e g=>qzs W (.error x) e g/\Below W.heap.size W g:=by
 have n:=q0U fm d p;have r:=q16 W bs fm d l;clear p;unfold inA;rcases t with b|⟨b,c,f,q⟩
 all_goals
  have o:=qy9 fm d b;clear b
  try
   have v:=qxF bs i c f;have u:=ltL f;simp only[List.mem_cons,List.not_mem_nil,or_false,forall_eq_or_imp,forall_eq] at q;have C:=nec (c:=c) 34 (by omega);have E:=nec (c:=c) 92 (by omega);have D:=nec (c:=c) 47 (by omega);have F:=nec (c:=c) 98 (by omega);have w:=nec (c:=c) 102 (by omega);have y:=nec (c:=c) 110 (by omega);have z:=nec (c:=c) 114 (by omega);have A:=nec (c:=c) 116 (by omega);have B:=nec (c:=c) 117 (by omega);clear f q
  go_enter func97,ntmps97
  go_wp2_with (first
   |(go_at_call 43;refine ck4 (o _) r.out.next (fun _ h=>h.box) ?_;clear o;intro G s j k c2 m)
   |(go_at_call 31;refine ck4 (n _) s.out.next (fun _ h=>h.box) ?_;clear n j k c2 m;intro H a j k c2 m)
   |(refine stF 6 _ rfl rfl (W.heap.size+1) x rfl rfl ?_ ?_;exact a.out.flt))
  exact q0A results97 (qxI a.out bwR _) (.slice none 0 0) (.int .i64 0) rfl rfl rfl rfl ⟨rfl,(qxI a.out bwR _).2⟩
theorem qxU (W:World)(bs:List UInt8)(fm d l:Int)(i:Nat)(c:UInt8)(b:bs[i]? = some c)(j:qxS bs l i=true)(w:bs.length<=281474976710656)(v:Nat)(r:Int)(m:c.toNat=v)(n:(v,r)∈([(34,34),(92,92),(47,47),(98,8),(102,12),(110,10),(114,13),(116,9)]:List (Nat×Int))):Calls prog 97 #[.agg (inA bs fm d l),.int .i64 i] W fun e f=>qzs W (.ok (r,i+1)) e f/\Below W.heap.size W f:=by
 have y:=q3a b m;have x:=ltL b;have g:=qy9 fm d j;have p:=q16 W bs fm d l;clear j b m;unfold inA;simp only[List.mem_cons,Prod.mk.injEq,List.not_mem_nil,or_false] at n;rcases n with h|h|h|h|h|h|h|h
 all_goals
  obtain⟨rfl,rfl⟩:=h
 let r:Int:=34;rotate_left
 let r:Int:=92;rotate_left
 let r:Int:=47;rotate_left
 let r:Int:=8;rotate_left
 let r:Int:=12;rotate_left
 let r:Int:=10;rotate_left
 let r:Int:=13;rotate_left
 let r:Int:=9;rotate_left
 all_goals
  have q:runeCells r=[.int .u8 r]:=q2P r (of_decide_eq_true rfl) (of_decide_eq_true rfl);go_enter func97,ntmps97
  go_wp2_with (first
   |(go_at_call 43;refine ck4 (g _) p.out.next (fun _ h=>h.box) ?_;clear g;intro o a s t c2 u)
   |(refine stF 6 _ rfl rfl (W.heap.size+1) (0,0) rfl rfl ?_ ?_;exact(a.out.next (bwO _)).flt))
  have k:=(qy5 o r [.int .u8 r] 1 rfl q).1;exact q0A results97 (qxI (a.out.next (bwO _)) bwR _) (.slice (some ⟨o.heap.size,0,none⟩) 1 1) (.int .i64 ((i:Int)+1)) rfl rfl rfl rfl ⟨⟨_,rfl,qzJ (qzf k a.out.below.size) _ _ (qzH k (ltA a.out.flt))⟩,(qxI (a.out.next (bwO _)) bwR _).2⟩
theorem q1O (W:World)(bs:List UInt8)(fm d l lim:Int)(i:Nat)(A:bs.length<=281474976710656)(c:UInt8)(k:bs[i]? = some c)(p:qxS bs l i=true)(t:c.toNat=117)(s:Lm bs l lim)(hi:InR bs lim (i+1)):Calls prog 97 #[.agg (inA bs fm d l),.int .i64 i] W fun e b=>qzs W (qgy bs lim (i+1)) e b/\Below W.heap.size W b:=by
 have F:=q3a k t;have E:=ltL k;have n:=qy9 fm d p;have u:=q16 W bs fm d l;have o:∀V,Calls prog 125 #[.agg #[.string ⟨bs.toArray⟩,.int .i64 fm,.int .i64 d,.int .i64 l],.int .i64 ((i:Int)+1)] V fun e b=>qzs V (qgy bs lim (i+1)) e b/\Below V.heap.size V b:=fun V=>q14 V bs fm d l lim (i+1) s hi A;clear p k t s hi;generalize qgy bs lim (i+1)=R at *;unfold inA;go_enter func97,ntmps97
 go_wp2_with (first
  |(go_at_call 43;refine ck4 (n _) u.out.next (fun _ h=>h.box) ?_;clear n;intro G g w x c2 y))
 refine(o _).mono ?_;clear o w x c2 y;rintro e H ⟨q,z⟩;have a:=qaa (g.out.next z)
 cases R with
 |error f =>
  obtain rfl:=q
  go_wp2_with (first
   |(refine stF 6 68 rfl rfl (W.heap.size+1) f rfl rfl ?_ ?_;exact a.out.flt))
  exact q0A results97 (qxI a.out bwR _) (.slice none 0 0) (.int .i64 0) rfl rfl rfl rfl ⟨rfl,(qxI a.out bwR _).2⟩
 |ok r =>
  obtain⟨v,rfl,j⟩:=q;obtain⟨B,D,C,rfl⟩:=j.2.2;have m:=qaa j;clear j
  go_wp2_with (first
   |(refine stF 6 68 rfl rfl (W.heap.size+1) (0,0) rfl rfl ?_ ?_;exact a.out.flt))
  exact q0A results97 (qxI a.out bwR _) (.slice B D C) (.int .i64 r.2) rfl rfl rfl rfl ⟨⟨_,rfl,qzJ (qzf m.out g.out.below.size) _ _ (qzH m.out (ltA g.out.flt))⟩,(qxI a.out bwR _).2⟩
theorem q06 (W:World)(bs:List UInt8)(fm d l lim:Int)(i:Nat)(h:Lm bs l lim)(hi:InR bs lim i)(f:bs.length<=281474976710656):Calls prog 97 #[.agg (inA bs fm d l),.int .i64 i] W fun e t=>qzs W (qnj bs lim i) e t/\Below W.heap.size W t:=by
 unfold qnj
 cases a:bs[i]? with
 |none=>exact qyP W bs fm d l i _ (qyc hi.1 a 9) (.inl (qxX a))
 |some c =>
  simp only[];by_cases g:(i:Int)=lim
  ·rw[if_pos g];exact qyP W bs fm d l i _ (qxW h a g 9) (.inl (qxZ h a g))
  rw[if_neg g];have b:=qyb h hi a g;by_cases p:c.toNat=34
  ·rw[if_pos p];exact qxU W bs fm d l i c a b f 34 34 p (by decide)
  rw[if_neg p];by_cases r:c.toNat=92
  ·rw[if_pos r];exact qxU W bs fm d l i c a b f 92 92 r (by decide)
  rw[if_neg r];by_cases q:c.toNat=47
  ·rw[if_pos q];exact qxU W bs fm d l i c a b f 47 47 q (by decide)
  rw[if_neg q];by_cases s:c.toNat=98
  ·rw[if_pos s];exact qxU W bs fm d l i c a b f 98 8 s (by decide)
  rw[if_neg s];by_cases j:c.toNat=102
  ·rw[if_pos j];exact qxU W bs fm d l i c a b f 102 12 j (by decide)
  rw[if_neg j];by_cases k:c.toNat=110
  ·rw[if_pos k];exact qxU W bs fm d l i c a b f 110 10 k (by decide)
  rw[if_neg k];by_cases m:c.toNat=114
  ·rw[if_pos m];exact qxU W bs fm d l i c a b f 114 13 m (by decide)
  rw[if_neg m];by_cases n:c.toNat=116
  ·rw[if_pos n];exact qxU W bs fm d l i c a b f 116 9 n (by decide)
  rw[if_neg n];by_cases o:c.toNat=117
  ·rw[if_pos o];exact q1O W bs fm d l lim i f c a b o h (qxG hi a g)
  rw[if_neg o];exact qyP W bs fm d l i _ (qxN h hi a g 9) (.inr ⟨b,c,a,by simp[*]⟩)

theorem q0i (h:Own W b v bs)(f:Below W.heap.size W W'):Own W' b v bs:=by
 obtain⟨⟨k,e⟩,l,m⟩:=h;refine⟨⟨k,?_⟩,Nat.le_trans l f.size,m⟩;rcases e with e|⟨g,i,j,a,b,c,d⟩
 ·exact .inl e
 exact .inr ⟨g,i,j,a,b,(f.block _ (ltA c)).trans c,d⟩
structure q0n (W:World)(A:Array Value)(v:Value)(acc:List UInt8)(V:World):Prop where
 box:V.heap[W.heap.size]? = some (.cells A 77)
 flt:V.heap[W.heap.size+1]? = some (.cells (qqp (0,0)) 57)
 own:Own V (W.heap.size+2) v acc
 below:Below W.heap.size W V
theorem q0n.next (h:q0n W A v acc V)(a:Below V.heap.size V V'):q0n W A v acc V' :=
 ⟨(a.block _ (ltA h.box)).trans h.box,(a.block _ (ltA h.flt)).trans h.flt,q0i h.own a,h.below.trans (a.mono h.below.size)⟩
theorem q0n.drew (h:q0n W A v acc V):q0n W A v acc V.drew:=⟨h.box,h.flt,h.own,h.below.drew⟩
theorem q0n.grow {acc':List UInt8}(h:q0n W A v acc V)(a:V.grownBy V' v.ownBlock)(d:Own V' (W.heap.size+2) v' acc'):q0n W A v' acc' V':=by
 have b:∀k,k<W.heap.size+2->some k≠v.ownBlock:=fun k f e=>by have:=qbA h.own.1 e.symm;omega
 exact⟨(a.block _ (ltA h.box) (b _ (by omega))).trans h.box,(a.block _ (ltA h.flt) (b _ (by omega))).trans h.flt,d,
  h.below.trans ⟨a.os,a.tape,a.output,a.size,fun i c=>a.block i (Nat.lt_of_lt_of_le c h.below.size) (b _ (by omega))⟩⟩
theorem qxV (V:World)(f:Int×Int):Below V.heap.size V ((V.alloc (.cells (qqp (0,0)) 57)).setRow V.heap.size (qqp f)):=qah bwA (Nat.le_refl _) _
theorem q0n.fin (h:q0n W A v acc V)(g:Int×Int):(V.setRow (W.heap.size+1) (qqp g)).heap[W.heap.size+1]? = some (.cells (qqp g) 57)/\Below W.heap.size W (V.setRow (W.heap.size+1) (qqp g)) :=
 ⟨setRow_heap _ _ _ _ _ _ h.flt,qah h.below (by omega) _⟩
theorem q2Q (W:World)(A:Array Value):q0n W A (.slice none 0 0) [] ((W.alloc (.cells A 77)).alloc (.cells (qqp (0,0)) 57)) :=
 ⟨(qyA W A).box,(qyA W A).flt,⟨World.ownsRow_nil _ _ _ _,by simp,none,0,0,rfl⟩,(qyA W A).below⟩
def q2O (r:Except (Int×Int) (List UInt8×Nat))(e:Ending):Prop:=match r with
 |.ok (x,q)=>e=.returned (.tuple #[.string ⟨x.toArray⟩,.int .i64 q,.agg (qqp (0,0))])
 |.error f=>e=.returned (.tuple #[.string ⟨#[]⟩,.int .i64 0,.agg (qqp f)])
theorem q2U {k:Nat}(a:Lm bs l lim)(b:k<bs.length)(h:(k:Int)<lim):min (bs.length:Int) l=min (bs.length:Int) lim:=by
 have c:=a k b;have d:=a (bs.length-1) (by omega);by_cases e:l<bs.length
 ·have f:=a l.toNat (by omega);have g:=a (l.toNat-1) (by omega);omega
 omega
theorem q29 (bs:List UInt8)(p j:Nat):(⟨bs.toArray⟩:ByteArray).extract p (p+j)=⟨(qyE bs p j).toArray⟩:=by
 apply ByteArray.ext;apply Array.toList_inj.1;rw[Lib.extract_data];simp[qyE]
theorem q1e {l:List UInt8}(h:Own W b v l)(f:0<l.length):∃g a,v=.slice (some ⟨g,0,none⟩) l.length a:=by
 rcases h.1.2 with ⟨_,d⟩|⟨g,a,c,e,_⟩
 ·omega
 exact⟨g,a,e⟩
theorem q0B {cap:Nat}{l:List UInt8}(h:Own W b (.slice (some ⟨g,0,none⟩) l.length cap) l):∀j u,(l.map qav)[j]? = some u->W.cell? ((⟨g,0,none⟩:Addr).add j)=some u:=h.1.cells (g:=g) rfl
theorem q2q {base:Nat}{l:List UInt8}(h:Own W base v bs)(a:W'.ownsRow base 5 1 v' (bs.length+l.length) (bs.map qav++l.map qav))(b:W.grownBy W' v.ownBlock):Own W' base v' (bs++l):=by
 refine⟨by rw[List.length_append,List.map_append];exact a,Nat.le_trans h.2.1 b.size,?_⟩;rcases a.2 with ⟨e,_⟩|⟨g,c,d,e,_⟩
 ·exact⟨none,0,0,e⟩
 exact⟨_,_,_,e⟩
theorem q1C (l:List UInt8):∀u∈l.map qav,u.oneCell'=true:=fun u a=>by
 obtain⟨b,_,rfl⟩:=List.mem_map.1 a;rfl
theorem q0W (r:Int):0<(qcD r).length:=by
 unfold qcD;rw[List.length_map];exact(encodeRuneZ_length r).1
theorem q0r {p:Nat}{r:Int}(hi:InR bs lim p)(h:qnj bs lim p=.ok (r,q)):InR bs lim q/\p<q:=by
 unfold qnj at h
 cases g:bs[p]? with
 |none=>rw[g] at h;cases h
 |some c =>
  rw[g] at h;simp only[] at h;by_cases i:(p:Int)=lim
  ·rw[if_pos i] at h;cases h
  rw[if_neg i] at h;have j:=qxG hi g i
  repeat' split at h
  all_goals first
   |(cases h;done)
   |(injection h with h;injection h with _ h;subst h;exact⟨j,by omega⟩)
   |skip
  rename_i hu
  unfold qgy at h
  cases b:qgA bs lim 4 (p+1) 0 with
  |error f=>rw[b] at h;cases h
  |ok x =>
   obtain⟨x,q1⟩:=x;obtain⟨t,k,_⟩:=qy7 4 (p+1) 0 x q1 j b;rw[b] at h;simp only[] at h;split at h
   ·cases h
   split at h
   ·cases d:qaT bs lim [92,117] q1 with
    |error f=>rw[d] at h;cases h
    |ok s =>
     obtain⟨u,a⟩:=s;obtain⟨l,m⟩:=qyr [92,117] q1 a k d;have v:a=q1+2:=l;rw[d] at h;simp only[] at h
     cases e:qgA bs lim 4 a 0 with
     |error f=>rw[e] at h;cases h
     |ok y =>
      obtain⟨y,o⟩:=y;obtain⟨w,n,_⟩:=qy7 4 a 0 y o m e;rw[e] at h;simp only[] at h;split at h
      ·injection h with h;injection h with _ h;subst h;exact⟨n,by omega⟩
      cases h
   injection h with h;injection h with _ h;subst h;exact⟨k,by omega⟩
theorem q1J (r:Int):(qcD r).length<=4:=by
 unfold qcD;rw[List.length_map];exact(encodeRuneZ_length r).2
theorem qyk (W:World)(bs:List UInt8)(fm d l lim:Int)(i:Nat)(hl:Lm bs l lim)(hi:InR bs lim (i+1))(hb:bs.length<=281474976710656)(bk:lim<=200000000):Calls prog 72 #[.agg (inA bs fm d l),.int .i64 i] W fun e K=>q2O (qfe bs lim (bs.length+1-(i+1)) (i+1) [] 0) e/\Below W.heap.size W K:=by
 obtain⟨i0,a3,a8,a9,ba⟩:=info_parts Tryz.infoU8;obtain⟨ad,E⟩:∃ad,Hid (qfe bs lim (bs.length+1-(i+1)) (i+1) [] 0=ad):=⟨_,show _=_ from rfl⟩
 rw[E.out];have bv:=hi.1;have b3:=qyo bs;have R:=qaa hl;have J:=qaa hi;have U:=q0H bs fm d l;have N:=q09 bs fm d l;have T:∀V (k:Nat),InR bs lim k->Calls prog 97 #[.agg #[.string ⟨bs.toArray⟩,.int .i64 fm,.int .i64 d,.int .i64 l],.int .i64 k] V fun e K=>qzs V (qnj bs lim k) e K/\Below V.heap.size V K:=fun V k hk=>q06 V bs fm d l lim k hl hk hb;clear hl hi;unfold inA;go_enter func72,ntmps72;go_wp2
 go_loopg [1,7] (bs.length+1-(i+1)) (fun g br bq wr=>∃(k:Nat) (D:List UInt8) (ae:Option Addr) (ai af:Nat),br=.int .i64 k/\bq=.slice ae ai af/\Hid (bs.length+1<=k+g)/\Hid (D.length<=4*k)/\Hid (q0n W (inA bs fm d l) (.slice ae ai af) D wr)/\Hid (InR bs lim k)/\Hid (qfe bs lim g k D D.length=ad))
 case atStart=>exact⟨i+1,[],none,0,0,rfl,rfl,by show _<=_;omega,Nat.zero_le _,q2Q _ _,J,E⟩
 case round =>
  clear E J;obtain⟨k,D,ae,ai,af,rfl,rfl,Y,P,Q,J,E⟩:=hrel;have bj:=J.out.1;obtain⟨g,rfl⟩:∃g,gk=g+1:=⟨gk-1,by have:=Y.out;omega⟩
  obtain⟨o,s,c2,t⟩:=qya Q.out.box;have A:=fun V=>U V k;have G:=fun V=>N V k 9;have m:=E.out;rw[qfe] at m
  cases u:bs[k]? with
  |none =>
   rw[u] at m;simp only[] at m;rw[qxX u] at A;rw[qyc bj u] at G;have L:=qaa m.symm;clear m u N U T E Y P
   go_wp2_with (first
    |(go_at_call 43;refine ck4 (A _) Q.out.next (fun _ h=>h.box) ?_;clear A o s c2 t;intro n w o s c2 t)
    |(go_at_call 31;refine ck4 (G _) w.out.next (fun _ h=>h.box) ?_;clear G o s c2 t;intro H F o s c2 t)
    |(refine stF 6 29 rfl rfl (W.heap.size+1) (9,(k:Int)) rfl rfl ?_ ?_;exact F.out.flt))
   have B:=F.out.fin (9,(k:Int));refine q0A results72 B (.string ⟨#[]⟩) (.int .i64 0) rfl rfl rfl rfl ⟨?_,B.2⟩;rw[L.out];rfl
  |some I =>
   rw[u] at m;simp only[] at m;have bh:=fun V=>qxF bs k I u V;have bi:=ltL u;by_cases C:(k:Int)=lim
   ·rw[if_pos C] at m;rw[qxZ R.out u C] at A;rw[qxW R.out u C] at G;have L:=qaa m.symm;clear m u N U T E Y P C bh
    go_wp2_with (first
     |(go_at_call 43;refine ck4 (A _) Q.out.next (fun _ h=>h.box) ?_;clear A o s c2 t;intro n w o s c2 t)
     |(go_at_call 31;refine ck4 (G _) w.out.next (fun _ h=>h.box) ?_;clear G o s c2 t;intro H F o s c2 t)
     |(refine stF 6 29 rfl rfl (W.heap.size+1) (8,(k:Int)) rfl rfl ?_ ?_;exact F.out.flt))
    have B:=F.out.fin (8,(k:Int));refine q0A results72 B (.string ⟨#[]⟩) (.int .i64 0) rfl rfl rfl rfl ⟨?_,B.2⟩;rw[L.out];rfl
   rw[if_neg C] at m;rw[qyb R.out J.out u C] at A;rw[qxN R.out J.out u C] at G;by_cases x:I.toNat<32
   ·rw[if_neg (by omega),if_neg (by omega),if_pos x] at m;have L:=qaa m.symm;have bf:(I.toNat:Int)<32:=by omega
    clear m u N U T E Y P C x
    go_wp2_with (first
     |(go_at_call 43;refine ck4 (A _) Q.out.next (fun _ h=>h.box) ?_;clear A o s c2 t;intro n w o s c2 t)
     |(go_at_call 31;refine ck4 (G _) w.out.next (fun _ h=>h.box) ?_;clear G o s c2 t;intro H F o s c2 t)
     |(refine stF 6 29 rfl rfl (W.heap.size+1) (9,(k:Int)) rfl rfl ?_ ?_;exact F.out.flt))
    have B:=F.out.fin (9,(k:Int));refine q0A results72 B (.string ⟨#[]⟩) (.int .i64 0) rfl rfl rfl rfl ⟨?_,B.2⟩;rw[L.out];rfl
   have bf:decide ((I.toNat:Int)<32)=false:=by simp;omega
   have b4:32<=(I.toNat:Int):=by omega
   clear G;by_cases X:I.toNat=34
   ·rw[if_pos ⟨X,trivial⟩] at m;have L:=qaa m.symm;have bn:((I.toNat:Int)==34)=true:=by rw[X];rfl
    have a2:∀V,q0n W (inA bs fm d l) (.slice ae ai af) D V->(convert 66 9 (.slice ae ai af)).run prog V=.ok (.string ⟨D.toArray⟩) V:=fun V h=>qkU h.own;clear m u N U T E Y P C x X
    go_wp2_with (first
     |(go_at_call 43;refine ck4 (A _) Q.out.next (fun _ h=>h.box) ?_;clear A o s c2 t;intro n w o s c2 t;have bu:=a2 _ w.out;clear a2)
     |(refine stF 6 73 rfl rfl (W.heap.size+1) (0,0) rfl rfl ?_ ?_;exact w.out.flt))
    have B:=w.out.fin (0,0);refine q0A results72 B (.string ⟨D.toArray⟩) (.int .i64 ((k:Int)+1)) rfl rfl rfl rfl ⟨?_,B.2⟩;rw[L.out];rfl
   rw[if_neg (fun h=>X h.1)] at m;have bn:((I.toNat:Int)==34)=false:=by simp;omega
   by_cases y:I.toNat=92
   ·rw[if_pos ⟨y,trivial⟩] at m;have bo:((I.toNat:Int)==92)=true:=by rw[y];rfl
    have Z:=fun V=>T V (k+1) (qxG J.out u C);rw[show((k+1:Nat):Int)=(k:Int)+1 by omega] at Z;have aq:=fun r q h=>q0r (r:=r) (q:=q) (qxG J.out u C) h;have a0:=fun f=>qqz bs lim (k+1) f
    cases ab:qnj bs lim (k+1) with
    |error f =>
     rw[ab] at m Z;have L:Hid (ad=.error f):=m.symm;have b0:(f.1==0)=false:=by have:=qqz bs lim (k+1) f.1 f.2 ab;simpa using this
     clear m u N U T E Y P C x X y aq a0 ab
     go_wp2_with (first
      |(go_at_call 43;refine ck4 (A _) Q.out.next (fun _ h=>h.box) ?_;clear A o s c2 t;intro n w o s c2 t)
      |(go_at_call 97;refine(Z _).mono ?_;clear Z o s c2 t;rintro e H ⟨he,an⟩;obtain rfl:=he;have F:=qaa (w.out.next an))
      |(refine stF 10 83 rfl rfl (H.heap.size) (f) rfl rfl ?_ ?_;exact qac H _;refine nmd ?_;intro V4 v;have O:=qaa (v▸F.out.next (qxV _ _));have HM:Hid (V4.heap[H.heap.size]? = some (.cells (qqp (f)) 57)):=v▸setRow_heap _ _ _ _ _ _ (qac _ _);have ax:=qaa (ltA F.out.flt);clear v;generalize H.heap.size=M at *;have u0:=qab HM.out 0;unfold qqp at u0))
     refine rgn (S:=fun ay=>ay.heap[M]? = some (.cells (qqp f) 57)) (HM.out) (by kernel_rfl) ?_;intro hS;refine tkk 1 4 (.string ⟨#[]⟩) (by kernel_rfl) iQ3 hS ?_;refine tkk 2 5 (.int .i64 0) (by kernel_rfl) iQ3 hS ?_;refine tk 0 87 (.agg (qqp f)) rfl (by kernel_rfl) iQ3 (fun ay hZ=>yF 10 hZ rfl rfl) hS ?_;refine rdH 3 rfl (by kernel_rfl) (fun bt hK => ?_);rw[if_pos (by kernel_rfl)];refine wp_store_row 57 _ _ rfl (W.heap.size+1) (qqp f) rfl rfl 57 (qqp (0,0)) O.out.drew.flt (qxL _) rfl (qyg _) ?_;refine hK.out _ _ (sx (by have:=ax.out;omega) hS) (fun _ => ?_);clear hK;refine wpAnyH_done (by kernel_rfl) ?_ _;go_simp;clear u0;go_wp2;have B:=O.out.drew.fin (f);refine q0A results72 B (.string ⟨#[]⟩) (.int .i64 0) rfl rfl rfl rfl ⟨?_,B.2⟩;rw[L.out];rfl
    |ok bp =>
     obtain⟨r,q⟩:=bp;rw[ab] at m Z;have HN:Hid (qfe bs lim g q (D++qcD r) (D++qcD r).length=ad):=m;obtain⟨a7,a6⟩:=aq r q ab;have be:=qaa a7;have aw:=qaa a6;have b2:=q1J r;have bm:=q0W r;have bg:D.length<=800000000:=by have:=P.out;have:=J.out.2;omega
     clear m u N U T E C x X y aq a0 ab a7 a6
     go_wp2_with (first
      |(go_at_call 43;refine ck4 (A _) Q.out.next (fun _ h=>h.box) ?_;clear A o s c2 t;intro n w o s c2 t)
      |(go_at_call 97;refine(Z _).mono ?_;clear Z o s c2 t;rintro e H ⟨he,an⟩;obtain⟨b5,rfl,hO⟩:=he;obtain⟨vg,vc,rfl⟩:=q1e hO bm;have bc:=qaa hO;clear hO;have F:=qaa (w.out.next an))
      |(refine stF 10 83 rfl rfl (H.heap.size) (0,0) rfl rfl ?_ ?_;exact qac H _;refine nmd ?_;intro V4 v;have O:=qaa (v▸F.out.next (qxV _ _));have HM:Hid (V4.heap[H.heap.size]? = some (.cells (qqp (0,0)) 57)):=v▸setRow_heap _ _ _ _ _ _ (qac _ _);have bd:=qaa (v▸q0i bc.out (qxV _ _));have ax:=qaa (ltA F.out.flt);clear v;generalize H.heap.size=M at *;have u0:=qab HM.out 0;unfold qqp at u0)
      |(at_builtin;(refine wpList_append_own _ rfl _ _ 66 rfl (W.heap.size+2) 5 i0 (.int .u8 0) 1 1 underlying66 a3 a8 a9 ba rfl (by decide) _ _ _ rfl O.out.own.1 ⟨vg,0,none⟩ (qcD r).length vc ((qcD r).map qav) rfl (by simp) (q0B bd.out) (q1C _) (by unfold maxLen;omega) (by omega) O.out.own.2.1 ?_);intro v' w5 ac b au;clear au;have z:=q2q O.out.own ac b;obtain⟨a5,n5,c5,rfl⟩:=z.2.2;have al:=qaa (O.out.grow b z);clear ac b z))
     go_roundg g
     case measure=>omega
     case rel=>exact⟨q,D++qcD r,a5,n5,c5,rfl,rfl,by show _<=_;have:=Y.out;have:=aw.out;omega,by show _<=_;rw[List.length_append];have:=P.out;have:=aw.out;omega,al,be,HN⟩
   rw[if_neg (fun h=>y h.1)] at m;have bo:((I.toNat:Int)==92)=false:=by simp;omega
   have ar:(k:Int)<lim:=by have:=J.out.2;omega
   have bl:=q2U R.out bi ar;obtain⟨c,aj⟩:∃c:Nat,(c:Int)=min (bs.length:Int) lim:=⟨(min (bs.length:Int) lim).toNat,by omega⟩
   have aa:=q13 R.out aj J.out u C X y x D (g+1) Y.out;rw[E.out] at aa;rw[<-aj] at bl;have cG:=fun V=>q0J V bs k c I u hb (by omega);have b1:c<=bs.length:=by omega
   have az:=N;obtain⟨j,am,ao⟩:∃j am,qgB bs c k I=(j,am):=⟨_,_,rfl⟩
   rw[ao] at aa cG;cases am
   ·simp only[] at aa;obtain⟨a,ah⟩:=aa;have L:=qaa ah;have G:=fun V=>N V (k+j) 9;rw[show((k+j:Nat):Int)=(k:Int)+(j:Int) by omega] at G;have a4:=a.1;generalize qr0 bs l (k+j) 9=xx at *;clear m u N az U T E C x X y aj ao a ah ar P;have ag:∀V,Calls prog 98 #[.string ⟨bs.toArray⟩,.int .i64 k,.int .i64 c] V fun e K=>e=.returned (.tuple #[.int .i64 j,.bool false])/\K=V:=cG;clear cG
    go_wp2_with (first
     |(go_at_call 43;refine ck4 (A _) Q.out.next (fun _ h=>h.box) ?_;clear A o s c2 t;intro n w o s c2 t)
     |(go_at_call 98;refine(ag _).mono ?_;clear ag;rintro e H ⟨rfl,av⟩;subst av)
     |(go_at_call 31;refine ck4 (G _) w.out.next (fun _ h=>h.box) ?_;clear G o s c2 t;intro w4 O o s c2 t)
     |(refine stF 6 54 rfl rfl (W.heap.size+1) (xx) rfl rfl ?_ ?_;exact O.out.flt))
    have B:=O.out.fin (xx);refine q0A results72 B (.string ⟨#[]⟩) (.int .i64 0) rfl rfl rfl rfl ⟨?_,B.2⟩;rw[L.out];rfl
   simp only[] at aa;obtain⟨bw,a,bx,ah⟩:=aa;have HN:=qaa ah.symm;have bb:=qaa a;have a4:=a.1;have bz:((k+j:Nat):Int)<=200000000:=Int.le_trans a.2 bk;have ap:=qzF (bs:=bs) (p:=k) (k:=j) a4;have ak:Hid ((⟨bs.toArray⟩:ByteArray).extract (k:Int).toNat ((k:Int)+(j:Int)).toNat=⟨(qyE bs k j).toArray⟩):=by
    show _=_;rw[show(k:Int).toNat=k by omega,show((k:Int)+(j:Int)).toNat=k+j by omega];exact q29 bs k j
   have a1:=qyo (qyE bs k j);have bg:D.length<=800000000:=by have:=P.out;have:=J.out.2;omega
   clear m u N az U T E C x X y aj ao a ah ar;have ag:∀V,Calls prog 98 #[.string ⟨bs.toArray⟩,.int .i64 k,.int .i64 c] V fun e K=>e=.returned (.tuple #[.int .i64 j,.bool true])/\K=V:=cG;clear cG
   go_wp2_with (first
    |(go_at_call 43;refine ck4 (A _) Q.out.next (fun _ h=>h.box) ?_;clear A o s c2 t;intro n w o s c2 t)
    |(go_at_call 98;refine(ag _).mono ?_;clear ag;rintro e H ⟨rfl,av⟩;subst av)
    |(at_builtin;(refine wpList_append_own_string _ rfl _ _ 66 9 rfl (W.heap.size+2) 5 i0 underlying66 underlying9 a3 a8 a9 ba _ _ _ rfl w.out.own.1 ((⟨bs.toArray⟩:ByteArray).extract (k:Int).toNat ((k:Int)+(j:Int)).toNat) rfl (by rw[ak.out,a1,ap];unfold maxLen;omega) (by rw[ak.out,a1,ap];omega) w.out.own.2.1 ?_);intro v' w5 ac b au;clear au;rw[ak.out] at ac;obtain⟨z,_⟩:=qaL w.out.own ac b;obtain⟨a5,n5,c5,rfl⟩:=z.2.2;have al:=qaa (w.out.grow b z);clear ac b z))
   go_roundg (g+1-j)
   case measure=>omega
   case rel=>exact⟨k+j,D++qyE bs k j,a5,n5,c5,by go_num,rfl,by show _<=_;have:=Y.out;omega,by show _<=_;rw[List.length_append,ap];have:=P.out;omega,al,bb,HN⟩

end
end Go.Proofs.YtcokgepdckkjdaaGreatDoor
