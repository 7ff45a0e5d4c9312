import Derived.Test.YtoegnhgofkhbnaaGreatDoorHq12
import Derived.Test.YtoegnhgofkhbnaaGreatDoorHq11
set_option maxRecDepth 100000
set_option maxHeartbeats 8000000
set_option linter.all false
namespace Go.Proofs.YtoegnhgofkhbnaaGreatDoor
open Go.Proofs.Tryz
open Go.Value renaming int->A7,slice->A8,pointer->A9,tuple->Ab
open Go.Obj renaming cells->Af
open Go.IntKind renaming i64->Ah
open Option renaming some->Aj,none->Ak
open Go renaming World->Al,Value->Am,Calls->An
variable{V W W' w:Al}{lo n:Nat}{pre:List Ca}{v:Am}{xs ys:List Am}{rs:List (List (Nat×A2)×Int×Int)}
section
open Go.RowKit Go.Shelf
section
attribute[local go_sem] Oper.semAt_some
structure EU(w:World)(n:Nat)(pre:List Ca)(W:World):Prop where
 below:A1 w W
 lab:Boxed W w.heap.size 3 (.int .i64 n)
 r0:Boxed W (w.heap.size+1) 73 (.slice none 0 0)
 r1:Boxed W (w.heap.size+2) 32 (.int .i64 0)
 r2:Boxed W (w.heap.size+3) 3 (.int .i64 0)
 rules:∃ao cap xs,Boxed W (w.heap.size+4) 73 (.slice ao pre.length cap)/\W.ownsRow (w.heap.size+8) 153 3 (.slice ao pre.length cap) pre.length xs/\Hid (Fl W (w.heap.size+8) 158 xs (pre.map λx=>Gb (BZ (Cf (AV x)))))
 le:pre.length<=16
 all:(pre.map AV).all (BA n)=true
 size:w.heap.size+8<=W.heap.size
theorem EU.own{row:Nat}(h:EU w n pre W)(a:W.grownBy W' (Aj row))(c:row=w.heap.size+5\/(w.heap.size+8<=row/\∃o,W.heap[row]?=Aj o/\o.isCells=false)):EU w n pre W':=by
 obtain⟨l,m,v,t,k,u⟩:=h.rules;refine⟨h.below.trans ⟨a.os,a.tape,a.output,a.size,λi B=>a.block i (by have:=h.size;omega) (by intro e;injection e with e;omega)⟩,h.lab.kept a (by intro e;injection e with e;omega),h.r0.kept a (by intro e;injection e with e;omega),h.r1.kept a (by intro e;injection e with e;omega),h.r2.kept a (by intro e;injection e with e;omega),⟨l,m,v,t.kept a (by intro e;injection e with e;omega),k.kept a ?_,?hx⟩,h.le,h.all,AW h.size a.size⟩
 case hx =>
  refine u.out.kept λb p y r g=>⟨r,(a.block b (At g) ?_).trans g⟩
  intro e;injection e with e;subst e;rcases c with c|⟨_,o,d,j⟩
  ·omega
  rw[g]at d;cases d;cases j
 rcases k.2 with⟨f,_⟩|⟨q,x,p,f,A,s,_⟩
 ·left;rw[f];rfl
 right;rw[f];intro e;cases e;rcases c with c|⟨_,o,d,j⟩
 ·have z:q=w.heap.size+5:=c;omega
 rw[s]at d;cases d;cases j
theorem EU.out(x:Ca)(h:EU w n pre W)(i:¬(BA n (AV x)=true/\pre.length<16)):NP w n (pre++[x]) .ret (((W.setCell ⟨w.heap.size+1,0,Ak⟩ (A8 Ak 0 0)).setCell ⟨w.heap.size+1+1,0,Ak⟩ (A7 Ah 6)).setCell ⟨w.heap.size+1+1+1,0,Ak⟩ (A7 Ah (pre.length:Nat))) /\
  Tr w.heap.size (w.heap.size+5) W (((W.setCell ⟨w.heap.size+1,0,Ak⟩ (A8 Ak 0 0)).setCell ⟨w.heap.size+1+1,0,Ak⟩ (A7 Ah 6)).setCell ⟨w.heap.size+1+1+1,0,Ak⟩ (A7 Ah (pre.length:Nat))):=by
 have d:=Tr.set w.heap.size (w.heap.size+5) W (w.heap.size+1) (A8 Ak 0 0) (by omega) (by omega);have f:=Tr.set w.heap.size (w.heap.size+5) (W.setCell ⟨w.heap.size+1,0,Ak⟩ (A8 Ak 0 0)) (w.heap.size+1+1) (A7 Ah 6) (by omega) (by omega);have g:=Tr.set w.heap.size (w.heap.size+5) ((W.setCell ⟨w.heap.size+1,0,Ak⟩ (A8 Ak 0 0)).setCell ⟨w.heap.size+1+1,0,Ak⟩ (A7 Ah 6)) (w.heap.size+1+1+1) (A7 Ah (pre.length:Nat)) (by omega) (by omega);have a:=grownBy_setCell' W (w.heap.size+1) (A8 Ak 0 0);have b:=grownBy_setCell' (W.setCell ⟨w.heap.size+1,0,Ak⟩ (A8 Ak 0 0)) (w.heap.size+1+1) (A7 Ah 6);have c:=grownBy_setCell' ((W.setCell ⟨w.heap.size+1,0,Ak⟩ (A8 Ak 0 0)).setCell ⟨w.heap.size+1+1,0,Ak⟩ (A7 Ah 6)) (w.heap.size+1+1+1) (A7 Ah (pre.length:Nat));refine⟨⟨rfl,h.below.trans ((d.trans f).trans g).below,?_,?_,⟨pre,x,rfl,?_,h.all,h.le,i⟩,?_⟩,(d.trans f).trans g⟩
 ·exact((h.r0.set _).kept b (by intro e;injection e with e;omega)).kept c (by intro e;injection e with e;omega)
 ·exact(Boxed.set _ (h.r1.kept a (by intro e;injection e with e;omega))).kept c (by intro e;injection e with e;omega)
 ·exact Boxed.set _ ((h.r2.kept a (by intro e;injection e with e;omega)).kept b (by intro e;injection e with e;omega))
 simp[World.setCell];exact h.size
theorem EU.alloc(h:EU w n pre W)(o:Obj):EU w n pre (W.alloc o):=h.own (Hh W o (Aj (w.heap.size+5))) (.inl rfl)
theorem EU.belowS(h:EU w n pre W)(a:A1 W W'):EU w n pre W' :=
 h.own (row:=w.heap.size+5) ⟨a.os,a.tape,a.output,a.size,λi b _=>a.block i b⟩ (.inl rfl)
theorem l8{w5:Al}{x:Ca}{v':Am}(h:EU w n pre V)(p:Tr w.heap.size (w.heap.size+5) W V)(D:Boxed V (w.heap.size+4) 73 v)(l:V.ownsRow (w.heap.size+8) 153 3 v pre.length xs)(m:w5.ownsRow (w.heap.size+8) 153 3 v' (pre.length+1) ys)(a:V.grownBy w5 v.ownBlock)(L:¬(pre.length:Int)=16)(F:BA n (AV x)=true){pa:A5}{pc:Nat}(G:Hid (Fl V (w.heap.size+8) 158 xs (pre.map λx=>Gb (BZ (Cf (AV x))))))(C:AA V (w.heap.size+8) 158 pa (((Cf (AV x)).1.map Dj).flatMap En))(H:ys=xs++[A8 pa (Cf (AV x)).1.length pc,A7 Ah (Cf (AV x)).2.1,A7 Ah (Cf (AV x)).2.2]):KeepsOthers W (w5.setCell ⟨w.heap.size+1+1+1+1,0,Ak⟩ v')/\Em (w.heap.size+5) (w.heap.size+5+3) W (w5.setCell ⟨w.heap.size+1+1+1+1,0,Ak⟩ v')/\EU w n (pre++[x]) (w5.setCell ⟨w.heap.size+1+1+1+1,0,Ak⟩ v'):=by
 have key:=λg h=>IT l (g:=g) h;have f:Tr w.heap.size (w.heap.size+5) V w5:=Tr.grown l a h.size (by omega) (by omega);have i:=Tr.set w.heap.size (w.heap.size+5) w5 (w.heap.size+4) v' (by omega) (by omega);have d:=grownBy_setCell' w5 (w.heap.size+4) v';have E:=D.kept a (λe=>by have:=key _ e.symm;omega);obtain⟨g,q,rfl⟩:=ownsRow_succ m;refine⟨(p.trans (f.trans i)).keep,(p.trans (f.trans i)).mid,⟨h.below.trans (f.trans i).below,?_,?_,?_,?_,⟨Aj ⟨g,0,Ak⟩,q,ys,?_,?_,?hy⟩,?_,?_,?_⟩⟩
 case hy =>
  have t:(pre++[x]).map (λx=>Gb (BZ (Cf (AV x))))=(pre.map λx=>Gb (BZ (Cf (AV x))))++[Gb (BZ (Cf (AV x)))]:=by rw[Eg];rfl
  show Fl _ _ _ _ _;rw[H,t];have o:=Fl.push (pa:=pa) (pc:=pc) G.out (e:=Gb (BZ (Cf (AV x)))) C;have u:(Gb (BZ (Cf (AV x)))).2.1=(Cf (AV x)).1.length:=De _;rw[u]at o;refine o.kept λb r y A k=>⟨A,?_⟩
  have B:=At k;have I:w5.heap[b]?=Aj (Af r 158 y):=by
   refine(a.block b B (λe=>?_)).trans k;rcases l.2 with⟨j,_⟩|⟨z,J,K,j,M,c,_⟩
   ·rw[j]at e;cases e
   rw[j]at e;injection e with e;have s:b=z:=e;rw[<-s,k]at c;injection c with c;injection c with _ c _;revert c;decide
  exact(Ef _ _ _ _ (by simp;omega)).trans I
 ·exact(h.lab.kept a (λe=>by have:=key _ e.symm;omega)).kept d (by intro e;injection e with e;omega)
 ·exact(h.r0.kept a (λe=>by have:=key _ e.symm;omega)).kept d (by intro e;injection e with e;omega)
 ·exact(h.r1.kept a (λe=>by have:=key _ e.symm;omega)).kept d (by intro e;injection e with e;omega)
 ·exact(h.r2.kept a (λe=>by have:=key _ e.symm;omega)).kept d (by intro e;injection e with e;omega)
 ·rw[AC];exact E.set _
 ·rw[AC];refine m.kept d (.inr (λe=>?_));have:=IT m e;omega
 ·have:=h.le;rw[AC];simp;omega
 ·rw[Eg,LE,h.all];simp[F]
 exact AW h.size (f.trans i).below.size
theorem EU.drew(h:EU w n pre W):EU w n pre W.drew:=h.belowS (AT _ _).drew
theorem l9(w:Al)(n:Nat)(s:ByteArray)(a:Al)(b:((((((((w.alloc (Af #[A7 Ah n] 3)).alloc (Af #[A8 Ak 0 0] 73)).alloc (Af #[A7 Ah 0] 32)).alloc (Af #[A7 Ah 0] 3)).alloc (Af #[A8 Ak 0 0] 73)).alloc (Af #[.string s] 9)).alloc (Af #[.string ⟨#[10]⟩] 9)).alloc (Af #[A7 Ah 0] 3))=a):EU w n [] a:=by
 subst b;refine⟨?_,?_,?_,?_,?_,⟨Ak,0,[],?_,FK _ _ _ _,XC _ _ _⟩,Cy _,rfl,by simp⟩
 ·exact(((((((AH).alloc (by simp) _).alloc (by simp;omega) _).alloc (by simp;omega) _).alloc (by simp;omega) _).alloc (by simp;omega) _).alloc (by simp;omega) _).alloc (by simp;omega) _
 ·exact(((((((Boxed.new w _ _).alloc _).alloc _).alloc _).alloc _).alloc _).alloc _).alloc _
 ·have:=Boxed.new (w.alloc (Af #[A7 Ah n] 3)) 73 (A8 Ak 0 0);rw[AM]at this;exact(((((this.alloc _).alloc _).alloc _).alloc _).alloc _).alloc _
 ·have:=Boxed.new ((w.alloc (Af #[A7 Ah n] 3)).alloc (Af #[A8 Ak 0 0] 73)) 32 (A7 Ah 0);rw[AM,AM]at this;exact((((this.alloc _).alloc _).alloc _).alloc _).alloc _
 ·have:=Boxed.new (((w.alloc (Af #[A7 Ah n] 3)).alloc (Af #[A8 Ak 0 0] 73)).alloc (Af #[A7 Ah 0] 32)) 3 (A7 Ah 0);rw[AM,AM,AM]at this;exact(((this.alloc _).alloc _).alloc _).alloc _
 have:=Boxed.new ((((w.alloc (Af #[A7 Ah n] 3)).alloc (Af #[A8 Ak 0 0] 73)).alloc (Af #[A7 Ah 0] 32)).alloc (Af #[A7 Ah 0] 3)) 73 (A8 Ak 0 0);rw[AM,AM,AM,AM]at this;exact((this.alloc _).alloc _).alloc _
def JG(W:Al)(lo:Nat)(v:Am)(rs:List (List (Nat×A2)×Int×Int)):Prop:=∃xs,W.ownsRow lo 153 3 v rs.length xs/\Fl W lo 158 xs (rs.map Gb)
theorem JG.kept(h:JG W lo v rs)(i:∀b,lo<=b->b<W.heap.size->W'.heap[b]?=W.heap[b]?):JG W' lo v rs:=by
 obtain⟨m,a,d⟩:=h;refine⟨m,⟨a.1,?_⟩,d.kept λb e n j k=>⟨j,(i b j (At k)).trans k⟩⟩;rcases a.2 with c|⟨f,l,e,c,a,g,d⟩
 ·exact .inl c
 exact .inr ⟨f,l,e,c,a,(i f a (At g)).trans g,d⟩
theorem JG.pru(h:JG W lo v rs):∃a b,v=A8 a rs.length b/\G5 W a rs:=by
 obtain⟨e,c,d⟩:=h;exact kT c d
theorem la{base:Nat}{e:TypeId}{size:Nat}(h:W.ownsRow base e size v n xs)(j:lo<=base):W.ownsRow lo e size v n xs:=by
 refine⟨h.1,?_⟩;rcases h.2 with a|⟨d,b,c,a,i,g,f⟩
 ·exact .inl a
 exact .inr ⟨d,b,c,a,by omega,g,f⟩
def lc(n:Nat)(s:ByteArray)(w:Al)(e:Ending)(w':Al):Prop :=
 ∃a m cap,e=.returned (Ab #[A8 a m cap,A7 Ah (Di n s.data.toList),A7 Ah (FB n s.data.toList)])/\A1 w w'/\(Di n s.data.toList=0->JG w' w.heap.size (A8 a m cap) ((BR s.data.toList).map BZ))
theorem ld{s:ByteArray}{hs:s.size<=2000}{xs:List Ca}{ao:A5}{cap D:Nat}(m:¬s.size=0)(h:xs.map AV=B8 10 (AV ⟨s,hs⟩))(n:W.ownsRow (w.heap.size+8) 153 3 (A8 ao xs.length cap) xs.length ys)(A:Fl W (w.heap.size+8) 158 ys (xs.map λx=>Gb (BZ (Cf (AV x)))))(r:W.heap[D]?=Aj (.deferred (Aj [])))(u:∀j,w.heap.size+8<=j->V.heap[j]?=W.heap[j]?):JG (V.putObj D (.deferred Ak)) w.heap.size (A8 ao xs.length cap) ((BR s.data.toList).map BZ):=by
 have B:s.data.toList.length=s.size:=DB;have o:BR s.data.toList=(xs.map AV).map Cf:=by
  unfold BR;rw[Aq (by omega),h];rfl
 have l:∀b a t f,w.heap.size+8<=b->W.heap[b]?=Aj (Af a t f)->(V.putObj D (.deferred Ak)).heap[b]?=Aj (Af a t f):=by
  intro b a t f c d;have m:b≠D:=by
   rintro rfl;rw[r]at d;cases d
  have k:=(u b c).trans d;rw[(grownBy_putObj' V D (.deferred Ak)).block b (At k) (by simpa using m)];exact k
 have y:(V.putObj D (.deferred Ak)).ownsRow (w.heap.size+8) 153 3 (A8 ao xs.length cap) ((BR s.data.toList).map BZ).length ys:=by
  have e:((BR s.data.toList).map BZ).length=xs.length:=by rw[o];simp
  rw[e];refine⟨n.1,?_⟩;rcases n.2 with g|⟨i,p,a,g,c,v,q⟩
  ·exact .inl g
  exact .inr ⟨i,p,a,g,c,l i a _ _ c v,q⟩
 have z:Fl (V.putObj D (.deferred Ak)) (w.heap.size+8) 158 ys (((BR s.data.toList).map BZ).map Gb):=by
  have e:((BR s.data.toList).map BZ).map Gb=xs.map λx=>Gb (BZ (Cf (AV x))):=by
   rw[o,Na,Na,Na];rfl
  rw[e];exact A.kept λb a f c d=>⟨c,l b a _ f c d⟩
 exact⟨ys,la y (by omega),z.kept λb a f c d=>⟨by omega,d⟩⟩
theorem lg(s:ByteArray)(n:Nat)(w:Al)(af:Gq w):An prog 44 #[.string s,A7 Ah n] w λe w'=>lc n s w e w':=by
 have hl:s.data.toList.length=s.size:=DB;obtain⟨i0,hi,ax,ay,az⟩:=BH Tryz.infoRule2;have HG:=Ap af;clear af;by_cases a4:(2000:Int)<s.size
 ·have E:BY n s.data.toList=0:=by unfold BY;rw[As (by omega)]
  have U:Hid (Di n s.data.toList=6):=by show _=_;unfold Di;rw[E];rfl
  have r:Hid (FB n s.data.toList=0):=by show _=_;unfold FB;rw[E];rfl
  clear E;go_enter func44,ntmps44;go_wp2;have l:=Xk w n 6;have R:A1 w ((((w.alloc (Af #[A7 Ah n] 3)).alloc (Af #[A8 Ak 0 0] 73)).alloc (Af #[A7 Ah 6] 32)).alloc (Af #[A7 Ah 0] 3)):=((((AH).alloc (by simp) _).alloc (by simp;omega) _).alloc (by simp;omega) _)
  generalize(((w.alloc (Af #[A7 Ah n] 3)).alloc (Af #[A8 Ak 0 0] 73)).alloc (Af #[A7 Ah 6] 32)).alloc (Af #[A7 Ah 0] 3)=V at *;obtain⟨F,G,H⟩:=l;refine Bd (v:=Ab #[A8 Ak 0 0,A7 Ah 6,A7 Ah 0]) (by simp[results,f44,go_sem,F,G,H]) rfl ?_;exact⟨Ak,0,0,by rw[U.out,r.out],R,λe=>by rw[U.out]at e;cases e⟩
 have hs:s.size<=2000:=by omega
 cases hd:(s.toList==[])
 ·have K:Hid (¬s.size=0):=by
   intro h;have:s.data.toList=[]:=JU (by omega);rw[EJ,this]at hd;cases hd
  refine(Hm (n:=10)).1 ?_;refine callsIn_of_wp_marks func44 rfl trivial ?_ rfl;simp only[ntmps44,FY,Bq,CF,Nat.reduceAdd,Nat.reduceSub,Lv,Lw,LB,Lx,Jd,I8]
  gi_wp2_with fail
  refine⟨trivial,(Hm.2 (WV s ⟨#[10]⟩ _)).mono ?_⟩;rintro e w' ⟨rfl,rfl⟩;simp only[AM,A1]
  gi_wp2
  obtain⟨J,P⟩:∃J,((((((((w.alloc (Af #[A7 Ah n] 3)).alloc (Af #[A8 Ak 0 0] 73)).alloc (Af #[A7 Ah 0] 32)).alloc (Af #[A7 Ah 0] 3)).alloc (Af #[A8 Ak 0 0] 73)).alloc (Af #[.string s] 9)).alloc (Af #[.string ⟨#[10]⟩] 9)).alloc (Af #[A7 Ah 0] 3))=J:=⟨_,rfl⟩
  have aw:J.heap.size=w.heap.size+8:=by rw[<-P];simp
  have ae:=l9 w n s J P;have ad:=jM w n s J P;rw[P];refine WU rfl (by omega) (gf:=126) (lb:=#[A9 (Aj ⟨w.heap.size+1+1+1+1+1+1,0,Ak⟩),A9 (Aj ⟨w.heap.size+1+1+1+1+1,0,Ak⟩),A9 (Aj ⟨w.heap.size+1+1+1+1+1+1+1,0,Ak⟩)]) rfl trivial (enters_of func126 (by kernel_rfl) rfl)
   (st:=w.heap.size+5) (by omega) (lo:=w.heap.size+5) (hi:=w.heap.size+5+3) (by omega) (WX 9 (w.heap.size+5) 10 ⟨s,hs⟩ J ad) Bb (λx=>rfl)
   (λpre W=>EU w n pre W) (λc pre W=>NP w n pre c W)
   (λpre A al h hg=>h.own hg (.inl rfl)) (λc pre A al h hg=>h.own hg (by omega))
   (λpre A k o o' h N hk hc=>h.own (grownBy_putObj' A k o') (.inr ⟨by omega,o,hk,hc⟩)) (λc pre A k o o' h N hk hc=>h.own (grownBy_putObj' A k o') (by omega))
   ae
   (λx=>{tmps:=#[.string s,A7 Ah n,undef,A9 (Aj ⟨w.heap.size,0,Ak⟩),A9 (Aj ⟨w.heap.size+1,0,Ak⟩),A9 (Aj ⟨w.heap.size+1+1,0,Ak⟩),A9 (Aj ⟨w.heap.size+1+1+1,0,Ak⟩),A9 (Aj ⟨w.heap.size+1+1+1+1,0,Ak⟩),.string x.1,undef,undef,.string s,A7 Ah s.size,.bool false,.string s,.bool false,.string s,.func (.func 126) #[] #[A9 (Aj ⟨w.heap.size+1+1+1+1+1+1,0,Ak⟩),A9 (Aj ⟨w.heap.size+1+1+1+1+1,0,Ak⟩),A9 (Aj ⟨w.heap.size+1+1+1+1+1+1+1,0,Ak⟩)],.string x.1,undef,undef,undef,undef,undef,undef,undef,undef,undef,undef,undef,undef,undef,undef,undef,undef,undef,undef,undef,undef],defers:=[]}) ?assign ?body ?done ?stop
  case assign =>
   intro ak x W a0 I
   gi_wp2
   exact I
  case body =>
   clear ae ad P aw;intro ak pre x W y a6;have C:=Ap y;have c0:=y.lab.cell;have cR:=l7 x.1 n W x.2 (HG.below y.below);clear y
   gi_wp2_with fail
   refine⟨trivial,((Hm.2 cR).inRound ak).mono ?_⟩;clear cR c0;rintro e g ⟨i,m,z,p,t,rfl,N,O⟩;have am:Hid (BA n x.1.data.toList=true->m=(Cf x.1.data.toList).1.length/\p=(Cf x.1.data.toList).2.1/\t=(Cf x.1.data.toList).2.2/\AA g (w.heap.size+8) 158 i (((Cf x.1.data.toList).1.map Dj).flatMap En)):=λe=>⟨(O e).1,(O e).2.1,(O e).2.2.1,(O e).2.2.2.kept λa1 a3 fr h1 h3=>⟨by have:=C.size;omega,h3⟩⟩
   clear O;simp only[DF];have aa:=Ap (C.belowS N);have aq:Hid (Tr w.heap.size (w.heap.size+5) W g):=Tr.below' N (by have:=C.size;omega) (by have:=C.size;omega);clear N C;have ba:=aa.size;have a:Hid (EU w n pre (g.alloc (Af #[A8 i m z,A7 Ah p,A7 Ah t] 153))):=aa.alloc _;have B:Hid (Tr w.heap.size (w.heap.size+5) W (g.alloc (Af #[A8 i m z,A7 Ah p,A7 Ah t] 153))):=aq.trans (Tr.alloc _ _ _ _ (by omega) (by omega));have a5:=a.le;cases S:BA n x.1.data.toList
   ·have ah:¬(BA n (AV x)=true/\pre.length<16):=λh=>by have h1:BA n x.1.data.toList=true:=h.1;rw[S]at h1;cases h1
    have X:=Ap ah;clear ah
    gi_wp2
    generalize g.alloc (Af #[A8 i m z,A7 Ah p,A7 Ah t] 153)=V at *;obtain⟨d,f,u,L,Z,ab⟩:=a.rules;have c4:V.cell? ⟨w.heap.size+1+1+1+1,0,Ak⟩=Aj (A8 d pre.length f):=L.cell;have c1:=a.r0.cell;have f1:=a.r0.frozen;have c2:V.cell? ⟨w.heap.size+1+1,0,Ak⟩=Aj (A7 Ah 0):=a.r1.cell;have f2:V.frozen? ⟨w.heap.size+1+1,0,Ak⟩=false:=a.r1.frozen;have c3:V.cell? ⟨w.heap.size+1+1+1,0,Ak⟩=Aj (A7 Ah 0):=a.r2.cell;have f3:V.frozen? ⟨w.heap.size+1+1+1,0,Ak⟩=false:=a.r2.frozen
    gi_region
    all_goals gi_wp2
    all_goals exact⟨((B.trans (Xj V (by have:=a.size;omega) (by have:=a.size;omega))).trans (a.drew.out x X).2).keep,(a.drew.out x X).1⟩
   have a9:g.heap.size<(g.alloc (Af #[A8 i m z,A7 Ah p,A7 Ah t] 153)).heap.size:=by simp
   have a8:=Ay g (Af #[A8 i m z,A7 Ah p,A7 Ah t] 153);obtain⟨d,f,u,L,Z,ab⟩:=a.rules;have c4:(g.alloc (Af #[A8 i m z,A7 Ah p,A7 Ah t] 153)).cell? ⟨w.heap.size+1+1+1+1,0,Ak⟩=Aj (A8 d pre.length f):=L.cell;have HP:=Ap L;have M:=Ap Z;by_cases ac:(pre.length:Int)=16
   ·have X:Hid (¬(BA n (AV x)=true/\pre.length<16)):=λh=>by omega
    have c1:=a.r0.cell;have f1:=a.r0.frozen;have c2:(g.alloc (Af #[A8 i m z,A7 Ah p,A7 Ah t] 153)).cell? ⟨w.heap.size+1+1,0,Ak⟩=Aj (A7 Ah 0):=a.r1.cell;have f2:(g.alloc (Af #[A8 i m z,A7 Ah p,A7 Ah t] 153)).frozen? ⟨w.heap.size+1+1,0,Ak⟩=false:=a.r1.frozen;have c3:(g.alloc (Af #[A8 i m z,A7 Ah p,A7 Ah t] 153)).cell? ⟨w.heap.size+1+1+1,0,Ak⟩=Aj (A7 Ah 0):=a.r2.cell;have f3:(g.alloc (Af #[A8 i m z,A7 Ah p,A7 Ah t] 153)).frozen? ⟨w.heap.size+1+1+1,0,Ak⟩=false:=a.r2.frozen
    gi_wp2
    generalize g.alloc (Af #[A8 i m z,A7 Ah p,A7 Ah t] 153)=V at *
    gi_region
    all_goals gi_wp2
    all_goals
     have o:=a.drew.out x X;rw[ac]at o;exact⟨((B.trans (Xj V (by have:=a.size;omega) (by have:=a.size;omega))).trans o.2).keep,o.1⟩
   have ap:Hid (BA n (AV x)=true):=S;have T:=Ap (am S)
   gi_wp2_with(first
    |(gi_at_builtin;refine wpListIn_append_own _ rfl _ _ 73 rfl (w.heap.size+8) 153 i0 (.agg C2) 3 40 underlying73 hi ax ay az rfl (by decide) _ _ _ rfl (M.alloc _) ⟨g.heap.size+1,0,Ak⟩ 1 1 [A8 i m z,A7 Ah p,A7 Ah t] rfl rfl (Pu _ _ _ _) (λx b=>by simp at b;rcases b with rfl|rfl|rfl<;>rfl) (by unfold maxLen;omega) (by omega) (by simp;omega) ?_;intro v' w5 ai ag a7;obtain⟨g5,a2,rfl⟩:=ownsRow_succ ai;have aj:=(HP.alloc _).kept ag (λe=>by have:=IT M e.symm;omega);have c5:w5.cell? ⟨w.heap.size+1+1+1+1,0,Ak⟩=Aj (A8 d pre.length f):=aj.cell;have f5:w5.frozen? ⟨w.heap.size+1+1+1+1,0,Ak⟩=false:=aj.frozen))
   exact l8 (a.alloc _) (B.trans (Tr.alloc _ _ _ _ (by simp;omega) (by simp;omega))) (HP.alloc _) (M.alloc _) ai ag ac ap (ab.below AH) ((T.2.2.2.below AH).below AH) (by show _++[Value.slice i m z,A7 Ah p,A7 Ah t]=_;rw[T.1,T.2.1,T.2.2.1];rfl)
  case done =>
   intro D u W hD hS y I;obtain⟨d,f,ys,L,Z,ar⟩:=y.rules;have M:=Ap Z;have C:=Ap y;have HS:=Ap hS;have HK:=Ap I;have c4:W.cell? ⟨w.heap.size+1+1+1+1,0,Ak⟩=Aj (A8 d u.length f):=L.cell;have c1:=y.r0.cell;have f1:=y.r0.frozen;have c2:W.cell? ⟨w.heap.size+1+1,0,Ak⟩=Aj (A7 Ah 0):=y.r1.cell;have f2:W.frozen? ⟨w.heap.size+1+1,0,Ak⟩=false:=y.r1.frozen;have c3:W.cell? ⟨w.heap.size+1+1+1,0,Ak⟩=Aj (A7 Ah 0):=y.r2.cell;have f3:W.frozen? ⟨w.heap.size+1+1+1,0,Ak⟩=false:=y.r2.frozen
   gi_wp2
   have E:=jK K HS C.le C.all;have Y:Di n s.data.toList=0:=by unfold Di;rw[E];rfl
   have hN:FB n s.data.toList=0:=by unfold FB;rw[E];rfl
   have t1:=Tr.set w.heap.size (w.heap.size+5) W (w.heap.size+1) (A8 d u.length f) (by omega) (by omega);have t2:=Tr.set w.heap.size (w.heap.size+5) (W.setCell ⟨w.heap.size+1,0,Ak⟩ (A8 d u.length f)) (w.heap.size+1+1) (A7 Ah 0) (by omega) (by omega);have t3:=Tr.set w.heap.size (w.heap.size+5) ((W.setCell ⟨w.heap.size+1,0,Ak⟩ (A8 d u.length f)).setCell ⟨w.heap.size+1+1,0,Ak⟩ (A7 Ah 0)) (w.heap.size+1+1+1) (A7 Ah 0) (by omega) (by omega);have g1:=grownBy_setCell' W (w.heap.size+1) (A8 d u.length f);have g2:=grownBy_setCell' (W.setCell ⟨w.heap.size+1,0,Ak⟩ (A8 d u.length f)) (w.heap.size+1+1) (A7 Ah 0);have g3:=grownBy_setCell' ((W.setCell ⟨w.heap.size+1,0,Ak⟩ (A8 d u.length f)).setCell ⟨w.heap.size+1+1,0,Ak⟩ (A7 Ah 0)) (w.heap.size+1+1+1) (A7 Ah 0);have b0:=((C.r0.set (A8 d u.length f)).kept g2 (by intro e;injection e with e;omega)).kept g3 (by intro e;injection e with e;omega);have b1:=(Boxed.set (A7 Ah 0) (C.r1.kept g1 (by intro e;injection e with e;omega))).kept g3 (by intro e;injection e with e;omega);have b2:=Boxed.set (A7 Ah 0) ((C.r2.kept g1 (by intro e;injection e with e;omega)).kept g2 (by intro e;injection e with e;omega));have R:=C.below.trans ((t1.trans t2).trans t3).below;have I:=((t1.trans t2).trans t3).keep.same D _ HK rfl;have HC:Hid (∀j,w.heap.size+8<=j->(((W.setCell ⟨w.heap.size+1,0,Ak⟩ (A8 d u.length f)).setCell ⟨w.heap.size+1+1,0,Ak⟩ (A7 Ah 0)).setCell ⟨w.heap.size+1+1+1,0,Ak⟩ (A7 Ah 0)).heap[j]?=W.heap[j]?):=λj hj=>((Ef _ _ _ _ (by simp;omega)).trans (Ef _ _ _ _ (by simp;omega))).trans (Ef _ _ _ _ (by simp;omega));generalize((W.setCell ⟨w.heap.size+1,0,Ak⟩ (A8 d u.length f)).setCell ⟨w.heap.size+1+1,0,Ak⟩ (A7 Ah 0)).setCell ⟨w.heap.size+1+1+1,0,Ak⟩ (A7 Ah 0)=V at *;refine⟨by simp,.inl ⟨D,_,rfl,run_takeDeferred I,?_⟩⟩;have F:=(Boxed.kept b0 (grownBy_putObj' V D (.deferred Ak)) (by intro e;injection e with e;omega)).cell;have G:(V.putObj D (.deferred Ak)).cell? ⟨w.heap.size+1+1,0,Ak⟩=Aj (A7 Ah 0):=(Boxed.kept b1 (grownBy_putObj' V D (.deferred Ak)) (by intro e;injection e with e;omega)).cell;have H:(V.putObj D (.deferred Ak)).cell? ⟨w.heap.size+1+1+1,0,Ak⟩=Aj (A7 Ah 0):=(Boxed.kept b2 (grownBy_putObj' V D (.deferred Ak)) (by intro e;injection e with e;omega)).cell;refine⟨Ab #[A8 d u.length f,A7 Ah 0,A7 Ah 0],?_,⟨d,u.length,f,by rw[Y,hN],M5 R (by omega) _,λ_=>ld K HS M ar HK HC⟩⟩;simp[results,f44,go_sem,F,G,H]
  case stop =>
   intro D c pre W hD hS Q I;obtain rfl:=Q.ret
   gi_wp2
   obtain⟨q,x,rfl,au,ha,av,b⟩:=Q.bad;obtain⟨bb,S⟩:=hS;have E:=jL K S ha av b;have Y:Di n s.data.toList=6:=by unfold Di;rw[E,As (by omega)]
   have hN:FB n s.data.toList=q.length:=by unfold FB;rw[E,As (by omega)]
   refine⟨by simp,.inl ⟨D,_,rfl,run_takeDeferred I,?_⟩⟩;have F:=(Q.r0.kept (grownBy_putObj' W D (.deferred Ak)) (by intro e;injection e with e;omega)).cell;have G:(W.putObj D (.deferred Ak)).cell? ⟨w.heap.size+1+1,0,Ak⟩=Aj (A7 Ah 6):=(Q.r1.kept (grownBy_putObj' W D (.deferred Ak)) (by intro e;injection e with e;omega)).cell;have H:(W.putObj D (.deferred Ak)).cell? ⟨w.heap.size+1+1+1,0,Ak⟩=Aj (A7 Ah (q.length:Nat)):=(au.kept (grownBy_putObj' W D (.deferred Ak)) (by intro e;injection e with e;omega)).cell;refine⟨Ab #[A8 Ak 0 0,A7 Ah 6,A7 Ah (q.length:Nat)],?_,⟨Ak,0,0,by rw[Y,hN],M5 Q.below (by omega) _,λe=>by rw[Y]at e;cases e⟩⟩;simp[results,f44,go_sem,F,G,H]
 have h0:s.data.toList=[]:=by rw[<-EJ];exact KM hd
 have E:BY n s.data.toList = -1:=by unfold BY;rw[h0];rfl
 have U:Hid (Di n s.data.toList=0):=by show _=_;unfold Di;rw[E];rfl
 have r:Hid (FB n s.data.toList=0):=by show _=_;unfold FB;rw[E];rfl
 have an:Hid (BR s.data.toList=[]):=by show _=_;unfold BR;rw[h0];rfl
 go_enter func44,ntmps44;go_wp2;have l:=Xk w n 0;have R:A1 w ((((w.alloc (Af #[A7 Ah n] 3)).alloc (Af #[A8 Ak 0 0] 73)).alloc (Af #[A7 Ah 0] 32)).alloc (Af #[A7 Ah 0] 3)):=((((AH).alloc (by simp) _).alloc (by simp;omega) _).alloc (by simp;omega) _)
 generalize(((w.alloc (Af #[A7 Ah n] 3)).alloc (Af #[A8 Ak 0 0] 73)).alloc (Af #[A7 Ah 0] 32)).alloc (Af #[A7 Ah 0] 3)=V at *;obtain⟨F,G,H⟩:=l;refine Bd (v:=Ab #[A8 Ak 0 0,A7 Ah 0,A7 Ah 0]) (by simp[results,f44,go_sem,F,G,H]) rfl ?_;exact⟨Ak,0,0,by rw[U.out,r.out],R,λ_=>by rw[an.out];exact⟨[],FK _ _ _ _,XC _ _ _⟩⟩
end
def XE(c:AN)(A:A4)(w':Al):Prop:=A.size=38/\A.all (·.oneCell')=true/\(EB c=0->CU c.labels c.L=true/\∃a k cap,A=Ga (Bh c.labels.toNat (BK c.labels.toNat c.L)) a k cap/\∃lo',JG w' lo' (A8 a k cap) ((BR c.pol.data.toList).map BZ))
theorem PH(c:AN)(a:Al)(h:¬EB c=0):XE c Cb a:=⟨Hw,Mm,λe=>absurd e h⟩
def lh(c:AN)(w:Al)(e:Ending)(w':Al):Prop:=∃A,e=.returned (Ab #[.agg A,A7 Ah (EB c),A7 Ah (Hx c)])/\XE c A w'/\A1 w w'
def XF(n:Nat)(s:ByteArray):Int:=Di n s.data.toList
def lj(n:Nat)(s:ByteArray)(w:Al)(a:A5)(m cap:Nat)(w':Al):Prop:=XF n s=0->JG w' w.heap.size (A8 a m cap) ((BR s.data.toList).map BZ)
theorem lp(s:ByteArray)(n:Nat)(w:Al)(h:Gq w):An prog 44 #[.string s,A7 Ah n] w λe c=>∃a m b,e=.returned (Ab #[A8 a m b,A7 Ah (Di n s.data.toList),A7 Ah (FB n s.data.toList)])/\A1 w c/\lj n s w a m b c:=by
 refine(lg s n w h).mono ?_;rintro e c ⟨a,m,b,d,f,g⟩;exact⟨a,m,b,d,f,g⟩
theorem ls(c:AN)(w:Al)(y:Et w c)(U:Gq w):An prog 24 #[.agg c.arr] w (lh c w):=by
 have Y:=Ap y;have HG:=Ap U;have HS:=Ap c.size;have A:=Ap (kM w c);have hL:c.L.length<=maxLen:=by have:=y.eb;unfold maxLen;omega
 have af:c.B.length<=maxLen:=by have:=y.bb;unfold maxLen;omega
 have N:An prog 41 #[.agg c.arr] ((w.alloc (Af c.arr 25)).alloc (Af Cb 75)) λe w'=>e=.returned (Ab #[.agg (G8 c.labels c.L c.dflt c.clr),A7 Ah (Db c.labels c.L c.dflt c.clr)])/\Below ((w.alloc (Af c.arr 25)).alloc (Af Cb 75)).heap.size ((w.alloc (Af c.arr 25)).alloc (Af Cb 75)) w' :=
  kG c.arr c.labels c.L c.ea c.ecap c.dflt c.clr rfl rfl rfl rfl hL _ (y.edges.below A.below)
 have F:(G8 c.labels c.L c.dflt c.clr).size=37:=by unfold G8;split<;>exact Bj _ _
 have R:(G8 c.labels c.L c.dflt c.clr).all (·.oneCell')=true:=by unfold G8;split<;>exact FL _ _
 have k:=Ap F;have p:=Ap R;have v:Hid (AU.size=(G8 c.labels c.L c.dflt c.clr).size):=by show _=_;rw[F];exact Bj _ _
 have K:Hid (Db c.labels c.L c.dflt c.clr=0->CU c.labels c.L=true/\G8 c.labels c.L c.dflt c.clr=Bh c.labels.toNat (BK c.labels.toNat c.L)):=kL;have G:Hid (¬Db c.labels c.L c.dflt c.clr=0->EB c=Db c.labels c.L c.dflt c.clr/\Hx c=0):=kN;have J:Hid (Db c.labels c.L c.dflt c.clr=0->EB c=(if D3 c.inn c.out c.depth c.bytes=false then 4 else if Fb c.B=false then 5 else Di c.labels.toNat c.pol.data.toList)/\Hx c=(if D3 c.inn c.out c.depth c.bytes=false then 0 else if Fb c.B=false then 0 else FB c.labels.toNat c.pol.data.toList)):=λh=>by
  refine⟨?_,?_⟩
  ·unfold EB;rw[Aq (λz=>z h)]
  unfold Hx;rw[Aq (λz=>z h)]
 clear F R y U;generalize G8 c.labels c.L c.dflt c.clr=O at *;generalize Db c.labels c.L c.dflt c.clr=E0 at *;go_enter func24,ntmps24
 go_wp2_with(first
  |(refine Sw rfl rfl _ rfl (w.heap.size+1) ?hN ?_;case hN=>(simp only[AM,A1];done))
  |(refine B3 rfl 25 _ rfl _ rfl _ _ _ _ A.box underlying25 rfl (Dg HS) ?_)
  |fail)
 refine N.mono ?_;clear N;rintro e a ⟨rfl,P⟩;have M:=Ap (A.step P);clear P A;have d:Hid (Lb w c (a.alloc (Af O 72))):=M.step AH;have W:Hid ((a.alloc (Af O 72)).heap[a.heap.size]?=Aj (Af O 72)):=Ay _ _;by_cases E:E0=0
 ·subst E;obtain⟨V,S⟩:=K.out rfl;obtain⟨n,s⟩:=J.out rfl;have H:=Ap S;have I:=Ap V;have h6:(a.alloc (Af O 72)).cell? ⟨w.heap.size,6,Ak⟩=Aj (A7 Ah c.inn):=d.cell 6;have h7:(a.alloc (Af O 72)).cell? ⟨w.heap.size,7,Ak⟩=Aj (A7 Ah c.out):=d.cell 7;have h8:(a.alloc (Af O 72)).cell? ⟨w.heap.size,8,Ak⟩=Aj (A7 Ah c.depth):=d.cell 8;have h9:(a.alloc (Af O 72)).cell? ⟨w.heap.size,9,Ak⟩=Aj (A7 Ah c.bytes):=d.cell 9;have ai:(a.alloc (Af O 72)).cell? ⟨w.heap.size,10,Ak⟩=Aj (A8 c.ba c.B.length c.bcap):=d.cell 10;have h3:(a.alloc (Af O 72)).cell? ⟨w.heap.size,3,Ak⟩=Aj (.string c.pol):=d.cell 3;have h0:(a.alloc (Af O 72)).cell? ⟨w.heap.size,0,Ak⟩=Aj (A7 Ah c.labels):=d.cell 0;have t:=λad=>gN c.inn c.out c.depth c.bytes ad;clear K J G S V;cases l:D3 c.inn c.out c.depth c.bytes
  ·have j:Hid (EB c=4):=by show _=_;rw[n,l];rfl
   have m:Hid (Hx c=0):=by show _=_;rw[s,l];rfl
   have o:Hid (¬EB c=0):=by show¬_;rw[j.out];decide
   rw[l]at t;clear n s l
   go_wp2_with(first
    |(go_at_call 42;refine(t _).mono ?_;rintro e u ⟨rfl,rfl⟩)
    |(refine G1 rfl rfl _ rfl a.heap.size rfl ?_)
    |(refine Bg rfl 72 _ _ rfl a.heap.size O rfl rfl 72 AU (Ay a _) (BP k) v p ?_;rw[F6])
    |(refine EK rfl 75 _ rfl _ rfl _ [] ?hl PF ?_;case hl=>simp)
    |(refine Bg rfl 75 _ _ rfl (w.heap.size+1) Cb rfl rfl 75 Cb d.res (GY Hw) rfl Mm ?_))
   refine Bd (NR results24 _ _ (w.heap.size+1) 75 Cb (0,0) _ rfl (B4 _ _ Cb _ _ _ d.res) underlying75 rfl (GY Hw) (A7 Ah 4) (A7 Ah 0) rfl rfl) rfl ⟨Cb,by rw[j.out,m.out],PH c _ o,Bu d.below (by omega) _⟩
  rw[l]at t;have x:=aM c.ba c.bcap c.B af (a.alloc (Af O 72)) (Y.ints.below d.below);cases r:Fb c.B
  ·have j:Hid (EB c=5):=by show _=_;rw[n,l,r];rfl
   have m:Hid (Hx c=0):=by show _=_;rw[s,l,r];rfl
   have o:Hid (¬EB c=0):=by show¬_;rw[j.out];decide
   rw[r]at x;clear n s l r
   go_wp2_with(first
    |(go_at_call 42;refine(t _).mono ?_;rintro e u ⟨rfl,rfl⟩)
    |(go_at_call 43;refine x.mono ?_;rintro e u ⟨rfl,rfl⟩)
    |(refine G1 rfl rfl _ rfl a.heap.size rfl ?_)
    |(refine Bg rfl 72 _ _ rfl a.heap.size O rfl rfl 72 AU (Ay a _) (BP k) v p ?_;rw[F6])
    |(refine EK rfl 75 _ rfl _ rfl _ [] ?hl PF ?_;case hl=>simp)
    |(refine Bg rfl 75 _ _ rfl (w.heap.size+1) Cb rfl rfl 75 Cb d.res (GY Hw) rfl Mm ?_))
   refine Bd (NR results24 _ _ (w.heap.size+1) 75 Cb (0,0) _ rfl (B4 _ _ Cb _ _ _ d.res) underlying75 rfl (GY Hw) (A7 Ah 5) (A7 Ah 0) rfl rfl) rfl ⟨Cb,by rw[j.out,m.out],PH c _ o,Bu d.below (by omega) _⟩
  rw[r]at x;have D:=lp c.pol c.labels.toNat (a.alloc (Af O 72)) (HG.below d.below);rw[(Sv I).1]at D;have j:Hid (EB c=Di c.labels.toNat c.pol.data.toList):=by show _=_;rw[n,l,r];rfl
  have m:Hid (Hx c=FB c.labels.toNat c.pol.data.toList):=by show _=_;rw[s,l,r];rfl
  have b:Hid (Di c.labels.toNat c.pol.data.toList=0->FB c.labels.toNat c.pol.data.toList=0):=λh=>by
   unfold Di at h;unfold FB;split at h
   ·cases h
   next z=>rw[Aq z]
  have Z:Hid (XF c.labels.toNat c.pol=Di c.labels.toNat c.pol.data.toList):=rfl;generalize Di c.labels.toNat c.pol.data.toList=E1 at *;generalize FB c.labels.toNat c.pol.data.toList=N1 at *;by_cases Q:E1=0
  ·subst Q;have ag:=b.out rfl;subst ag;have X:Hid (∀f i g,prog.built 75 [(0,.agg O),(1,A8 f i g)]=Aj (Ga O f i g)):=λf i g=>by rw[H.out];exact kI _ _ _ _ _
   have ac:Hid (∀f i g,Cb.size=(Ga O f i g).size):=λf i g=>by rw[NS k.out];exact Hw
   have ah:a.heap.size<(a.alloc (Af O 72)).heap.size:=by simp
   go_wp2_with(first
    |(go_at_call 42;refine(t _).mono ?_;rintro e u ⟨rfl,rfl⟩)
    |(go_at_call 43;refine x.mono ?_;rintro e u ⟨rfl,rfl⟩)
    |(go_at_call 44;refine D.mono ?_;rintro e w4 ⟨f,i,g,rfl,C,T⟩;have ab:=Ap T;have q:=Ap (d.step C);have aa:=Ap ((C.block _ ah).trans W))
    |(refine B3 rfl 72 _ rfl _ rfl _ _ _ _ aa underlying72 rfl (BP k) ?_)
    |(refine EK rfl 75 _ rfl _ rfl _ [(0,.agg O),(1,A8 f i g)] ?hl (X f i g) ?_;case hl=>simp[go_sem])
    |(refine Bg rfl 75 _ _ rfl (w.heap.size+1) (Ga O f i g) rfl rfl 75 Cb q.res (GY (NS k _ _ _)) (ac _ _ _) (Sz p _ _ _) ?_)
    |(refine G1 rfl rfl _ rfl a.heap.size rfl ?_)
    |(refine Bg rfl 72 _ _ rfl a.heap.size O rfl rfl 72 AU (Ay a _) (BP k) v p ?_;rw[F6]))
   refine Bd (NR results24 _ _ (w.heap.size+1) 75 (Ga O f i g) (0,0) _ rfl (B4 _ _ Cb _ _ _ q.res) underlying75 rfl (GY (NS k _ _ _)) (A7 Ah 0) (A7 Ah 0) rfl rfl) rfl ⟨Ga O f i g,by rw[j.out,m.out],?_,Bu q.below (by omega) _⟩;refine⟨NS k _ _ _,Sz p _ _ _,λ_=>⟨I,f,i,g,by rw[H.out],?_⟩⟩;have hq:=ab.out Z;have aj:=At M.res;exact⟨_,hq.kept λae h1 _=>BO _ (w.heap.size+1) ae _ (by rw[AM]at h1;omega)⟩
  have o:Hid (¬EB c=0):=by show¬_;rw[j.out];exact Q
  go_wp2_with(first
   |(go_at_call 42;refine(t _).mono ?_;rintro e u ⟨rfl,rfl⟩)
   |(go_at_call 43;refine x.mono ?_;rintro e u ⟨rfl,rfl⟩)
   |(go_at_call 44;refine D.mono ?_;rintro e w4 ⟨f,i,g,rfl,C,T⟩;have q:=Ap (d.step C))
   |(refine Bg rfl 75 _ _ rfl (w.heap.size+1) Cb rfl rfl 75 Cb q.res (GY Hw) rfl Mm ?_)
   |(refine G1 rfl rfl _ rfl a.heap.size rfl ?_)
   |(refine Bg rfl 72 _ _ rfl a.heap.size O rfl rfl 72 AU (Ay a _) (BP k) v p ?_;rw[F6])
   |(refine EK rfl 75 _ rfl _ rfl _ [] ?hl PF ?_;case hl=>simp)
   |(refine Bg rfl 75 _ _ rfl (w.heap.size+1) Cb rfl rfl 75 Cb d.res (GY Hw) rfl Mm ?_))
  refine Bd (NR results24 _ _ (w.heap.size+1) 75 Cb (0,0) _ rfl (B4 _ _ Cb _ _ _ q.res) underlying75 rfl (GY Hw) (A7 Ah E1) (A7 Ah N1) rfl rfl) rfl ⟨Cb,by rw[j.out,m.out],PH c _ o,Bu q.below (by omega) _⟩
 obtain⟨n,s⟩:=G.out E;have j:=Ap n;have m:=Ap s;have o:Hid (¬EB c=0):=by show¬_;rw[n];exact E
 go_wp2_with(first
  |(refine G1 rfl rfl _ rfl a.heap.size rfl ?_)
  |(refine Bg rfl 72 _ _ rfl a.heap.size O rfl rfl 72 AU (Ay a _) (BP k) v p ?_;rw[F6])
  |(refine EK rfl 75 _ rfl _ rfl _ [] ?hl PF ?_;case hl=>simp)
  |(refine Bg rfl 75 _ _ rfl (w.heap.size+1) Cb rfl rfl 75 Cb d.res (GY Hw) rfl Mm ?_))
 refine Bd (NR results24 _ _ (w.heap.size+1) 75 Cb (0,0) _ rfl (B4 _ _ Cb _ _ _ d.res) underlying75 rfl (GY Hw) (A7 Ah E0) (A7 Ah 0) rfl rfl) rfl ⟨Cb,by rw[j.out,m.out],PH c _ o,Bu d.below (by omega) _⟩
end
end Go.Proofs.YtoegnhgofkhbnaaGreatDoor
