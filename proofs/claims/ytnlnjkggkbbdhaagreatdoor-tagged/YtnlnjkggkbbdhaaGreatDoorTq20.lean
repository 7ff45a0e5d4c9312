import Derived.Test.YtnlnjkggkbbdhaaGreatDoorTq15
import Derived.Test.YtnlnjkggkbbdhaaGreatDoorTq19
set_option maxRecDepth 100000
set_option maxHeartbeats 8000000
set_option linter.all false
namespace Go.Proofs.YtnlnjkggkbbdhaaGreatDoor
open Go.Proofs.Tryz
open Go.Value renaming int->I,slice->G
open Option renaming some->U,none->Y
open Go.IntKind renaming i64->K
open Go renaming World->O
open Go.Obj renaming cells->E
open Go.Proofs.Tryz renaming prog->X
open Go.Value renaming int->A6,slice->A7,pointer->A8,string->A9,tuple->Aa
open Go.Ending renaming returned->Af
open Go.IntKind renaming i64->Ag,u8->Ah
open Go renaming World->Ak,Value->Al,Calls->Am
variable{lo n p:Nat}{V W W' w:O}{c:BX}{pre:List Dk}{v:Al}{xs ys:List Al}{rs:List (List (Nat×A1)×Int×Int)}{bs ch l:A1}
section
open Go.RowKit Go.Shelf
def Pq{P:Program}{fn:Func}{p u u2:Tmp}{ty:TypeId}(h:fn.results=#[.cell p ty,.tmp u,.tmp u2])(b:A3)(w:O)(g:Nat)(t:TypeId)(cs:A3)(c:Nat×Nat)(d:TypeDesc)(k:b.getD p undef=A8 (U ⟨g,0,Y⟩))(j:w.heap[g]?=U (E cs t c))(l:P.underlying ty=U d)(i:(match d with|.struct _|.array _ _=>true|_=>false)=true)(hi:(P.info? ty).map (·.size)=U cs.size)(v f:Al)(m:b.getD u undef=v)(n:b.getD u2 undef=f):(results fn b).run P w=.ok (Aa #[.agg cs,v,f]) w:=by
 have e:(results fn b).run P w=((asAddr (b.getD p undef)).run P w).andThen λa o=>((loadVar ty a).run P o).andThen λv q=>.ok (Aa #[v,b.getD u undef,b.getD u2 undef]) q:=by
  simp only[results,h];simp[Ei,Result.andThen]
 subst m n;rw[e,k];simp only[asAddr,Fq,EA,I5 w g t ty cs c d j l i hi]
def Ig(O:A3)(a:A4)(k c:Nat):A3:=O.push (A7 a k c)
def Dl:A3:=Ig C2 none 0 0
def Rx:prog.built 87 []=U Dl:=M
def ol(n:Nat)(m:Nat->Nat->Bool)(a:A4)(k c:Nat):prog.built 87 [(0,.agg (Cp n m)),(1,G a k c)]=U (Ig (Cp n m) a k c):=M
def om:(prog.info? 87).map (·.size)=U 38:=M
def oo(ρ:Operand->Al)(o:Oper)(a:o.op=.alloc 87)(w:O):(execOp ρ o).run X w=.ok (.value (A8 (U ⟨w.heap.size,0,Y⟩))) (w.alloc (E Dl 87)):=by
 unfold execOp;rw[a];kernel_rfl
def Us{ops:Array Oper}{rest:List Oper}{o:Oper}{a:Act}{Q:Exit->Act->O->Prop}(e:o.guard=Y)(f:o.op=.alloc 87)(d:Option Tmp)(c:o.dst=d)(N:Nat)(b:w.heap.size=N)(h:wpList X ops Q rest (a.put d (A8 (U ⟨N,0,Y⟩))) (w.alloc (E Dl 87))):wpList X ops Q (o::rest) a w:=by
 subst b;exact Q8 e d c _ _ (oo _ _ f _) h
def Ut(n:Nat)(m:Nat->Nat->Bool):(Cp n m).all (·.oneCell')=true:=by
 simp[Cp,Value.oneCell']
def Pr{O:A3}(h:O.size=37)(a:A4)(k c:Nat):(Ig O a k c).size=38:=by unfold Ig;simp[h]
def Uu{O:A3}(h:O.all (·.oneCell')=true)(a:A4)(k c:Nat):(Ig O a k c).all (·.oneCell')=true:=by
 unfold Ig;rw[Array.all_push,h];rfl
def Ju:Dl.size=38:=Pr (Cr _ _) _ _ _
def O3:Dl.all (·.oneCell')=true:=Uu (Ut _ _) _ _ _
def IY{A:A3}(h:A.size=38):(prog.info? 87).map (·.size)=U A.size:=by rw[h];exact om
def FX(c:BX):Int:=if¬Em c.labels c.L c.dflt c.clr=0 then Em c.labels c.L c.dflt c.clr else if EG c.inn c.out c.depth c.bytes=false then 4 else if Gy c.B=false then 5 else Eu c.labels.toNat c.pol.data.toList
def Jv(c:BX):Int:=if¬Em c.labels c.L c.dflt c.clr=0 then 0 else if EG c.inn c.out c.depth c.bytes=false then 0 else if Gy c.B=false then 0 else Hf c.labels.toNat c.pol.data.toList
def Uv(c:BX):(E9 c.labels c.L=true->Em c.labels c.L c.dflt c.clr=if JW c=false then 1 else if Jr c.labels.toNat (Cb c.labels.toNat c.L)=false then 2 else if Js c.labels.toNat (Cb c.labels.toNat c.L)=false then 3 else 0)/\(E9 c.labels c.L=false->Em c.labels c.L c.dflt c.clr=1/\JW c=false):=by
 constructor
 ·intro h;obtain⟨_,H⟩:=Ur h;have b:∀i j,i<c.labels.toNat->j<c.labels.toNat->CU c.labels.toNat c.L i j=Cb c.labels.toNat c.L i j:=λi j a f=>nV H.hE a f;have d:=o7 b;have e:=o8 b (λi a=>nW H.hE a);unfold Em JW;rw[h,d,e];cases CE c.labels.toNat c.dflt<;>cases CE c.labels.toNat c.clr<;>cases Jr c.labels.toNat (Cb c.labels.toNat c.L)<;>cases Js c.labels.toNat (Cb c.labels.toNat c.L)<;>rfl
 intro h;unfold Em JW;rw[h];exact⟨Z,Z⟩
def Uw(c:BX):FX c=CB c/\Jv c=E5 c:=by
 have key:FX c=CB c/\Jv c=if CB c=6 then Dc c.labels.toNat c.pol.data.toList else 0:=by
  unfold FX Jv CB Eu Hf;rw[fw];cases h:E9 c.labels c.L
  ·obtain⟨i,j⟩:=(Uv c).2 h;rw[i,j];simp
  rw[(Uv c).1 h];by_cases a:JW c=false
  ·simp[a]
  by_cases b:Jr c.labels.toNat (Cb c.labels.toNat c.L)=false
  ·simp[a,b]
  by_cases d:Js c.labels.toNat (Cb c.labels.toNat c.L)=false
  ·simp[a,b,d]
  by_cases e:EG c.inn c.out c.depth c.bytes=false
  ·simp[a,b,d,e]
  by_cases f:Ge c.B=false
  ·simp[a,b,d,e,f]
  by_cases g:0<=Dc c.labels.toNat c.pol.data.toList
  ·simp[a,b,d,e,f,g]
  simp[a,b,d,e,f,g]
 exact⟨key.1,key.2.trans Z⟩
def oq(h:Em c.labels c.L c.dflt c.clr=0):E9 c.labels c.L=true/\Ie c.labels c.L c.dflt c.clr=Cp c.labels.toNat (CU c.labels.toNat c.L):=by
 constructor
 ·cases a:E9 c.labels c.L
  ·have:=((Uv c).2 a).1;rw[h]at this;cases this
  rfl
 unfold Ie;rw[BA h]
structure MW(w:World)(c:BX)(W:World):Prop where
 below:A0 w W
 box:W.heap[w.heap.size]?=some (.cells c.arr 25)
 res:W.heap[w.heap.size+1]?=some (.cells Dl 87)
def MW.step(h:MW w c W)(hb:A0 W W'):MW w c W' :=
 ⟨h.below.trans (hb.mono h.below.size),(hb.block _ (BC h.box)).trans h.box,(hb.block _ (BC h.res)).trans h.res⟩
def ot(w:O)(c:BX):MW w c ((w.alloc (E c.arr 25)).alloc (E Dl 87)):=by
 refine⟨(BN).alloc Az _,(BT _ _ _ Az).trans (BI _ _),?_⟩;have:=BI (w.alloc (E c.arr 25)) (E Dl 87);rwa[BU]at this
def MW.cell(h:MW w c W)(j:Nat):W.cell? ⟨w.heap.size,j,Y⟩=c.arr[j]?:=BB h.box j
def ou(h:¬Em c.labels c.L c.dflt c.clr=0):FX c=Em c.labels c.L c.dflt c.clr/\Jv c=0:=by unfold FX Jv;rw[BA h,BA h];exact⟨Z,Z⟩
section
attribute[local go_sem] Oper.semAt_some
structure Gp(w:World)(n:Nat)(pre:List Dk)(W:World):Prop where
 below:A0 w W
 lab:Boxed W w.heap.size 3 (.int .i64 n)
 r0:Boxed W (w.heap.size+1) 85 (.slice none 0 0)
 r1:Boxed W (w.heap.size+2) 31 (.int .i64 0)
 r2:Boxed W (w.heap.size+3) 3 (.int .i64 0)
 rules:∃ao cap xs,Boxed W (w.heap.size+4) 85 (.slice ao pre.length cap)/\W.ownsRow (w.heap.size+8) 177 3 (.slice ao pre.length cap) pre.length xs/\Hid (GK W (w.heap.size+8) 182 xs (pre.map λx=>Ih (DP (DU (C3 x)))))
 le:pre.length<=16
 all:(pre.map C3).all (CG n)=true
 size:w.heap.size+8<=W.heap.size
def Gp.own{row:Nat}(h:Gp w n pre W)(a:W.grownBy W' (U row))(c:row=w.heap.size+5\/(w.heap.size+8<=row/\∃o,W.heap[row]?=U o/\o.isCells=false)):Gp w n pre W':=by
 obtain⟨l,m,v,t,k,u⟩:=h.rules;refine⟨h.below.trans ⟨a.os,a.tape,a.output,a.size,λi B=>a.block i B1 AB⟩,h.lab.kept a AB,h.r0.kept a AB,h.r1.kept a AB,h.r2.kept a AB,⟨l,m,v,t.kept a AB,k.kept a ?_,?hx⟩,h.le,h.all,C7 h.size a.size⟩
 case hx =>
  refine u.out.kept λb p y r g=>⟨r,(a.block b (BC g) ?_).trans g⟩
  intro e;injection e with e;subst e;rcases c with c|⟨_,o,d,j⟩
  ·omega
  rw[g]at d;cases d;cases j
 rcases k.2 with⟨f,_⟩|⟨q,x,p,f,A,s,_⟩
 ·left;rw[f];rfl
 right;rw[f];intro e;cases e;rcases c with c|⟨_,o,d,j⟩
 ·have z:q=w.heap.size+5:=c;omega
 rw[s]at d;cases d;cases j
def Gp.out(x:Dk)(h:Gp w n pre W)(i:¬(CG n (C3 x)=true/\pre.length<16)):Po w n (pre++[x]) .ret (((W.setCell ⟨w.heap.size+1,0,Y⟩ (G Y 0 0)).setCell ⟨w.heap.size+1+1,0,Y⟩ (I K 6)).setCell ⟨w.heap.size+1+1+1,0,Y⟩ (I K (pre.length:Nat))) /\
  Tr w.heap.size (w.heap.size+5) W (((W.setCell ⟨w.heap.size+1,0,Y⟩ (G Y 0 0)).setCell ⟨w.heap.size+1+1,0,Y⟩ (I K 6)).setCell ⟨w.heap.size+1+1+1,0,Y⟩ (I K (pre.length:Nat))):=by
 have d:=Tr.set w.heap.size (w.heap.size+5) W (w.heap.size+1) (G Y 0 0) J J;have f:=Tr.set w.heap.size (w.heap.size+5) (W.setCell ⟨w.heap.size+1,0,Y⟩ (G Y 0 0)) (w.heap.size+1+1) (I K 6) J J;have g:=Tr.set w.heap.size (w.heap.size+5) ((W.setCell ⟨w.heap.size+1,0,Y⟩ (G Y 0 0)).setCell ⟨w.heap.size+1+1,0,Y⟩ (I K 6)) (w.heap.size+1+1+1) (I K (pre.length:Nat)) J J;have a:=grownBy_setCell' W (w.heap.size+1) (G Y 0 0);have b:=grownBy_setCell' (W.setCell ⟨w.heap.size+1,0,Y⟩ (G Y 0 0)) (w.heap.size+1+1) (I K 6);have c:=grownBy_setCell' ((W.setCell ⟨w.heap.size+1,0,Y⟩ (G Y 0 0)).setCell ⟨w.heap.size+1+1,0,Y⟩ (I K 6)) (w.heap.size+1+1+1) (I K (pre.length:Nat));refine⟨⟨Z,h.below.trans ((d.trans f).trans g).below,?_,?_,⟨pre,x,Z,?_,h.all,h.le,i⟩,?_⟩,(d.trans f).trans g⟩
 ·exact((h.r0.set _).kept b AB).kept c AB
 ·exact(Boxed.set _ (h.r1.kept a AB)).kept c AB
 ·exact Boxed.set _ ((h.r2.kept a AB).kept b AB)
 simp[World.setCell];exact h.size
def Gp.alloc(h:Gp w n pre W)(o:Obj):Gp w n pre (W.alloc o):=h.own (Jb W o (U (w.heap.size+5))) (.inl rfl)
def Gp.belowS(h:Gp w n pre W)(hb:A0 W W'):Gp w n pre W' :=
 h.own (row:=w.heap.size+5) ⟨hb.os,hb.tape,hb.output,hb.size,λi a _=>hb.block i a⟩ (.inl rfl)
def oJ{w5:O}{x:Dk}{v':Al}(h:Gp w n pre V)(p:Tr w.heap.size (w.heap.size+5) W V)(D:Boxed V (w.heap.size+4) 85 v)(l:V.ownsRow (w.heap.size+8) 177 3 v pre.length xs)(m:w5.ownsRow (w.heap.size+8) 177 3 v' (pre.length+1) ys)(a:V.grownBy w5 v.ownBlock)(S:¬(pre.length:Int)=16)(H:CG n (C3 x)=true){pa:A4}{pc:Nat}(L:Hid (GK V (w.heap.size+8) 182 xs (pre.map λx=>Ih (DP (DU (C3 x))))))(C:Hy V (w.heap.size+8) 182 pa (((DU (C3 x)).1.map Ew).flatMap FK))(N:ys=xs++[G pa (DU (C3 x)).1.length pc,I K (DU (C3 x)).2.1,I K (DU (C3 x)).2.2]):KeepsOthers W (w5.setCell ⟨w.heap.size+1+1+1+1,0,Y⟩ v')/\FJ (w.heap.size+5) (w.heap.size+5+3) W (w5.setCell ⟨w.heap.size+1+1+1+1,0,Y⟩ v')/\Gp w n (pre++[x]) (w5.setCell ⟨w.heap.size+1+1+1+1,0,Y⟩ v'):=by
 have key:=λg h=>Kv l (g:=g) h;have f:Tr w.heap.size (w.heap.size+5) V w5:=Tr.grown l a h.size J J;have i:=Tr.set w.heap.size (w.heap.size+5) w5 (w.heap.size+4) v' J J;have d:=grownBy_setCell' w5 (w.heap.size+4) v';have F:=D.kept a (λe=>AN);obtain⟨g,q,rfl⟩:=ownsRow_succ m;refine⟨(p.trans (f.trans i)).keep,(p.trans (f.trans i)).mid,⟨h.below.trans (f.trans i).below,?_,?_,?_,?_,⟨U ⟨g,0,Y⟩,q,ys,?_,?_,?hy⟩,?_,?_,?_⟩⟩
 case hy =>
  have t:(pre++[x]).map (λx=>Ih (DP (DU (C3 x))))=(pre.map λx=>Ih (DP (DU (C3 x))))++[Ih (DP (DU (C3 x)))]:=by rw[G9];rfl
  show GK _ _ _ _ _;rw[N,t];have o:=GK.push (pa:=pa) (pc:=pc) L.out (e:=Ih (DP (DU (C3 x)))) C;have u:(Ih (DP (DU (C3 x)))).2.1=(DU (C3 x)).1.length:=Eo _;rw[u]at o;refine o.kept λb r y A k=>⟨A,?_⟩
  have B:=BC k;have P:w5.heap[b]?=U (E r 182 y):=by
   refine(a.block b B (λe=>?_)).trans k;rcases l.2 with⟨j,_⟩|⟨z,Q,R,j,aa,c,_⟩
   ·rw[j]at e;cases e
   rw[j]at e;injection e with e;have s:b=z:=e;rw[<-s,k]at c;injection c with c;injection c with _ c _;revert c;decide
  exact(FB _ _ _ _ Ax).trans P
 ·exact(h.lab.kept a (λe=>AN)).kept d AB
 ·exact(h.r0.kept a (λe=>AN)).kept d AB
 ·exact(h.r1.kept a (λe=>AN)).kept d AB
 ·exact(h.r2.kept a (λe=>AN)).kept d AB
 ·rw[BK];exact F.set _
 ·rw[BK];refine m.kept d (.inr (λe=>?_));have:=Kv m e;omega
 ·have:=h.le;rw[BK];simp;omega
 ·rw[G9,No,h.all];simp[H]
 exact C7 h.size (f.trans i).below.size
def Gp.drew(h:Gp w n pre W):Gp w n pre W.drew:=h.belowS (C5 _ _).drew
def oK(w:O)(n:Nat)(s:ByteArray)(a:O)(b:((((((((w.alloc (E #[I K n] 3)).alloc (E #[G Y 0 0] 85)).alloc (E #[I K 0] 31)).alloc (E #[I K 0] 3)).alloc (E #[G Y 0 0] 85)).alloc (E #[.string s] 9)).alloc (E #[A9 ⟨#[10]⟩] 9)).alloc (E #[I K 0] 3))=a):Gp w n [] a:=by
 subst b;refine⟨?_,?_,?_,?_,?_,⟨Y,0,[],?_,FQ _ _ _ _,ZL _ _ _⟩,DK _,Z,Az⟩
 ·exact(((((((BN).alloc Az _).alloc Ax _).alloc Ax _).alloc Ax _).alloc Ax _).alloc Ax _).alloc Ax _
 ·exact(((((((Boxed.new w _ _).alloc _).alloc _).alloc _).alloc _).alloc _).alloc _).alloc _
 ·have:=Boxed.new (w.alloc (E #[I K n] 3)) 85 (G Y 0 0);rw[BU]at this;exact(((((this.alloc _).alloc _).alloc _).alloc _).alloc _).alloc _
 ·have:=Boxed.new ((w.alloc (E #[I K n] 3)).alloc (E #[G Y 0 0] 85)) 31 (I K 0);rw[BU,BU]at this;exact((((this.alloc _).alloc _).alloc _).alloc _).alloc _
 ·have:=Boxed.new (((w.alloc (E #[I K n] 3)).alloc (E #[G Y 0 0] 85)).alloc (E #[I K 0] 31)) 3 (I K 0);rw[BU,BU,BU]at this;exact(((this.alloc _).alloc _).alloc _).alloc _
 have:=Boxed.new ((((w.alloc (E #[I K n] 3)).alloc (E #[G Y 0 0] 85)).alloc (E #[I K 0] 31)).alloc (E #[I K 0] 3)) 85 (G Y 0 0);rw[BU,BU,BU,BU]at this;exact((this.alloc _).alloc _).alloc _
def Lk(W:Ak)(lo:Nat)(v:Al)(rs:List (List (Nat×A1)×Int×Int)):Prop:=∃xs,W.ownsRow lo 177 3 v rs.length xs/\GK W lo 182 xs (rs.map Ih)
def Lk.kept(h:Lk W lo v rs)(i:∀b,lo<=b->b<W.heap.size->W'.heap[b]?=W.heap[b]?):Lk W' lo v rs:=by
 obtain⟨m,a,d⟩:=h;refine⟨m,⟨a.1,?_⟩,d.kept λb e n j k=>⟨j,(i b j (BC k)).trans k⟩⟩;rcases a.2 with c|⟨f,l,e,c,a,g,d⟩
 ·exact .inl c
 exact .inr ⟨f,l,e,c,a,(i f a (BC g)).trans g,d⟩
def Lk.pru(h:Lk W lo v rs):∃a b,v=G a rs.length b/\Ib W a rs:=by
 obtain⟨e,c,d⟩:=h;exact oB c d
def oL{base:Nat}{e:TypeId}{size:Nat}(h:W.ownsRow base e size v n xs)(j:lo<=base):W.ownsRow lo e size v n xs:=by
 refine⟨h.1,?_⟩;rcases h.2 with a|⟨d,b,c,a,i,g,f⟩
 ·exact .inl a
 exact .inr ⟨d,b,c,a,J,g,f⟩
def oM(n:Nat)(s:ByteArray)(w:Ak)(e:Ending)(w':Ak):Prop :=
 ∃a m cap,e=Af (Aa #[A7 a m cap,A6 Ag (Eu n s.data.toList),A6 Ag (Hf n s.data.toList)])/\A0 w w'/\(Eu n s.data.toList=0->Lk w' w.heap.size (A7 a m cap) ((Dd s.data.toList).map DP))
def oN{s:ByteArray}{hs:s.size<=2000}{xs:List Dk}{ao:A4}{cap D:Nat}(m:¬s.size=0)(h:xs.map C3=Cn 10 (C3 ⟨s,hs⟩))(n:W.ownsRow (w.heap.size+8) 177 3 (G ao xs.length cap) xs.length ys)(A:GK W (w.heap.size+8) 182 ys (xs.map λx=>Ih (DP (DU (C3 x)))))(r:W.heap[D]?=U (.deferred (U [])))(u:∀j,w.heap.size+8<=j->V.heap[j]?=W.heap[j]?):Lk (V.putObj D (.deferred Y)) w.heap.size (G ao xs.length cap) ((Dd s.data.toList).map DP):=by
 have B:s.data.toList.length=s.size:=ES;have o:Dd s.data.toList=(xs.map C3).map DU:=by
  unfold Dd;rw[Bz J,h];rfl
 have l:∀b a t f,w.heap.size+8<=b->W.heap[b]?=U (E a t f)->(V.putObj D (.deferred Y)).heap[b]?=U (E a t f):=by
  intro b a t f c d;have m:b≠D:=by
   rintro rfl;rw[r]at d;cases d
  have k:=(u b c).trans d;rw[(grownBy_putObj' V D (.deferred Y)).block b (BC k) (by simpa using m)];exact k
 have y:(V.putObj D (.deferred Y)).ownsRow (w.heap.size+8) 177 3 (G ao xs.length cap) ((Dd s.data.toList).map DP).length ys:=by
  have e:((Dd s.data.toList).map DP).length=xs.length:=by rw[o];simp
  rw[e];refine⟨n.1,?_⟩;rcases n.2 with g|⟨i,p,a,g,c,v,q⟩
  ·exact .inl g
  exact .inr ⟨i,p,a,g,c,l i a _ _ c v,q⟩
 have z:GK (V.putObj D (.deferred Y)) (w.heap.size+8) 182 ys (((Dd s.data.toList).map DP).map Ih):=by
  have e:((Dd s.data.toList).map DP).map Ih=xs.map λx=>Ih (DP (DU (C3 x))):=by
   rw[o,OJ,OJ,OJ];rfl
  rw[e];exact A.kept λb a f c d=>⟨c,l b a _ f c d⟩
 exact⟨ys,oL y J,z.kept λb a f c d=>⟨J,d⟩⟩
def oO(s:ByteArray)(n:Nat)(w:O)(al:Iq w):Am X 53 #[.string s,I K n] w λe w'=>oM n s w e w':=by
 have hl:s.data.toList.length=s.size:=ES;obtain⟨i0,hi,a3,a4,a5⟩:=DZ Tryz.infoRule2;have HG:=T al;clear al;by_cases ba:(2000:Int)<s.size
 ·have F:Dc n s.data.toList=0:=by unfold Dc;rw[BA J]
  have HE:Hid (Eu n s.data.toList=6):=by show _=_;unfold Eu;rw[F];rfl
  have HN:Hid (Hf n s.data.toList=0):=by show _=_;unfold Hf;rw[F];rfl
  clear F;go_enter func53,ntmps53;go_wp2;have e3:=Zt w n 6;have k:A0 w ((((w.alloc (E #[I K n] 3)).alloc (E #[G Y 0 0] 85)).alloc (E #[I K 6] 31)).alloc (E #[I K 0] 3)):=((((BN).alloc Az _).alloc Ax _).alloc Ax _)
  generalize(((w.alloc (E #[I K n] 3)).alloc (E #[G Y 0 0] 85)).alloc (E #[I K 6] 31)).alloc (E #[I K 0] 3)=V at *;obtain⟨H,L,N⟩:=e3;refine Cc (v:=Aa #[G Y 0 0,I K 6,I K 0]) (by simp[results,f53,go_sem,H,L,N]) Z ?_;exact⟨Y,0,0,by rw[HE.out,HN.out],k,λe=>by rw[HE.out]at e;cases e⟩
 have hs:s.size<=2000:=J
 cases hd:(s.toList==[])
 ·have ac:Hid (¬s.size=0):=by
   intro h;have:s.data.toList=[]:=J9 J;rw[Ga,this]at hd;cases hd
  refine(Jg (n:=10)).1 ?_;refine callsIn_of_wp_marks func53 Z trivial ?_ Z;simp only[ntmps53,Hm,Cu,DX,Nat.reduceAdd,Nat.reduceSub,Mj,Mk,Mo,Ml,Jd,I4]
  gi_wp2_with fail
  refine⟨trivial,(Jg.2 (Z7 s ⟨#[10]⟩ _)).mono ?_⟩;rintro e w' ⟨rfl,rfl⟩;simp only[BU,A0]
  gi_wp2
  obtain⟨Q,B⟩:∃Q,((((((((w.alloc (E #[I K n] 3)).alloc (E #[G Y 0 0] 85)).alloc (E #[I K 0] 31)).alloc (E #[I K 0] 3)).alloc (E #[G Y 0 0] 85)).alloc (E #[.string s] 9)).alloc (E #[A9 ⟨#[10]⟩] 9)).alloc (E #[I K 0] 3))=Q:=⟨_,rfl⟩
  have a2:Q.heap.size=w.heap.size+8:=by rw[<-B];simp
  have ak:=oK w n s Q B;have aj:=nE w n s Q B;rw[B];refine Z6 Z J (gf:=144) (lb:=#[A8 (U ⟨w.heap.size+1+1+1+1+1+1,0,Y⟩),A8 (U ⟨w.heap.size+1+1+1+1+1,0,Y⟩),A8 (U ⟨w.heap.size+1+1+1+1+1+1+1,0,Y⟩)]) Z trivial (enters_of func144 M Z)
   (st:=w.heap.size+5) J (lo:=w.heap.size+5) (hi:=w.heap.size+5+3) J (Z9 9 (w.heap.size+5) 10 ⟨s,hs⟩ Q aj) Cm (λx=>rfl)
   (λpre W=>Gp w n pre W) (λaa pre W=>Po w n pre aa W)
   (λpre A au h hg=>h.own hg (.inl rfl)) (λaa pre A au h hg=>h.own hg J)
   (λpre A ae o o' h b hk hc=>h.own (grownBy_putObj' A ae o') (.inr ⟨J,o,hk,hc⟩)) (λaa pre A ae o o' h b hk hc=>h.own (grownBy_putObj' A ae o') J)
   ak
   (λx=>{tmps:=#[.string s,I K n,undef,A8 (U ⟨w.heap.size,0,Y⟩),A8 (U ⟨w.heap.size+1,0,Y⟩),A8 (U ⟨w.heap.size+1+1,0,Y⟩),A8 (U ⟨w.heap.size+1+1+1,0,Y⟩),A8 (U ⟨w.heap.size+1+1+1+1,0,Y⟩),.string x.1,undef,undef,.string s,I K s.size,.bool false,.string s,.bool false,.string s,.func (.func 144) #[] #[A8 (U ⟨w.heap.size+1+1+1+1+1+1,0,Y⟩),A8 (U ⟨w.heap.size+1+1+1+1+1,0,Y⟩),A8 (U ⟨w.heap.size+1+1+1+1+1+1+1,0,Y⟩)],.string x.1,undef,undef,undef,undef,undef,undef,undef,undef,undef,undef,undef,undef,undef,undef,undef,undef,undef,undef,undef,undef],defers:=[]}) ?assign ?body ?done ?stop
  case assign =>
   intro ar x W a6 P
   gi_wp2
   exact P
  case body =>
   clear ak aj B a2;intro ar pre x W y bc;have C:=T y;have c0:=y.lab.cell;have cR:=oI x.1 n W x.2 (HG.below y.below);clear y
   gi_wp2_with fail
   refine⟨trivial,((Jg.2 cR).inRound ar).mono ?_⟩;clear cR c0;rintro e g ⟨i,m,z,p,t,rfl,b,r⟩;have av:Hid (CG n x.1.data.toList=true->m=(DU x.1.data.toList).1.length/\p=(DU x.1.data.toList).2.1/\t=(DU x.1.data.toList).2.2/\Hy g (w.heap.size+8) 182 i (((DU x.1.data.toList).1.map Ew).flatMap FK)):=λe=>⟨(r e).1,(r e).2.1,(r e).2.2.1,(r e).2.2.2.kept λa7 a9 fr h1 h3=>⟨kfw,h3⟩⟩
   clear r;simp only[F4];have ag:=T (C.belowS b);have ay:Hid (Tr w.heap.size (w.heap.size+5) W g):=Tr.below' b kfw kfw;clear b C;have bg:=ag.size;have a:Hid (Gp w n pre (g.alloc (E #[G i m z,I K p,I K t] 177))):=ag.alloc _;have ad:Hid (Tr w.heap.size (w.heap.size+5) W (g.alloc (E #[G i m z,I K p,I K t] 177))):=ay.trans (Tr.alloc _ _ _ _ J J);have bb:=a.le;cases q:CG n x.1.data.toList
   ·have an:¬(CG n (C3 x)=true/\pre.length<16):=λh=>by have h1:CG n x.1.data.toList=true:=h.1;rw[q]at h1;cases h1
    have j:=T an;clear an
    gi_wp2
    generalize g.alloc (E #[G i m z,I K p,I K t] 177)=V at *;obtain⟨d,f,u,R,ho,ah⟩:=a.rules;have c4:V.cell? ⟨w.heap.size+1+1+1+1,0,Y⟩=U (G d pre.length f):=R.cell;have c1:=a.r0.cell;have f1:=a.r0.frozen;have c2:V.cell? ⟨w.heap.size+1+1,0,Y⟩=U (I K 0):=a.r1.cell;have f2:V.frozen? ⟨w.heap.size+1+1,0,Y⟩=false:=a.r1.frozen;have c3:V.cell? ⟨w.heap.size+1+1+1,0,Y⟩=U (I K 0):=a.r2.cell;have f3:V.frozen? ⟨w.heap.size+1+1+1,0,Y⟩=false:=a.r2.frozen
    gi_region
    all_goals gi_wp2
    all_goals exact⟨((ad.trans (Zs V keZ keZ)).trans (a.drew.out x j).2).keep,(a.drew.out x j).1⟩
   have bf:g.heap.size<(g.alloc (E #[G i m z,I K p,I K t] 177)).heap.size:=Az
   have be:=BI g (E #[G i m z,I K p,I K t] 177);obtain⟨d,f,u,R,ho,ah⟩:=a.rules;have c4:(g.alloc (E #[G i m z,I K p,I K t] 177)).cell? ⟨w.heap.size+1+1+1+1,0,Y⟩=U (G d pre.length f):=R.cell;have HP:=T R;have S:=T ho;by_cases ai:(pre.length:Int)=16
   ·have j:Hid (¬(CG n (C3 x)=true/\pre.length<16)):=λh=>J
    have c1:=a.r0.cell;have f1:=a.r0.frozen;have c2:(g.alloc (E #[G i m z,I K p,I K t] 177)).cell? ⟨w.heap.size+1+1,0,Y⟩=U (I K 0):=a.r1.cell;have f2:(g.alloc (E #[G i m z,I K p,I K t] 177)).frozen? ⟨w.heap.size+1+1,0,Y⟩=false:=a.r1.frozen;have c3:(g.alloc (E #[G i m z,I K p,I K t] 177)).cell? ⟨w.heap.size+1+1+1,0,Y⟩=U (I K 0):=a.r2.cell;have f3:(g.alloc (E #[G i m z,I K p,I K t] 177)).frozen? ⟨w.heap.size+1+1+1,0,Y⟩=false:=a.r2.frozen
    gi_wp2
    generalize g.alloc (E #[G i m z,I K p,I K t] 177)=V at *
    gi_region
    all_goals gi_wp2
    all_goals
     have o:=a.drew.out x j;rw[ai]at o;exact⟨((ad.trans (Zs V keZ keZ)).trans o.2).keep,o.1⟩
   have ax:Hid (CG n (C3 x)=true):=q;have c:=T (av q)
   gi_wp2_with(first
    |(gi_at_builtin;refine wpListIn_append_own _ Z _ _ 85 Z (w.heap.size+8) 177 i0 (.agg Db) 3 40 underlying85 hi a3 a4 a5 Z Ay _ _ _ Z (S.alloc _) ⟨g.heap.size+1,0,Y⟩ 1 1 [G i m z,I K p,I K t] Z Z (Rl _ _ _ _) (λx hx=>Bl) AC J Ax ?_;intro v' w5 ap am bd;obtain⟨g5,a8,rfl⟩:=ownsRow_succ ap;have aq:=(HP.alloc _).kept am (λe=>Ao (Kv S e.symm));have c5:w5.cell? ⟨w.heap.size+1+1+1+1,0,Y⟩=U (G d pre.length f):=aq.cell;have f5:w5.frozen? ⟨w.heap.size+1+1+1+1,0,Y⟩=false:=aq.frozen))
   exact oJ (a.alloc _) (ad.trans (Tr.alloc _ _ _ _ Ax Ax)) (HP.alloc _) (S.alloc _) ap am ai ax (ah.below BN) ((c.2.2.2.below BN).below BN) (by show _++[Value.slice i m z,I K p,I K t]=_;rw[c.1,c.2.1,c.2.2.1];rfl)
  case done =>
   intro D u W hD hS y P;obtain⟨d,f,ys,R,ho,az⟩:=y.rules;have S:=T ho;have C:=T y;have HS:=T hS;have HK:=T P;have c4:W.cell? ⟨w.heap.size+1+1+1+1,0,Y⟩=U (G d u.length f):=R.cell;have c1:=y.r0.cell;have f1:=y.r0.frozen;have c2:W.cell? ⟨w.heap.size+1+1,0,Y⟩=U (I K 0):=y.r1.cell;have f2:W.frozen? ⟨w.heap.size+1+1,0,Y⟩=false:=y.r1.frozen;have c3:W.cell? ⟨w.heap.size+1+1+1,0,Y⟩=U (I K 0):=y.r2.cell;have f3:W.frozen? ⟨w.heap.size+1+1+1,0,Y⟩=false:=y.r2.frozen
   gi_wp2
   have F:=nC ac HS C.le C.all;have hE:Eu n s.data.toList=0:=by unfold Eu;rw[F];rfl
   have hN:Hf n s.data.toList=0:=by unfold Hf;rw[F];rfl
   have t1:=Tr.set w.heap.size (w.heap.size+5) W (w.heap.size+1) (G d u.length f) J J;have t2:=Tr.set w.heap.size (w.heap.size+5) (W.setCell ⟨w.heap.size+1,0,Y⟩ (G d u.length f)) (w.heap.size+1+1) (I K 0) J J;have t3:=Tr.set w.heap.size (w.heap.size+5) ((W.setCell ⟨w.heap.size+1,0,Y⟩ (G d u.length f)).setCell ⟨w.heap.size+1+1,0,Y⟩ (I K 0)) (w.heap.size+1+1+1) (I K 0) J J;have g1:=grownBy_setCell' W (w.heap.size+1) (G d u.length f);have g2:=grownBy_setCell' (W.setCell ⟨w.heap.size+1,0,Y⟩ (G d u.length f)) (w.heap.size+1+1) (I K 0);have g3:=grownBy_setCell' ((W.setCell ⟨w.heap.size+1,0,Y⟩ (G d u.length f)).setCell ⟨w.heap.size+1+1,0,Y⟩ (I K 0)) (w.heap.size+1+1+1) (I K 0);have b0:=((C.r0.set (G d u.length f)).kept g2 AB).kept g3 AB;have b1:=(Boxed.set (I K 0) (C.r1.kept g1 AB)).kept g3 AB;have b2:=Boxed.set (I K 0) ((C.r2.kept g1 AB).kept g2 AB);have k:=C.below.trans ((t1.trans t2).trans t3).below;have P:=((t1.trans t2).trans t3).keep.same D _ HK Z;have HC:Hid (∀ab,w.heap.size+8<=ab->(((W.setCell ⟨w.heap.size+1,0,Y⟩ (G d u.length f)).setCell ⟨w.heap.size+1+1,0,Y⟩ (I K 0)).setCell ⟨w.heap.size+1+1+1,0,Y⟩ (I K 0)).heap[ab]?=W.heap[ab]?):=λab hj=>((FB _ _ _ _ Ax).trans (FB _ _ _ _ Ax)).trans (FB _ _ _ _ Ax);generalize((W.setCell ⟨w.heap.size+1,0,Y⟩ (G d u.length f)).setCell ⟨w.heap.size+1+1,0,Y⟩ (I K 0)).setCell ⟨w.heap.size+1+1+1,0,Y⟩ (I K 0)=V at *;refine⟨Az,.inl ⟨D,_,Z,run_takeDeferred P,?_⟩⟩;have H:=(Boxed.kept b0 (grownBy_putObj' V D (.deferred Y)) AB).cell;have L:(V.putObj D (.deferred Y)).cell? ⟨w.heap.size+1+1,0,Y⟩=U (I K 0):=(Boxed.kept b1 (grownBy_putObj' V D (.deferred Y)) AB).cell;have N:(V.putObj D (.deferred Y)).cell? ⟨w.heap.size+1+1+1,0,Y⟩=U (I K 0):=(Boxed.kept b2 (grownBy_putObj' V D (.deferred Y)) AB).cell;refine⟨Aa #[G d u.length f,I K 0,I K 0],?_,⟨d,u.length,f,by rw[hE,hN],NL k J _,λ_=>oN ac HS S az HK HC⟩⟩;simp[results,f53,go_sem,H,L,N]
  case stop =>
   intro D aa pre W hD hS l P;obtain rfl:=l.ret
   gi_wp2
   obtain⟨af,x,rfl,a0,ha,a1,hx⟩:=l.bad;obtain⟨bh,q⟩:=hS;have F:=nD ac q ha a1 hx;have hE:Eu n s.data.toList=6:=by unfold Eu;rw[F,BA J]
   have hN:Hf n s.data.toList=af.length:=by unfold Hf;rw[F,BA J]
   refine⟨Az,.inl ⟨D,_,Z,run_takeDeferred P,?_⟩⟩;have H:=(l.r0.kept (grownBy_putObj' W D (.deferred Y)) AB).cell;have L:(W.putObj D (.deferred Y)).cell? ⟨w.heap.size+1+1,0,Y⟩=U (I K 6):=(l.r1.kept (grownBy_putObj' W D (.deferred Y)) AB).cell;have N:(W.putObj D (.deferred Y)).cell? ⟨w.heap.size+1+1+1,0,Y⟩=U (I K (af.length:Nat)):=(a0.kept (grownBy_putObj' W D (.deferred Y)) AB).cell;refine⟨Aa #[G Y 0 0,I K 6,I K (af.length:Nat)],?_,⟨Y,0,0,by rw[hE,hN],NL l.below J _,λe=>by rw[hE]at e;cases e⟩⟩;simp[results,f53,go_sem,H,L,N]
 have h0:s.data.toList=[]:=by rw[<-Ga];exact Mw hd
 have F:Dc n s.data.toList = -1:=by unfold Dc;rw[h0];rfl
 have HE:Hid (Eu n s.data.toList=0):=by show _=_;unfold Eu;rw[F];rfl
 have HN:Hid (Hf n s.data.toList=0):=by show _=_;unfold Hf;rw[F];rfl
 have aw:Hid (Dd s.data.toList=[]):=by show _=_;unfold Dd;rw[h0];rfl
 go_enter func53,ntmps53;go_wp2;have e3:=Zt w n 0;have k:A0 w ((((w.alloc (E #[I K n] 3)).alloc (E #[G Y 0 0] 85)).alloc (E #[I K 0] 31)).alloc (E #[I K 0] 3)):=((((BN).alloc Az _).alloc Ax _).alloc Ax _)
 generalize(((w.alloc (E #[I K n] 3)).alloc (E #[G Y 0 0] 85)).alloc (E #[I K 0] 31)).alloc (E #[I K 0] 3)=V at *;obtain⟨H,L,N⟩:=e3;refine Cc (v:=Aa #[G Y 0 0,I K 0,I K 0]) (by simp[results,f53,go_sem,H,L,N]) Z ?_;exact⟨Y,0,0,by rw[HE.out,HN.out],k,λ_=>by rw[aw.out];exact⟨[],FQ _ _ _ _,ZL _ _ _⟩⟩
end
def ZN(c:BX)(A:A3)(w':Ak):Prop:=A.size=38/\A.all (·.oneCell')=true/\(FX c=0->E9 c.labels c.L=true/\∃a k cap,A=Ig (Cp c.labels.toNat (CU c.labels.toNat c.L)) a k cap/\∃lo',Lk w' lo' (A7 a k cap) ((Dd c.pol.data.toList).map DP))
def Rz(c:BX)(a:O)(h:¬FX c=0):ZN c Dl a:=⟨Ju,O3,λe=>absurd e h⟩
def oP(c:BX)(w:Ak)(e:Ending)(w':Ak):Prop:=∃A,e=Af (Aa #[.agg A,A6 Ag (FX c),A6 Ag (Jv c)])/\ZN c A w'/\A0 w w'
def ZO(n:Nat)(s:ByteArray):Int:=Eu n s.data.toList
def oQ(n:Nat)(s:ByteArray)(w:Ak)(a:A4)(m cap:Nat)(w':Ak):Prop:=ZO n s=0->Lk w' w.heap.size (A7 a m cap) ((Dd s.data.toList).map DP)
def oR(s:ByteArray)(n:Nat)(w:O)(h:Iq w):Am X 53 #[.string s,I K n] w λe c=>∃a m b,e=Af (Aa #[G a m b,I K (Eu n s.data.toList),I K (Hf n s.data.toList)])/\A0 w c/\oQ n s w a m b c:=by
 refine(oO s n w h).mono ?_;rintro e c ⟨a,m,b,d,f,g⟩;exact⟨a,m,b,d,f,g⟩
def oS(c:BX)(w:Ak)(y:FF w c)(hg:Iq w):Am X 29 #[.agg c.arr] w (oP c w):=by
 have HC:=T y;have HG:=T hg;have HS:=T c.size;have A:=T (ot w c);have hL:c.L.length<=maxLen:=by have:=y.eb;unfold maxLen;omega
 have ao:c.B.length<=maxLen:=by have:=y.bb;unfold maxLen;omega
 have b:Am X 51 #[.agg c.arr] ((w.alloc (E c.arr 25)).alloc (E Dl 87)) λe w'=>e=Af (Aa #[.agg (Ie c.labels c.L c.dflt c.clr),I K (Em c.labels c.L c.dflt c.clr)])/\Below ((w.alloc (E c.arr 25)).alloc (E Dl 87)).heap.size ((w.alloc (E c.arr 25)).alloc (E Dl 87)) w' :=
  oh c.arr c.labels c.L c.ea c.ecap c.dflt c.clr rfl rfl rfl rfl hL _ (y.edges.below A.below)
 have H:(Ie c.labels c.L c.dflt c.clr).size=37:=by unfold Ie;split<;>exact Cr _ _
 have ab:(Ie c.labels c.L c.dflt c.clr).all (·.oneCell')=true:=by unfold Ie;split<;>exact Hr _ _
 have k:=T H;have p:=T ab;have v:Hid (C2.size=(Ie c.labels c.L c.dflt c.clr).size):=by show _=_;rw[H];exact Cr _ _
 have S:Hid (Em c.labels c.L c.dflt c.clr=0->E9 c.labels c.L=true/\Ie c.labels c.L c.dflt c.clr=Cp c.labels.toNat (CU c.labels.toNat c.L)):=oq;have N:Hid (¬Em c.labels c.L c.dflt c.clr=0->FX c=Em c.labels c.L c.dflt c.clr/\Jv c=0):=ou;have R:Hid (Em c.labels c.L c.dflt c.clr=0->FX c=(if EG c.inn c.out c.depth c.bytes=false then 4 else if Gy c.B=false then 5 else Eu c.labels.toNat c.pol.data.toList)/\Jv c=(if EG c.inn c.out c.depth c.bytes=false then 0 else if Gy c.B=false then 0 else Hf c.labels.toNat c.pol.data.toList)):=λh=>by
  refine⟨?_,?_⟩
  ·unfold FX;rw[Bz (λz=>z h)]
  unfold Jv;rw[Bz (λz=>z h)]
 clear H ab y hg;generalize Ie c.labels c.L c.dflt c.clr=O at *;generalize Em c.labels c.L c.dflt c.clr=E0 at *;go_enter func29,ntmps29
 go_wp2_with(first
  |(refine Us Z Z _ Z (w.heap.size+1) ?hN ?_;case hN=>(simp only[BU,A0];done))
  |(refine C8 Z 25 _ Z _ Z _ _ _ _ A.box underlying25 Z (El HS) ?_)
  |fail)
 refine b.mono ?_;clear b;rintro e a ⟨rfl,W⟩;have V:=T (A.step W);clear W A;have d:Hid (MW w c (a.alloc (E O 84))):=V.step BN;have ai:Hid ((a.alloc (E O 84)).heap[a.heap.size]?=U (E O 84)):=BI _ _;by_cases F:E0=0
 ·subst F;obtain⟨ae,ac⟩:=S.out rfl;obtain⟨n,s⟩:=R.out rfl;have P:=T ac;have Q:=T ae;have h6:(a.alloc (E O 84)).cell? ⟨w.heap.size,6,Y⟩=U (I K c.inn):=d.cell 6;have h7:(a.alloc (E O 84)).cell? ⟨w.heap.size,7,Y⟩=U (I K c.out):=d.cell 7;have h8:(a.alloc (E O 84)).cell? ⟨w.heap.size,8,Y⟩=U (I K c.depth):=d.cell 8;have h9:(a.alloc (E O 84)).cell? ⟨w.heap.size,9,Y⟩=U (I K c.bytes):=d.cell 9;have ar:(a.alloc (E O 84)).cell? ⟨w.heap.size,10,Y⟩=U (G c.ba c.B.length c.bcap):=d.cell 10;have h3:(a.alloc (E O 84)).cell? ⟨w.heap.size,3,Y⟩=U (.string c.pol):=d.cell 3;have h0:(a.alloc (E O 84)).cell? ⟨w.heap.size,0,Y⟩=U (I K c.labels):=d.cell 0;have t:=λam=>YF c.inn c.out c.depth c.bytes am;clear S R N ac ae;cases l:EG c.inn c.out c.depth c.bytes
  ·have j:Hid (FX c=4):=by show _=_;rw[n,l];rfl
   have m:Hid (Jv c=0):=by show _=_;rw[s,l];rfl
   have o:Hid (¬FX c=0):=by show¬_;rw[j.out];decide
   rw[l]at t;clear n s l
   go_wp2_with(first
    |(go_at_call 15;refine(t _).mono ?_;rintro e u ⟨rfl,rfl⟩)
    |(refine I9 Z Z _ Z a.heap.size Z ?_)
    |(refine Co Z 84 _ _ Z a.heap.size O Z Z 84 C2 (BI a _) (CW k) v p ?_;rw[FP])
    |(refine Gb Z 87 _ Z _ Z _ [] ?hl Rx ?_;case hl=>simp)
    |(refine Co Z 87 _ _ Z (w.heap.size+1) Dl Z Z 87 Dl d.res (IY Ju) Z O3 ?_))
   refine Cc (Pq results29 _ _ (w.heap.size+1) 87 Dl (0,0) _ Z (Ca _ _ Dl _ _ _ d.res) underlying87 Z (IY Ju) (I K 4) (I K 0) Z Z) Z ⟨Dl,kfd,Rz c _ o,CF d.below J _⟩
  rw[l]at t;have x:=fy c.ba c.bcap c.B ao (a.alloc (E O 84)) (HC.ints.below d.below);cases r:Gy c.B
  ·have j:Hid (FX c=5):=by show _=_;rw[n,l,r];rfl
   have m:Hid (Jv c=0):=by show _=_;rw[s,l,r];rfl
   have o:Hid (¬FX c=0):=by show¬_;rw[j.out];decide
   rw[r]at x;clear n s l r
   go_wp2_with(first
    |(go_at_call 15;refine(t _).mono ?_;rintro e u ⟨rfl,rfl⟩)
    |(go_at_call 52;refine x.mono ?_;rintro e u ⟨rfl,rfl⟩)
    |(refine I9 Z Z _ Z a.heap.size Z ?_)
    |(refine Co Z 84 _ _ Z a.heap.size O Z Z 84 C2 (BI a _) (CW k) v p ?_;rw[FP])
    |(refine Gb Z 87 _ Z _ Z _ [] ?hl Rx ?_;case hl=>simp)
    |(refine Co Z 87 _ _ Z (w.heap.size+1) Dl Z Z 87 Dl d.res (IY Ju) Z O3 ?_))
   refine Cc (Pq results29 _ _ (w.heap.size+1) 87 Dl (0,0) _ Z (Ca _ _ Dl _ _ _ d.res) underlying87 Z (IY Ju) (I K 5) (I K 0) Z Z) Z ⟨Dl,kfd,Rz c _ o,CF d.below J _⟩
  rw[r]at x;have D:=oR c.pol c.labels.toNat (a.alloc (E O 84)) (HG.below d.below);rw[(Ur Q).1]at D;have j:Hid (FX c=Eu c.labels.toNat c.pol.data.toList):=by show _=_;rw[n,l,r];rfl
  have m:Hid (Jv c=Hf c.labels.toNat c.pol.data.toList):=by show _=_;rw[s,l,r];rfl
  have ah:Hid (Eu c.labels.toNat c.pol.data.toList=0->Hf c.labels.toNat c.pol.data.toList=0):=λh=>by
   unfold Eu at h;unfold Hf;split at h
   ·cases h
   next z=>rw[Bz z]
  have ag:Hid (ZO c.labels.toNat c.pol=Eu c.labels.toNat c.pol.data.toList):=rfl;generalize Eu c.labels.toNat c.pol.data.toList=E1 at *;generalize Hf c.labels.toNat c.pol.data.toList=N1 at *;by_cases aa:E1=0
  ·subst aa;have ap:=ah.out Z;subst ap;have af:Hid (∀f i g,prog.built 87 [(0,.agg O),(1,G f i g)]=U (Ig O f i g)):=λf i g=>by rw[P.out];exact ol _ _ _ _ _
   have al:Hid (∀f i g,Dl.size=(Ig O f i g).size):=λf i g=>by rw[Pr k.out];exact Ju
   have aq:a.heap.size<(a.alloc (E O 84)).heap.size:=Az
   go_wp2_with(first
    |(go_at_call 15;refine(t _).mono ?_;rintro e u ⟨rfl,rfl⟩)
    |(go_at_call 52;refine x.mono ?_;rintro e u ⟨rfl,rfl⟩)
    |(go_at_call 53;refine D.mono ?_;rintro e w4 ⟨f,i,g,rfl,C,ad⟩;have ak:=T ad;have q:=T (d.step C);have aj:=T ((C.block _ aq).trans ai))
    |(refine C8 Z 84 _ Z _ Z _ _ _ _ aj underlying84 Z (CW k) ?_)
    |(refine Gb Z 87 _ Z _ Z _ [(0,.agg O),(1,G f i g)] ?hl (af f i g) ?_;case hl=>simp[go_sem])
    |(refine Co Z 87 _ _ Z (w.heap.size+1) (Ig O f i g) Z Z 87 Dl q.res (IY (Pr k _ _ _)) (al _ _ _) (Uu p _ _ _) ?_)
    |(refine I9 Z Z _ Z a.heap.size Z ?_)
    |(refine Co Z 84 _ _ Z a.heap.size O Z Z 84 C2 (BI a _) (CW k) v p ?_;rw[FP]))
   refine Cc (Pq results29 _ _ (w.heap.size+1) 87 (Ig O f i g) (0,0) _ Z (Ca _ _ Dl _ _ _ q.res) underlying87 Z (IY (Pr k _ _ _)) (I K 0) (I K 0) Z Z) Z ⟨Ig O f i g,kfd,?_,CF q.below J _⟩;refine⟨Pr k _ _ _,Uu p _ _ _,λ_=>⟨Q,f,i,g,by rw[P.out],?_⟩⟩;have hq:=ak.out ag;have au:=BC V.res;exact⟨_,hq.kept λan h1 _=>CQ _ (w.heap.size+1) an _ (by rw[BU]at h1;omega)⟩
  have o:Hid (¬FX c=0):=by show¬_;rw[j.out];exact aa
  go_wp2_with(first
   |(go_at_call 15;refine(t _).mono ?_;rintro e u ⟨rfl,rfl⟩)
   |(go_at_call 52;refine x.mono ?_;rintro e u ⟨rfl,rfl⟩)
   |(go_at_call 53;refine D.mono ?_;rintro e w4 ⟨f,i,g,rfl,C,ad⟩;have q:=T (d.step C))
   |(refine Co Z 87 _ _ Z (w.heap.size+1) Dl Z Z 87 Dl q.res (IY Ju) Z O3 ?_)
   |(refine I9 Z Z _ Z a.heap.size Z ?_)
   |(refine Co Z 84 _ _ Z a.heap.size O Z Z 84 C2 (BI a _) (CW k) v p ?_;rw[FP])
   |(refine Gb Z 87 _ Z _ Z _ [] ?hl Rx ?_;case hl=>simp)
   |(refine Co Z 87 _ _ Z (w.heap.size+1) Dl Z Z 87 Dl d.res (IY Ju) Z O3 ?_))
  refine Cc (Pq results29 _ _ (w.heap.size+1) 87 Dl (0,0) _ Z (Ca _ _ Dl _ _ _ q.res) underlying87 Z (IY Ju) (I K E1) (I K N1) Z Z) Z ⟨Dl,kfd,Rz c _ o,CF q.below J _⟩
 obtain⟨n,s⟩:=N.out F;have j:=T n;have m:=T s;have o:Hid (¬FX c=0):=by show¬_;rw[n];exact F
 go_wp2_with(first
  |(refine I9 Z Z _ Z a.heap.size Z ?_)
  |(refine Co Z 84 _ _ Z a.heap.size O Z Z 84 C2 (BI a _) (CW k) v p ?_;rw[FP])
  |(refine Gb Z 87 _ Z _ Z _ [] ?hl Rx ?_;case hl=>simp)
  |(refine Co Z 87 _ _ Z (w.heap.size+1) Dl Z Z 87 Dl d.res (IY Ju) Z O3 ?_))
 refine Cc (Pq results29 _ _ (w.heap.size+1) 87 Dl (0,0) _ Z (Ca _ _ Dl _ _ _ d.res) underlying87 Z (IY Ju) (I K E0) (I K 0) Z Z) Z ⟨Dl,kfd,Rz c _ o,CF d.below J _⟩
end
section
open Go.RowKit Go.Lib
def qo(g:Nat)(l:A1)(a:l≠[]):Gj (g+1) l=JQ (decodeL l).1++Gj g (l.drop (decodeL l).2):=by
 cases l with
 |nil=>exact absurd rfl a
 |cons b t=>rfl
def qp(W:O)(d:Nat)(v:Al)(s:ByteArray)(bs:A1)(hl:bs.length+(Hv s.data.toList).length<=999999999)(h:BG W d v bs):Am X 95 #[v,.string s] W λap W'=>∃x,ap=Af x/\BG W' d x (bs++Hv s.data.toList)/\Below d W W'/\Ko W W':=by
 obtain⟨i0,o,u,aa,ab⟩:=DZ Tryz.infoU8;obtain⟨a8,bi,a9,rfl⟩:=h.2.2;have z:=T h;have e:s.data.toList.length=s.size:=ES;have HJ:Hid (bs.length+2+(Gj s.size s.data.toList).length<=999999999/\Hv s.data.toList=[34]++Gj s.size s.data.toList++[34]):=by
  unfold Hv at hl;rw[e]at hl;refine⟨by simp only[BK,Cu,DX]at hl;omega,?_⟩;unfold Hv;rw[e]
 have bc:bs.length<=999999999:=J
 go_enter func95,ntmps95
 go_wp2_with(first
  |(at_builtin;refine Dh 34 z.1 ?_ (hb:=Ar z.2.1);intro x R j t ak;obtain⟨aq,ao,rfl⟩:=ownsRow_succ j;have al:=T (Jl ((C5 _ _).alloc z.2.1 _) (z.1.alloc _) t (Ar z.2.1));have ad:Hid (BG R d (G (U ⟨aq,0,Y⟩) _ ao) (bs++[34])):=⟨LP j Z,C7 z.2.1 al.size,_,_,_,Z⟩;have ay:=T ((TI W _).trans (TJ (z.1.alloc _) t))))
 have q:Hid (FT d W R.heap.size s 0 (G (U ⟨aq,0,Y⟩) (bs.length+1) ao) (bs++[34]) (R.iter s 0)):=by
  refine⟨NM ad BN,World.iter_heap _ _ _,al.alloc ad.2.1 _,ad.2.1,ay.trans (TI _ _)⟩
 generalize R.iter s 0=W0 at *;generalize R.heap.size=N at *
 go_loopg[0] s.size (λg a7 wr=>∃(i:Nat) (D:A4) (Q F:Nat) (b:A1),a7=G D Q F/\Hid (i<=s.size)/\Hid (s.size<=i+g)/\Hid (FT d W N s i (G D Q F) b wr)/\Hid ((bs++[34])++Gj s.size s.data.toList=b++Gj g (s.data.toList.drop i)))
 case atStart=>exact⟨0,_,_,_,_,rfl,DK _,AL,q,by show _=_;rw[Nq]⟩
 case round =>
  obtain⟨i,D,Q,F,b,rfl,a6,H,q,HL⟩:=hrel;have a:Hid (b.length<=999999998):=by
   have:=congrArg List.length HL;have h2:=HJ.1;simp only[BK,Cu,DX]at this;show _<=_;omega
  by_cases h1:i=s.size
  ·have HF:Hid ((bs++[34])++Gj s.size s.data.toList=b):=by
    have h:=HL.out;rw[h1,<-e,KR,jB,IK]at h;rw[<-e];exact h
   have av:=λty=>Y0 (P:=X) wr N s i ty q.it J;have ai:=a.out
   go_wp2_with(first
    |(at_builtin;refine Dh 34 q.own.1 ?_ (hb:=Ar q.own.2.1);intro x V j t ak;obtain⟨n,c,rfl⟩:=ownsRow_succ j;have f:=T (q.app (l:=[34]) j t)))
   go_ret;have he:bs++Hv s.data.toList=b++[34]:=by rw[HJ.2,<-HF.out];simp
   rw[he];exact⟨_,Z,f.own,f.below,f.kp⟩
  have hn:i<s.size:=Ao a6.out
  obtain⟨g,rfl⟩:∃g,gk=g+1:=⟨gk-1,Ao H.out⟩
  have av:=λty=>XZ (P:=X) wr N s i ty q.it hn;obtain⟨r,hr⟩:∃r,(Utf8.decode s i).1=r:=⟨_,rfl⟩
  obtain⟨k,y⟩:∃k,(Utf8.decode s i).2=k:=⟨_,rfl⟩
  rw[hr,y]at av;have bh:r<=1114111:=by rw[<-hr];exact Lib.rune_le s i
  have aj:=Lib.decodeL_drop s i;have au:s.data.toList.drop i≠[]:=by
   intro h;have:=congrArg List.length h;rw[Eb]at this;simp at this;omega
  have HC:Hid (Gj (g+1) (s.data.toList.drop i)=JQ r++Gj g (s.data.toList.drop (i+k))):=by
   show _=_;rw[qo _ _ au,aj];rw[show(Utf8.decode s i).1=r from hr,show(Utf8.decode s i).2=k from y,Hn]
  have bd:1<=k:=by have:=Lib.decodeL_width (s.data.toList.drop i);rw[aj,y]at this;exact this
  have be:k<=s.size-i:=by
   have:=Lib.decodeL_le (s.data.toList.drop i) au;rw[aj,y,Eb]at this;omega
  have m:Hid (FT d W N s (i+k) (G D Q F) b (wr.putObj N (.stringIter s (i+k)))):=q.next _
  have B:Hid ((bs++[34])++Gj s.size s.data.toList=(b++JQ r)++Gj g (s.data.toList.drop (i+k))):=by
   show _=_;rw[HL.out,HC.out,CN]
  have ac:Hid (b.length+(JQ r).length<=999999998):=by
   have:=congrArg List.length B;have h2:=HJ.1;simp only[BK,Cu,DX]at this;show _<=_;omega
  generalize wr.putObj N (.stringIter s (i+k))=W2 at *;have ai:=a.out;by_cases ag:r=34\/r=92
  ·rcases ag with rfl|rfl
   ·have p:Hid (JQ 34=[92,34]):=rfl;have ar:=ac.out;have ai:=a.out
    go_wp2_with(first
     |(at_builtin;refine JG _ Z _ _ 38 Z d 5 i0 (I Ah 0) 1 1 underlying38 o u aa ab Z Ay _ _ _ Z (m.own.1.alloc _) ⟨W2.heap.size,0,Y⟩ 2 2 [I Ah 92,I Ah 34] Z Z (EE _ _ _) (λax w=>kez) AC J (Ar m.own.2.1) ?_;intro x V j t ak;obtain⟨n,c,rfl⟩:=ownsRow_succ j;have f:Hid (FT d W N s (i+k) (G (U ⟨n,0,Y⟩) (b.length+2) c) (b++[92,34]) V):=m.app (l:=[92,34]) j t))
    go_roundg g
    case measure=>omega
    case rel=>exact⟨i+k,_,_,_,_,rfl,AL,keA,f,ke7⟩
   have p:Hid (JQ 92=[92,92]):=rfl;have ar:=ac.out;have ai:=a.out
   go_wp2_with(first
    |(at_builtin;refine JG _ Z _ _ 38 Z d 5 i0 (I Ah 0) 1 1 underlying38 o u aa ab Z Ay _ _ _ Z (m.own.1.alloc _) ⟨W2.heap.size,0,Y⟩ 2 2 [I Ah 92,I Ah 92] Z Z (EE _ _ _) (λax w=>kez) AC J (Ar m.own.2.1) ?_;intro x V j t ak;obtain⟨n,c,rfl⟩:=ownsRow_succ j;have f:Hid (FT d W N s (i+k) (G (U ⟨n,0,Y⟩) (b.length+2) c) (b++[92,92]) V):=m.app (l:=[92,92]) j t))
   go_roundg g
   case measure=>omega
   case rel=>exact⟨i+k,_,_,_,_,rfl,AL,keA,f,ke7⟩
  have ba:((r:Int)==34)=false:=Ax
  have bb:((r:Int)==92)=false:=Ax
  by_cases af:r<32
  ·have p:Hid (JQ r=[92,117,48,48]++[Ef (r/16),Ef (r%16)]):=by show _=_;unfold JQ;rw[Bz ag,BA af];rfl
   have a0:(r:Int)<32:=J
   have aw:(⟨([92,117,48,48]:A1).toArray⟩:ByteArray).size=4:=rfl
   go_wp2_with(first
    |(at_builtin;refine wpList_append_own_string _ Z _ _ 38 9 Z d 5 i0 underlying38 underlying9 o u aa ab _ _ _ Z m.own.1 ⟨[92,117,48,48].toArray⟩ Z (by rw[aw];unfold maxLen;omega) (by rw[aw];omega) m.own.2.1 ?_;intro x w5 j a5 bf;have f:=T (m.appS j a5);obtain⟨a4,n4,c4,rfl⟩:=f.own.2.2))
   have A:(λ_:O=>True) {w5 with drawn:=w5.drawn+1}:=trivial;have ae:=T f.drew;have ah:(b++[92,117,48,48]).length=b.length+4:=Az
   have ar:b.length+6<=999999998:=by have h:=ac.out;rw[p.out]at h;simpa using h
   refine Ec (S:=λ_=>True) M ?_;refine BE 0 35 (G a4 n4 c4) A ?_;refine BE 1 36 (I .i32 r) A ?_;refine BL 2 37 (I .i32 ((r/16:Nat):Int)) Z (λC hZ=>?y2) A ?_
   case y2=>(go_simp)
   refine BL 3 38 (Cg (Ef (r/16))) Z (λC hZ=>?y3) A ?_
   case y3=>exact Y3 9 _ _ rfl rfl M (Y1 (r/16) J C)
   refine BE 4 39 (I .i32 r) A ?_;refine BL 5 40 (I .i32 ((r%16:Nat):Int)) Z (λC hZ=>?y5) A ?_
   case y5=>(have z2:=jC r af;go_simp)
   refine BL 6 41 (Cg (Ef (r%16))) Z (λC hZ=>?y6) A ?_
   case y6=>exact Y3 9 _ _ rfl rfl M (Y1 (r%16) J C)
   refine C9 7 (λaz hK=>?_);refine Kw M ?_;refine jE (.tmp 38) (.tmp 41) Z (Ef (r/16)) (Ef (r%16)) M M ?_;refine hK.out _ _ trivial (λ_=>?_);refine C9 8 (λaz hK=>?_);refine Kw M ?_;refine Zc (.tmp 35) (.tmp 42) 38 Z d 5 i0 (I Ah 0) 1 1 underlying38 o u aa ab Z Ay (G a4 n4 c4) _ _ M (ae.own.1.alloc _) ⟨w5.heap.size,0,Y⟩ 2 2 [Cg (Ef (r/16)),Cg (Ef (r%16))] M Z (EE _ _ _) (λax w=>kez) (by rw[ah];unfold maxLen;omega) (by rw[ah];omega) (by have:=ae.own.2.1;rw[BU];exact OC this) ?_;intro x w6 L a1 _;obtain⟨g6,an,rfl⟩:=ownsRow_succ L;have am:Hid (FT d W N s (i+k) (G (U ⟨g6,0,Y⟩) ((b++[92,117,48,48]).length+2) an) ((b++[92,117,48,48])++[Ef (r/16),Ef (r%16)]) w6):=ae.app (l:=[Ef (r/16),Ef (r%16)]) L a1;refine hK.out _ _ trivial (λ_=>?_);refine BE 9 0 (G (U ⟨g6,0,Y⟩) ((b++[92,117,48,48]).length+2) an) trivial ?_;refine Cv ?_;go_simp;go_wp2;go_roundg g
   case measure=>omega
   case rel=>exact⟨i+k,_,_,_,_,rfl,AL,keA,by rw[ah]at am;exact am,by have h:=B.out;rw[p.out,<-CN]at h;exact h⟩
  have p:Hid (JQ r=Du r):=by show _=_;unfold JQ;rw[Bz ag,Bz af]
  have a0:¬(r:Int)<32:=J
  have bg:=NJ (r:Int);have cA:=Any.utf8_AppendRune_plain Tryz.lays242 M d (G D Q F) b.length (b.map Cg) (r:Int) J J W2 m.own.1 J m.own.2.1
  go_wp2_with(first
   |(go_at_call 131;refine cA.mono ?_;rintro ap V ⟨v3,rfl,L,bj,a2⟩;rw[TD,Eo]at L;have f:=T (m.app (l:=Du r) L a2);obtain⟨a4,n4,c4,rfl⟩:=f.own.2.2))
  go_roundg g
  case measure=>omega
  case rel=>exact⟨i+k,_,_,_,_,rfl,AL,keA,f,ke7⟩
def PO(c0:UInt8)(l:A1):Prop:=∀(j:Nat) (c:UInt8),l[j]?=some c->G5 c0 (j+1) c=false
def Ch(ch:A1):Prop:=∃c0 l,ch=c0::l/\l.length+1=Ce c0/\PO c0 l
def Vt(l:A1):Prop:=∃chs:List A1,(∀ch∈chs,Ch ch)/\l=chs.flatten
def Pd(p:A1):Prop:=p=[]\/∃c0 l,p=c0::l/\l.length+1<Ce c0/\PO c0 l
def S2:Vt []:=⟨[],(λ_ h=>AU),rfl⟩
def VB(h:Vt l)(d:Ch ch):Vt (l++ch):=by
 obtain⟨b,c,rfl⟩:=h;refine⟨b++[ch],λx a=>?_,Az⟩;rcases KS.1 a with a|a
 ·exact c x a
 rw[KP.1 a];exact d
def bT{c0 c:UInt8}(h:PO c0 l)(d:G5 c0 (l.length+1) c=false):PO c0 (l++[c]):=by
 intro j x a;by_cases b:j<l.length
 ·exact h j x (by rwa[F6 b]at a)
 have:=Cf a;rw[BK,List.length_singleton]at this;obtain rfl:j=l.length:=J
 rw[Ez (BM _),LJ]at a;injection a with a;rwa[<-a]
def bU{p:A1}{c:UInt8}(h:Pd p)(a:¬Cw p c=0):(Cw p c=2/\Ch (p++[c]))\/(¬Cw p c=2/\Pd (p++[c])):=by
 rcases h with rfl|⟨b,l,rfl,m,k⟩
 ·rw[S0]at a ⊢;by_cases g:Ce c=0
  ·rw[BA g]at a;exact absurd Z a
  rw[Bz g];by_cases d:Ce c=1
  ·rw[BA d];exact .inl ⟨rfl,c,[],rfl,d.symm,λj x f=>by cases f⟩
  rw[Bz d];exact .inr ⟨Ay,.inr ⟨c,[],rfl,Ax,λj x f=>by cases f⟩⟩
 rw[RZ b l c m]at a ⊢;cases e:G5 b (l.length+1) c
 ·rw[Bz Az];by_cases i:l.length+2=Ce b
  ·rw[BA i];exact .inl ⟨Z,b,l++[c],Z,Ax,bT k e⟩
  rw[Bz i];exact .inr ⟨Ay,.inr ⟨b,l++[c],Z,Ax,bT k e⟩⟩
 rw[e,BA rfl]at a;exact absurd Z a
def M8{c:UInt8}{r:A1}(h:bs.drop p=c::r):bs[p]?=U c/\bs.drop (p+1)=r/\p<bs.length:=by
 have b:p<bs.length:=by
  have:=congrArg List.length h;rw[Eb,Cu]at this;omega
 have a:=G7 b;rw[h]at a;injection a with a h3;exact⟨by rw[C6 b,a],h3.symm,b⟩
def S3(bs:A1)(lim:Int):∀(k p:Nat) (a b:A1) (l:A1) (q:Nat),Vt a->Pd b->Dr bs lim k p (a++b) a.length=.ok (l,q)->Vt l
 |0,p,a,b,l,q,h1,h2,h=>by
  rw[Dr]at h;split at h
  ·next e =>
   rw[BK]at e;have:b=[]:=J9 J;subst this;rw[IK]at h;cases h;exact h1
  cases h
 |k+1,p,a,b,l,q,h1,h2,h=>by
  rw[Dr]at h;split at h
  ·cases h
  next c hc =>
  rw[I8]at h;split at h
  ·cases h
  split at h
  ·cases h
  next ha =>
  rw[CN]at h;rcases bU h2 ha with⟨e,g⟩|⟨e,i⟩
  ·rw[BA e]at h;have d:(a++b).length+1=(a++(b++[c])).length:=Ax
   rw[d,<-IK (a++(b++[c]))]at h;have f:(a++(b++[c])++[]).length=(a++(b++[c])).length:=Az
   rw[f]at h;exact S3 bs lim k (p+1) (a++(b++[c])) [] l q (VB h1 g) (.inl Z) h
  rw[Bz e]at h;exact S3 bs lim k (p+1) a (b++[c]) l q h1 i h
def bV(bs:A1)(lim:Int)(q:(bs.length:Int)<=lim)(b:UInt8)(d:A1)(k:Nat)(rest:A1):∀(m a:A1) (p:Nat),m≠[]->a.length+m.length+1=Ce b->PO b (a++m)->bs.drop p=m++rest->Dr bs lim (m.length+k) p (d++b::a) d.length=Dr bs lim k (p+m.length) (d++b::(a++m)) (d++b::(a++m)).length
 |[],_,_,h,_,_,_=>absurd rfl h
 |c::m,a,p,_,hk,ht,hd=>by
  obtain⟨n,o,r⟩:=M8 hd;have i:G5 b (a.length+1) c=false:=ht a.length c (by rw[Ez (BM _),LJ];rfl);have j:a.length+1<Ce b:=by simp at hk;omega
  rw[show(c::m).length+k=m.length+k+1 by simp;omega,Dr,n];simp only[];rw[Bz J,I8];have l:d++b::a++[c]=d++b::(a++[c]):=Az
  have g:a++[c]++m=a++c::m:=Az
  rw[l];by_cases f:m=[]
  ·subst f;have e:Cw (b::a) c=2:=by rw[RZ b a c j,i,Bz Az,BA (by simp at hk;omega)]
   rw[e,Bz Ay,BA rfl];have:(d++b::a).length+1=(d++b::(a++[c])).length:=Ax
   rw[this];simp
  have s:=SA.2 f;have e:Cw (b::a) c=1:=by rw[RZ b a c j,i,Bz Az,Bz (by simp at hk;omega)]
  have:=bV bs lim q b d k rest m (a++[c]) (p+1) f (by simp at hk ⊢;omega) (by rw[g];exact ht) o;rw[g]at this;rw[e,Bz Ay,Bz Ay,this,show p+1+m.length=p+(c::m).length by simp;omega]
def sS(bs:A1)(lim:Int)(j:(bs.length:Int)<=lim)(g:Ch ch)(b:A1)(k p:Nat)(rest:A1)(h:bs.drop p=ch++rest):Dr bs lim (ch.length+k) p b b.length=Dr bs lim k (p+ch.length) (b++ch) (b++ch).length:=by
 obtain⟨a,l,rfl,i,m⟩:=g;obtain⟨c,f,n⟩:=M8 h;rw[show(a::l).length+k=l.length+k+1 by simp;omega,Dr,c];simp only[];rw[Bz J,KR];by_cases c:Ce a=1
 ·have:l=[]:=J9 J;subst this;have d:Cw [] a=2:=by rw[S0,Bz J,BA c]
  rw[d,Bz Ay,BA rfl];simp
 have d:Cw [] a=1:=by rw[S0,Bz J,Bz c]
 rw[d,Bz Ay,Bz Ay];have:=bV bs lim j a b k rest l [] (p+1) (by intro e;subst e;simp at i;omega) Ax m f;rw[this,show p+1+l.length=p+(a::l).length by simp;omega];rfl
def bW(bs:A1)(lim:Int)(c:(bs.length:Int)<=lim)(rest:A1):∀(a:List A1) (b:A1) (p:Nat),(∀ch∈a,Ch ch)->bs.drop p=a.flatten++rest->Dr bs lim a.flatten.length p b b.length=.ok (b++a.flatten,p+a.flatten.length)
 |[],b,p,_,_=>by
  show Dr bs lim 0 p b b.length=_;rw[Dr,BA rfl];simp
 |ch::a,b,p,h,hd=>by
  have e:(ch::a).flatten=ch++a.flatten:=rfl;rw[e]at hd ⊢;rw[CN]at hd;rw[BK,sS bs lim c (h ch (Hl ..)) b a.flatten.length p _ hd,bW bs lim c rest a (b++ch) (p+ch.length) (λx d=>h x (I2 _ d)) (by rw[<-Hn,hd,I8])];rw[CN,Ke]
def bX{lim:Int}(d:(bs.length:Int)<=lim){rest:A1}(h:Vt l)(c:bs.drop p=l++rest):Dr bs lim l.length p [] 0=.ok (l,p+l.length):=by
 obtain⟨a,b,rfl⟩:=h;exact bW bs lim d rest a [] p b c
def uu(W:O)(c:UInt8)(h:0<=(c.toNat:Int))(i:(c.toNat:Int)<=127):Am X 159 #[I Ah c.toNat] W λe a=>e=Af (Aa #[I Ah 0,I Ah 0,I K 1])/\a=W:=by
 have b:=BS (c:=c) 224 J;have d:=BS (c:=c) 237 J;have f:=BS (c:=c) 240 J;have g:=BS (c:=c) 244 J;go_enter func159,ntmps159;go_wp2;refine Cc (IL results159 _ _ _) Z ⟨Z,Z⟩
def uv(W:O)(c:UInt8)(h:128<=(c.toNat:Int))(i:(c.toNat:Int)<=193):Am X 159 #[I Ah c.toNat] W λe a=>e=Af (Aa #[I Ah 0,I Ah 0,I K 0])/\a=W:=by
 have b:=BS (c:=c) 224 J;have d:=BS (c:=c) 237 J;have f:=BS (c:=c) 240 J;have g:=BS (c:=c) 244 J;go_enter func159,ntmps159;go_wp2;refine Cc (IL results159 _ _ _) Z ⟨Z,Z⟩
def uw(W:O)(c:UInt8)(h:194<=(c.toNat:Int))(i:(c.toNat:Int)<=223):Am X 159 #[I Ah c.toNat] W λe a=>e=Af (Aa #[I Ah 128,I Ah 191,I K 2])/\a=W:=by
 have b:=BS (c:=c) 224 J;have d:=BS (c:=c) 237 J;have f:=BS (c:=c) 240 J;have g:=BS (c:=c) 244 J;go_enter func159,ntmps159;go_wp2;refine Cc (IL results159 _ _ _) Z ⟨Z,Z⟩
def uy(W:O)(c:UInt8)(h:224<=(c.toNat:Int))(i:(c.toNat:Int)<=224):Am X 159 #[I Ah c.toNat] W λe a=>e=Af (Aa #[I Ah 160,I Ah 191,I K 3])/\a=W:=by
 have b:((c.toNat:Int)==224)=true:=Ax
 have d:=BS (c:=c) 237 J;have f:=BS (c:=c) 240 J;have g:=BS (c:=c) 244 J;go_enter func159,ntmps159;go_wp2;refine Cc (IL results159 _ _ _) Z ⟨Z,Z⟩
def uz(W:O)(c:UInt8)(h:225<=(c.toNat:Int))(i:(c.toNat:Int)<=236):Am X 159 #[I Ah c.toNat] W λe a=>e=Af (Aa #[I Ah 128,I Ah 191,I K 3])/\a=W:=by
 have b:=BS (c:=c) 224 J;have d:=BS (c:=c) 237 J;have f:=BS (c:=c) 240 J;have g:=BS (c:=c) 244 J;go_enter func159,ntmps159;go_wp2;refine Cc (IL results159 _ _ _) Z ⟨Z,Z⟩
def uA(W:O)(c:UInt8)(h:237<=(c.toNat:Int))(i:(c.toNat:Int)<=237):Am X 159 #[I Ah c.toNat] W λe a=>e=Af (Aa #[I Ah 128,I Ah 159,I K 3])/\a=W:=by
 have b:=BS (c:=c) 224 J;have d:((c.toNat:Int)==237)=true:=Ax
 have f:=BS (c:=c) 240 J;have g:=BS (c:=c) 244 J;go_enter func159,ntmps159;go_wp2;refine Cc (IL results159 _ _ _) Z ⟨Z,Z⟩
def uB(W:O)(c:UInt8)(h:238<=(c.toNat:Int))(i:(c.toNat:Int)<=239):Am X 159 #[I Ah c.toNat] W λe a=>e=Af (Aa #[I Ah 128,I Ah 191,I K 3])/\a=W:=by
 have b:=BS (c:=c) 224 J;have d:=BS (c:=c) 237 J;have f:=BS (c:=c) 240 J;have g:=BS (c:=c) 244 J;go_enter func159,ntmps159;go_wp2;refine Cc (IL results159 _ _ _) Z ⟨Z,Z⟩
def uC(W:O)(c:UInt8)(h:240<=(c.toNat:Int))(i:(c.toNat:Int)<=240):Am X 159 #[I Ah c.toNat] W λe a=>e=Af (Aa #[I Ah 144,I Ah 191,I K 4])/\a=W:=by
 have b:=BS (c:=c) 224 J;have d:=BS (c:=c) 237 J;have f:((c.toNat:Int)==240)=true:=Ax
 have g:=BS (c:=c) 244 J;go_enter func159,ntmps159;go_wp2;refine Cc (IL results159 _ _ _) Z ⟨Z,Z⟩
def uD(W:O)(c:UInt8)(h:241<=(c.toNat:Int))(i:(c.toNat:Int)<=243):Am X 159 #[I Ah c.toNat] W λe a=>e=Af (Aa #[I Ah 128,I Ah 191,I K 4])/\a=W:=by
 have b:=BS (c:=c) 224 J;have d:=BS (c:=c) 237 J;have f:=BS (c:=c) 240 J;have g:=BS (c:=c) 244 J;go_enter func159,ntmps159;go_wp2;refine Cc (IL results159 _ _ _) Z ⟨Z,Z⟩
def uE(W:O)(c:UInt8)(h:244<=(c.toNat:Int))(i:(c.toNat:Int)<=244):Am X 159 #[I Ah c.toNat] W λe a=>e=Af (Aa #[I Ah 128,I Ah 143,I K 4])/\a=W:=by
 have b:=BS (c:=c) 224 J;have d:=BS (c:=c) 237 J;have f:=BS (c:=c) 240 J;have g:((c.toNat:Int)==244)=true:=Ax
 go_enter func159,ntmps159;go_wp2;refine Cc (IL results159 _ _ _) Z ⟨Z,Z⟩
def uF(W:O)(c:UInt8)(h:245<=(c.toNat:Int))(i:(c.toNat:Int)<=255):Am X 159 #[I Ah c.toNat] W λe a=>e=Af (Aa #[I Ah 0,I Ah 0,I K 0])/\a=W:=by
 have b:=BS (c:=c) 224 J;have d:=BS (c:=c) 237 J;have f:=BS (c:=c) 240 J;have g:=BS (c:=c) 244 J;go_enter func159,ntmps159;go_wp2;refine Cc (IL results159 _ _ _) Z ⟨Z,Z⟩
def uG(W:O)(c:UInt8):Am X 159 #[I Ah c.toNat] W λe a=>e=Af (Aa #[I Ah (Ds c),I Ah (Dy c),I K (Ce c)])/\a=W:=by
 have h:=c.toNat_lt;by_cases b:c.toNat<=127
 ·have:=uu W c J J;rw[show Ds c=0 by unfold Ds;repeat(first|rw[BA J]|rw[Bz J]),show Dy c=0 by unfold Dy;repeat(first|rw[BA J]|rw[Bz J]),show Ce c=1 by unfold Ce;repeat(first|rw[BA J]|rw[Bz J])];exact this
 by_cases d:c.toNat<=193
 ·have:=uv W c J J;rw[show Ds c=0 by unfold Ds;repeat(first|rw[BA J]|rw[Bz J]),show Dy c=0 by unfold Dy;repeat(first|rw[BA J]|rw[Bz J]),show Ce c=0 by unfold Ce;repeat(first|rw[BA J]|rw[Bz J])];exact this
 by_cases f:c.toNat<=223
 ·have:=uw W c J J;rw[show Ds c=128 by unfold Ds;repeat(first|rw[BA J]|rw[Bz J]),show Dy c=191 by unfold Dy;repeat(first|rw[BA J]|rw[Bz J]),show Ce c=2 by unfold Ce;repeat(first|rw[BA J]|rw[Bz J])];exact this
 by_cases g:c.toNat<=224
 ·have:=uy W c J J;rw[show Ds c=160 by unfold Ds;repeat(first|rw[BA J]|rw[Bz J]),show Dy c=191 by unfold Dy;repeat(first|rw[BA J]|rw[Bz J]),show Ce c=3 by unfold Ce;repeat(first|rw[BA J]|rw[Bz J])];exact this
 by_cases i:c.toNat<=236
 ·have:=uz W c J J;rw[show Ds c=128 by unfold Ds;repeat(first|rw[BA J]|rw[Bz J]),show Dy c=191 by unfold Dy;repeat(first|rw[BA J]|rw[Bz J]),show Ce c=3 by unfold Ce;repeat(first|rw[BA J]|rw[Bz J])];exact this
 by_cases j:c.toNat<=237
 ·have:=uA W c J J;rw[show Ds c=128 by unfold Ds;repeat(first|rw[BA J]|rw[Bz J]),show Dy c=159 by unfold Dy;repeat(first|rw[BA J]|rw[Bz J]),show Ce c=3 by unfold Ce;repeat(first|rw[BA J]|rw[Bz J])];exact this
 by_cases k:c.toNat<=239
 ·have:=uB W c J J;rw[show Ds c=128 by unfold Ds;repeat(first|rw[BA J]|rw[Bz J]),show Dy c=191 by unfold Dy;repeat(first|rw[BA J]|rw[Bz J]),show Ce c=3 by unfold Ce;repeat(first|rw[BA J]|rw[Bz J])];exact this
 by_cases l:c.toNat<=240
 ·have:=uC W c J J;rw[show Ds c=144 by unfold Ds;repeat(first|rw[BA J]|rw[Bz J]),show Dy c=191 by unfold Dy;repeat(first|rw[BA J]|rw[Bz J]),show Ce c=4 by unfold Ce;repeat(first|rw[BA J]|rw[Bz J])];exact this
 by_cases m:c.toNat<=243
 ·have:=uD W c J J;rw[show Ds c=128 by unfold Ds;repeat(first|rw[BA J]|rw[Bz J]),show Dy c=191 by unfold Dy;repeat(first|rw[BA J]|rw[Bz J]),show Ce c=4 by unfold Ce;repeat(first|rw[BA J]|rw[Bz J])];exact this
 by_cases n:c.toNat<=244
 ·have:=uE W c J J;rw[show Ds c=128 by unfold Ds;repeat(first|rw[BA J]|rw[Bz J]),show Dy c=143 by unfold Dy;repeat(first|rw[BA J]|rw[Bz J]),show Ce c=4 by unfold Ce;repeat(first|rw[BA J]|rw[Bz J])];exact this
 have:=uF W c J J;rw[show Ds c=0 by unfold Ds;repeat(first|rw[BA J]|rw[Bz J]),show Dy c=0 by unfold Dy;repeat(first|rw[BA J]|rw[Bz J]),show Ce c=0 by unfold Ce;repeat(first|rw[BA J]|rw[Bz J])];exact this
def uH(c:UInt8):Ds c<=255/\Dy c<=255/\Ce c<=4:=by
 refine⟨?_,?_,(PN c).2.2.2⟩
 ·unfold Ds
  repeat' split
  all_goals omega
 unfold Dy
 repeat' split
 all_goals omega
def uI(r:Nat×Bool):Al:=Aa #[A6 Ag r.1,.bool r.2]
def uJ(W:O)(bs:A1)(p n:Nat)(i:UInt8)(L:bs[p]?=U i)(hb:bs.length<=281474976710656)(hn:n<=bs.length):Am X 136 #[A9 ⟨bs.toArray⟩,I K p,I K n] W λe W'=>e=Af (uI (Of bs n p i))/\W'=W:=by
 obtain⟨R,c⟩:∃R,Hid (Of bs n p i=R):=⟨_,show _=_ from rfl⟩
 rw[c.out];have ah:=Cf L;have aa:=λV=>DI bs p i L V;obtain⟨h1,h2,h3⟩:=uH i;have w:=uG W i;have a:=c.out;unfold Of at a;clear L c;obtain⟨s,D⟩:∃s,s=Ds i:=⟨_,rfl⟩
 obtain⟨v,y⟩:∃v,v=Dy i:=⟨_,rfl⟩
 obtain⟨m,C⟩:∃m,m=Ce i:=⟨_,rfl⟩
 rw[<-D,<-y,<-C]at w;rw[<-C]at a h3;rw[<-D]at h1;rw[<-y]at h2;have z:=T D;have Q:=T y;have S:=T C;clear D y C;by_cases B:m=0
 ·rw[BA B]at a;have f:=T a.symm;have N:((m:Int)==0)=true:=by rw[B];rfl
  clear a B;go_enter func136,ntmps136
  go_wp2_with(first
   |(go_at_call 159;refine w.mono ?_;clear w;rintro e P ⟨rfl,rfl⟩))
  go_ret2
  rw[f.out];exact⟨Z,Z⟩
 rw[Bz B]at a;have N:((m:Int)==0)=false:=Ax
 have c:=T a;clear a;go_enter func136,ntmps136
 go_wp2_with(first
  |(go_at_call 159;refine w.mono ?_;clear w;rintro e P ⟨rfl,rfl⟩))
 clear N aa
 go_loopg[11] (m-1) (λg af wr=>wr=P/\∃j:Nat,af=I K j/\Hid (j+g=m)/\Hid (1<=j)/\Hid (KK bs n p i g j=R))
 case atStart=>exact⟨rfl,1,rfl,AD,BM _,c⟩
 case round =>
  clear c;obtain⟨rfl,j,rfl,l,hj,c⟩:=hrel;have a:=c.out
  cases gk with
  |zero =>
   rw[KK]at a;have f:Hid (R=(m,true)):=by show _=_;rw[<-a,S.out]
   have ac:¬(j:Int)<(m:Int):=Ao l.out
   clear a c l;go_wp2
   go_ret2
   rw[f.out];exact⟨Z,Z⟩
  |succ g =>
   rw[KK]at a;have ac:(j:Int)<(m:Int):=Ao l.out
   by_cases q:n<=p+j
   ·rw[BA q]at a;have f:=T a.symm;have ad:(n:Int)<=(p:Int)+(j:Int):=J
    clear a c l q;go_wp2
    go_ret2
    rw[f.out];exact⟨Z,Z⟩
   rw[Bz q]at a;have ad:¬(n:Int)<=(p:Int)+(j:Int):=J
   have ae:p+j<bs.length:=J
   obtain⟨b,u⟩:∃b,b=bs[p+j]:=⟨_,rfl⟩
   have r:bs[p+j]?=U b:=by rw[u];exact C6 ae
   have ab:=λV=>DI bs (p+j) b r V;rw[show((p+j:Nat):Int)=(p:Int)+(j:Int) by omega]at ab;rw[r]at a;simp only[]at a;have ag:=b.toNat_lt;by_cases k:j=1
   ·have d:=RY i b;rw[<-z.out,<-Q.out]at d;have e1:((j:Int)==1)=true:=B0
    have e2:decide (1<(j:Int))=false:=B0
    rw[k]at a;by_cases o:b.toNat<s
    ·rw[BA (d.2 (.inl o))]at a;have f:Hid (R=(j,false)):=by show _=_;rw[<-a,k]
     have x:(b.toNat:Int)<(s:Int):=J
     clear a c l k d u r q o;go_wp2
     go_ret2
     rw[f.out];exact⟨Z,Z⟩
    by_cases t:v<b.toNat
    ·rw[BA (d.2 (.inr t))]at a;have f:Hid (R=(j,false)):=by show _=_;rw[<-a,k]
     have x:decide ((b.toNat:Int)<(s:Int))=false:=Ax
     have H:(v:Int)<(b.toNat:Int):=J
     have q1:s<=b.toNat:=J
     clear a c l k d u r q o t;go_wp2
     go_ret2
     rw[f.out];exact⟨Z,Z⟩
    rw[Bz (λh=>Ao (d.1 h))]at a;have F:Hid (KK bs n p i g (j+1)=R):=by show _=_;rw[k];exact a
    have x:decide ((b.toNat:Int)<(s:Int))=false:=Ax
    have H:decide ((v:Int)<(b.toNat:Int))=false:=Ax
    have q1:s<=b.toNat:=J
    have q2:b.toNat<=v:=J
    clear a c k d u r q o t;go_wp2;go_roundg g
    case measure=>omega
    case rel=>exact⟨rfl,j+1,AE,Ap l.out,AL,F⟩
   have A:1<j:=Ao hj.out
   have d:=Og i b j A;have e1:((j:Int)==1)=false:=Ax
   have e2:1<(j:Int):=J
   by_cases o:b.toNat<128
   ·rw[BA (d.2 (.inl o))]at a;have f:=T a.symm;have x:(b.toNat:Int)<128:=J
    clear a c l k d u r q o A;go_wp2
    go_ret2
    rw[f.out];exact⟨Z,Z⟩
   by_cases t:191<b.toNat
   ·rw[BA (d.2 (.inr t))]at a;have f:=T a.symm;have x:decide ((b.toNat:Int)<128)=false:=Ax
    have H:191<(b.toNat:Int):=J
    clear a c l k d u r q o t A;go_wp2
    go_ret2
    rw[f.out];exact⟨Z,Z⟩
   rw[Bz (λh=>Ao (d.1 h))]at a;have F:=T a;have x:decide ((b.toNat:Int)<128)=false:=Ax
   have H:decide (191<(b.toNat:Int))=false:=Ax
   clear a c k d u r q o t A;go_wp2;go_roundg g
   case measure=>omega
   case rel=>exact⟨rfl,j+1,AE,Ap l.out,AL,F⟩
end
end Go.Proofs.YtnlnjkggkbbdhaaGreatDoor
