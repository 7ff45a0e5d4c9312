import Derived.Lib.TrimUEq
import Derived.Shelf.Unicode.ValidAny
import Derived.Test.YtoegnhgofkhbnaaGreatDoorHq05
set_option maxRecDepth 100000
set_option maxHeartbeats 8000000
set_option linter.all false
namespace Go.Proofs.YtoegnhgofkhbnaaGreatDoor
open Go.Proofs.Tryz
open Go.Value renaming int->A7,slice->A8,pointer->A9,string->Aa,agg->Ac,bool->Ad
open Go.Obj renaming cells->Af
open Go.IntKind renaming i64->Ah
open Option renaming some->Aj,none->Ak
open Go renaming World->Al,Value->Am
variable{P:Program}{N base g i k n size:Nat}{a:Act}{W W' w w' w2 wr:Al}{s:ByteArray}{v:Am}{xs:List Am}{A:A4}{o:Oper}{x:Ca}{F:Fence}{Q:Exit->Act->Al->Prop}
section
open Go.RowKit Go.Shelf
theorem VY(W:Al)(N:Nat)(s:ByteArray)(a:Nat)(c:TypeId)(b:W.heap[N]?=Aj (.stringIter s a))(h:a<s.size):(Instr.next (A9 (Aj ⟨N,0,Ak⟩)) true c).run P W =
   .ok (.tuple #[Ad true,A7 Ah a,A7 .i32 (Utf8.decode s a).1]) (W.putObj N (.stringIter s (a+(Utf8.decode s a).2))):=by
 simp only[Instr.next,getObj,setObj,D8,Sem.run,b,Result.andThen,h,K3,World.putObj];simp[goInt]
theorem VZ(W:Al)(N:Nat)(s:ByteArray)(a:Nat)(c:TypeId)(b:W.heap[N]?=Aj (.stringIter s a))(h:¬a<s.size):(Instr.next (A9 (Aj ⟨N,0,Ak⟩)) true c).run P W=.ok (.tuple #[Ad false]) W:=by
 simp[Instr.next,getObj,Sem.run,b,h]
theorem M5{B:Nat}{a:Al}(h:Below B a w)(b:B<=g)(o:Obj):Below B a (w.putObj g o) :=
 h.trans ⟨rfl,rfl,rfl,by simp[World.putObj],λk c=>World.putObj_heap_other (by omega)⟩
structure Jq(w:World)(N:Nat)(s:ByteArray)(i:Nat)(W:World):Prop where
 below:A1 w W
 it:W.heap[N]?=some (.stringIter s i)
theorem Jq.step(h:Jq w N s i W)(a:A1 W W'):Jq w N s i W' :=
 ⟨h.below.trans (a.mono h.below.size),(a.block _ (At h.it)).trans h.it⟩
theorem Jq.next(h:Jq w N s i W)(a:w.heap.size<=N)(j:Nat):Jq w N s j (W.putObj N (.stringIter s j)) :=
 ⟨M5 h.below a _,World.putObj_heap_same (At h.it)⟩
theorem fj(r:Nat):Jp r=(decide ((r:Int)<=32)||KS (r:Int)):=by
 unfold Jp KS;rw[MY];simp only[KI,Jc,Je];omega
theorem fk(s:ByteArray)(w:Al)(hs:s.size<=2000)(X:Gq w):Calls prog 130 #[.string s] w λe G=>e=.returned (Ad (DR s.data.toList))/\A1 w G:=by
 have Q:s.data.toList.length=s.size:=DB;have o:Calls prog 157 #[.string s] w λe G=>e=.returned (Ad (Lib.validD s.data.toList))/\A1 w G :=
  Any.utf8_ValidString Tryz.lays196 s w (by omega) X.tabs
 cases v:Lib.validD s.data.toList
 ·have j:Hid (DR s.data.toList=false):=by show _=_;rw[VX,v];rfl
  rw[v]at o;go_enter func130,ntmps130
  go_wp2_with(first|(go_at_call 157;refine o.mono ?_;rintro e f ⟨rfl,d⟩))
  go_ret;exact⟨by rw[j.out];rfl,d⟩
 obtain⟨A,H⟩:∃A,Hid (GS s.data.toList.length s.data.toList=A):=⟨_,show _=_ from rfl⟩
 have j:Hid (DR s.data.toList=P9 A):=by show _=_;rw[VX,v,H.out];rfl
 rw[v]at o;go_enter func130,ntmps130
 go_wp2_with(first|(go_at_call 157;refine o.mono ?_;rintro e f ⟨rfl,d⟩))
 have b:Hid (Jq w f.heap.size s 0 (f.iter s 0)):=⟨d.alloc d.size _,World.iter_heap _ _ _⟩
 have W:=d.size;generalize f.iter s 0=W0 at *;generalize f.heap.size=N at *
 go_loopg[3,5] s.size (λg x _ wr=>∃n i:Nat,x=A7 Ah n/\Hid (n<=i)/\Hid (i<=s.size)/\Hid (s.size<=i+g)/\Hid (Jq w N s i wr)/\Hid (A=(GS g (s.data.toList.drop i)).map (·+n)))
 case atStart =>
  refine⟨0,0,rfl,AB _,Cy _,by show _<=_;omega,b,?_⟩;show _=_;rw[<-H.out,Q,N5];cases GS s.size s.data.toList<;>rfl
 case round =>
  obtain⟨n,i,rfl,R,E,O,b,B⟩:=hrel;by_cases p:i=s.size
  ·have c:Hid (DR s.data.toList=decide (1<=n/\n<=16)):=by
    show _=_;have C:A=Aj n:=by
     rw[B.out,p,<-Q,LD];cases gk<;>simp[GS]
    rw[j.out,C];rfl
   have S:=λF=>VZ (P:=prog) wr N s i F b.it (by omega);by_cases ha:(1:Int)<=n
   ·by_cases hb:(n:Int)<=16
    ·have a:Hid (DR s.data.toList=true):=by show _=_;rw[c.out,Bs (by omega)]
     go_wp2;go_ret;exact⟨by rw[a.out];rfl,b.below⟩
    have a:Hid (DR s.data.toList=false):=by show _=_;rw[c.out,BJ (by omega)]
    go_wp2;go_ret;exact⟨by rw[a.out];rfl,b.below⟩
   have a:Hid (DR s.data.toList=false):=by show _=_;rw[c.out,BJ (by omega)]
   go_wp2;go_ret;exact⟨by rw[a.out];rfl,b.below⟩
  have Y:i<s.size:=by have:=E.out;omega
  obtain⟨g,rfl⟩:∃g,gk=g+1:=⟨gk-1,by have:=O.out;omega⟩
  have S:=λF=>VY (P:=prog) wr N s i F b.it Y;obtain⟨r,T⟩:∃r,(Utf8.decode s i).1=r:=⟨_,rfl⟩
  obtain⟨k,t⟩:∃k,(Utf8.decode s i).2=k:=⟨_,rfl⟩
  rw[T,t]at S;have J:Hid (s.data.toList.drop i=s[i]::s.data.toList.drop (i+1)):=by show _=_;rw[F5 (by omega)];rfl
  have q:=Lib.decodeL_drop s i;have I:Hid (GS (g+1) (s.data.toList.drop i)=if Jp r=true then Ak else(GS g (s.data.toList.drop (i+k))).map (·+1)):=by
   show _=_;have L:(Lib.decodeL (s.data.toList.drop i)).1=r:=by rw[q];exact T
   have p:(Lib.decodeL (s.data.toList.drop i)).2=k:=by rw[q];exact t
   rw[J.out]at L p ⊢;rw[GS,L,p,<-J.out,LH]
  have aa:1<=k:=by have:=Lib.decodeL_width (s.data.toList.drop i);rw[q,t]at this;exact this
  have ab:k<=s.size-i:=by
   have:=Lib.decodeL_le (s.data.toList.drop i) (by intro h;have:=congrArg List.length h;rw[DK]at this;simp at this;omega);rw[q,t,DK]at this;omega
  have K:Hid (Jp r=true->DR s.data.toList=false):=λh=>by
   have C:A=Ak:=by rw[B.out,I.out,As h];rfl
   rw[j.out,C];rfl
  have V:Hid (Jp r=false->A=(GS g (s.data.toList.drop (i+k))).map (·+(n+1))):=λh=>by
   rw[B.out,I.out,Aq (by rw[h];simp),Option.map_map];congr 1;funext x;simp only[Function.comp];omega
  have y:Hid (Jq w N s (i+k) (wr.putObj N (.stringIter s (i+k)))):=b.next W _
  have ac:n<=2000:=by have:=R.out;have:=E.out;omega
  have l:=fj r;generalize wr.putObj N (.stringIter s (i+k))=W2 at *;by_cases M:(r:Int)<=32
  ·have c:=K.out (by rw[l,Bs M];rfl);have a:=Ap c;go_wp2;go_ret;exact⟨by rw[a.out];rfl,y.below⟩
  have m:=eS (r:Int) (by omega) W2;rw[BJ M,QV]at l;cases u:KS (r:Int)
  ·have U:=Ap (V (by rw[l,u]));rw[u]at m
   go_wp2_with(first|(go_at_call 158;refine m.mono ?_;rintro e Z ⟨rfl,D⟩;have z:=Ap (y.step D)))
   go_roundg g
   case measure=>omega
   case rel =>
    refine⟨n+1,i+k,by go_num,?_,?_,?_,z,U⟩
    all_goals(show _<=_;have:=R.out;have:=E.out;have:=O.out;omega)
  have a:=Ap (K (by rw[l,u]));rw[u]at m
  go_wp2_with(first|(go_at_call 158;refine m.mono ?_;rintro e Z ⟨rfl,D⟩;have z:=Ap (y.step D)))
  go_ret;exact⟨by rw[a.out];rfl,z.below⟩
end
section
open Go.RowKit
def G6(n:Nat):List A2->Nat->Int
 |[],_=>-1
 |p::q,i=>if BA n p=true/\i<16 then G6 n q (i+1)else i
def BY(n:Nat)(l:A2):Int:=if 2000<l.length then 0 else if l.length=0 then -1 else G6 n (B8 10 l) 0
theorem Tryz.infoRule:(prog.info? 98).map (λi=>(i.zero,i.size,i.bytes))=Aj (Aj (.agg C2),3,40):=by kernel_rfl
theorem Sj(w:Al)(cs:A4)(t:TypeId):∀(j:Nat) (u:Am),cs.toList[j]?=Aj u->(w.alloc (Af cs t)).cell? ((⟨w.heap.size,0,Ak⟩:Addr).add j)=Aj u:=λj u a=>by
 rw[KQ,Df,DL _ _ _ _ _ _ (Ay _ _)];simpa using a
theorem Sk{e:TypeId}(h:W.ownsRow base e size v n xs)(m:∀i,i<W.heap.size->W'.heap[i]?=W.heap[i]?):W'.ownsRow base e size v n xs:=by
 obtain⟨l,f⟩:=h;refine⟨l,?_⟩;rcases f with f|⟨g,j,k,a,b,c,d⟩
 ·exact LQ f
 exact Hn ⟨g,j,k,a,b,(m g (At c)).trans c,d⟩
structure Ps(w2 wr:World)(N:Nat)(A:A4)(W:World):Prop where
 below:A1 w2 W
 same:∀i,i<wr.heap.size->W.heap[i]?=wr.heap[i]?
 row:W.heap[N]?=some (.cells A 98)
 lo:wr.heap.size<=N
theorem j8(h:A1 w2 wr)(a:Below wr.heap.size wr.drew w'):Ps w2 wr w'.heap.size A (w'.alloc (Af A 98)):=by
 have b:=h.size;have c:wr.heap.size<=w'.heap.size:=a.size;refine⟨(h.drew.trans (a.mono b)).alloc (by omega) _,λi d=>?_,Ay _ _,c⟩;rw[AL _ _ _ (by omega)];exact a.block _ d
theorem j9(h:A1 w2 wr)(a:Below (wr.heap.size+1) (wr.alloc (Af C2 98)).drew w'):Ps w2 wr wr.heap.size A (w'.setRow wr.heap.size A):=by
 have b:=h.size;refine⟨Bu (((h.alloc b _).drew).trans (a.mono (by omega))) b _,λi c=>?_,B4 _ _ C2 _ _ _ ((a.block _ (by omega)).trans (Ay _ _)),AB _⟩;rw[BO _ _ _ _ (by omega),a.block _ (by omega)];exact AL _ _ _ c
theorem ja{ev:Operand->Am}(a:TypeId)(x:Operand)(f:o.op=.load a x)(g:Nat)(i:ev x=A9 (Aj ⟨g,0,Ak⟩))(t:TypeId)(cs:A4)(b:Nat×Nat)(d:TypeDesc)(e:W.heap[g]?=Aj (Af cs t b))(h:P.underlying a=Aj d)(c:(match d with|.struct _|.array _ _=>true|_=>false)=true)(hi:(P.info? a).map (·.size)=Aj cs.size):(execOp ev o).run P W=.ok (.value (.agg cs)) W:=by
 unfold execOp;simp only[f,i,Instr.loadAt,Instr.sureAddr,D8,E4,Dl,FZ W g t a cs b d e h c hi]
theorem jb(c:AN)(n:Nat)(hn:c.labels=n)(w:World):Calls prog 21 #[.agg c.arr] w λe A =>
   ∃ab ah R,e=.returned (.tuple #[.slice ab ah R,.int .i64 (BY n c.pol.data.toList)])/\Below w.heap.size w A:=by
 have hl:c.pol.data.toList.length=c.pol.size:=DB;have f3:c.arr[3]?=some (.string c.pol):=rfl;have aw:Hid (c.arr[0]?=some (.int .i64 n)):=by show _=_;rw[<-hn];rfl
 obtain⟨i0,hi,ar,au,av⟩:=BH Tryz.infoRule;by_cases a6:(2000:Int)<c.pol.size
 ·have G:Hid (BY n c.pol.data.toList=0):=by show _=_;unfold BY;rw[As (by omega)]
  go_enter func21,ntmps21;go_wp2
  go_ret2
  first|exact⟨_,_,_,by rw[G.out];rfl,AH⟩|exact⟨⟨_,_,_,by rw[G.out];rfl⟩,AH⟩
 cases q:(c.pol.toList==[])
 ·have a2:c.pol.size≠0:=by
   intro h;have:c.pol.toList=[]:=by rw[EJ];exact JU (by omega)
   rw[this]at q;exact absurd q (by decide)
  have G:Hid (BY n c.pol.data.toList=G6 n (B8 10 c.pol.data.toList) 0):=by show _=_;unfold BY;rw[Aq (by omega),Aq (by omega)]
  have an:c.pol.size<=100000:=by omega
  go_enter func21,ntmps21;have T1:True:=trivial
  go_wp2_with(first
   |(go_at_call 33;clear T1;refine(Sg c.pol 10 10 rfl _ an).mono ?_;rintro e F ⟨v,u,rfl,HO,O,P⟩;obtain⟨g,R,rfl,hg,a0,am⟩:=Sh HO (Po P)))
  have a4:w.heap.size<F.heap.size:=by have:=O.size;simp only[AM,A1]at this;omega
  have ay:Hid (F.heap[w.heap.size]?=some (.cells c.arr 25)):=(O.block _ (by simp)).trans (Ay _ _);have HX:Hid (∀j,F.cell? ⟨w.heap.size,j,none⟩=c.arr[j]?):=λj=>Ar ((O.block _ (by simp)).trans (Ay _ _)) j;have aj:=Ap am;have ax:Hid (BY n c.pol.data.toList=G6 n (u.map (·.data.toList)) 0):=by show _=_;rw[G.out,P]
  have E:=Ap ((AH).trans (O.mono (by simp)));have al:Hid (∀p,p∈u->p.size<=100000):=λp I=>by
   have:=L6 10 c.pol.data.toList p.data.toList (by rw[<-P];exact Uo I);have h4:p.data.toList.length=p.size:=DB;omega
  have a8:u.length<=100001:=by
   have h1:=congrArg List.length P;have h2:=Si 10 c.pol.data.toList;rw[De]at h1;omega
  have a7:w.heap.size<g:=by simp only[AM,A1]at hg;omega
  clear O HO am P G hg
  go_loopg[4,6] u.length (λgk v x wr=>∃(k:Nat) (xs:List Value) (ao:Option Addr) (cv:Nat),Hid (k+gk=u.length)/\v=.slice ao k cv/\x=.int .i64 k/\Hid (wr.ownsRow F.heap.size 98 3 v k xs)/\Hid (Below F.heap.size F wr)/\Hid (BY n c.pol.data.toList=G6 n ((u.map (·.data.toList)).drop k) k))
  case atStart=>exact⟨0,[],none,0,by show _=_;omega,rfl,rfl,FK _ _ _ _,AT _ _,ax.out⟩
  case round =>
   obtain⟨k,xs,ao,cv,V,rfl,rfl,ak,H,HL⟩:=hrel;have a9:=H.out.size
   cases gk with
   |zero =>
    have a1:¬(k:Int)<u.length:=by have:=V.out;omega
    have d:Hid (BY n c.pol.data.toList = -1):=by
     show _=_;rw[HL.out,J9 (by rw[De];have:=V.out;omega)];rfl
    go_wp2
    go_ret2
    first|exact⟨_,_,_,by rw[d.out];rfl,E.out.trans (H.out.mono (by omega))⟩|exact⟨⟨_,_,_,by rw[d.out];rfl⟩,E.out.trans (H.out.mono (by omega))⟩
   |succ gg =>
    have a1:(k:Int)<u.length:=by have:=V.out;omega
    have ae:k<u.length:=by omega
    have J:=(H.out.cell (p:=⟨g,k,none⟩) a0).trans (aj.out k ae);have y:=(H.out.block _ a4).trans ay.out;have n1:=World.new_ne wr _ J;have Z:w.heap.size<wr.heap.size:=by omega
    have aq:g<wr.heap.size:=by omega
    obtain⟨p,I⟩:∃p,p=u[k]:=⟨_,rfl⟩
    have HP:=Ap I;rw[<-I]at J;have cR:∀W,Calls prog 34 #[.agg c.arr,.string p] W λe A=>∃ab ah R x a5,e=.returned (.tuple #[.agg (DF ab ah R x a5),.bool (BA n p.data.toList)])/\Below W.heap.size W A:=λW=>j7 c.arr n aw.out rfl p W (by rw[I];exact al.out u[k] (Iz ae));have L:Hid (BY n c.pol.data.toList=if BA n p.data.toList=true/\k<16 then G6 n ((u.map (·.data.toList)).drop (k+1)) (k+1)else(k:Int)):=by
     show _=_;rw[HL.out,F5 (by rw[De];exact ae),G6,OE,<-I]
    clear I hl f3 q a2 an HX aj al HL;go_wp2;refine Dr (S:=λW=>W.heap[w.heap.size]?=some (.cells c.arr 25)/\W.cell? ⟨g,k,none⟩=some (.string p)) (by kernel_rfl) ?_;have U:(λW:World=>W.heap[w.heap.size]?=some (.cells c.arr 25)/\W.cell? ⟨g,k,none⟩=some (.string p)) {wr with drawn:=wr.drawn+1}:=⟨y,J⟩
    refine Ds (i:=0) (v:=.agg c.arr) rfl (by kernel_rfl) (by kernel_rfl) (by kernel_rfl) (λ_ _ _ h=>h) (.inl ⟨rfl,λW z=>ja 25 (.tmp 1) rfl w.heap.size rfl _ _ _ _ z.1 underlying25 rfl (Dg rfl)⟩) U ?_;refine Ds (i:=1) (v:=.slice (some ⟨g,0,none⟩) u.length R) rfl (by kernel_rfl) (by kernel_rfl) (by kernel_rfl) (λ_ _ _ h=>h) (.inl ⟨rfl,λW z=>rfl⟩) U ?_;refine Ds (i:=2) (v:=.int .i64 k) rfl (by kernel_rfl) (by kernel_rfl) (by kernel_rfl) (λ_ _ _ h=>h) (.inl ⟨rfl,λW z=>rfl⟩) U ?_;refine Ds (i:=3) (v:=.pointer (some ⟨g,k,none⟩)) rfl (by kernel_rfl) (by kernel_rfl) (by kernel_rfl) (λ_ _ _ h=>h) (.inl ⟨rfl,λW z=>?y3⟩) U ?_
    case y3=>go_simp
    refine Ds (i:=4) (v:=.string p) rfl (by kernel_rfl) (by kernel_rfl) (by kernel_rfl) (λ_ _ _ h=>h) (.inl ⟨rfl,λW z=>?y4⟩) U ?_
    case y4=>(have h2:=z.2;go_simp)
    refine Gm 5 9 (λK f=>?_) (λK f=>?_)
    ·go_simp;refine(cR _).mono ?_;rintro e A ⟨l,r,o,s,t,rfl,M⟩;simp only[];refine f.out _ _ ⟨(M.block _ Z).trans y,(M.cell (p:=⟨g,k,none⟩) aq).trans J⟩ (λB=>?_);clear f;refine Ds (i:=6) rfl (by kernel_rfl) (by kernel_rfl) (by kernel_rfl) (λ_ _ _ h=>h) (.inl ⟨rfl,λW z=>rfl⟩) B ?_;refine Ds (i:=7) (v:=.agg (DF l r o s t)) rfl (by kernel_rfl) (by kernel_rfl) (by kernel_rfl) (λ_ _ _ h=>h) (.inl ⟨rfl,λW z=>rfl⟩) B ?_;refine Ds (i:=8) (v:=.bool (BA n p.data.toList)) rfl (by kernel_rfl) (by kernel_rfl) (by kernel_rfl) (λ_ _ _ h=>h) (.inl ⟨rfl,λW z=>rfl⟩) B ?_;have ap:=M.size;refine Bc 9 (λK f=>?_);go_simp;refine f.out _ _ ⟨(AL _ _ _ (Br Z ap)).trans B.1,(Ck _ _ _ (by rw[B.2];rfl)).trans B.2⟩ (λm=>?_);clear f;refine Bc 10 (λK f=>?_);rw[As (by rfl)];refine IB 98 _ _ rfl A.heap.size (DF l r o s t) rfl rfl 98 C2 (Ay A _) JC rfl (L7 _ _ _ _ _) ?_;rw[F6];refine f.out _ _ ⟨(AL _ _ _ (Br Z ap)).trans B.1,(Ck _ _ _ (by rw[B.2];rfl)).trans B.2⟩ (λac=>?_);clear f;refine Ds (i:=11) (v:=.bool (BA n p.data.toList)) rfl (by kernel_rfl) (by kernel_rfl) (by kernel_rfl) (λ_ _ _ h=>h) (.inl ⟨rfl,λW z=>rfl⟩) ac ?_;refine Bw ?_;have b:Hid (Ps F wr A.heap.size (DF l r o s t) (A.alloc (.cells (DF l r o s t) 98))):=j8 H.out M;generalize A.alloc (.cells (DF l r o s t) 98)=W4 at *;generalize A.heap.size=N at *;cases T:BA n p.data.toList
     ·have d:Hid (BY n c.pol.data.toList=k):=by show _=_;rw[L.out,Aq (by rw[T];simp)]
      go_wp2
      go_ret2
      first|exact⟨_,_,_,by rw[d.out];rfl,E.out.trans (b.out.below.mono (by omega))⟩|exact⟨⟨_,_,_,by rw[d.out];rfl⟩,E.out.trans (b.out.below.mono (by omega))⟩
     by_cases az:(16:Int)<=k
     ·have d:Hid (BY n c.pol.data.toList=k):=by show _=_;rw[L.out,Aq (by omega)]
      go_wp2
      go_ret2
      first|exact⟨_,_,_,by rw[d.out];rfl,E.out.trans (b.out.below.mono (by omega))⟩|exact⟨⟨_,_,_,by rw[d.out];rfl⟩,E.out.trans (b.out.below.mono (by omega))⟩
     have d:Hid (BY n c.pol.data.toList=G6 n ((u.map (·.data.toList)).drop (k+1)) (k+1)):=by show _=_;rw[L.out,As ⟨T,by omega⟩]
     have Q:=Ap (Sk ak.out b.out.same);have af:=b.out.below.size;have aa:Hid (W4.heap[N]?=some (.cells #[.slice l r o,.int .i64 s,.int .i64 t] 98)):=b.out.row
     go_wp2_with(first
      |(refine B3 rfl 98 _ rfl _ rfl _ _ _ _ aa.out underlying98 rfl JC ?_)
      |(at_builtin;refine Bz _ rfl _ _ 56 rfl F.heap.size 98 i0 (.agg C2) 3 40 underlying56 hi ar au av rfl (by decide) _ _ _ rfl (Q.out.alloc _) ⟨W4.heap.size,0,none⟩ 1 1 [.slice l r o,.int .i64 s,.int .i64 t] rfl rfl (Sj _ _ _) (λx Y=>by simp at Y;rcases Y with rfl|rfl|rfl<;>rfl) (by unfold maxLen;omega) (by omega) (by simp;omega) ?_;intro v' w5 X ad a3))
     go_roundg gg
     case measure=>omega
     case rel =>
      obtain⟨D,C,ag⟩:∃D C,v'=.slice (some ⟨D,0,none⟩) (k+1) C:=by
       rcases X.2 with⟨_,h⟩|⟨D,C,_,h,_⟩
       ·omega
       exact⟨D,C,h⟩
      exact⟨k+1,xs++[Value.slice l r o,Value.int .i64 s,Value.int .i64 t],some ⟨D,0,none⟩,C,by show _=_;have:=V.out;omega,ag,by go_num,(by show World.ownsRow _ _ _ _ _ _ _;exact X),(b.out.below.alloc af _).grown ad (by simp;omega) (λai hq=>(Q.out.lt ai hq).1),d.out⟩
    go_simp;refine f.out _ _ ⟨(AL _ _ _ Z).trans y,(Ck _ _ _ (by rw[J];rfl)).trans J⟩ (λB=>?_);clear f;refine Bc 5 (λK f=>?_);go_simp;refine(cR _).mono ?_;rintro e A ⟨l,r,o,s,t,rfl,M⟩;simp only[];have a:Below (wr.heap.size+1) (wr.alloc (.cells C2 98)).drew A:=by have:=M;simp only[AM,World.drew,A1]at this;exact this
    refine f.out _ _ ⟨(a.block _ (by omega)).trans B.1,(a.cell (p:=⟨g,k,none⟩) (show g<_ by omega)).trans B.2⟩ (λm=>?_);clear f;refine Ds (i:=6) rfl (by kernel_rfl) (by kernel_rfl) (by kernel_rfl) (λ_ _ _ h=>h) (.inl ⟨rfl,λW z=>rfl⟩) m ?_;refine Ds (i:=7) (v:=.agg (DF l r o s t)) rfl (by kernel_rfl) (by kernel_rfl) (by kernel_rfl) (λ_ _ _ h=>h) (.inl ⟨rfl,λW z=>rfl⟩) m ?_;refine Ds (i:=8) (v:=.bool (BA n p.data.toList)) rfl (by kernel_rfl) (by kernel_rfl) (by kernel_rfl) (λ_ _ _ h=>h) (.inl ⟨rfl,λW z=>rfl⟩) m ?_;refine Bc 10 (λK f=>?_);rw[As (by rfl)];refine IB 98 _ _ rfl wr.heap.size (DF l r o s t) rfl rfl 98 C2 ((a.block _ (by omega)).trans (Ay wr _)) JC rfl (L7 _ _ _ _ _) ?_;have b:Hid (Ps F wr wr.heap.size (DF l r o s t) (A.setRow wr.heap.size (DF l r o s t))):=j9 H.out a;refine f.out _ _ ⟨(b.out.same _ Z).trans y,(GF (w:=wr) (b.out.same g aq)).trans J⟩ (λac=>?_);clear f;refine Ds (i:=11) (v:=.bool (BA n p.data.toList)) rfl (by kernel_rfl) (by kernel_rfl) (by kernel_rfl) (λ_ _ _ h=>h) (.inl ⟨rfl,λW z=>rfl⟩) ac ?_;refine Bw ?_;generalize A.setRow wr.heap.size (DF l r o s t)=W4 at *;cases T:BA n p.data.toList
    ·have d:Hid (BY n c.pol.data.toList=k):=by show _=_;rw[L.out,Aq (by rw[T];simp)]
     go_wp2
     go_ret2
     first|exact⟨_,_,_,by rw[d.out];rfl,E.out.trans (b.out.below.mono (by omega))⟩|exact⟨⟨_,_,_,by rw[d.out];rfl⟩,E.out.trans (b.out.below.mono (by omega))⟩
    by_cases az:(16:Int)<=k
    ·have d:Hid (BY n c.pol.data.toList=k):=by show _=_;rw[L.out,Aq (by omega)]
     go_wp2
     go_ret2
     first|exact⟨_,_,_,by rw[d.out];rfl,E.out.trans (b.out.below.mono (by omega))⟩|exact⟨⟨_,_,_,by rw[d.out];rfl⟩,E.out.trans (b.out.below.mono (by omega))⟩
    have d:Hid (BY n c.pol.data.toList=G6 n ((u.map (·.data.toList)).drop (k+1)) (k+1)):=by show _=_;rw[L.out,As ⟨T,by omega⟩]
    have Q:=Ap (Sk ak.out b.out.same);have af:=b.out.below.size;have aa:Hid (W4.heap[wr.heap.size]?=some (.cells #[.slice l r o,.int .i64 s,.int .i64 t] 98)):=b.out.row
    go_wp2_with(first
     |(refine B3 rfl 98 _ rfl _ rfl _ _ _ _ aa.out underlying98 rfl JC ?_)
     |(at_builtin;refine Bz _ rfl _ _ 56 rfl F.heap.size 98 i0 (.agg C2) 3 40 underlying56 hi ar au av rfl (by decide) _ _ _ rfl (Q.out.alloc _) ⟨W4.heap.size,0,none⟩ 1 1 [.slice l r o,.int .i64 s,.int .i64 t] rfl rfl (Sj _ _ _) (λx Y=>by simp at Y;rcases Y with rfl|rfl|rfl<;>rfl) (by unfold maxLen;omega) (by omega) (by simp;omega) ?_;intro v' w5 X ad a3))
    go_roundg gg
    case measure=>omega
    case rel =>
     obtain⟨D,C,ag⟩:∃D C,v'=.slice (some ⟨D,0,none⟩) (k+1) C:=by
      rcases X.2 with⟨_,h⟩|⟨D,C,_,h,_⟩
      ·omega
      exact⟨D,C,h⟩
     exact⟨k+1,xs++[Value.slice l r o,Value.int .i64 s,Value.int .i64 t],some ⟨D,0,none⟩,C,by show _=_;have:=V.out;omega,ag,by go_num,(by show World.ownsRow _ _ _ _ _ _ _;exact X),(b.out.below.alloc af _).grown ad (by simp;omega) (λai hq=>(Q.out.lt ai hq).1),d.out⟩
 have G:Hid (BY n c.pol.data.toList = -1):=by
  show _=_;have h0:c.pol.data.toList=[]:=by rw[<-EJ];exact KM q
  unfold BY;rw[h0];rfl
 go_enter func21,ntmps21;go_wp2
 go_ret2
 first|exact⟨_,_,_,by rw[G.out];rfl,AH⟩|exact⟨⟨_,_,_,by rw[G.out];rfl⟩,AH⟩
end
section
open Go.RowKit Go.Shelf
section
attribute[local go_sem] Oper.semAt_some
structure Tr(N k:Nat)(W W':World):Prop where
 below:Below N W W'
 keep:KeepsOthers W W'
 mid:Em k (k+3) W W'
theorem Tr.refl(N k:Nat)(W:Al):Tr N k W W:=⟨AT _ _,KeepsOthers.refl _,Em.refl _ _ _⟩
theorem Tr.trans{A B C:Al}(h:Tr N k A B)(g:Tr N k B C):Tr N k A C:=⟨h.below.trans g.below,h.keep.trans g.keep,h.mid.trans g.mid⟩
theorem Tr.alloc(N k:Nat)(W:Al)(o:Obj)(a:N<=W.heap.size)(b:k+3<=W.heap.size):Tr N k W (W.alloc o) :=
 ⟨(AT _ _).alloc a _,KeepsOthers.alloc _ _,⟨by simp,λi _ h=>AL _ _ _ (by omega)⟩⟩
theorem Tr.set(N k:Nat)(W:Al)(p:Nat)(v:Am)(c:N<=p)(e:p<k\/k+3<=p):Tr N k W (W.setCell ⟨p,0,Ak⟩ v) :=
 ⟨(AT _ _).trans ⟨rfl,rfl,rfl,by simp[World.setCell],λi d=>BV W _ _ _ (by simp;omega)⟩,KeepsOthers.setCell _ _ _,⟨by simp[World.setCell],λi a b=>BV W _ _ _ (by simp;omega)⟩⟩
theorem Tr.below'(h:A1 W W')(b:N<=W.heap.size)(d:k+3<=W.heap.size):Tr N k W W' :=
 ⟨h.mono b,⟨h.size,λi o a _=>(h.block i (At a)).trans a⟩,⟨h.size,λi _ c=>h.block i (by omega)⟩⟩
theorem Tr.grown{e:TypeId}(l:W.ownsRow base e size v n xs)(a:W.grownBy W' v.ownBlock)(u:base<=W.heap.size)(t:N<=base)(x:k+3<=base):Tr N k W W':=by
 have key:∀g,v.ownBlock=Aj g->base<=g:=λg h=>by
  rcases l.2 with⟨b,_⟩|⟨q,m,p,rfl,c,_⟩
  ·subst b;cases h
  cases h;exact c
 refine⟨⟨a.os,a.tape,a.output,a.size,λi w=>a.block i (by omega) (λh=>by have:=key i h.symm;omega)⟩,KeepsOthers.of_grownBy a (λj o d f=>?_),⟨a.size,λi _ s=>a.block i (by omega) (λh=>by have:=key i h.symm;omega)⟩⟩;rcases l.2 with⟨b,_⟩|⟨q,m,p,rfl,c,r,_⟩
 ·subst b;cases d
 cases d;rw[r]at f;cases f;rfl
structure NJ(w:World)(pre:List Ca)(c:Code)(W:World):Prop where
 ret:c=.ret
 below:A1 w W
 r0:Boxed W w.heap.size 151 (.slice none 0 0)
 r1:Boxed W (w.heap.size+1) 4 (.bool false)
 bad:8<pre.length\/pre.all (λx=>DV (AV x))=false
 size:w.heap.size+6<=W.heap.size
theorem NJ.own{pre:List Ca}{c:Code}{row:Nat}(h:NJ w pre c W)(a:W.grownBy W' (Aj row))(b:w.heap.size+2<=row):NJ w pre c W' :=
 ⟨h.ret,h.below.trans ⟨a.os,a.tape,a.output,a.size,λi d=>a.block i (by have:=h.size;omega) (by intro e;cases e;omega)⟩,h.r0.kept a (by intro e;cases e;omega),h.r1.kept a (by intro e;cases e;omega),h.bad,AW h.size a.size⟩
theorem WY(w W:Al):Tr w.heap.size (w.heap.size+3) W ((W.setCell ⟨w.heap.size,0,Ak⟩ (A8 Ak 0 0)).setCell ⟨w.heap.size+1,0,Ak⟩ (Ad false)) :=
 (Tr.set _ _ W w.heap.size _ (AB _) (by omega)).trans (Tr.set _ _ _ (w.heap.size+1) _ (by omega) (by omega))
def G7:Nat->A2
 |0=>[42]
 |1=>[42,42]
 |_=>[91,93]
theorem Tryz.infoSeg:(prog.info? 158).map (λi=>(i.zero,i.size,i.bytes))=Aj (Aj (Ac #[A7 Ah 0,.string ByteArray.empty]),2,24):=by kernel_rfl
theorem ji(w:Al)(s:ByteArray)(a:Al)(b:((((((w.alloc (Af #[A8 Ak 0 0] 151)).alloc (Af #[Ad false] 4)).alloc (Af #[A8 Ak 0 0] 151)).alloc (Af #[.string s] 9)).alloc (Af #[Aa ⟨#[47]⟩] 9)).alloc (Af #[A7 Ah 0] 3))=a):Ii (w.heap.size+3) 47 a s:=by
 subst b;generalize hA:((w.alloc (Af #[A8 Ak 0 0] 151)).alloc (Af #[Ad false] 4)).alloc (Af #[A8 Ak 0 0] 151)=A;have c:w.heap.size+3=A.heap.size:=by rw[<-hA];simp
 rw[c];refine⟨?_,?_,?_⟩
 ·exact((AL _ _ _ (by simp;omega)).trans (AL _ _ _ (by simp))).trans (Ay A _)
 ·refine(AL _ _ _ (by simp)).trans ?_;have:=Ay (A.alloc (Af #[.string s] 9)) (Af #[Aa ⟨#[47]⟩] 9);rwa[AM]at this
 have:=Ay ((A.alloc (Af #[.string s] 9)).alloc (Af #[Aa ⟨#[47]⟩] 9)) (Af #[A7 Ah 0] 3);rwa[AM,AM]at this
theorem IT{e:TypeId}(c:W.ownsRow base e size v n xs)(h:v.ownBlock=Aj g):base<=g:=by
 rcases c.2 with⟨a,_⟩|⟨i,d,f,rfl,b,_⟩
 ·subst a;cases h
 cases h;exact b
theorem Sl(h:(x.1.toList==G7 i)=true):DV (AV x)=true:=by
 have e:AV x=G7 i:=by unfold AV;rw[<-EJ];exact KM h
 rw[e];unfold DV
 match i with
 |0=>simp[G7]
 |1=>simp[G7]
 |_+2=>simp[G7]
theorem jj(h:∀i,i<3->(x.1.toList==G7 i)=false):DV (AV x)=DR x.1.data.toList:=by
 have e:AV x=x.1.toList:=by unfold AV;rw[<-EJ]
 have a:=h 0 (by omega);have b:=h 1 (by omega);have c:=h 2 (by omega);simp only[G7]at a b c;unfold DV;rw[e,a,b,c,EJ];simp
theorem Pu(w:Al)(o:Obj)(cs:A4)(t:TypeId):∀(j:Nat) (u:Am),cs.toList[j]?=Aj u->((w.alloc o).alloc (Af cs t)).cell? ((⟨w.heap.size+1,0,Ak⟩:Addr).add j)=Aj u:=λj u a=>by
 have:=DL ((w.alloc o).alloc (Af cs t)) (w.heap.size+1) j cs t (0,0) (by have:=Ay (w.alloc o) (Af cs t);rwa[AM]at this);rw[KQ,Df,this];simpa using a
theorem jk(w:Al)(cs:A4)(t:TypeId):∀(j:Nat) (u:Am),cs.toList[j]?=Aj u->(w.alloc (Af cs t)).cell? ((⟨w.heap.size,0,Ak⟩:Addr).add j)=Aj u:=λj u a=>by
 rw[KQ,Df,DL _ _ _ _ _ _ (Ay _ _)];simpa using a
theorem jl{hs:s.size<=2000}{xs:List Ca}(d:(s.toList==[46])=false)(h:xs.map AV=B8 47 (AV ⟨s,hs⟩))(b:xs.length<=8)(c:xs.all (λx=>DV (AV x))=true):Dh s.data.toList=true:=by
 have a:B8 47 s.data.toList=xs.map AV:=h.symm;unfold Dh;rw[a,<-EJ,d,De,Bs b,QY];simpa[Function.comp]using c
theorem jm{hs:s.size<=2000}{pre:List Ca}{r:List A2}(c:(s.toList==[46])=false)(h:B8 47 (AV ⟨s,hs⟩)=pre.map AV++r)(a:8<pre.length\/pre.all (λx=>DV (AV x))=false):Dh s.data.toList=false:=by
 have b:B8 47 s.data.toList=pre.map AV++r:=h;unfold Dh;rw[b,<-EJ,c,LE,QY];rcases a with a|a
 ·rw[BJ (by rw[AC,De];omega)];simp
 have:(pre.all (DV∘AV))=false:=a;rw[this];simp
theorem jn(V:Al):(Instr.index 239 (Ac #[Aa ⟨#[42]⟩,A7 Ah 0,Aa ⟨#[42,42]⟩,A7 Ah 1,Aa ⟨#[91,93]⟩,A7 Ah 2]) (A7 Ah 0)).run prog V=.ok (Ac #[Aa ⟨#[42]⟩,A7 Ah 0]) V:=by kernel_rfl
theorem jo(V:Al):(Instr.index 239 (Ac #[Aa ⟨#[42]⟩,A7 Ah 0,Aa ⟨#[42,42]⟩,A7 Ah 1,Aa ⟨#[91,93]⟩,A7 Ah 2]) (A7 Ah 1)).run prog V=.ok (Ac #[Aa ⟨#[42,42]⟩,A7 Ah 1]) V:=by kernel_rfl
theorem jp(V:Al):(Instr.index 239 (Ac #[Aa ⟨#[42]⟩,A7 Ah 0,Aa ⟨#[42,42]⟩,A7 Ah 1,Aa ⟨#[91,93]⟩,A7 Ah 2]) (A7 Ah 2)).run prog V=.ok (Ac #[Aa ⟨#[91,93]⟩,A7 Ah 2]) V:=by kernel_rfl
theorem jq{md:Region.Mode}{ops:Array Oper}{fuel:Nat}{listed:Array Bool}(L:Array Bool)(b:Nat)(c:Al->List (Nat×Am))(T:Al->Prop)(d:Al->Al)(e:(∀V,T V->wpAnyIn F n P md ops Q b L ((c V).foldl (λa p=>a.put (Aj p.1) p.2) a) (d V))->wpAnyIn F n P md ops Q fuel listed a w)(f:∀V,T V->wpAnyIn F n P md ops Q b L ((c V).foldl (λa p=>a.put (Aj p.1) p.2) a) (d V)):wpAnyIn F n P md ops Q fuel listed a w:=e f
theorem jr{nF:Nat}{K:Act->Al->Prop}(s x:Operand)(t:TypeId)(p:o.op=.call {callee:=.builtin .append,args:=#[s,x],argTypes:=#[t,t]})(f:Nat)(e:TypeId)(i:TypeInfo)(z:Am)(size l:Nat)(O:P.underlying t=Aj (.slice e))(hi:P.info? e=Aj i)(S:i.zero=Aj z)(M:i.size=size)(C:i.bytes=l)(T:z.cells.size=size)(N:0<size)(v:Am)(n:Nat)(xs:List Am)(L:a.eval s=v)(I:w.ownsRow f e size v n xs)(k:Addr)(m c:Nat)(b:List Am)(R:a.eval x=A8 (Aj k) m c)(G:b.length=m*size)(H:∀j u,b[j]?=Aj u->w.cell? (k.add j)=Aj u)(q:∀u∈b,u.oneCell'=true)(A:n+m<=maxLen)(D:(n+m)*l<=140737488355328)(B:f<=w.heap.size)(h:∀g d,d.ownsRow f e size g (n+m) (xs++b)->w.grownBy d v.ownBlock->K (a.put o.dst g) d):o.wpIn F nF P a w K Q:=by
 obtain⟨g,d,J,r,y,_⟩:=N2 (P:=P) w f t o.type e i z size l O hi S M C T N v n xs I k m c b G H q A D B;unfold Oper.wpIn;refine⟨by simp[Oper.about,p,resolve,Target.leads,E4],?_⟩;rw[Oper.semAt_plain F _ _ (by rw[p];intro c E;cases E)];simp[execOp,p,resolve,invoke,builtin,L,R,J,Result.andThen];exact h g d r y
end
end
end Go.Proofs.YtoegnhgofkhbnaaGreatDoor
