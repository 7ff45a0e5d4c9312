import Derived.Lib.TrimUEq
import Derived.Shelf.Unicode.ValidAny
import Derived.Test.YtmajcjammmjimaaGreatDoorCq11
import Derived.Test.YtmajcjammmjimaaGreatDoorCq10
set_option maxRecDepth 100000
set_option maxHeartbeats 8000000
set_option linter.all false
namespace Go.Proofs.YtmajcjammmjimaaGreatDoor
open Go.Proofs.Tryz
variable{P:Program}{A N base g i k m mn n p size:Nat}{a:Act}{W W' W0 w:World}{s:ByteArray}{sv v:Value}{xs:List Value}{x:Str}{F:Fence}{Q:Exit->Act->World->Prop}{o:Oper}{K:Act->World->Prop}{q:Aut}{sts:List ((Nat->Nat)×Int×Int)}{f mf nf:Lit->Option Nat}
section
open Go.RowKit Go.Shelf
theorem qgW(W:World)(N:Nat)(s:ByteArray)(pos:Nat)(b:TypeId)(a:W.heap[N]?=some (.stringIter s pos))(h:pos<s.size):(Instr.next (.pointer (some ⟨N,0,none⟩)) true b).run P W =
   .ok (.tuple #[.bool true,.int .i64 pos,.int .i32 (Utf8.decode s pos).1]) (W.putObj N (.stringIter s (pos+(Utf8.decode s pos).2))):=by
 simp only[Instr.next,getObj,setObj,kbb,Sem.run,a,Result.andThen,h,ker,World.putObj];simp[goInt]
theorem qeX(W:World)(N:Nat)(s:ByteArray)(pos:Nat)(b:TypeId)(a:W.heap[N]?=some (.stringIter s pos))(h:¬pos<s.size):(Instr.next (.pointer (some ⟨N,0,none⟩)) true b).run P W=.ok (.tuple #[.bool false]) W:=by
 simp[Instr.next,getObj,Sem.run,a,h]
theorem qb8{B:Nat}{a:World}(h:Below B a w)(b:B<=g)(o:Obj):Below B a (w.putObj g o) :=
 h.trans ⟨rfl,rfl,rfl,by simp[World.putObj],λk c=>World.putObj_heap_other (by omega)⟩
structure qe7(w:World)(N:Nat)(s:ByteArray)(i:Nat)(W:World):Prop where
 below:Below w.heap.size w W
 it:W.heap[N]?=some (.stringIter s i)
theorem qe7.step(h:qe7 w N s i W)(a:Below W.heap.size W W'):qe7 w N s i W' :=
 ⟨h.below.trans (a.mono h.below.size),(a.block _ (ltA h.it)).trans h.it⟩
theorem qe7.next(h:qe7 w N s i W)(a:w.heap.size<=N)(j:Nat):qe7 w N s j (W.putObj N (.stringIter s j)) :=
 ⟨qb8 h.below a _,World.putObj_heap_same (ltA h.it)⟩
theorem qox(r:Nat):qto r=(decide ((r:Int)<=32)||qwD (r:Int)):=by
 unfold qto qwD;rw[kcA];simp only[kcw,kbQ,kcy];omega
theorem qjA(s:ByteArray)(w:World)(hs:s.size<=2000)(X:qmS w):Calls prog 117 #[.string s] w λe G=>e=.returned (.bool (qhk s.data.toList))/\Below w.heap.size w G:=by
 have Q:s.data.toList.length=s.size:=ka8;have o:Calls prog 132 #[.string s] w λe G=>e=.returned (.bool (Lib.validD s.data.toList))/\Below w.heap.size w G :=
  Any.utf8_ValidString Tryz.lays196 s w (by omega) X.tabs
 cases v:Lib.validD s.data.toList
 ·have j:Hid (qhk s.data.toList=false):=by show _=_;rw[qpW,v];rfl
  rw[v]at o;go_enter func117,ntmps117
  go_wp2_with(first|(go_at_call 132;refine o.mono ?_;rintro e f ⟨rfl,d⟩))
  go_ret;exact⟨by rw[j.out];rfl,d⟩
 obtain⟨A,H⟩:∃A,Hid (qo1 s.data.toList.length s.data.toList=A):=⟨_,show _=_ from rfl⟩
 have j:Hid (qhk s.data.toList=qz5 A):=by show _=_;rw[qpW,v,H.out];rfl
 rw[v]at o;go_enter func117,ntmps117
 go_wp2_with(first|(go_at_call 132;refine o.mono ?_;rintro e f ⟨rfl,d⟩))
 have b:Hid (qe7 w f.heap.size s 0 (f.iter s 0)):=⟨d.alloc d.size _,World.iter_heap _ _ _⟩
 have W:=d.size;generalize f.iter s 0=W0 at *;generalize f.heap.size=N at *
 go_loopg[3,5] s.size (λg x _ wr=>∃n i:Nat,x=.int .i64 n/\Hid (n<=i)/\Hid (i<=s.size)/\Hid (s.size<=i+g)/\Hid (qe7 w N s i wr)/\Hid (A=(qo1 g (s.data.toList.drop i)).map (·+n)))
 case atStart =>
  refine⟨0,0,rfl,kaf _,kaY _,by show _<=_;omega,b,?_⟩;show _=_;rw[<-H.out,Q,kdD];cases qo1 s.size s.data.toList<;>rfl
 case round =>
  obtain⟨n,i,rfl,R,E,O,b,B⟩:=hrel;by_cases p:i=s.size
  ·have c:Hid (qhk s.data.toList=decide (1<=n/\n<=16)):=by
    show _=_;have C:A=some n:=by
     rw[B.out,p,<-Q,kcp];cases gk<;>simp[qo1]
    rw[j.out,C];rfl
   have S:=λF=>qeX (P:=prog) wr N s i F b.out.it (by omega);by_cases ha:(1:Int)<=n
   ·by_cases hb:(n:Int)<=16
    ·have a:Hid (qhk s.data.toList=true):=by show _=_;rw[c.out,kax (by omega)]
     go_wp2;go_ret;exact⟨by rw[a.out];rfl,b.out.below⟩
    have a:Hid (qhk s.data.toList=false):=by show _=_;rw[c.out,kaz (by omega)]
    go_wp2;go_ret;exact⟨by rw[a.out];rfl,b.out.below⟩
   have a:Hid (qhk s.data.toList=false):=by show _=_;rw[c.out,kaz (by omega)]
   go_wp2;go_ret;exact⟨by rw[a.out];rfl,b.out.below⟩
  have Y:i<s.size:=by have:=E.out;omega
  obtain⟨g,rfl⟩:∃g,gk=g+1:=⟨gk-1,by have:=O.out;omega⟩
  have S:=λF=>qgW (P:=prog) wr N s i F b.out.it Y;obtain⟨r,T⟩:∃r,(Utf8.decode s i).1=r:=⟨_,rfl⟩
  obtain⟨k,t⟩:∃k,(Utf8.decode s i).2=k:=⟨_,rfl⟩
  rw[T,t]at S;have J:Hid (s.data.toList.drop i=s[i]::s.data.toList.drop (i+1)):=by show _=_;rw[ka6 (by omega)];rfl
  have q:=Lib.decodeL_drop s i;have I:Hid (qo1 (g+1) (s.data.toList.drop i)=if qto r=true then none else(qo1 g (s.data.toList.drop (i+k))).map (·+1)):=by
   show _=_;have L:(Lib.decodeL (s.data.toList.drop i)).1=r:=by rw[q];exact T
   have p:(Lib.decodeL (s.data.toList.drop i)).2=k:=by rw[q];exact t
   rw[J.out]at L p ⊢;rw[qo1,L,p,<-J.out,kbf]
  have aa:1<=k:=by have:=Lib.decodeL_width (s.data.toList.drop i);rw[q,t]at this;exact this
  have ab:k<=s.size-i:=by
   have:=Lib.decodeL_le (s.data.toList.drop i) (by intro h;have:=congrArg List.length h;rw[kaR]at this;simp at this;omega);rw[q,t,kaR]at this;omega
  have K:Hid (qto r=true->qhk s.data.toList=false):=λh=>by
   have C:A=none:=by rw[B.out,I.out,kag h];rfl
   rw[j.out,C];rfl
  have V:Hid (qto r=false->A=(qo1 g (s.data.toList.drop (i+k))).map (·+(n+1))):=λh=>by
   rw[B.out,I.out,kac (by rw[h];simp),Option.map_map];congr 1;funext x;simp only[Function.comp];omega
  have y:Hid (qe7 w N s (i+k) (wr.putObj N (.stringIter s (i+k)))):=b.out.next W _
  have ac:n<=2000:=by have:=R.out;have:=E.out;omega
  have l:=qox r;generalize wr.putObj N (.stringIter s (i+k))=W2 at *;by_cases M:(r:Int)<=32
  ·have c:=K.out (by rw[l,kax M];rfl);have a:=qab c;go_wp2;go_ret;exact⟨by rw[a.out];rfl,y.out.below⟩
  have m:=qgg (r:Int) (by omega) W2;rw[kaz M,kdP]at l;cases u:qwD (r:Int)
  ·have U:=qab (V.out (by rw[l,u]));rw[u]at m
   go_wp2_with(first|(go_at_call 133;refine m.mono ?_;rintro e Z ⟨rfl,D⟩;have z:=qab (y.out.step D)))
   go_roundg g
   case measure=>omega
   case rel =>
    refine⟨n+1,i+k,by go_num,?_,?_,?_,z,U⟩
    all_goals(show _<=_;have:=R.out;have:=E.out;have:=O.out;omega)
  have a:=qab (K.out (by rw[l,u]));rw[u]at m
  go_wp2_with(first|(go_at_call 133;refine m.mono ?_;rintro e Z ⟨rfl,D⟩;have z:=qab (y.out.step D)))
  go_ret;exact⟨by rw[a.out];rfl,z.out.below⟩

end
section
open Go.RowKit
theorem qff{b:Nat}{s:Src}(k n:Nat)(h:qad W b s):qad ((W.drewN n).setCell ⟨b,4,none⟩ (.int .i64 k)) b {s with within:=k}/\But b W ((W.drewN n).setCell ⟨b,4,none⟩ (.int .i64 k)):=by
 have e:(W.drewN n).heap[b]?=some (.cells s.arr 112):=h.row;have d:∀q,q≠b->((W.drewN n).setCell ⟨b,4,none⟩ (.int .i64 k)).heap[q]?=W.heap[q]?:=λq a=>kat (W.drewN n) _ _ _ (by simpa using a);refine⟨⟨?_,λi l=>?_,h.len,h.le⟩,⟨rfl,rfl,rfl,by simp[World.setCell,World.drewN],λq _ a=>d q a⟩⟩
 ·rw[kdi _ b 4 _ _ _ _ e,kaA _ _ _ _ _ _ e];rfl
 obtain⟨g,off,f,c,j⟩:=h.inp i l;exact⟨g,off,f,c,(kaN (w:=W) (d g c)).trans j⟩
theorem qiH(W:World)(b:Nat)(s:Src)(h:qad W b s)(d:¬(s.within:Int)=s.depth)(i:s.within<=1000000):Calls prog 183 #[.pointer (some ⟨b,0,none⟩)] W λe c=>e=.returned (.tuple #[])/\qad c b {s with within:=s.within+1}/\But b W c:=by
 have j:W.cell? ⟨b,1,none⟩=some (.int .i64 s.depth):=qaa h.row 1;have k:W.cell? ⟨b,4,none⟩=some (.int .i64 s.within):=qaa h.row 4;have g:=kaK W b 4 _ _ h.row;have a:Hid (∀n,qad ((W.drewN n).setCell ⟨b,4,none⟩ (.int .i64 ((s.within:Int)+1))) b {s with within:=s.within+1}/\But b W ((W.drewN n).setCell ⟨b,4,none⟩ (.int .i64 ((s.within:Int)+1)))):=λn=>qff (s.within+1) n h;have f:((s.within:Int)==s.depth)=false:=by simpa using d
 go_enter func183,ntmps183;go_wp2
 go_quiet (fail)
 go_wp2;go_end0;exact⟨rfl,(a.out nq).1,(a.out nq).2⟩
theorem qk9(W:World)(b:Nat)(s:Src)(h:qad W b s)(f:(s.within:Int)=s.depth):Calls prog 183 #[.pointer (some ⟨b,0,none⟩)] W λe a=>qan 11 ((s.pos:Int)-1) e/\But b W a/\∃p,qad a b {s with pos:=p}:=by
 have i:W.cell? ⟨b,1,none⟩=some (.int .i64 s.depth):=qaa h.row 1;have j:W.cell? ⟨b,4,none⟩=some (.int .i64 s.within):=qaa h.row 4;have g:((s.within:Int)==s.depth)=true:=by simpa using f
 have d:=λn=>qav (W.drewN n) b s 11 (h.drewN n);have c:=qab h;go_enter func183,ntmps183;go_wp2
 go_quiet (fail)
 go_wp2_with(first
  |(go_at_call 189;refine(d nq).mono ?_;rintro e k ⟨hF,rfl⟩;obtain rfl:=hF))
 exact⟨rfl,rfl,But.of_below (qao W nq),_,c.out.drewN nq⟩
theorem qk7(W:World)(b k:Nat)(s:Src)(h:qad W b s)(d:s.within=k+1)(i:s.within<=1000000):Calls prog 211 #[.pointer (some ⟨b,0,none⟩)] W λe c=>e=.returned (.tuple #[])/\qad c b {s with within:=k}/\But b W c:=by
 have j:W.cell? ⟨b,4,none⟩=some (.int .i64 ((k:Int)+1)):=by
  have:=qaa h.row 4;rw[this];show some (Value.int .i64 (s.within:Int))=_;rw[d];rfl
 have f:=kaK W b 4 _ _ h.row;have a:Hid (qad (W.setCell ⟨b,4,none⟩ (.int .i64 k)) b {s with within:=k}/\But b W (W.setCell ⟨b,4,none⟩ (.int .i64 k))):=qff k 0 h;have g:k<=1000000:=by omega
 go_enter func211,ntmps211;go_wp2;go_end0;exact⟨rfl,a.out.1,a.out.2⟩

end
section
open Go.RowKit Go.Shelf
section
attribute[local go_sem] Oper.semAt_some
structure Tr(N k:Nat)(W W':World):Prop where
 below:Below N W W'
 keep:KeepsOthers W W'
 mid:qcE k (k+3) W W'
theorem Tr.refl(N k:Nat)(W:World):Tr N k W W:=⟨kam _ _,KeepsOthers.refl _,qcE.refl _ _ _⟩
theorem Tr.trans{A B C:World}(h:Tr N k A B)(g:Tr N k B C):Tr N k A C:=⟨h.below.trans g.below,h.keep.trans g.keep,h.mid.trans g.mid⟩
theorem Tr.alloc(N k:Nat)(W:World)(o:Obj)(a:N<=W.heap.size)(b:k+3<=W.heap.size):Tr N k W (W.alloc o) :=
 ⟨(kam _ _).alloc a _,KeepsOthers.alloc _ _,⟨by simp,λi _ h=>kae _ _ _ (by omega)⟩⟩
theorem Tr.set(N k:Nat)(W:World)(p:Nat)(v:Value)(c:N<=p)(e:p<k\/k+3<=p):Tr N k W (W.setCell ⟨p,0,none⟩ v) :=
 ⟨(kam _ _).trans ⟨rfl,rfl,rfl,by simp[World.setCell],λi d=>kat W _ _ _ (by simp;omega)⟩,KeepsOthers.setCell _ _ _,⟨by simp[World.setCell],λi a b=>kat W _ _ _ (by simp;omega)⟩⟩
theorem Tr.below'(h:Below W.heap.size W W')(b:N<=W.heap.size)(d:k+3<=W.heap.size):Tr N k W W' :=
 ⟨h.mono b,⟨h.size,λi o a _=>(h.block i (ltA a)).trans a⟩,⟨h.size,λi _ c=>h.block i (by omega)⟩⟩
theorem Tr.grown{e:TypeId}(l:W.ownsRow base e size v n xs)(a:W.grownBy W' v.ownBlock)(w:base<=W.heap.size)(u:N<=base)(y:k+3<=base):Tr N k W W':=by
 have m:∀g,v.ownBlock=some g->base<=g:=λg h=>by
  rcases l.2 with⟨b,_⟩|⟨r,p,q,rfl,c,_⟩
  ·subst b;cases h
  cases h;exact c
 refine⟨⟨a.os,a.tape,a.output,a.size,λi x=>a.block i (by omega) (λh=>by have:=m i h.symm;omega)⟩,KeepsOthers.of_grownBy a (λj o d f=>?_),⟨a.size,λi _ t=>a.block i (by omega) (λh=>by have:=m i h.symm;omega)⟩⟩;rcases l.2 with⟨b,_⟩|⟨r,p,q,rfl,c,s,_⟩
 ·subst b;cases d
 cases d;rw[s]at f;cases f;rfl
structure qxY(w:World)(pre:List Str)(c:Code)(W:World):Prop where
 ret:c=.ret
 below:Below w.heap.size w W
 r0:Boxed W w.heap.size 176 (.slice none 0 0)
 r1:Boxed W (w.heap.size+1) 4 (.bool false)
 bad:8<pre.length\/pre.all (λx=>qhx (lst x))=false
 size:w.heap.size+6<=W.heap.size
theorem qxY.own{pre:List Str}{c:Code}{row:Nat}(h:qxY w pre c W)(a:W.grownBy W' (some row))(b:w.heap.size+2<=row):qxY w pre c W' :=
 ⟨h.ret,h.below.trans ⟨a.os,a.tape,a.output,a.size,λi d=>a.block i (by have:=h.size;omega) (by intro e;cases e;omega)⟩,h.r0.kept a (by intro e;cases e;omega),h.r1.kept a (by intro e;cases e;omega),h.bad,kaj h.size a.size⟩
theorem quj(w W:World):Tr w.heap.size (w.heap.size+3) W ((W.setCell ⟨w.heap.size,0,none⟩ (.slice none 0 0)).setCell ⟨w.heap.size+1,0,none⟩ (.bool false)) :=
 (Tr.set _ _ W w.heap.size _ (kaf _) (by omega)).trans (Tr.set _ _ _ (w.heap.size+1) _ (by omega) (by omega))
def sgL:Nat->List UInt8
 |0=>[42]
 |1=>[42,42]
 |_=>[91,93]
theorem Tryz.infoSeg:(prog.info? 183).map (λi=>(i.zero,i.size,i.bytes))=some (some (.agg #[.int .i64 0,.string ByteArray.empty]),2,24):=by kernel_rfl
theorem qs1(w:World)(s:ByteArray)(a:World)(b:((((((w.alloc (.cells #[.slice none 0 0] 176)).alloc (.cells #[.bool false] 4)).alloc (.cells #[.slice none 0 0] 176)).alloc (.cells #[.string s] 9)).alloc (.cells #[.string ⟨#[47]⟩] 9)).alloc (.cells #[.int .i64 0] 3))=a):qhm (w.heap.size+3) 47 a s:=by
 subst b;generalize hA:((w.alloc (.cells #[.slice none 0 0] 176)).alloc (.cells #[.bool false] 4)).alloc (.cells #[.slice none 0 0] 176)=A;have c:w.heap.size+3=A.heap.size:=by rw[<-hA];simp
 rw[c];refine⟨?_,?_,?_⟩
 ·exact((kae _ _ _ (by simp;omega)).trans (kae _ _ _ (by simp))).trans (qac A _)
 ·refine(kae _ _ _ (by simp)).trans ?_;have:=qac (A.alloc (.cells #[.string s] 9)) (.cells #[.string ⟨#[47]⟩] 9);rwa[kad]at this
 have:=qac ((A.alloc (.cells #[.string s] 9)).alloc (.cells #[.string ⟨#[47]⟩] 9)) (.cells #[.int .i64 0] 3);rwa[kad,kad]at this
theorem qb2{e:TypeId}(c:W.ownsRow base e size v n xs)(h:v.ownBlock=some g):base<=g:=by
 rcases c.2 with⟨a,_⟩|⟨i,d,f,rfl,b,_⟩
 ·subst a;cases h
 cases h;exact b
theorem qiN(h:(x.1.toList==sgL i)=true):qhx (lst x)=true:=by
 have e:lst x=sgL i:=by unfold lst;rw[<-kaX];exact kdo h
 rw[e];unfold qhx
 match i with
 |0=>simp[sgL]
 |1=>simp[sgL]
 |_+2=>simp[sgL]
theorem qxn(h:∀i,i<3->(x.1.toList==sgL i)=false):qhx (lst x)=qhk x.1.data.toList:=by
 have e:lst x=x.1.toList:=by unfold lst;rw[<-kaX]
 have a:=h 0 (by omega);have b:=h 1 (by omega);have c:=h 2 (by omega);simp only[sgL]at a b c;unfold qhx;rw[e,a,b,c,kaX];simp
theorem qce(w:World)(o:Obj)(cs:Array Value)(t:TypeId):∀(j:Nat) (u:Value),cs.toList[j]?=some u->((w.alloc o).alloc (.cells cs t)).cell? ((⟨w.heap.size+1,0,none⟩:Addr).add j)=some u:=λj u a=>by
 have:=kbg ((w.alloc o).alloc (.cells cs t)) (w.heap.size+1) j cs t (0,0) (by have:=qac (w.alloc o) (.cells cs t);rwa[kad]at this);rw[qdb,kaL,this];simpa using a
theorem qjD(w:World)(cs:Array Value)(t:TypeId):∀(j:Nat) (u:Value),cs.toList[j]?=some u->(w.alloc (.cells cs t)).cell? ((⟨w.heap.size,0,none⟩:Addr).add j)=some u:=λj u a=>by
 rw[qdb,kaL,kbg _ _ _ _ _ _ (qac _ _)];simpa using a
theorem qxv{hs:s.size<=2000}{xs:List Str}(d:(s.toList==[46])=false)(h:xs.map lst=qam 47 (lst ⟨s,hs⟩))(b:xs.length<=8)(c:xs.all (λx=>qhx (lst x))=true):qfe s.data.toList=true:=by
 have a:qam 47 s.data.toList=xs.map lst:=h.symm;unfold qfe;rw[a,<-kaX,d,kaP,kax b,kej];simpa[Function.comp]using c
theorem qyb{hs:s.size<=2000}{pre:List Str}{r:List (List UInt8)}(c:(s.toList==[46])=false)(h:qam 47 (lst ⟨s,hs⟩)=pre.map lst++r)(a:8<pre.length\/pre.all (λx=>qhx (lst x))=false):qfe s.data.toList=false:=by
 have b:qam 47 s.data.toList=pre.map lst++r:=h;unfold qfe;rw[b,<-kaX,c,kcv,kej];rcases a with a|a
 ·rw[kaz (by rw[kaa,kaP];omega)];simp
 have:(pre.all (qhx∘lst))=false:=a;rw[this];simp
theorem qxz(V:World):(Instr.index 226 (.agg #[.string ⟨#[42]⟩,.int .i64 0,.string ⟨#[42,42]⟩,.int .i64 1,.string ⟨#[91,93]⟩,.int .i64 2]) (.int .i64 0)).run prog V=.ok (.agg #[.string ⟨#[42]⟩,.int .i64 0]) V:=by kernel_rfl
theorem qvV(V:World):(Instr.index 226 (.agg #[.string ⟨#[42]⟩,.int .i64 0,.string ⟨#[42,42]⟩,.int .i64 1,.string ⟨#[91,93]⟩,.int .i64 2]) (.int .i64 1)).run prog V=.ok (.agg #[.string ⟨#[42,42]⟩,.int .i64 1]) V:=by kernel_rfl
theorem qvq(V:World):(Instr.index 226 (.agg #[.string ⟨#[42]⟩,.int .i64 0,.string ⟨#[42,42]⟩,.int .i64 1,.string ⟨#[91,93]⟩,.int .i64 2]) (.int .i64 2)).run prog V=.ok (.agg #[.string ⟨#[91,93]⟩,.int .i64 2]) V:=by kernel_rfl
theorem qq4{md:Region.Mode}{ops:Array Oper}{fuel:Nat}{listed:Array Bool}(L:Array Bool)(b:Nat)(c:World->List (Nat×Value))(T:World->Prop)(d:World->World)(e:(∀V,T V->wpAnyIn F n P md ops Q b L ((c V).foldl (λa p=>a.put (some p.1) p.2) a) (d V))->wpAnyIn F n P md ops Q fuel listed a w)(f:∀V,T V->wpAnyIn F n P md ops Q b L ((c V).foldl (λa p=>a.put (some p.1) p.2) a) (d V)):wpAnyIn F n P md ops Q fuel listed a w:=e f
theorem qgT{nF:Nat}(s x:Operand)(t:TypeId)(p:o.op=.call {callee:=.builtin .append,args:=#[s,x],argTypes:=#[t,t]})(f:Nat)(e:TypeId)(i:TypeInfo)(z:Value)(size l:Nat)(R:P.underlying t=some (.slice e))(hi:P.info? e=some i)(T:i.zero=some z)(N:i.size=size)(D:i.bytes=l)(U:z.cells.size=size)(O:0<size)(v:Value)(n:Nat)(q:List Value)(M:a.eval s=v)(J:w.ownsRow f e size v n q)(k:Addr)(m c:Nat)(b:List Value)(S:a.eval x=.slice (some k) m c)(H:b.length=m*size)(I:∀j u,b[j]?=some u->w.cell? (k.add j)=some u)(r:∀u∈b,u.oneCell'=true)(B:n+m<=maxLen)(E:(n+m)*l<=140737488355328)(C:f<=w.heap.size)(h:∀g d,d.ownsRow f e size g (n+m) (q++b)->w.grownBy d v.ownBlock->K (a.put o.dst g) d):o.wpIn F nF P a w K Q:=by
 obtain⟨g,d,L,y,A,_⟩:=kcK (P:=P) w f t o.type e i z size l R hi T N D U O v n q J k m c b H I r B E C;unfold Oper.wpIn;refine⟨by simp[Oper.about,p,resolve,Target.leads,kby],?_⟩;rw[Oper.semAt_plain F _ _ (by rw[p];intro c G;cases G)];simp[execOp,p,resolve,invoke,builtin,M,S,L,Result.andThen];exact h g d y A
end

end
section
open Go.RowKit
def stA(Y:Nat->Nat)(x:Int×Int):Array Value:=plA Y++#[.int .i64 x.1,.int .i64 x.2]
theorem ifw{c:Prop}[Decidable c]{A B:Prop}(h:c)(a:A):if c then A else B:=by rw[kag h];exact a
theorem qtx(Y:Nat->Nat)(x:Int×Int)(V:World):(Instr.buildSlice 137 1 #[(0,.agg (stA Y x))]).run prog V=.ok (.slice (some ⟨V.heap.size,0,none⟩) 1 1) (V.alloc (.cells (stA Y x) 189)):=by kernel_rfl
theorem qit(x:Operand)(b:o.op=.buildSlice 137 1 #[(0,x)])(Y:Nat->Nat)(z:Int×Int)(c:a.eval x=.agg (stA Y z))(h:K (a.put o.dst (.slice (some ⟨w.heap.size,0,none⟩) 1 1)) (w.alloc (.cells (stA Y z) 189))):o.wp prog a w K Q:=by
 have e:(#[(0,x)].map λ(i,y)=>(i,a.eval y))=#[((0:Nat),Value.agg (stA Y z))]:=by simp[c]
 unfold Oper.wp execOp;simp only[b,kbb,e,qtx,kaJ];exact h
theorem qf8(s x:Operand)(t:TypeId)(H:o.op=.call {callee:=.builtin .append,args:=#[s,x],argTypes:=#[t,t]})(g:Nat)(e:TypeId)(i:TypeInfo)(z:Value)(size l:Nat)(O:P.underlying t=some (.slice e))(hi:P.info? e=some i)(S:i.zero=some z)(M:i.size=size)(D:i.bytes=l)(T:z.cells.size=size)(N:0<size)(v:Value)(n:Nat)(p:List Value)(L:a.eval s=v)(I:w.ownsRow g e size v n p)(k:Addr)(m c:Nat)(d:List Value)(R:a.eval x=.slice (some k) m c)(F:d.length=m*size)(G:∀j u,d[j]?=some u->w.cell? (k.add j)=some u)(q:∀u∈d,u.oneCell'=true)(B:n+m<=maxLen)(E:(n+m)*l<=140737488355328)(C:g<=w.heap.size)(h:∀b f,f.ownsRow g e size b (n+m) (p++d)->w.grownBy f v.ownBlock->(b.ownBlock=v.ownBlock\/b.ownBlock=some w.heap.size)->K (a.put o.dst b) f):o.wp P a w K Q:=by
 obtain⟨b,f,J,r,y,_,A⟩:=run_append_own_at (P:=P) w g t o.type e i z size l O hi S M D T N v n p I k m c d F G q B E C;unfold Oper.wp execOp;simp only[H,resolve,invoke,builtin,kbb,kby,kaJ,kco,kaH,kb8,L,R,J];exact h b f r y A
theorem qjY{e:TypeId}(d:W.ownsRow base e size v n xs)(h:v.ownBlock=some g):g<W.heap.size:=by
 rcases d.2 with⟨a,_⟩|⟨b,f,i,a,_,c,_⟩
 ·subst a;cases h
 subst a;have e:b=g:=by simpa[Value.ownBlock]using h
 subst e;exact ltA c
theorem Tryz.infoSt:(prog.info? 189).map (λi=>(i.zero,i.size,i.bytes))=some (some (.agg (stA zPl (0,0))),18,48):=by kernel_rfl
theorem qpM(Y:Nat->Nat)(x:Int×Int):∀u∈(stA Y x).toList,u.oneCell'=true:=by
 intro u a;simp[stA,plA]at a;rcases a with⟨i,_,rfl⟩|rfl|rfl<;>rfl
theorem qcy.next(h:qcy W0 A q sts sv nf mn mf W)(a:Below W.heap.size W W'):qcy W0 A q sts sv nf mn mf W':=by
 have b:W.grownBy W' none:=⟨a.os,a.tape,a.output,a.size,λi c _=>a.block i c⟩
 obtain⟨e,d,f⟩:=h.takes;exact{h with
  row:=(a.block _ (ltA h.row)).trans h.row
  below:=h.below.trans (a.mono h.below.size)
  letters:=h.letters.kept b (by simp)
  takes:=⟨e,(a.block _ (ltA d)).trans d,f⟩
  states:=qiS h.states (λi c=>a.block i c)
  numbers:=h.numbers.kept b (by simp)
  moves:=h.moves.kept b (by simp)}
theorem qqx(a:List ((Nat->Nat)×Int×Int))(Y:Nat->Nat)(J:Int×Int):(a++[(Y,J)]).flatMap stC=a.flatMap stC++(stA Y J).toList:=by
 simp[stC,stA]
theorem qsr(q:Aut)(b a:Value):(qzu q b).setIfInBounds 20 a=qzu q a:=rfl
theorem qdo.cell{kt:TypeId}(h:qdo W kt m n f)(A j:Nat)(v:Value)(c:m≠A):qdo (W.setCell ⟨A,j,none⟩ v) kt m n f:=by
 obtain⟨D,a,b⟩:=h;exact⟨D,a.setCell (by simpa using c) v,b⟩
theorem qdo.drew{kt:TypeId}(h:qdo W kt m n f):qdo W.drew kt m n f:=h
theorem qd1{e:TypeId}(h:W.ownsRow base e size v n xs)(k:∀g,v.ownBlock=some g->W'.heap[g]?=W.heap[g]?):W'.ownsRow base e size v n xs:=by
 refine⟨h.1,?_⟩;rcases h.2 with a|⟨b,c,d,a,f,j,i⟩
 ·exact .inl a
 exact .inr ⟨b,c,d,a,f,(k b (by rw[a];rfl)).trans j,i⟩
structure qmR(A:Nat)(q:Aut)(sv:Value)(W W':World):Prop where
 size:W.heap.size<=W'.heap.size
 block:∀i,i<W.heap.size->some i≠sv.ownBlock->i≠A->i≠q.nb->i≠q.mb->W'.heap[i]?=W.heap[i]?
theorem qxQ{X:World}(h:qcy W0 A q sts sv nf mn mf X){Y:Nat->Nat}(P:∀r,Y r<512){l:Lit}(v:keyOf prog 135 (.agg (plA Y))=some l)(hi:nf l=none)(ab:sts.length<100000){v':Value}{w4:World}(B:w4.ownsRow W0.heap.size 189 18 v' (sts.length+1) (sts.flatMap stC++(stA Y (jdg q.dflt q.rs Y 0)).toList))(d:X.grownBy w4 sv.ownBlock)(S:v'.ownBlock=sv.ownBlock\/v'.ownBlock=some X.heap.size):∃f,(Instr.mapUpdate 131 (.map (some q.nb)) (.agg (plA Y)) (.int .i64 sts.length)).run prog (w4.setCell ⟨A,20,none⟩ v').drew=.ok () f/\(w4.setCell ⟨A,20,none⟩ v').drew.grownBy f (some q.nb)/\(∀i,i<X.heap.size->some i≠sv.ownBlock->i≠A->i≠q.nb->f.heap[i]?=X.heap[i]?)/\X.heap.size<=f.heap.size/\∃m,qcy W0 A q (sts++[(Y,jdg q.dflt q.rs Y 0)]) v' m mn mf f:=by
 obtain⟨F,H,y,I,a5,J,a7,K,a9,G⟩:=h.apart;obtain⟨u1,u2,u3,u4,u5⟩:=h.high;have U:some A≠sv.ownBlock:=λe=>(h.own A e.symm).1 rfl;have V:some q.lm≠sv.ownBlock:=λe=>(h.own _ e.symm).2.1 rfl;have nt:some q.tb≠sv.ownBlock:=λe=>(h.own _ e.symm).2.2.1 rfl;have Z:some q.nb≠sv.ownBlock:=λe=>(h.own _ e.symm).2.2.2.1 rfl;have W:some q.mb≠sv.ownBlock:=λe=>(h.own _ e.symm).2.2.2.2 rfl;obtain⟨L,E,t2⟩:=h.takes;have T:=ltA h.row;have lt:=ltA E;have ll:=h.letters.lt;have ln:=h.numbers.lt;have lm:=h.moves.lt;have O:=((h.numbers.kept d Z).cell A 20 v' y.symm).drew;obtain⟨f,R,Q,c⟩:=qmQ O plK underlying131 (by omega) v sts.length (by omega);have w:∀g,v'.ownBlock=some g->g≠A/\g≠q.lm/\g≠q.tb/\g≠q.nb/\g≠q.mb:=by
  intro g e;rcases S with j|j
  ·exact h.own g (j.symm.trans e)
  rw[j]at e;have e:X.heap.size=g:=by simpa using e
  omega
 have t:∀i,i<X.heap.size->some i≠sv.ownBlock->i≠A->i≠q.nb->f.heap[i]?=X.heap[i]?:=by
  intro i h1 p M N;have s4:=kai h1 d.size;have s:(w4.setCell ⟨A,20,none⟩ v').drew.heap.size=w4.heap.size:=by simp[World.setCell,World.drew]
  exact(c.block i (by rw[s];exact s4) (by simpa using N)).trans ((kaG w4 _ _ _ (by simpa using M)).trans (d.block i h1 p))
 obtain⟨m,e1,j⟩:∃m:Lit->Option Nat,m l=some sts.length/\∀b,b≠l->m b=nf b:=by
  have:=Classical.propDecidable;exact⟨λb=>if b=l then some sts.length else nf b,kag rfl,λb n=>kac n⟩
 have D:X.heap.size<=f.heap.size:=by
  have:=d.size;have p:=c.size;have s:(w4.setCell ⟨A,20,none⟩ v').drew.heap.size=w4.heap.size:=by simp[World.setCell,World.drew]
  omega
 refine⟨f,R,c,t,D,m,?_⟩;exact{
  row:=by
   have r4:=(d.block A T U).trans h.row;have C:(w4.setCell ⟨A,20,none⟩ v').drew.heap[A]?=some (.cells (qzu q v') 139):=by
    have:=kaO w4 A 20 _ _ v' r4;rw[qsr]at this;exact this
   exact(c.block A (ltA C) (by simpa using y)).trans C
  rules:=h.rules
  few:=h.few
  below:=⟨by rw[c.os];exact d.os.trans h.below.os,by rw[c.tape];exact d.tape.trans h.below.tape,by rw[c.output];exact d.output.trans h.below.output,kaj h.below.size D,λi hi=>(t i (kai hi h.below.size) (λe=>by have:=qb2 h.states e.symm;omega) (by omega) (by omega)).trans (h.below.block i hi)⟩
  letters:=(((h.letters.kept d V).cell A 20 v' F.symm).drew).kept c (by simpa using J)
  takes:=⟨L,(t _ lt nt H.symm K).trans E,t2⟩
  states:=by
   rw[qqx,kaa];refine qd1 B λg e=>?_;have s:(w4.setCell ⟨A,20,none⟩ v').drew.heap.size=w4.heap.size:=by simp[World.setCell,World.drew]
   exact(c.block g (by rw[s];exact qjY B e) (by have:=(w g e).2.2.2.1;simpa using this)).trans (kaG w4 _ _ _ (by have:=(w g e).1;simpa using this))
  numbers:=by
   rw[kaa];exact Q m e1 j
  moves:=(((h.moves.kept d W).cell A 20 v' I.symm).drew).kept c (by simpa using G.symm)
  high:=h.high
  apart:=h.apart
  own:=w
  bits:=h.bits
  here:=λi x a=>by
   by_cases u:i<sts.length
   ·rw[kau u]at a;exact h.here i x a
   rw[kas (by omega)]at a;obtain⟨_,rfl⟩:i-sts.length=0/\(Y,jdg q.dflt q.rs Y 0)=x:=by
    cases o:i-sts.length with
    |zero=>rw[o]at a;exact⟨rfl,by simpa using a⟩
    |succ k=>rw[o]at a;simp at a
   exact⟨rfl,P⟩
  num:=λi x a b z=>by
   by_cases u:i<sts.length
   ·rw[kau u]at a;have:=h.num i x a b z;rw[j b (λe=>by rw[e,hi]at this;cases this)];exact this
   rw[kas (by omega)]at a;obtain⟨aa,rfl⟩:i-sts.length=0/\(Y,jdg q.dflt q.rs Y 0)=x:=by
    cases o:i-sts.length with
    |zero=>rw[o]at a;exact⟨rfl,by simpa using a⟩
    |succ k=>rw[o]at a;simp at a
   have e:=kaE (z.symm.trans v);rw[e,e1,show i=sts.length by omega]
  num':=λb i n=>by
   by_cases e:b=l
   ·subst e;rw[e1]at n;have e:=kaE n;subst e;exact⟨(Y,jdg q.dflt q.rs Y 0),by simp,v⟩
   rw[j b e]at n;obtain⟨x,h1,p⟩:=h.num' b i n;exact⟨x,by rw[kau (ltL h1)];exact h1,p⟩}
def qwg(sv sv':Value)(W:World):Prop:=sv'.ownBlock=sv.ownBlock\/∃g,sv'.ownBlock=some g/\W.heap.size<=g
theorem qwg.mono{sv':Value}{V:World}(h:qwg sv sv' V)(a:W.heap.size<=V.heap.size):qwg sv sv' W:=h.imp id (λ⟨g,e,h⟩=>⟨g,e,kaj a h⟩)
theorem qlZ(v:World)(A:Nat)(q:Aut)(a:List ((Nat->Nat)×Int×Int))(f:Option Addr)(i:Nat)(x:Lit->Option Nat)(D:Nat)(C:Lit->Option Nat)(W:World)(h:qcy v A q a (.slice f a.length i) x D C W)(Y:Nat->Nat)(T:∀r,Y r<512)(l:Lit)(X:keyOf prog 135 (.agg (plA Y))=some l)(hi:x l=none)(az:a.length<100000):Calls prog 58 #[.pointer (some ⟨A,0,none⟩),.agg (plA Y)] W λe R=>e=.returned (.int .i64 a.length)/\qmR A q (.slice f a.length i) W R/\∃ab ac N,qwg (.slice f a.length i) (.slice ab (a.length+1) ac) W/\qcy v A q (a++[(Y,jdg q.dflt q.rs Y 0)]) (.slice ab (a.length+1) ac) N D C R:=by
 have P:Hid ((W.alloc (.cells (plA Y) 135)).heap[W.heap.size]?=some (.cells (plA Y) 135)):=qac _ _;have E:Hid (qcy v A q a (.slice f a.length i) x D C (W.alloc (.cells (plA Y) 135))):=h.next bwA
 have a3:A≠W.heap.size:=by have:=ltA h.row;omega
 have af:=qab h.numbers.lt;have ag:Hid (∀g,(Value.slice f a.length i).ownBlock=some g->g<W.heap.size):=λg e=>qjY h.states e;go_enter func58,ntmps58;go_wp2;have HW:Hid (Below W.heap.size W (W.alloc (.cells (plA Y) 135))):=bwA;generalize W.alloc (.cells (plA Y) 135)=V at *;refine rgn (S:=λZ=>Z.cell? ⟨A,21,none⟩=some (.map (some q.nb))/\Z.heap[W.heap.size]?=some (.cells (plA Y) 135)/\qdo Z 135 q.nb a.length x) (⟨qaa E.out.row 21,P.out,E.out.numbers⟩) (by kernel_rfl) ?_;intro b;refine tkp 0 10 (.pointer (some ⟨A,0,none⟩)) b ?_;refine tkp 1 11 (.pointer (some ⟨A,0,none⟩)) b ?_;refine tkp 2 12 (.pointer (some ⟨A,21,none⟩)) b ?_;refine tkq 3 13 (.map (some q.nb)) rfl (λZ d=>?y3) b ?_
 case y3=>(have z1:=d.1;go_simp)
 refine tkq 4 14 (.agg (plA Y)) rfl (λZ d=>?y4) b ?_
 case y4=>exact qjp 135 (.tmp 3) rfl W.heap.size rfl _ _ _ _ d.2.1 underlying135 rfl (qbo Y)
 refine tkq 5 15 (.tuple #[.int .i64 0,.bool false]) rfl (λZ d=>?y5) b ?_
 case y5=>(have z2:=qdQ d.2.2 plK underlying131 X;rw[hi]at z2;go_simp)
 refine tkp 6 9 (.tuple #[.int .i64 0,.bool false]) b ?_;refine tkp 7 16 (.int .i64 0) b ?_;refine tkp 8 17 (.bool false) b ?_;refine tkp 9 5 (.int .i64 0) b ?_;refine tkp 10 6 (.bool false) b ?_;refine wdn ?_;go_simp;have m:=qab (E.out.next (kam _ _).drew);have G:Hid ((World.drew V).heap[W.heap.size]?=some (.cells (plA Y) 135)):=P.out;have Q:=qab (HW.out.drew);generalize World.drew V=V1 at *;have al:V1.cell? ⟨A,20,none⟩=some (.slice f a.length i):=qaa m.out.row 20;have cJ:=qpv V1 A q.ra q.rc q.dflt q.rs Y (λr=>by have:=T r;omega) m.out.few.1 m.out.few.2 (ltA m.out.row) (qaa m.out.row 0) (qaa m.out.row 1) (m.out.rules.below m.out.below)
 go_wp2_with(first
  |(go_at_call 84;refine cJ.mono ?_;rintro e k ⟨rfl,M⟩;have F:=qab (m.out.next M);have H:=qab ((M.block _ (ltA G.out)).trans G.out);have y:=qab (Q.out.trans (M.mono Q.out.size));have al:k.cell? ⟨A,20,none⟩=some (.slice f a.length i):=qaa F.out.row 20)
  |(refine kak rfl 135 (.tmp 3) rfl W.heap.size rfl _ _ _ _ G.out underlying135 rfl (qbo Y) ?_))
 obtain⟨si,ay,au,av,aw⟩:=kaF Tryz.infoSt;have a2:=ltA F.out.row;have s:Hid (qcy v A q a (.slice f a.length i) x D C (k.drew.alloc (.cells (stA Y (jdg q.dflt q.rs Y 0)) 189))):=(F.out.next (kam _ _).drew).next bwA
 have w:(λZ:World=>Z.heap[W.heap.size]?=some (.cells (plA Y) 135)) (k.drew.alloc (.cells (stA Y (jdg q.dflt q.rs Y 0)) 189)):=(kae k.drew _ _ (ltA H.out)).trans H.out;have ah:Hid (∀(j:Nat) (ad:Value),(stA Y (jdg q.dflt q.rs Y 0)).toList[j]?=some ad->(k.drew.alloc (.cells (stA Y (jdg q.dflt q.rs Y 0)) 189)).cell? ((⟨k.heap.size,0,none⟩:Addr).add j)=some ad):=qdI k.drew _ _;refine rgn (S:=λZ=>Z.heap[W.heap.size]?=some (.cells (plA Y) 135)) (H.out) (by kernel_rfl) ?_;intro b;refine tkp 0 31 (.pointer (some ⟨A,0,none⟩)) b ?_;refine tkp 1 32 (.pointer (some ⟨A,0,none⟩)) b ?_;refine tkp 2 33 (.pointer (some ⟨A,0,none⟩)) b ?_;refine tkp 3 34 (.pointer (some ⟨A,20,none⟩)) b ?_;refine tkq 5 36 (.agg (plA Y)) rfl (λZ d=>?y5) b ?_
 case y5=>exact qjp 135 (.tmp 3) rfl W.heap.size rfl _ _ _ _ d underlying135 rfl (qbo Y)
 refine tkp 6 37 (.int .i64 (jdg q.dflt q.rs Y 0).1) b ?_;refine tkp 7 38 (.int .i64 (jdg q.dflt q.rs Y 0).2) b ?_;refine tkq 8 39 (.agg (stA Y (jdg q.dflt q.rs Y 0))) rfl (λZ d=>?y8) b ?_
 case y8=>kernel_rfl
 refine qmU 4 9 (λK c=>?_) (λK c=>?_)
 focus
  go_simp;refine c.out _ _ b (λ_=>?_);refine rdq 9 (λK c=>?_);refine ifw (by kernel_rfl) ?_;refine qit (.tmp 39) rfl Y (jdg q.dflt q.rs Y 0) (by kernel_rfl) ?_;refine c.out _ _ w (λ_=>?_)
 rotate_left
 focus
  refine ifw (by kernel_rfl) ?_;refine qit (.tmp 39) rfl Y (jdg q.dflt q.rs Y 0) (by kernel_rfl) ?_;refine c.out _ _ w (λ_=>?_);refine rdq 4 (λK c=>?_);go_simp;refine c.out _ _ w (λ_=>?_)
 all_goals
  refine rdq 10 (λK c=>?_);refine ifw (by kernel_rfl) ?_;refine qf8 (.tmp 35) (.tmp 40) 137 rfl v.heap.size 189 si _ 18 48 underlying137 ay au av aw rfl (by decide) (.slice f a.length i) _ _ (by kernel_rfl) s.out.states ⟨k.heap.size,0,none⟩ 1 1 (stA Y (jdg q.dflt q.rs Y 0)).toList (by kernel_rfl) ?hln ah.out (qpM _ _) (by unfold maxLen;omega) (by omega) s.out.below.size ?_
  case hln=>simp[stA,plA]
  intro v' n u ar aa;obtain⟨p,o,rfl⟩:=ownsRow_succ u;have aj:=qab u;have I:=qab ar;have ak:=qab aa;have ai:Hid (qwg (.slice f a.length i) (.slice (some ⟨p,0,none⟩) (a.length+1) o) W):=aa.imp id (λe=>⟨_,e,by have L:=y.out.size;simp;omega⟩);have an:=ltA s.out.row;have J:=qab ((I.out.block A an (λe=>(s.out.own A e.symm).1 rfl)).trans s.out.row);have z:(λZ:World=>Z.heap[W.heap.size]?=some (.cells (plA Y) 135)) n:=(I.out.block W.heap.size (ltA w) (λe=>by have:=ag.out _ e.symm;omega)).trans w;have a0:n.cell? ⟨A,20,none⟩=some (.slice f a.length i):=qaa J.out 20;have a1:=kaK n A 20 _ _ J.out;have B:(λZ:World=>Z.heap[W.heap.size]?=some (.cells (plA Y) 135)) (n.setCell ⟨A,20,none⟩ (.slice (some ⟨p,0,none⟩) (a.length+1) o)):=(kaG n _ _ _ (by simp;omega)).trans z;refine c.out _ _ z (λ_=>?_);refine tkp 11 42 (.pointer (some ⟨A,0,none⟩)) z ?_;refine tkp 12 43 (.pointer (some ⟨A,20,none⟩)) z ?_;refine rdq 13 (λK c=>?_);go_simp;refine c.out _ _ B (λ_=>?_);refine wdn ?_;go_simp;obtain⟨w6,a4,aq,ap,ax,N,am⟩:=qxQ s.out T X hi az aj.out I.out ak.out;have O:=qab am;have ae:Hid (qmR A q (.slice f a.length i) W w6):=by
   have s3:k.heap.size<=(k.drew.alloc (.cells (stA Y (jdg q.dflt q.rs Y 0)) 189)).heap.size:=by rw[kad];exact kda _
   refine⟨kaj y.out.size (kaj s3 ax),λj L h2 h3 h4 _=>?_⟩;have U:=kai L y.out.size;exact(ap j (kai U s3) h2 h3 h4).trans ((kae k.drew _ _ U).trans (y.out.block j L))
  have t:(λZ:World=>Z.cell? ⟨A,21,none⟩=some (.map (some q.nb))/\Z.heap[W.heap.size]?=some (.cells (plA Y) 135)) { (n.setCell ⟨A,20,none⟩ (.slice (some ⟨p,0,none⟩) (a.length+1) o))with drawn:=(n.setCell ⟨A,20,none⟩ (.slice (some ⟨p,0,none⟩) (a.length+1) o)).drawn+1}:=⟨by have h:=kaO n A 20 _ _ (.slice (some ⟨p,0,none⟩) (a.length+1) o) J.out;exact qaa h 21,B⟩
  have ao:(λZ:World=>Z.cell? ⟨A,21,none⟩=some (.map (some q.nb))/\Z.heap[W.heap.size]?=some (.cells (plA Y) 135)) w6:=⟨qaa O.out.row 21,(aq.block W.heap.size (ltA B) (by have:=af.out;simp;omega)).trans B⟩
  generalize n.setCell ⟨A,20,none⟩ (.slice (some ⟨p,0,none⟩) (a.length+1) o)=V5 at *;go_wp2;refine kaM (S:=λZ=>Z.cell? ⟨A,21,none⟩=some (.map (some q.nb))/\Z.heap[W.heap.size]?=some (.cells (plA Y) 135)) (by kernel_rfl) ?_;refine tkp 0 44 (.pointer (some ⟨A,0,none⟩)) t ?_;refine tkp 1 45 (.pointer (some ⟨A,0,none⟩)) t ?_;refine tkp 2 46 (.pointer (some ⟨A,21,none⟩)) t ?_;refine tkq 3 47 (.map (some q.nb)) rfl (λZ d=>?y3) t ?_
  case y3=>(have z1:=d.1;go_simp)
  refine tkq 4 48 (.agg (plA Y)) rfl (λZ d=>?y4) t ?_
  case y4=>exact qjp 135 (.tmp 3) rfl W.heap.size rfl _ _ _ _ d.2 underlying135 rfl (qbo Y)
  refine tkp 5 49 (.int .i64 a.length) t ?_;refine rdq 6 (λK c=>?_);go_simp;refine c.out _ _ ao (λ_=>?_);refine wdn ?_;go_simp;go_wp2;go_ret;exact⟨rfl,ae.out,some ⟨p,0,none⟩,o,N,ai.out,O.out⟩

def NuG(W0:World)(A:Nat)(q:Aut)(sts:List ((Nat->Nat)×Int×Int))(sv:Value)(mn:Nat)(mf:Lit->Option Nat)(Y:Nat->Nat)(W:World)(e:Ending)(W':World):Prop :=
 ∃(i:Nat) (sts':List ((Nat->Nat)×Int×Int)) (sa':Option Addr) (sc':Nat) (nf':Lit->Option Nat),e=.returned (.int .i64 i)/\qmR A q sv W W'/\qwg sv (.slice sa' sts'.length sc') W/\qcy W0 A q sts' (.slice sa' sts'.length sc') nf' mn mf W'/\(∀(j:Nat) (x:(Nat->Nat)×Int×Int),sts[j]?=some x->sts'[j]?=some x)/\sts'.length<=sts.length+1/\∃x,sts'[i]?=some x/\∀r,r<16->x.1 r=Y r
theorem qgM(c:World)(A:Nat)(q:Aut)(a:List ((Nat->Nat)×Int×Int))(k:Option Addr)(m:Nat)(b:Lit->Option Nat)(g:Nat)(f:Lit->Option Nat)(W:World)(h:qcy c A q a (.slice k a.length m) b g f W)(Y:Nat->Nat)(s:∀r,Y r<512)(z:a.length<100000):Calls prog 58 #[.pointer (some ⟨A,0,none⟩),.agg (plA Y)] W (NuG c A q a (.slice k a.length m) g f Y W):=by
 obtain⟨l,p⟩:=qq5 Y (λr=>by have:=s r;omega)
 cases o:b l with
 |some i =>
  refine(qk3 c A q a _ b g f W h Y l p i o).mono ?_;rintro e t ⟨rfl,n⟩;obtain⟨x,B,y⟩:=h.num' l i o;exact⟨i,a,k,m,b,rfl,⟨n.size,λj d _ _ _ _=>n.block j d⟩,.inl rfl,h.next n,λ_ _ w=>w,kda _,x,B,qpt (Value.agg.inj (qqO.inj y p))⟩
 |none =>
  refine(qlZ c A q a k m b g f W h Y s l p o z).mono ?_;rintro e t ⟨rfl,hF,D,E,C,v,u⟩;refine⟨a.length,a++[(Y,jdg q.dflt q.rs Y 0)],D,E,C,rfl,hF,?_,?_,λj x d=>?_,?_,(Y,jdg q.dflt q.rs Y 0),by simp,λ_ _=>rfl⟩
  ·rw[kaa];exact v
  ·rw[kaa];exact u
  ·rw[kau (ltL d)];exact d
  rw[kaa];exact kaf _

theorem stK:Maps.Keyed prog 9:=kcz underlying9
theorem qlP(l:List UInt8)(a:l.length<=maxLen):keyOf prog 9 (.string ⟨l.toArray⟩)=some (.string l):=by
 have b:(⟨l.toArray⟩:ByteArray).size<=maxLen:=by
  show l.toArray.size<=maxLen;rw[kaT];exact a
 simp[keyOf,mapKey,underlying9,b]
theorem qne(l:List UInt8)(a:l.length<=1000000000):keyOf prog 9 (.string ⟨l.toArray⟩)=some (.string l):=qlP l (by unfold maxLen;omega)
def qn0(lf:Lit->Option Nat)(key:List UInt8)(ix:Bool):Nat:=if ix=true then 1 else(lf (.string key)).getD 0
theorem qfL(m:World)(A:Nat)(q:Aut)(t:List ((Nat->Nat)×Int×Int))(u:Value)(s:Lit->Option Nat)(r:Nat)(o:Lit->Option Nat)(W:World)(h:qcy m A q t u s r o W)(a:List UInt8)(d:Bool)(g:a.length<=maxLen):Calls prog 150 #[.pointer (some ⟨A,0,none⟩),.agg #[.string ⟨a.toArray⟩,.bool d]] W λe l=>e=.returned (.int .i64 (qn0 q.lf a d))/\Below W.heap.size W l:=by
 have n:=ltA h.row;have c2:W.cell? ⟨A,2,none⟩=some (.map (some q.lm)):=qaa h.row 2;have f:Hid (qdo (W.alloc (.cells #[.string ⟨a.toArray⟩,.bool d] 247)) 9 q.lm q.ln q.lf):=h.letters.kept (kbd W _ none) (by simp);have w:=qgK f.out stK underlying130 (qlP a g)
 cases d with
 |true =>
  go_enter func150,ntmps150;go_wp2;go_ret;exact⟨rfl,bwA⟩
 |false =>
  obtain⟨x,i⟩:∃x,x=(q.lf (.string a)).getD 0:=⟨_,rfl⟩
  have k:Hid (qn0 q.lf a false=x):=by rw[i];rfl
  have j:=qab i.symm;rw[k.out];go_enter func150,ntmps150;go_wp2;have b:(λZ:World=>Z.cell? ⟨A,2,none⟩=some (.map (some q.lm))/\Z.cell? ⟨W.heap.size,0,none⟩=some (.string ⟨a.toArray⟩)/\qdo Z 9 q.lm q.ln q.lf) { (W.alloc (.cells #[.string ⟨a.toArray⟩,.bool false] 247))with drawn:=(W.alloc (.cells #[.string ⟨a.toArray⟩,.bool false] 247)).drawn+1}:=⟨((((kam W.heap.size W).alloc (kaf _) (.cells #[.string ⟨a.toArray⟩,.bool false] 247)).cell (p:=⟨A,2,none⟩) n).trans c2 :),qaa (qac W _) 0,f.out⟩
  refine kaM (S:=λZ=>Z.cell? ⟨A,2,none⟩=some (.map (some q.lm))/\Z.cell? ⟨W.heap.size,0,none⟩=some (.string ⟨a.toArray⟩)/\qdo Z 9 q.lm q.ln q.lf) (by kernel_rfl) ?_;refine tkp 0 7 (.pointer (some ⟨A,0,none⟩)) b ?_;refine tkp 1 8 (.pointer (some ⟨A,0,none⟩)) b ?_;refine tkp 2 9 (.pointer (some ⟨A,2,none⟩)) b ?_;refine tkq 3 10 (.map (some q.lm)) rfl (λZ c=>?y3) b ?_
  case y3=>(have y:=c.1;go_simp)
  refine tkp 4 11 (.pointer (some ⟨W.heap.size,0,none⟩)) b ?_;refine tkq 5 12 (.string ⟨a.toArray⟩) rfl (λZ c=>?y5) b ?_
  case y5=>(have z:=c.2.1;go_simp)
  refine tkq 6 13 (.int .i64 x) rfl (λZ c=>?y6) b ?_
  case y6=>(have v:=qgK c.2.2 stK underlying130 (qlP a g);rw[j.out]at v;go_simp)
  refine tkp 7 4 (.int .i64 x) b ?_;refine wdn ?_;go_simp;go_wp2;go_ret;exact⟨rfl,(bwA).drew⟩

def qoZ:List UInt8->Nat->Nat
 |[],n=>n
 |c::cs,n=>qoZ cs (n*10+(c.toNat-48))
theorem qpD:∀(a:List UInt8) (n:Nat),n<=qoZ a n
 |[],n=>kaf _
 |c::cs,n=>by
  have:=qpD cs (n*10+(c.toNat-48));unfold qoZ;omega
theorem qhe:∀(b a:List UInt8) (n:Nat),qoZ (b++a) n=qoZ a (qoZ b n)
 |[],a,n=>rfl
 |c::cs,a,n=>by
  show qoZ (cs++a) _=qoZ a (qoZ cs _);exact qhe cs a _
theorem qt3{α:Type}{l:List α}{c:α}{r:List α}(h:l.drop p=c::r):l[p]?=some c/\l.drop (p+1)=r:=by
 constructor
 ·have:=congrArg (λx=>x[0]?) h;simpa using this
 have:=congrArg (λx=>x.drop 1) h;simpa[kbf,Nat.add_comm]using this
theorem qrw{α:Type}{l:List α}(h:l.drop p=[]):l[p]?=none:=by
 have:=congrArg (λx=>x[0]?) h;simpa using this
theorem qgn(d:Nat)(h:d<10):(UInt8.ofNat (48+d)).toNat=48+d:=by
 rw[kbs,kaQ (by omega)]
theorem qnB(d:Nat)(h:d<10):qbO (UInt8.ofNat (48+d))=true:=by
 unfold qbO;rw[qgn d h];simp;omega
theorem qd8(u:Nat):∃c cs,Lib.decDigits u=c::cs/\qbO c=true/\(∀d∈cs,qbO d=true)/\qoZ cs (c.toNat-48)=u/\(c.toNat=48->u=0)/\(u=0->c=48/\cs=[])/\u<10^(cs.length+1):=by
 induction u using Nat.strongRecOn with
 |_ u ih =>
  by_cases h:u<10
  ·rw[Lib.decDigits,dif_pos h];refine⟨_,[],rfl,qnB u h,by simp,?_,?_,?_,by simpa using h⟩
   ·show(UInt8.ofNat (48+u)).toNat-48=u;rw[qgn u h];omega
   ·rw[qgn u h];omega
   rintro rfl;exact⟨rfl,rfl⟩
  rw[Lib.decDigits,dif_neg h];obtain⟨c,cs,e,f,g,i,j,k,l⟩:=ih (u/10) (by omega);refine⟨c,cs++[UInt8.ofNat (48+u%10)],by rw[e];rfl,f,?_,?_,?_,?_,?_⟩
  ·intro d a;rcases kcl.1 a with a|a
   ·exact g d a
   rw[kbI.1 a];exact qnB _ (kd8 _ (by decide))
  ·rw[qhe,i];show u/10*10+((UInt8.ofNat (48+u%10)).toNat-48)=u;rw[qgn _ (kd8 _ (by decide))];omega
  ·intro b;have:=j b;omega
  ·intro b;omega
  rw[kaa,kce];simp only[kah,kay];rw[show cs.length+(0+1)=cs.length+1 by omega];omega

end
end Go.Proofs.YtmajcjammmjimaaGreatDoor
