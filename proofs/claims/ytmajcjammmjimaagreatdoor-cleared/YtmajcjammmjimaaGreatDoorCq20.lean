import Derived.Test.YtmajcjammmjimaaGreatDoorCards
import Derived.Test.YtmajcjammmjimaaGreatDoorTie
import Derived.Carry
import Derived.Deep.DeepHandedRow
import Derived.Lib.LaidTab
import Derived.Test.YtmajcjammmjimaaGreatDoorCq14
set_option maxRecDepth 100000
set_option maxHeartbeats 8000000
set_option linter.all false
namespace Go.Proofs.YtmajcjammmjimaaGreatDoor
open Go.Proofs.Tryz
variable{A L i j n p r row tb:Nat}{V W W' w w5:World}{pre xs:List Str}{s:ByteArray}{q:Aut}{x:Str}{ys:List Value}{sv v v':Value}{rs:List (List (Nat×List UInt8)×Int×Int)}{R:List (Nat×List UInt8)×Int×Int}{st:Nat->Nat}{ks:List (List UInt8)}{tk:Nat->Nat->Nat}
section
open Go.ChangeShapes Go.WideShapes Go.ChangeAt Go.RowKit Go.Lib
theorem Tryz.own:ownKnob prog.godebug=none:=by kernel_rfl
theorem Tryz.laidOut:laidOutB prog=true:=by kernel_rfl
def qjy:Nat->DataW Unit->List Value
 |0,_=>[]
 |_+1,.lit (.int k z)=>[.int k z]
 |_+1,.lit (.string b)=>[.string ⟨b.toArray⟩]
 |n+1,.agg ds=>ds.flatMap (qjy n)
 |_+1,_=>[]
def qdG(h:Array Obj)(g:Nat)(cs:Array Value):Array Obj:=h.modify g fun
 |.cells _ t frozen=>.cells cs t frozen
 |o=>o
def qxr(w0:World):World :=
 let h0:=qdG w0.heap 7 (qjy 5 Rows.laid_math_bits_deBruijn32tab).toArray
 let h1:=qdG h0 8 (qjy 5 Rows.laid_math_bits_deBruijn64tab).toArray
 let h2:=qdG h1 4 (qjy 5 Rows.laid_internal_strconv_uint64pow10).toArray
 let h3:=qdG h2 6 (qjy 5 Rows.laid_unicode_utf8_acceptRanges).toArray
 let h4:=qdG h3 0 (qjy 5 Rows.laid_redact_reading_cborSorts).toArray
 let h5:=qdG h4 1 (qjy 5 Rows.laid_redact_reading_packHeads).toArray
 let h6:=qdG h5 2 (qjy 5 Rows.laid_redact_policy_signs).toArray
 let h7:=qdG h6 5 (qjy 5 Rows.laid_unicode_utf8_first).toArray
 {w0 with heap:=h7}

end
section
open Go.RowKit Go.Shelf
theorem ql0{B:Nat}{a:World}(h:Below B a w)(n:Nat):Below B a (w.drewN n):=h.trans ⟨rfl,rfl,rfl,kaf _,λ_ _=>rfl⟩
theorem qe4:(prog.info? 178).map (·.size)=some 3:=by kernel_rfl
theorem qsd(s:ByteArray)(k:s.size<=2000):∃(p r:ByteArray) (b:Bool),p.data.toList=(Lib.cut s.data.toList [32]).1/\r.data.toList=(Lib.cut s.data.toList [32]).2.1/\p.size<=2000/\r.size<=2000 /\
  ∀w,qmS w->Calls prog 98 #[.string s,.string ⟨#[32]⟩] w λe d=>e=.returned (.tuple #[.string p,.string r,.bool b])/\Below w.heap.size w d:=by
 have j:s.data.toList.length=s.size:=ka8;have c:(Lib.cut s.data.toList [32]).1.length<=2000/\(Lib.cut s.data.toList [32]).2.1.length<=2000:=by
  rcases qbL 32 s.data.toList with⟨h,_⟩|⟨a,r,h,f,_⟩
  ·rw[h];simp;omega
  have:=congrArg List.length f;rw[kaa,kah]at this;rw[h];simp;omega
 refine⟨⟨(Lib.cut s.data.toList [32]).1.toArray⟩,⟨(Lib.cut s.data.toList [32]).2.1.toArray⟩,(Lib.cut s.data.toList [32]).2.2,by simp,by simp,c.1,c.2,λw g=>?_⟩;obtain⟨m,i⟩:=g.mlen;refine(Tryz.strings_Cut s ⟨#[32]⟩ m w (by omega) i).mono ?_;rintro e d ⟨rfl,n,rfl⟩;exact⟨rfl,ql0 bwR n⟩
structure qz4(w:World)(W:World):Prop where
 below:Below w.heap.size w W
 res:W.heap[w.heap.size]?=some (.cells qcI 178)
theorem qz4.step(h:qz4 w W)(a:Below W.heap.size W W'):qz4 w W' :=
 ⟨h.below.trans (a.mono h.below.size),(a.block _ (ltA h.res)).trans h.res⟩
theorem qwO(w:World):qz4 w (w.alloc (.cells qcI 178)):=⟨bwA,qac _ _⟩

section
attribute[local go_sem] Oper.semAt_some
theorem qqX:∀(q r:List (List UInt8)) (i:Nat),q.all (qaC n)=true->i+q.length<=16->qbf n (q++r) i=qbf n r (i+q.length)
 |[],r,i,_,_=>rfl
 |x::q,r,i,h,hl=>by
  rw[List.all_cons,ka2]at h;rw[kah]at hl;rw[kbo,qbf,kag ⟨h.1,by omega⟩,qqX q r (i+1) h.2 (by omega),kah];congr 1;omega
def qfm(n:Nat)(l:List UInt8):Int:=if 0<=qa2 n l then 6 else 0
def qlo(n:Nat)(l:List UInt8):Int:=if 0<=qa2 n l then qa2 n l else 0
structure RdX(w:World)(n:Nat)(pre:List Str)(c:Code)(W:World):Prop where
 ret:c=.ret
 below:Below w.heap.size w W
 r0:Boxed W (w.heap.size+1) 85 (.slice none 0 0)
 r1:Boxed W (w.heap.size+2) 28 (.int .i64 6)
 bad:∃q x,pre=q++[x]/\Boxed W (w.heap.size+3) 3 (.int .i64 (q.length:Nat))/\(q.map lst).all (qaC n)=true/\q.length<=16/\¬(qaC n (lst x)=true/\q.length<16)
 size:w.heap.size+8<=W.heap.size
theorem RdX.own{c:Code}(h:RdX w n pre c W)(a:W.grownBy W' (some row))(j:w.heap.size+4<=row):RdX w n pre c W':=by
 obtain⟨q,x,e,d,b,f,g⟩:=h.bad;exact⟨h.ret,h.below.trans ⟨a.os,a.tape,a.output,a.size,λi k=>a.block i (by have:=h.size;omega) (by intro e;injection e with e;omega)⟩,h.r0.kept a (by intro e;injection e with e;omega),h.r1.kept a (by intro e;injection e with e;omega),⟨q,x,e,d.kept a (by intro e;injection e with e;omega),b,f,g⟩,kaj h.size a.size⟩
theorem qrX{N k:Nat}(W:World)(a:N<=W.heap.size)(b:k+3<=W.heap.size):Tr N k W W.drew:=Tr.below' (kam _ _).drew a b
theorem Tryz.infoRule2:(prog.info? 178).map (λi=>(i.zero,i.size,i.bytes))=some (some (.agg qcI),3,40):=by kernel_rfl
theorem qzw{hs:s.size<=2000}(e:¬s.size=0)(h:xs.map lst=qam 10 (lst ⟨s,hs⟩))(c:xs.length<=16)(b:(xs.map lst).all (qaC n)=true):qa2 n s.data.toList = -1:=by
 have a:qam 10 s.data.toList=xs.map lst:=h.symm;have d:s.data.toList.length=s.size:=ka8;unfold qa2;rw[kac (by omega),kac (by omega),a];have:=qqX (n:=n) (xs.map lst) [] 0 b (by rw[kaP];omega);rw[kbj]at this;rw[this];rfl
theorem qzC{hs:s.size<=2000}{q:List Str}{r:List (List UInt8)}(f:¬s.size=0)(h:qam 10 (lst ⟨s,hs⟩)=(q++[x]).map lst++r)(b:(q.map lst).all (qaC n)=true)(e:q.length<=16)(c:¬(qaC n (lst x)=true/\q.length<16)):qa2 n s.data.toList=q.length:=by
 have a:qam 10 s.data.toList=(q++[x]).map lst++r:=h;have d:s.data.toList.length=s.size:=ka8;unfold qa2;rw[kac (by omega),kac (by omega),a,kaW,kap,qqX (q.map lst) _ 0 b (by rw[kaP];omega)];simp only[kaH,kb8,kbo,kbl,kaP,kaL];rw[qbf,kac c]
theorem qsa(w:World)(n:Nat)(s:ByteArray)(a:World)(b:((((((((w.alloc (.cells #[.int .i64 n] 3)).alloc (.cells #[.slice none 0 0] 85)).alloc (.cells #[.int .i64 0] 28)).alloc (.cells #[.int .i64 0] 3)).alloc (.cells #[.slice none 0 0] 85)).alloc (.cells #[.string s] 9)).alloc (.cells #[.string ⟨#[10]⟩] 9)).alloc (.cells #[.int .i64 0] 3))=a):qhm (w.heap.size+5) 10 a s:=by
 subst b;generalize hA:((((w.alloc (.cells #[.int .i64 n] 3)).alloc (.cells #[.slice none 0 0] 85)).alloc (.cells #[.int .i64 0] 28)).alloc (.cells #[.int .i64 0] 3)).alloc (.cells #[.slice none 0 0] 85)=A;have c:w.heap.size+5=A.heap.size:=by rw[<-hA];simp
 rw[c];refine⟨?_,?_,?_⟩
 ·exact((kae _ _ _ (by simp;omega)).trans (kae _ _ _ (by simp))).trans (qac A _)
 ·refine(kae _ _ _ (by simp)).trans ?_;have:=qac (A.alloc (.cells #[.string s] 9)) (.cells #[.string ⟨#[10]⟩] 9);rwa[kad]at this
 have:=qac ((A.alloc (.cells #[.string s] 9)).alloc (.cells #[.string ⟨#[10]⟩] 9)) (.cells #[.int .i64 0] 3);rwa[kad,kad]at this
theorem qgU(w:World)(n:Nat)(e:Int):((((w.alloc (.cells #[.int .i64 n] 3)).alloc (.cells #[.slice none 0 0] 85)).alloc (.cells #[.int .i64 e] 28)).alloc (.cells #[.int .i64 0] 3)).cell? ⟨w.heap.size+1,0,none⟩=some (.slice none 0 0) /\
  ((((w.alloc (.cells #[.int .i64 n] 3)).alloc (.cells #[.slice none 0 0] 85)).alloc (.cells #[.int .i64 e] 28)).alloc (.cells #[.int .i64 0] 3)).cell? ⟨w.heap.size+1+1,0,none⟩=some (.int .i64 e) /\
  ((((w.alloc (.cells #[.int .i64 n] 3)).alloc (.cells #[.slice none 0 0] 85)).alloc (.cells #[.int .i64 e] 28)).alloc (.cells #[.int .i64 0] 3)).cell? ⟨w.heap.size+1+1+1,0,none⟩=some (.int .i64 0):=by
 refine⟨?_,?_,?_⟩
 ·have:=Boxed.new (w.alloc (.cells #[.int .i64 n] 3)) 85 (.slice none 0 0);rw[kad]at this;exact((this.alloc _).alloc _).cell
 ·have:=Boxed.new ((w.alloc (.cells #[.int .i64 n] 3)).alloc (.cells #[.slice none 0 0] 85)) 28 (.int .i64 e);rw[kad,kad]at this;exact(this.alloc _).cell
 have:=Boxed.new (((w.alloc (.cells #[.int .i64 n] 3)).alloc (.cells #[.slice none 0 0] 85)).alloc (.cells #[.int .i64 e] 28)) 3 (.int .i64 0);rw[kad,kad,kad]at this;exact this.cell
end

section
attribute[local go_sem] Oper.semAt_some
structure PgI(w:World)(pre:List Str)(W:World):Prop where
 below:Below w.heap.size w W
 r0:Boxed W w.heap.size 176 (.slice none 0 0)
 r1:Boxed W (w.heap.size+1) 4 (.bool false)
 pat:∃ao cap xs,Boxed W (w.heap.size+2) 176 (.slice ao pre.length cap)/\W.ownsRow (w.heap.size+6) 183 2 (.slice ao pre.length cap) pre.length xs/\Hid (xs=pre.flatMap λx=>sgC (sgS (lst x)))
 le:pre.length<=8
 all:pre.all (λx=>qhx (lst x))=true
 size:w.heap.size+6<=W.heap.size
theorem PgI.own(h:PgI w pre W)(a:W.grownBy W' (some row))(c:row=w.heap.size+3\/(w.heap.size+6<=row/\∃o,W.heap[row]?=some o/\o.isCells=false)):PgI w pre W':=by
 obtain⟨g,j,q,n,d,p⟩:=h.pat;refine⟨h.below.trans ⟨a.os,a.tape,a.output,a.size,λi v=>a.block i (by have:=h.size;omega) (by intro e;cases e;omega)⟩,h.r0.kept a (by intro e;cases e;omega),h.r1.kept a (by intro e;cases e;omega),⟨g,j,q,n.kept a (by intro e;cases e;omega),d.kept a ?_,p⟩,h.le,h.all,kaj h.size a.size⟩;rcases d.2 with⟨b,_⟩|⟨k,r,s,b,u,m,_⟩
 ·left;rw[b];rfl
 right;rw[b];intro e;cases e;rcases c with c|⟨_,o,f,l⟩
 ·have t:k=w.heap.size+3:=c;omega
 rw[m]at f;cases f;cases l
theorem PgI.out{post:List Str}(h:PgI w pre W)(a:8<post.length\/post.all (λx=>qhx (lst x))=false):qxY w post .ret ((W.setCell ⟨w.heap.size,0,none⟩ (.slice none 0 0)).setCell ⟨w.heap.size+1,0,none⟩ (.bool false)):=by
 have b:=Tr.set w.heap.size (w.heap.size+3) W w.heap.size (.slice none 0 0) (kaf _) (by omega);have c:=Tr.set w.heap.size (w.heap.size+3) (W.setCell ⟨w.heap.size,0,none⟩ (.slice none 0 0)) (w.heap.size+1) (.bool false) (by omega) (by omega);refine⟨rfl,h.below.trans (b.trans c).below,?_,?_,a,?_⟩
 ·exact(h.r0.set _).kept (grownBy_setCell' _ _ _) (by intro e;injection e with e;omega)
 ·exact Boxed.set _ (h.r1.kept (grownBy_setCell' _ _ _) (by intro e;injection e with e;omega))
 simp[World.setCell];exact h.size
theorem PgI.alloc(h:PgI w pre W)(o:Obj):PgI w pre (W.alloc o):=h.own (kbd W o (some (w.heap.size+3))) (.inl rfl)
theorem PgI.belowS(h:PgI w pre W)(a:Below W.heap.size W W'):PgI w pre W' :=
 h.own (row:=w.heap.size+3) ⟨a.os,a.tape,a.output,a.size,λi b _=>a.block i b⟩ (.inl rfl)
theorem qwQ(w:World)(s:ByteArray)(a:World)(b:((((((w.alloc (.cells #[.slice none 0 0] 176)).alloc (.cells #[.bool false] 4)).alloc (.cells #[.slice none 0 0] 176)).alloc (.cells #[.string s] 9)).alloc (.cells #[.string ⟨#[47]⟩] 9)).alloc (.cells #[.int .i64 0] 3))=a):PgI w [] a:=by
 subst b;refine⟨?_,?_,?_,⟨none,0,[],?_,kaV _ _ _ _,rfl⟩,kaY _,rfl,by simp⟩
 ·exact(((((bwA).alloc (by simp) _).alloc (by simp;omega) _).alloc (by simp;omega) _).alloc (by simp;omega) _).alloc (by simp;omega) _
 ·exact(((((Boxed.new w _ _).alloc _).alloc _).alloc _).alloc _).alloc _
 ·have:=Boxed.new (w.alloc (.cells #[.slice none 0 0] 176)) 4 (.bool false);rw[kad]at this;exact(((this.alloc _).alloc _).alloc _).alloc _
 have:=Boxed.new ((w.alloc (.cells #[.slice none 0 0] 176)).alloc (.cells #[.bool false] 4)) 176 (.slice none 0 0);rw[kad,kad]at this;exact((this.alloc _).alloc _).alloc _
theorem qmq(hi:i<3)(h:(x.1.toList==sgL i)=true):sgC (sgS (lst x))=[.int .i64 (i:Nat),.string ⟨#[]⟩]:=by
 have e:lst x=sgL i:=by unfold lst;rw[<-kaX];exact kdo h
 rw[e]
 match i,hi with
 |0,_=>rfl
 |1,_=>rfl
 |2,_=>rfl
theorem qxN(h:∀i,i<3->(x.1.toList==sgL i)=false):sgC (sgS (lst x))=[.int .i64 3,.string x.1]:=by
 have e:lst x=x.1.toList:=by unfold lst;rw[<-kaX]
 have a:=h 0 (by omega);have b:=h 1 (by omega);have c:=h 2 (by omega);simp only[sgL]at a b c;have d:sgS (lst x)=(3,lst x):=by
  unfold sgS;rw[e,a,b,c];simp
 rw[d];unfold sgC lst;rw[qz0];rfl
def qxV(s:ByteArray)(w:World)(e:Ending)(w':World):Prop :=
 ∃a n cap,e=.returned (.tuple #[.slice a n cap,.bool (qfe s.data.toList)])/\Below w.heap.size w w'/\(qfe s.data.toList=true->n=(qjP s.data.toList).length/\qlu w' w.heap.size 183 a (((qjP s.data.toList).map sgS).flatMap sgC))
theorem qvU{hs:s.size<=2000}{ao:Option Addr}{cap D:Nat}(m:(s.toList==[46])=false)(h:xs.map lst=qam 47 (lst ⟨s,hs⟩))(p:W.ownsRow (w.heap.size+6) 183 2 (.slice ao xs.length cap) xs.length ys)(r:ys=xs.flatMap λx=>sgC (sgS (lst x)))(i:W.heap[D]?=some (.deferred (some [])))(k:∀j,w.heap.size+6<=j->V.heap[j]?=W.heap[j]?):xs.length=(qjP s.data.toList).length/\qlu (V.putObj D (.deferred none)) w.heap.size 183 ao (((qjP s.data.toList).map sgS).flatMap sgC):=by
 have q:qjP s.data.toList=xs.map lst:=by
  unfold qjP;rw[<-kaX,m,kaX];exact h.symm
 obtain⟨y,t,n,l⟩:=qvL (lo:=w.heap.size+6) p (kaf _);injection n with he1 _ he3;subst he1;rw[q,kaP];refine⟨rfl,?_⟩;rw[kcN,List.flatMap_map];have e:ys=xs.flatMap λa=>sgC ((sgS∘lst) a):=r;rw[<-e];refine l.kept λb u v f c=>⟨by omega,?_⟩
 have o:b≠D:=by
  rintro rfl;rw[i]at c;cases c
 have:=grownBy_putObj' V D (.deferred none);have d:=k b f;rw[this.block b (by have g:=(d.trans c);exact ltA g) (by simpa using o),d];exact c
theorem PgI.push{xs:List Value}(x:Str)(h:PgI w pre W)(l:Boxed W (w.heap.size+2) 176 v)(j:W.ownsRow (w.heap.size+6) 183 2 v pre.length xs)(c:w5.ownsRow (w.heap.size+6) 183 2 v' (pre.length+1) ys)(a:W.grownBy w5 v.ownBlock)(q:pre.length<8)(n:qhx (lst x)=true)(o:Hid (xs=pre.flatMap λx=>sgC (sgS (lst x))))(p:ys=xs++sgC (sgS (lst x))):PgI w (pre++[x]) (w5.setCell ⟨w.heap.size+1+1,0,none⟩ v')/\Tr w.heap.size (w.heap.size+3) W (w5.setCell ⟨w.heap.size+1+1,0,none⟩ v'):=by
 have d:=λg h=>qb2 j (g:=g) h;have f:Tr w.heap.size (w.heap.size+3) W w5:=Tr.grown j a h.size (by omega) (by omega);have i:=Tr.set w.heap.size (w.heap.size+3) w5 (w.heap.size+2) v' (by omega) (by omega);have b:=grownBy_setCell' w5 (w.heap.size+2) v';have m:=l.kept a (λe=>by have:=d _ e.symm;omega);obtain⟨g,k,rfl⟩:=ownsRow_succ c;refine⟨⟨h.below.trans (f.trans i).below,?_,?_,⟨some ⟨g,0,none⟩,k,ys,?_,?_,?hy⟩,?_,?_,?_⟩,f.trans i⟩
 case hy =>
  show ys=_;rw[p,o.out,kbP];simp
 ·exact(h.r0.kept a (λe=>by have:=d _ e.symm;omega)).kept b (by intro e;injection e with e;omega)
 ·exact(h.r1.kept a (λe=>by have:=d _ e.symm;omega)).kept b (by intro e;injection e with e;omega)
 ·rw[kaa];exact m.set _
 ·rw[kaa];refine c.kept b (.inr (λe=>?_));have:=qb2 c e;omega
 ·rw[kaa];simp;omega
 ·rw[kcv,h.all];simp[n]
 exact kaj h.size (f.trans i).below.size
theorem qnG{xs:List Value}(h:PgI w pre V)(b:Tr w.heap.size (w.heap.size+3) W V)(g:Boxed V (w.heap.size+2) 176 v)(e:V.ownsRow (w.heap.size+6) 183 2 v pre.length xs)(f:w5.ownsRow (w.heap.size+6) 183 2 v' (pre.length+1) ys)(d:V.grownBy w5 v.ownBlock)(l:¬(pre.length:Int)=8)(i:qhx (lst x)=true)(j:Hid (xs=pre.flatMap λx=>sgC (sgS (lst x))))(k:ys=xs++sgC (sgS (lst x))):KeepsOthers W (w5.setCell ⟨w.heap.size+1+1,0,none⟩ v')/\qcE (w.heap.size+3) (w.heap.size+3+3) W (w5.setCell ⟨w.heap.size+1+1,0,none⟩ v')/\PgI w (pre++[x]) (w5.setCell ⟨w.heap.size+1+1,0,none⟩ v'):=by
 obtain⟨c,a⟩:=h.push x g e f d (by have:=h.le;omega) i j k;exact⟨(b.trans a).keep,(b.trans a).mid,c⟩
theorem qgV(s:ByteArray)(w:World)(hs:s.size<=2000)(bd:qmS w):Calls prog 99 #[.string s] w λe w'=>qxV s w e w':=by
 obtain⟨i0,hi,af,ag,ah⟩:=kaF Tryz.infoSeg;cases hd:(s.toList==[46])
 ·have HG:=qab bd;have HD:=qab hd;refine(kbS (n:=10)).1 ?_;refine callsIn_of_wp_marks func99 rfl trivial ?_ rfl;simp only[ntmps99,kaT,kah,kay,Nat.reduceAdd,Nat.reduceSub,kbz,kb0,kbG,kb4,kbl,kbo]
  gi_wp2
  refine keu.2 (kef ((keu (n:=10)).1 ?_))
  gi_wp2_with fail
  refine wpIn_label ?_
  gi_wp2_with fail
  refine⟨trivial,(kbS.2 (qfE s ⟨#[47]⟩ _)).mono ?_⟩;rintro e w' ⟨rfl,rfl⟩;simp only[kad]
  gi_wp2
  obtain⟨Q,ae⟩:∃Q,((((((w.alloc (.cells #[.slice none 0 0] 176)).alloc (.cells #[.bool false] 4)).alloc (.cells #[.slice none 0 0] 176)).alloc (.cells #[.string s] 9)).alloc (.cells #[.string ⟨#[47]⟩] 9)).alloc (.cells #[.int .i64 0] 3))=Q:=⟨_,rfl⟩
  have bo:Q.heap.size=w.heap.size+6:=by rw[<-ae];simp
  have bc:=qwQ w s Q ae;have ba:=qs1 w s Q ae;rw[ae];refine qcR rfl (by omega) (gf:=113) (lb:=#[.pointer (some ⟨w.heap.size+1+1+1+1,0,none⟩),.pointer (some ⟨w.heap.size+1+1+1,0,none⟩),.pointer (some ⟨w.heap.size+1+1+1+1+1,0,none⟩)]) rfl trivial (enters_of func113 (by kernel_rfl) rfl)
   (st:=w.heap.size+3) (by omega) (lo:=w.heap.size+3) (hi:=w.heap.size+3+3) (by omega) (qkT 9 (w.heap.size+3) 47 ⟨s,hs⟩ Q ba) bwR (λx=>rfl)
   (λpre W=>PgI w pre W) (λab pre W=>qxY w pre ab W)
   (λpre A a1 h M=>h.own M (.inl rfl)) (λab pre A a1 h M=>h.own M (by omega))
   (λpre A ar o o' h hB hk hc=>h.own (grownBy_putObj' A ar o') (.inr ⟨by omega,o,hk,hc⟩)) (λab pre A ar o o' h hB hk hc=>h.own (grownBy_putObj' A ar o') (by omega))
   bc
   (λx=>{tmps:=#[.string s,undef,.pointer (some ⟨w.heap.size,0,none⟩),.pointer (some ⟨w.heap.size+1,0,none⟩),.pointer (some ⟨w.heap.size+1+1,0,none⟩),.string x.1,undef,undef,.string s,.bool false,.string s,.func (.func 113) #[] #[.pointer (some ⟨w.heap.size+1+1+1+1,0,none⟩),.pointer (some ⟨w.heap.size+1+1+1,0,none⟩),.pointer (some ⟨w.heap.size+1+1+1+1+1,0,none⟩)],.string x.1,undef,undef,undef,undef,undef,undef,undef,undef,undef,undef,undef,undef,undef,undef,undef,undef,undef,undef,undef,undef,undef,undef,undef,undef,undef,undef,undef,undef],defers:=[]}) ?assign ?body ?done ?stop
  case assign =>
   intro aa x W K a
   gi_wp2
   exact a
  case body =>
   intro aa pre x W f bm;have d:=qab f;obtain⟨m,q,G,S,ho,a7⟩:=f.pat;have bl:=f.le;have R:W.cell? ⟨w.heap.size+1+1,0,none⟩=some (.slice m pre.length q):=S.cell;have c2:=f.r0.cell;have f2:=f.r0.frozen;have c3:=f.r1.cell;have f3:=f.r1.frozen;by_cases c:(pre.length:Int)=8
   ·clear f S ho a7
    gi_wp2
    exact⟨(quj w W).keep,d.out.out (.inl (by rw[kaa];simp;omega))⟩
   have bk:=ka1.2 c;obtain⟨bw,fr,T⟩:=(HG.out.below f.below).signs;have s0:=qaa T 0;have s1:=qaa T 1;have s2:=qaa T 2;have s3:=qaa T 3;have s4:=qaa T 4;have s5:=qaa T 5
   gi_wp2
   gi_loopg[17] 4 (λg ai wr=>∃j:Nat,Hid (j+g=4)/\((j=0/\ai=.int .i64 0)\/(j=1/\ai=.int .i64 1)\/(j=2/\ai=.int .i64 2)\/(j=3/\ai=.int .i64 3))/\Hid (PgI w pre wr)/\Hid (Tr w.heap.size (w.heap.size+3) W wr)/\Hid (∀i,i<j->(x.1.toList==sgL i)=false))
   case atStart=>exact⟨0,rfl,.inl ⟨rfl,rfl⟩,d,Tr.refl _ _ _,λi hi=>by omega⟩
   case round =>
    obtain⟨j,hj,be,d,N,Z⟩:=hrel;have bs:=λV=>qxz V;have bt:=λV=>qvV V;have bu:=λV=>qvq V;obtain⟨r,t,bx,az,bf,al⟩:=d.out.pat;have P:=qab az;have u:=qab bf;have R:wr.cell? ⟨w.heap.size+1+1,0,none⟩=some (.slice r pre.length t):=az.cell;have bp:=d.out.size;have bj:∀o,(wr.alloc o).cell? ⟨w.heap.size+1+1,0,none⟩=some (.slice r pre.length t):=λo=>(kal wr _ o (by rw[R];rfl)).trans R;rcases be with⟨rfl,rfl⟩|⟨rfl,rfl⟩|⟨rfl,rfl⟩|⟨rfl,rfl⟩
    ·cases b:(x.1.toList==[42])
     ·have Y:Hid (∀i,i<1->(x.1.toList==sgL i)=false):=λi hi=>by
       rcases kc8.1 hi with h|rfl
       ·exact Z.out i h
       exact b
      gi_wp2
      gi_roundg 3
      case measure=>have:=hj.out;omega
      case rel=>exact⟨1,rfl,.inr (.inl ⟨rfl,by go_num⟩),d.out.alloc _,N.out.trans (Tr.alloc _ _ _ _ (by omega) (by omega)),Y⟩
     gi_wp2_with(first
      |(gi_at_builtin;refine wpListIn_append_own _ rfl _ _ 176 rfl (w.heap.size+6) 183 i0 (.agg #[.int .i64 0,.string ByteArray.empty]) 2 24 underlying176 hi af ag ah rfl (by decide) _ _ _ rfl ((u.out.alloc _).alloc _) ⟨wr.heap.size+1,0,none⟩ 1 1 [.int .i64 0,.string ⟨#[]⟩] rfl rfl (qce _ _ _ _) (λx b=>by simp at b;rcases b with rfl|rfl<;>rfl) (by unfold maxLen;omega) (by omega) (by simp;omega) ?_;intro v' F z v ay;obtain⟨g5,an,rfl⟩:=ownsRow_succ z;have C:=((P.out.alloc _).alloc _).kept v (λe=>by have:=qb2 u.out e.symm;omega);have c5:F.cell? ⟨w.heap.size+1+1,0,none⟩=some (.slice r pre.length t):=C.cell;have f5:F.frozen? ⟨w.heap.size+1+1,0,none⟩=false:=C.frozen))
     exact qnG ((d.out.alloc _).alloc _) ((N.out.trans (Tr.alloc _ _ _ _ (by omega) (by omega))).trans (Tr.alloc _ _ _ _ (by simp;omega) (by simp;omega))) ((P.out.alloc _).alloc _) ((u.out.alloc _).alloc _) z v c (qiN (i:=0) b) al (by rw[qmq (i:=0) (by omega) b];rfl)
    ·cases b:(x.1.toList==[42,42])
     ·have Y:Hid (∀i,i<2->(x.1.toList==sgL i)=false):=λi hi=>by
       rcases kc8.1 hi with h|rfl
       ·exact Z.out i h
       exact b
      gi_wp2
      gi_roundg 2
      case measure=>have:=hj.out;omega
      case rel=>exact⟨2,rfl,.inr (.inr (.inl ⟨rfl,by go_num⟩)),d.out.alloc _,N.out.trans (Tr.alloc _ _ _ _ (by omega) (by omega)),Y⟩
     gi_wp2_with(first
      |(gi_at_builtin;refine wpListIn_append_own _ rfl _ _ 176 rfl (w.heap.size+6) 183 i0 (.agg #[.int .i64 0,.string ByteArray.empty]) 2 24 underlying176 hi af ag ah rfl (by decide) _ _ _ rfl ((u.out.alloc _).alloc _) ⟨wr.heap.size+1,0,none⟩ 1 1 [.int .i64 1,.string ⟨#[]⟩] rfl rfl (qce _ _ _ _) (λx b=>by simp at b;rcases b with rfl|rfl<;>rfl) (by unfold maxLen;omega) (by omega) (by simp;omega) ?_;intro v' F z v ay;obtain⟨g5,an,rfl⟩:=ownsRow_succ z;have C:=((P.out.alloc _).alloc _).kept v (λe=>by have:=qb2 u.out e.symm;omega);have c5:F.cell? ⟨w.heap.size+1+1,0,none⟩=some (.slice r pre.length t):=C.cell;have f5:F.frozen? ⟨w.heap.size+1+1,0,none⟩=false:=C.frozen))
     exact qnG ((d.out.alloc _).alloc _) ((N.out.trans (Tr.alloc _ _ _ _ (by omega) (by omega))).trans (Tr.alloc _ _ _ _ (by simp;omega) (by simp;omega))) ((P.out.alloc _).alloc _) ((u.out.alloc _).alloc _) z v c (qiN (i:=1) b) al (by rw[qmq (i:=1) (by omega) b];rfl)
    ·cases b:(x.1.toList==[91,93])
     ·have Y:Hid (∀i,i<3->(x.1.toList==sgL i)=false):=λi hi=>by
       rcases kc8.1 hi with h|rfl
       ·exact Z.out i h
       exact b
      gi_wp2
      gi_roundg 1
      case measure=>have:=hj.out;omega
      case rel=>exact⟨3,rfl,.inr (.inr (.inr ⟨rfl,by go_num⟩)),d.out.alloc _,N.out.trans (Tr.alloc _ _ _ _ (by omega) (by omega)),Y⟩
     gi_wp2_with(first
      |(gi_at_builtin;refine wpListIn_append_own _ rfl _ _ 176 rfl (w.heap.size+6) 183 i0 (.agg #[.int .i64 0,.string ByteArray.empty]) 2 24 underlying176 hi af ag ah rfl (by decide) _ _ _ rfl ((u.out.alloc _).alloc _) ⟨wr.heap.size+1,0,none⟩ 1 1 [.int .i64 2,.string ⟨#[]⟩] rfl rfl (qce _ _ _ _) (λx b=>by simp at b;rcases b with rfl|rfl<;>rfl) (by unfold maxLen;omega) (by omega) (by simp;omega) ?_;intro v' F z v ay;obtain⟨g5,an,rfl⟩:=ownsRow_succ z;have C:=((P.out.alloc _).alloc _).kept v (λe=>by have:=qb2 u.out e.symm;omega);have c5:F.cell? ⟨w.heap.size+1+1,0,none⟩=some (.slice r pre.length t):=C.cell;have f5:F.frozen? ⟨w.heap.size+1+1,0,none⟩=false:=C.frozen))
     exact qnG ((d.out.alloc _).alloc _) ((N.out.trans (Tr.alloc _ _ _ _ (by omega) (by omega))).trans (Tr.alloc _ _ _ _ (by simp;omega) (by simp;omega))) ((P.out.alloc _).alloc _) ((u.out.alloc _).alloc _) z v c (qiN (i:=2) b) al (by rw[qmq (i:=2) (by omega) b];rfl)
    have cL:=qjA x.1 wr x.2 (HG.out.below d.out.below)
    gi_wp2_with fail
    refine⟨trivial,((kbS.2 cL).inRound aa).mono ?_⟩;rintro e E ⟨rfl,hB⟩;simp only[];have I:=qab (d.out.belowS hB);have aw:=qab (N.out.trans (Tr.below' hB (by omega) (by omega)));have bq:=I.out.size;obtain⟨J,L,bh,a0,bg,a6⟩:=I.out.pat;have a3:=qab a0;have aj:=qab bg;have R:E.cell? ⟨w.heap.size+1+1,0,none⟩=some (.slice J pre.length L):=a0.cell;have c2:=I.out.r0.cell;have f2:=I.out.r0.frozen;have c3:=I.out.r1.cell;have f3:=I.out.r1.frozen;have aq:=qxn Z.out;have a2:=qab (qxN Z.out);cases ax:qhk x.1.data.toList
    ·have HX:Hid ((pre++[x]).all (λx=>qhx (lst x))=false):=by show _=_;rw[kcv];simp[aq,ax]
     gi_wp2
     exact⟨(aw.out.trans (quj w E)).keep,I.out.out (.inr HX.out)⟩
    rw[ax]at aq;have a4:=qab aq
    gi_wp2_with fail
    refine wpIn_region_any (by kernel_rfl) ?_;have X:Hid (∀V,Calls prog 118 #[.string x.1] V λe V'=>e=.returned (.string x.1)/\Below V.heap.size V V'):=λV=>qpx x.1 V (by have:=x.2;omega);have ap:w.heap.size+1+1<E.heap.size:=by omega
    have am:(World.drew E).cell? ⟨w.heap.size+1+1,0,none⟩=some (.slice J pre.length L):=R;change wpAnyIn _ _ _ _ _ _ _ _ _ (World.drew E);refine qq4 #[true,true,true,true,true,false,false] 2 (λV=>[(34,.slice J pre.length L),(35,.string x.1),(36,.string x.1),(37,.agg #[.int .i64 3,.string x.1]),(38,.slice (some ⟨V.heap.size,0,none⟩) 1 1)]) (λV=>Below (World.drew E).heap.size (World.drew E) V) (λV=>V.alloc (.cells #[.int .i64 3,.string x.1] 183)) (λl=>?reg) ?tail
    case tail =>
     intro V bb;have ad:Below E.heap.size E V:=(((kam _ E).drew).trans bb)
     have au:=qab (I.out.belowS ad);have a5:=qab (aw.out.trans (Tr.below' ad (by omega) (by omega)));have br:=au.out.size;have bn:∀g,(Value.slice J pre.length L).ownBlock=some g->g<E.heap.size:=λg M=>by
      rcases aj.out.2 with⟨O,_⟩|⟨g',_,_,O,_,hh,_⟩
      ·rw[O]at M;cases M
      rw[O]at M;cases M;exact ltA hh
     have av:Hid (Boxed V (w.heap.size+2) 176 (.slice J pre.length L)):=(ad.block _ (by omega)).trans a3.out;have ak:Hid (V.ownsRow (w.heap.size+6) 183 2 (.slice J pre.length L) pre.length bh):=by
      refine⟨aj.out.1,?_⟩;rcases aj.out.2 with O|⟨g',cp,a9,O,h1,hh,h2⟩
      ·exact .inl O
      exact .inr ⟨g',cp,a9,O,h1,(ad.block g' (ltA hh)).trans hh,h2⟩
     simp only[List.foldl];refine wpAnyIn_ready (rs:=[5]) (by kernel_rfl) (by simp) ?_;refine AllReadyIn.cons rfl (λK a=>?_) AllReadyIn.nil;rw[kag (by rfl)];refine qgT _ _ 176 rfl (w.heap.size+6) 183 i0 (.agg #[.int .i64 0,.string ByteArray.empty]) 2 24 underlying176 hi af ag ah rfl (by decide) _ _ _ rfl (ak.out.alloc _) ⟨V.heap.size,0,none⟩ 1 1 [.int .i64 3,.string x.1] rfl rfl (qjD _ _ _) (λx b=>by simp at b;rcases b with rfl|rfl<;>rfl) (by unfold maxLen;omega) (by omega) (by simp;omega) ?_;intro v' F z v;obtain⟨g5,an,rfl⟩:=ownsRow_succ z;have C:=(av.out.alloc _).kept v (λe=>by have:=qb2 ak.out e.symm;omega);have c5:F.cell? ⟨w.heap.size+1+1,0,none⟩=some (.slice J pre.length L):=C.cell;have f5:F.frozen? ⟨w.heap.size+1+1,0,none⟩=false:=C.frozen;refine a _ _ ?_;refine wpAnyIn_ready (rs:=[6]) (by kernel_rfl) (by simp) ?_;refine AllReadyIn.cons rfl (λK a=>?_) AllReadyIn.nil;go_simp;refine a _ _ ?_;refine wpAnyIn_done (by kernel_rfl) ?_ _
     gi_wp2
     exact qnG (au.out.alloc _) (a5.out.trans (Tr.alloc _ _ _ _ (by omega) (by omega))) (av.out.alloc _) (ak.out.alloc _) z v c a4.out a6 (by rw[a2.out])
    case reg =>
     refine wpAnyIn_ready (rs:=[0,1]) (by kernel_rfl) (by simp) ?_;refine AllReadyIn.cons rfl (λK a=>?_) (AllReadyIn.cons rfl (λK a=>?_) AllReadyIn.nil)
     ·go_simp;refine a _ _ ?_;refine wpAnyIn_ready (rs:=[1]) (by kernel_rfl) (by simp) ?_;refine AllReadyIn.cons rfl (λK a=>?_) AllReadyIn.nil;go_simp;refine a _ _ ?_;refine wpAnyIn_ready (rs:=[2]) (by kernel_rfl) (by simp) ?_;refine AllReadyIn.cons rfl (λK a=>?_) AllReadyIn.nil;go_simp;refine⟨trivial,((kbS.2 (X.out _)).inRound aa).mono ?_⟩;rintro e w3 ⟨rfl,H⟩;simp only[];have ac:=(H.cell (p:=⟨w.heap.size+1+1,0,none⟩) ap).trans am;refine a _ _ ?_;refine wpAnyIn_ready (rs:=[3]) (by kernel_rfl) (by simp) ?_;refine AllReadyIn.cons rfl (λK a=>?_) AllReadyIn.nil;go_simp;refine a _ _ ?_;refine wpAnyIn_ready (rs:=[4]) (by kernel_rfl) (by simp) ?_;refine AllReadyIn.cons rfl (λK a=>?_) AllReadyIn.nil;go_simp;refine a _ _ ?_;exact l _ H
     go_simp;refine a _ _ ?_;refine wpAnyIn_ready (rs:=[0,2]) (by kernel_rfl) (by simp) ?_;refine AllReadyIn.cons rfl (λK a=>?_) (AllReadyIn.cons rfl (λK a=>?_) AllReadyIn.nil)
     ·go_simp;refine a _ _ ?_;refine wpAnyIn_ready (rs:=[2]) (by kernel_rfl) (by simp) ?_;refine AllReadyIn.cons rfl (λK a=>?_) AllReadyIn.nil;go_simp;refine⟨trivial,((kbS.2 (X.out _)).inRound aa).mono ?_⟩;rintro e w3 ⟨rfl,H⟩;simp only[];have ac:=(H.cell (p:=⟨w.heap.size+1+1,0,none⟩) ap).trans am;refine a _ _ ?_;refine wpAnyIn_ready (rs:=[3]) (by kernel_rfl) (by simp) ?_;refine AllReadyIn.cons rfl (λK a=>?_) AllReadyIn.nil;go_simp;refine a _ _ ?_;refine wpAnyIn_ready (rs:=[4]) (by kernel_rfl) (by simp) ?_;refine AllReadyIn.cons rfl (λK a=>?_) AllReadyIn.nil;go_simp;refine a _ _ ?_;exact l _ H
     go_simp;refine⟨trivial,((kbS.2 (X.out _)).inRound aa).mono ?_⟩;rintro e w3 ⟨rfl,H⟩;simp only[];have ac:=(H.cell (p:=⟨w.heap.size+1+1,0,none⟩) ap).trans am;refine a _ _ ?_;refine wpAnyIn_ready (rs:=[0,3]) (by kernel_rfl) (by simp) ?_;refine AllReadyIn.cons rfl (λK a=>?_) (AllReadyIn.cons rfl (λK a=>?_) AllReadyIn.nil)
     ·go_simp;refine a _ _ ?_;refine wpAnyIn_ready (rs:=[3]) (by kernel_rfl) (by simp) ?_;refine AllReadyIn.cons rfl (λK a=>?_) AllReadyIn.nil;go_simp;refine a _ _ ?_;refine wpAnyIn_ready (rs:=[4]) (by kernel_rfl) (by simp) ?_;refine AllReadyIn.cons rfl (λK a=>?_) AllReadyIn.nil;go_simp;refine a _ _ ?_;exact l _ H
     go_simp;refine a _ _ ?_;refine wpAnyIn_ready (rs:=[0,4]) (by kernel_rfl) (by simp) ?_;refine AllReadyIn.cons rfl (λK a=>?_) (AllReadyIn.cons rfl (λK a=>?_) AllReadyIn.nil)
     ·go_simp;refine a _ _ ?_;refine wpAnyIn_ready (rs:=[4]) (by kernel_rfl) (by simp) ?_;refine AllReadyIn.cons rfl (λK a=>?_) AllReadyIn.nil;go_simp;refine a _ _ ?_;exact l _ H
     go_simp;refine a _ _ ?_;refine wpAnyIn_ready (rs:=[0]) (by kernel_rfl) (by simp) ?_;refine AllReadyIn.cons rfl (λK a=>?_) AllReadyIn.nil;have bi:(w3.alloc (.cells #[.int .i64 3,.string x.1] 183)).cell? ⟨w.heap.size+1+1,0,none⟩=some (.slice J pre.length L):=(kal w3 _ _ (by rw[ac];rfl)).trans ac;go_simp;refine a _ _ ?_;exact l _ H
  case done =>
   intro D G W hD hS f a;obtain⟨m,q,ys,S,ho,a8⟩:=f.pat;have u:=qab ho;have d:=qab f;have HS:=qab hS;have HK:=qab a;have R:W.cell? ⟨w.heap.size+1+1,0,none⟩=some (.slice m G.length q):=S.cell;have c2:=f.r0.cell;have f2:=f.r0.frozen;have c3:=f.r1.cell;have f3:=f.r1.frozen
   gi_wp2
   refine qch ?_;have U:=qxv HD.out HS.out d.out.le d.out.all;have t1:=Tr.set w.heap.size (w.heap.size+3) W w.heap.size (.slice m G.length q) (kaf _) (by omega);have t2:=Tr.set w.heap.size (w.heap.size+3) (W.setCell ⟨w.heap.size,0,none⟩ (.slice m G.length q)) (w.heap.size+1) (.bool true) (by omega) (by omega);have b0:Boxed ((W.setCell ⟨w.heap.size,0,none⟩ (.slice m G.length q)).setCell ⟨w.heap.size+1,0,none⟩ (.bool true)) w.heap.size 176 (.slice m G.length q):=(d.out.r0.set _).kept (grownBy_setCell' _ _ _) (by intro e;injection e with e;omega);have b1:Boxed ((W.setCell ⟨w.heap.size,0,none⟩ (.slice m G.length q)).setCell ⟨w.heap.size+1,0,none⟩ (.bool true)) (w.heap.size+1) 4 (.bool true):=Boxed.set _ (d.out.r1.kept (grownBy_setCell' _ _ _) (by intro e;injection e with e;omega));have hb:=d.out.below.trans (t1.trans t2).below;have a:=(t1.trans t2).keep.same D _ HK.out rfl;have X:Hid (∀j,w.heap.size+6<=j->((W.setCell ⟨w.heap.size,0,none⟩ (.slice m G.length q)).setCell ⟨w.heap.size+1,0,none⟩ (.bool true)).heap[j]?=W.heap[j]?):=λj hj=>(kaG _ _ _ _ (by simp;omega)).trans (kaG _ _ _ _ (by simp;omega));generalize(W.setCell ⟨w.heap.size,0,none⟩ (.slice m G.length q)).setCell ⟨w.heap.size+1,0,none⟩ (.bool true)=V at *;refine⟨by simp,.inl ⟨D,_,rfl,run_takeDeferred a,?_⟩⟩;have B:=(b0.kept (grownBy_putObj' V D (.deferred none)) (by intro e;injection e with e;omega)).cell;have k:=(b1.kept (grownBy_putObj' V D (.deferred none)) (by intro e;injection e with e;omega)).cell;refine⟨.tuple #[.slice m G.length q,.bool true],?_,⟨m,G.length,q,by rw[U],qb8 hb (by omega) _,λ_=>?_⟩⟩
   ·simp[results,f99,go_sem,B,k]
   exact qvU HD.out HS.out u.out a8.out HK.out X.out
  case stop =>
   intro D ab pre W hD hS y a;obtain rfl:=y.ret
   gi_wp2
   refine qch ?_;have U:qfe s.data.toList=false:=by
    obtain⟨bv,hr⟩:=hS;exact qyb HD.out hr y.bad
   refine⟨by simp,.inl ⟨D,_,rfl,run_takeDeferred a,?_⟩⟩;have B:=(y.r0.kept (grownBy_putObj' W D (.deferred none)) (by intro e;injection e with e;omega)).cell;have k:=(y.r1.kept (grownBy_putObj' W D (.deferred none)) (by intro e;injection e with e;omega)).cell;refine⟨.tuple #[.slice none 0 0,.bool false],?_,⟨none,0,0,by rw[U],qb8 y.below (by omega) _,λe=>by rw[U]at e;cases e⟩⟩;simp[results,f99,go_sem,B,k]
 have U:qfe s.data.toList=true:=by unfold qfe;rw[<-kaX,hd];rfl
 have HY:=qab U;refine(kbS (n:=10)).1 ?_;refine callsIn_of_wp_marks func99 rfl trivial ?_ rfl;simp only[ntmps99,kaT,kah,kay,Nat.reduceAdd,Nat.reduceSub,kbz,kb0,kbG,kb4,kbl,kbo]
 gi_wp2
 refine keu.2 (kef ((keu (n:=10)).1 ?_))
 gi_wp2
 repeat(first|refine qgr ?_|refine qch ?_)
 have B:((w.alloc (.cells #[.slice none 0 0] 176)).alloc (.cells #[.bool true] 4)).cell? ⟨w.heap.size,0,none⟩=some (.slice none 0 0):=((Boxed.new w 176 (.slice none 0 0)).alloc _).cell;have k:((w.alloc (.cells #[.slice none 0 0] 176)).alloc (.cells #[.bool true] 4)).cell? ⟨w.heap.size+1,0,none⟩=some (.bool true):=by
  have:=(Boxed.new (w.alloc (.cells #[.slice none 0 0] 176)) 4 (.bool true)).cell;rwa[kad]at this
 refine⟨.tuple #[.slice none 0 0,.bool true],?_,⟨none,0,0,by rw[HY.out],?_,λ_=>?_⟩⟩
 ·simp[results,f99,go_sem,B,k]
 ·exact(bwA).alloc (by simp) _
 have S:qjP s.data.toList=[]:=by unfold qjP;rw[<-kaX,hd];rfl
 rw[S];exact⟨rfl,.inl rfl⟩
end

def qyZ(n:Nat)(s:ByteArray)(w:World)(e:Ending)(w':World):Prop :=
 ∃a m cap x y,e=.returned (.tuple #[.agg (qg0 a m cap x y),.bool (qaC n s.data.toList)])/\Below w.heap.size w w'/\(qaC n s.data.toList=true->m=(qea s.data.toList).1.length/\x=(qea s.data.toList).2.1/\y=(qea s.data.toList).2.2/\qlu w' w.heap.size 183 a (((qea s.data.toList).1.map sgS).flatMap sgC))
theorem qkU(s:ByteArray)(n:Nat)(w:World)(X:s.size<=2000)(U:qmS w):Calls prog 82 #[.string s,.int .i64 n] w λe b=>qyZ n s w e b:=by
 have l:Hid ((prog.info? 178).map (·.size)=some qcI.size):=qe4;have q:=qab U;obtain⟨g,Z,b0,B,C,V,W,K⟩:=qsd s X;obtain⟨d,f,b1,D,E,ac,ad,M⟩:=qsd Z W;have Y:qaC n s.data.toList=(qfe g.data.toList&&(qjh d.data.toList n&&qeT f != 0)):=by
  rw[<-qpI];unfold qsz;rw[<-B,<-C,<-D,<-E,qz0]
 have m:=qab Y;have J:Hid (qaC n s.data.toList=true->qea s.data.toList=(qjP g.data.toList,qsh d.data.toList,qeT f)):=by
  intro T;have F:=qir T;rw[<-B,<-C,<-D,<-E]at F;have:=qrf F;rw[qz0]at this;exact this
 have z:=qab (qwO w);have L:=K _ (q.out.below z.out.below);go_enter func82,ntmps82
 go_wp2_with(fail)
 refine L.mono ?_;rintro e w2 ⟨rfl,P⟩;have A:=qab (z.out.step P);have N:=M _ (q.out.below A.out.below)
 go_wp2_with(fail)
 refine N.mono ?_;rintro e H ⟨rfl,Q⟩;have r:=qab (A.out.step Q);have O:=qgV g H V (q.out.below r.out.below)
 go_wp2_with(fail)
 refine O.mono ?_;rintro e w4 ⟨t,u,G,rfl,R,S⟩;have I:=qab S;have y:=qab (ltA r.out.res);have a:=qab (r.out.step R);cases i:qfe g.data.toList
 ·have c:Hid (qaC n s.data.toList=false):=by show _=_;rw[m.out,i];rfl
  go_wp2_with(first
   |(go_at_call 100;refine(qdh d n _).mono ?_;rintro e v ⟨rfl,rfl⟩)
   |(go_at_call 101;refine(qcA f _).mono ?_;rintro e x ⟨rfl,rfl⟩)
   |(refine kan rfl 178 _ _ rfl w.heap.size qcI rfl rfl 178 qcI a.out.res l.out rfl qgl ?_))
  refine kaw (qap results82 _ _ w.heap.size 178 qcI (0,0) _ rfl (kaA _ _ qcI _ _ _ a.out.res) underlying178 rfl qe4 (.bool false) rfl) rfl ⟨none,0,0,0,0,by rw[c.out];rfl,qai a.out.below (by omega) _,λe=>by rw[c.out]at e;cases e⟩
 cases k:qjh d.data.toList n
 ·have c:Hid (qaC n s.data.toList=false):=by show _=_;rw[m.out,i,k];rfl
  have h:=λw=>qdh d n w;rw[k]at h
  go_wp2_with(first
   |(go_at_call 100;refine(h _).mono ?_;rintro e v ⟨rfl,rfl⟩)
   |(go_at_call 101;refine(qcA f _).mono ?_;rintro e x ⟨rfl,rfl⟩)
   |(refine kan rfl 178 _ _ rfl w.heap.size qcI rfl rfl 178 qcI a.out.res l.out rfl qgl ?_))
  refine kaw (qap results82 _ _ w.heap.size 178 qcI (0,0) _ rfl (kaA _ _ qcI _ _ _ a.out.res) underlying178 rfl qe4 (.bool false) rfl) rfl ⟨none,0,0,0,0,by rw[c.out];rfl,qai a.out.below (by omega) _,λe=>by rw[c.out]at e;cases e⟩
 have h:=λw=>qdh d n w;rw[k]at h;have o:=λw=>qcA f w;cases j:(qeT f != 0)
 ·have c:Hid (qaC n s.data.toList=false):=by show _=_;rw[m.out,i,k,j];rfl
  rw[j]at o
  go_wp2_with(first
   |(go_at_call 100;refine(h _).mono ?_;rintro e v ⟨rfl,rfl⟩)
   |(go_at_call 101;refine(o _).mono ?_;rintro e x ⟨rfl,rfl⟩)
   |(refine kan rfl 178 _ _ rfl w.heap.size qcI rfl rfl 178 qcI a.out.res l.out rfl qgl ?_))
  refine kaw (qap results82 _ _ w.heap.size 178 qcI (0,0) _ rfl (kaA _ _ qcI _ _ _ a.out.res) underlying178 rfl qe4 (.bool false) rfl) rfl ⟨none,0,0,0,0,by rw[c.out];rfl,qai a.out.below (by omega) _,λe=>by rw[c.out]at e;cases e⟩
 have c:Hid (qaC n s.data.toList=true):=by show _=_;rw[m.out,i,k,j];rfl
 rw[j]at o;have p:Hid (qea s.data.toList=(qjP g.data.toList,qsh d.data.toList,qeT f)/\u=(qjP g.data.toList).length/\qlu w4 H.heap.size 183 t (((qjP g.data.toList).map sgS).flatMap sgC)):=⟨J.out c.out,I.out i⟩
 generalize qsh d.data.toList=li at *;generalize qeT f=ai at *
 go_wp2_with(first
  |(go_at_call 100;refine(h _).mono ?_;rintro e v ⟨rfl,rfl⟩)
  |(go_at_call 101;refine(o _).mono ?_;rintro e x ⟨rfl,rfl⟩)
  |(refine kan rfl 178 _ _ rfl w.heap.size (qg0 t u G li ai) rfl rfl 178 qcI a.out.res l.out rfl (qda _ _ _ _ _) ?_))
 refine kaw (qap results82 _ _ w.heap.size 178 (qg0 t u G li ai) (0,0) _ rfl (kaA _ _ qcI _ _ _ a.out.res) underlying178 rfl qe4 (.bool true) rfl) rfl ⟨_,_,_,_,_,by rw[c.out],qai a.out.below (by omega) _,λ_=>?_⟩;rw[p.out.1];exact⟨p.out.2.1,rfl,rfl,p.out.2.2.kept λaa ab fr i j=>⟨by have:=y.out;omega,sx (by have:=y.out;omega) j⟩⟩

end
section
open Go.RowKit
def tkX(ks:List (List UInt8))(s:Nat×List UInt8)(x:Nat):Bool:=if s.1=0 then true else if s.1=1 then false else if s.1=2 then x==1 else x==(fnL ks (.string s.2)).getD 0
def gB(rs:List (List (Nat×List UInt8)×Int×Int))(r p:Nat)(f:Nat×List UInt8->Bool):Bool:=match rs[r]? with
 |some R=>(match R.1[p]? with|some s=>f s|none=>false)
 |none=>false
theorem qyf{s:Nat×List UInt8}(a:rs[r]?=some R)(b:R.1[p]?=some s)(f:Nat×List UInt8->Bool):gB rs r p f=f s:=by
 unfold gB;rw[a];show(match R.1[p]? with|some s=>f s|none=>false)=f s;rw[b]
theorem qrS(a:rs[r]?=some R)(b:R.1.length<=p)(f:Nat×List UInt8->Bool):gB rs r p f=false:=by
 unfold gB;rw[a];show(match R.1[p]? with|some s=>f s|none=>false)=false;rw[kaC b]
theorem qu3(a:rs.length<=r)(p:Nat)(f:Nat×List UInt8->Bool):gB rs r p f=false:=by
 unfold gB;rw[kaC a]
structure LyM(rs:List (List (Nat×List UInt8)×Int×Int))(ks:List (List UInt8))(i j:Nat)(st:Nat->Nat)(tk:Nat->Nat->Nat):Prop where
 s:∀r p,(st r).testBit p=(decide (r<i\/(r=i/\p<j))&&gB rs r p (λs=>s.1==1))
 t:∀x r p,(tk x r).testBit p=(decide (r<i\/(r=i/\p<j))&&gB rs r p (λs=>tkX ks s x))
theorem qqt(rs:List (List (Nat×List UInt8)×Int×Int))(ks:List (List UInt8)):LyM rs ks 0 0 (λ_=>0) (λ_ _=>0) :=
 ⟨λr p=>by simp,λx r p=>by simp⟩
def stU(st:Nat->Nat)(i j:Nat)(b:Bool):Nat->Nat:=λr=>if r=i/\b=true then st r|||2^j else st r
theorem qyg(x j p:Nat):(x|||2^j).testBit p=(x.testBit p||decide (p=j)):=by
 rw[kdF,Nat.testBit_two_pow];congr 1;exact kbn.2 ⟨λh=>h.symm,λh=>h.symm⟩
theorem qqS{f:Nat×List UInt8->Bool}{s:Nat×List UInt8}(c:rs[i]?=some R)(g:R.1[j]?=some s)(h:∀r p,(st r).testBit p=(decide (r<i\/(r=i/\p<j))&&gB rs r p f))(r p:Nat):(stU st i j (f s) r).testBit p=(decide (r<i\/(r=i/\p<j+1))&&gB rs r p f):=by
 unfold stU;by_cases b:r=i
 ·subst b
  cases d:f s with
  |true =>
   rw[kag ⟨rfl,rfl⟩,qyg,h];by_cases a:p=j
   ·subst a;rw[qyf c g,d];simp
   have e:decide (r<r\/r=r/\p<j)=decide (r<r\/r=r/\p<j+1):=kbn.2 (by omega);rw[e,kaz a,Bool.or_false]
  |false =>
   rw[kac (by simp),h];by_cases a:p=j
   ·subst a;rw[qyf c g,d];simp
   have e:decide (r<r\/r=r/\p<j)=decide (r<r\/r=r/\p<j+1):=kbn.2 (by omega);rw[e]
 rw[kac (λk=>b k.1),h];have e:(r<i\/r=i/\p<j)=(r<i\/r=i/\p<j+1):=by simp[b]
 simp only[e]
theorem LyM.place{s:Nat×List UInt8}(h:LyM rs ks i j st tk)(a:rs[i]?=some R)(b:R.1[j]?=some s):LyM rs ks i (j+1) (stU st i j (s.1==1)) (λx=>stU (tk x) i j (tkX ks s x)) :=
 ⟨λr p=>qqS (f:=λs=>s.1==1) a b h.s r p,λx r p=>qqS (f:=λs=>tkX ks s x) a b (h.t x) r p⟩
theorem LyM.rule(h:LyM rs ks i j st tk)(c:rs[i]?=some R)(g:R.1.length<=j):LyM rs ks (i+1) 0 st tk:=by
 have b:∀(f:Nat×List UInt8->Bool) (r p:Nat),(decide (r<i\/(r=i/\p<j))&&gB rs r p f)=(decide (r<i+1\/(r=i+1/\p<0))&&gB rs r p f):=by
  intro f r p;by_cases a:r=i
  ·subst a;by_cases d:p<j
   ·simp[d]
   rw[qrS c (by omega)];simp
  have e:(r<i\/r=i/\p<j)=(r<i+1\/r=i+1/\p<0):=by simp[a];omega
  simp only[e]
 exact⟨λr p=>(h.s r p).trans (b _ r p),λx r p=>(h.t x r p).trans (b _ r p)⟩
structure LyD(rs:List (List (Nat×List UInt8)×Int×Int))(ks:List (List UInt8))(st:Nat->Nat)(tk:Nat->Nat->Nat):Prop where
 s:∀r p,(st r).testBit p=gB rs r p (λs=>s.1==1)
 t:∀x r p,(tk x r).testBit p=gB rs r p (λs=>tkX ks s x)
theorem LyM.done(h:LyM rs ks i 0 st tk)(hi:rs.length<=i):LyD rs ks st tk:=by
 have a:∀(f:Nat×List UInt8->Bool) (r p:Nat),(decide (r<i\/(r=i/\p<0))&&gB rs r p f)=gB rs r p f:=by
  intro f r p;by_cases b:r<i
  ·simp[b]
  rw[qu3 (by omega)];simp
 exact⟨λr p=>(h.s r p).trans (a _ r p),λx r p=>(h.t x r p).trans (a _ r p)⟩
theorem qsS{x:Nat}(h:∀p,8<=p->x.testBit p=false):x<256:=Nat.lt_pow_two_of_testBit (n:=8) x (λp a=>h p a)
theorem qmL(b:∀i (h:i<rs.length),rs[i].1.length<=8)(r p:Nat)(c:8<=p)(f:Nat×List UInt8->Bool):gB rs r p f=false:=by
 by_cases a:r<rs.length
 ·exact qrS (kab a) (kaj (b r a) c) f
 exact qu3 (by omega) p f
theorem LyM.lt(h:LyM rs ks i j st tk)(b:∀i (h:i<rs.length),rs[i].1.length<=8):(∀r,st r<256)/\∀x r,tk x r<256 :=
 ⟨λr=>qsS λp a=>by rw[h.s,qmL b r p a];simp,λx r=>qsS λp a=>by rw[h.t,qmL b r p a];simp⟩

def qj9(q:Aut)(st:Nat->Nat)(tv sv:Value):Array Value:=#[.slice q.ra q.rs.length q.rc,.int .i64 q.dflt,.map (some q.lm)]++plA st++#[tv,sv,.map (some q.nb),.map (some q.mb)]
theorem qtZ(q:Aut)(a:Value):qzu q a=qj9 q q.st (.slice (some ⟨q.tb,0,none⟩) q.L q.tc) a:=by kernel_rfl
theorem qro(q:Aut)(st:Nat->Nat)(c a b:Value):(qj9 q st c a).setIfInBounds 19 b=qj9 q st b a:=by kernel_rfl
theorem qqA(q:Aut)(st:Nat->Nat)(b a:Value)(r v:Nat)(c:r<16):(qj9 q st b a).setIfInBounds (3+r) (.int .u16 v)=qj9 q (λi=>if i=r then v else st i) b a:=by
 have h:=congrArg Array.toList (qiL st r v);rw[kbM]at h;apply kdj;unfold qj9;rw[kbM];simp only[kcZ];rw[List.set_append_left _ _ (by have:=qcc st;simp;omega),kcx _ _ (by simp),<-h];have e:3+r-[Value.slice q.ra q.rs.length q.rc,Value.int IntKind.i64 q.dflt,Value.map (some q.lm)].length=r:=by simp
 rw[e]
theorem qx1(q:Aut)(st:Nat->Nat)(c b:Value)(r:Nat)(a:r<16):(qj9 q st c b)[3+r]?=some (.int .u16 (st r)):=by
 have d:=qcc st;unfold qj9;rw[kbN (by simp;omega),kb6 (by simp)];have e:3+r-#[Value.slice q.ra q.rs.length q.rc,Value.int IntKind.i64 q.dflt,Value.map (some q.lm)].size=r:=by simp
 rw[e];exact qdk st r a
structure TkC(cur:Array Value)(L:Nat)(tk:Nat->Nat->Nat):Prop where
 size:cur.size=L*16
 at_:∀x r,x<L->r<16->cur[x*16+r]?=some (.int .u16 (tk x r))
theorem TkC.set{cur:Array Value}(h:TkC cur L tk)(x r v:Nat)(d:x<L)(c:r<16):TkC (cur.setIfInBounds (x*16+r) (.int .u16 v)) L (λy i=>if y=x/\i=r then v else tk y i):=by
 refine⟨by rw[Array.size_setIfInBounds,h.size],λy i b a=>?_⟩;rw[kcs];by_cases e:y=x/\i=r
 ·rw[kag (by rw[e.1,e.2]),kag (by rw[h.size];omega),kag e]
 rw[kac (by omega),kac e];exact h.at_ y i b a
structure qcx(W:World)(A tb L:Nat)(q:Aut)(sv:Value)(st:Nat->Nat)(tk:Nat->Nat->Nat)(V:World):Prop where
 row:V.heap[A]?=some (.cells (qj9 q st (.slice (some ⟨tb,0,none⟩) L L) sv) 139)
 tks:∃cur,V.heap[tb]?=some (.cells cur 135)/\TkC cur L tk
 os:V.os=W.os
 tape:V.tape=W.tape
 output:V.output=W.output
 size:W.heap.size<=V.heap.size
 block:∀k,k<W.heap.size->k≠A->V.heap[k]?=W.heap[k]?
theorem qcx.next{V':World}(h:qcx W A tb L q sv st tk V)(a:Below V.heap.size V V'):qcx W A tb L q sv st tk V':=by
 obtain⟨d,c,f⟩:=h.tks;exact⟨(a.block _ (ltA h.row)).trans h.row,⟨d,(a.block _ (ltA c)).trans c,f⟩,a.os.trans h.os,a.tape.trans h.tape,a.output.trans h.output,kaj h.size a.size,λk b e=>(a.block k (kai b h.size)).trans (h.block k b e)⟩
theorem qn8(V:World)(p:Addr)(v:Value):(V.drew.setCell p v).heap.size=V.heap.size:=by
 have e:(V.drew.setCell p v).heap.size=V.drew.heap.size:=by simp[World.setCell]
 exact e
theorem qcx.stays(h:qcx W A tb L q sv st tk V)(e:A≠tb)(r v:Nat)(f:r<16):qcx W A tb L q sv (λi=>if i=r then v else st i) tk (V.drew.setCell ⟨A,3+r,none⟩ (.int .u16 v)):=by
 obtain⟨c,g,j⟩:=h.tks;have a:=kaO V.drew A (3+r) _ _ (.int .u16 v) h.row;rw[qqA q st _ sv r v f]at a;refine⟨a,⟨c,(kaG V.drew _ _ _ (by simpa using e.symm)).trans g,j⟩,h.os,h.tape,h.output,by rw[qn8];exact h.size,λk d b=>(kaG V.drew _ _ _ (by simpa using b)).trans (h.block k d b)⟩
theorem qcx.took(h:qcx W A tb L q sv st tk V)(c:A≠tb)(l:W.heap.size<=tb)(x r v:Nat)(e:x<L)(d:r<16):qcx W A tb L q sv st (λy i=>if y=x/\i=r then v else tk y i) (V.drew.setCell ⟨tb,x*16+r,none⟩ (.int .u16 v)):=by
 obtain⟨j,f,g⟩:=h.tks;exact⟨(kaG V.drew _ _ _ (by simpa using c)).trans h.row,⟨_,kaO V.drew tb (x*16+r) _ _ (.int .u16 v) f,g.set x r v e d⟩,h.os,h.tape,h.output,by rw[qn8];exact h.size,λk a b=>(kaG V.drew _ _ _ (by simp;omega)).trans (h.block k a b)⟩

theorem qq1(q:Aut)(st:Nat->Nat)(b a:Value):(qj9 q st b a)[2]?=some (.map (some q.lm)):=by kernel_rfl
theorem qrn(q:Aut)(st:Nat->Nat)(a b:Value):(qj9 q st a b)[19]?=some a:=by kernel_rfl
theorem Tryz.infoPlc:(prog.info? 135).map (λi=>(i.zero,i.size,i.bytes))=some (some (.agg (plA zPl)),16,32):=by kernel_rfl
theorem qzR(n:Nat)(h:n<=128)(w:World):(Instr.makeSlice 136 (.int .i64 (wrap64 (2+(n:Int)))) (.int .i64 (wrap64 (2+(n:Int))))).run prog w=.ok (.slice (some ⟨w.heap.size,0,none⟩) (2+n) (2+n)) (w.alloc (.cells (madeCells (plA zPl) ((2+n)*16)) 135)):=by
 obtain⟨i,f,c,a,d⟩:=kaF Tryz.infoPlc;have e:((2+n:Nat):Int).toNat=2+n:=kbp _;have b:=run_makeSlice (P:=prog) (w:=w) 136 135 i (.agg (plA zPl)) underlying136 f c .i64 .i64 ((2+n:Nat):Int) ((2+n:Nat):Int) (by omega) (kdb _) (by rw[e,a];omega) (by rw[d];omega) (by omega);rw[e,a]at b;rw[wr2 n h];exact b

theorem qwI(L:Nat):TkC (madeCells (plA zPl) (L*16)) L (λ_ _=>0):=by
 refine⟨size_madeCells _ _,λx r d c=>?_⟩;have a:x*16+r<L*16:=by omega
 have b:(x*16+r)%16<16:=kd8 _ (by omega);have h:=qdk zPl ((x*16+r)%16) b;have e:(plA zPl)[(x*16+r)%(plA zPl).size]! = .int .u16 0:=by
  rw[qcc,getElem!_def,h];rfl
 unfold madeCells;rw[Array.getElem?_map,Array.getElem?_range,kag a,kc9,e];rfl
theorem qnZ(b:W.heap[A]?=some (.cells (qj9 q (λ_=>0) (.slice none 0 0) sv) 139)):qcx W A W.heap.size L q sv (λ_=>0) (λ_ _=>0) ((W.alloc (.cells (madeCells (plA zPl) (L*16)) 135)).setCell ⟨A,19,none⟩ (.slice (some ⟨W.heap.size,0,none⟩) L L)):=by
 have f:=ltA b;have a:=kaO (W.alloc (.cells (madeCells (plA zPl) (L*16)) 135)) A 19 _ _ (.slice (some ⟨W.heap.size,0,none⟩) L L) ((kae W _ A f).trans b);rw[qro]at a;refine⟨a,⟨_,(kaG _ _ _ _ (by simp;omega)).trans (qac W _),qwI L⟩,rfl,rfl,rfl,?_,λk c d=>(kaG _ _ _ _ (by simpa using d)).trans (kae W _ k c)⟩;have e:((W.alloc (.cells (madeCells (plA zPl) (L*16)) 135)).setCell ⟨A,19,none⟩ (.slice (some ⟨W.heap.size,0,none⟩) L L)).heap.size=(W.alloc (.cells (madeCells (plA zPl) (L*16)) 135)).heap.size:=by simp[World.setCell]
 rw[e,kad];omega

end
end Go.Proofs.YtmajcjammmjimaaGreatDoor
