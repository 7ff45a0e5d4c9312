import Derived.Test.YtmajcjammmjimaaGreatDoorCq20
set_option maxRecDepth 100000
set_option maxHeartbeats 8000000
set_option linter.all false
namespace Go.Proofs.YtmajcjammmjimaaGreatDoor
open Go.Proofs.Tryz
variable{l:List UInt8}{V W W' w:World}{lo n:Nat}{cs xs ys:List Value}{v:Value}{c:Cfg}{O:Array Value}{pre:List Str}{rs:List (List (Nat×List UInt8)×Int×Int)}
section
open Go.ChangeShapes Go.WideShapes Go.ChangeAt Go.RowKit Go.Lib Go.Deep
theorem qvu:(prog.globals[0]?).map (·.type)=some 154:=by kernel_rfl
theorem qvg:(prog.globals[1]?).map (·.type)=some 156:=by kernel_rfl
theorem qk4:prog.cellsOf 150=1:=by kernel_rfl
theorem qo7:prog.cellsOf 154=8:=by kernel_rfl
theorem qkA:prog.cellsOf 153=3:=by kernel_rfl
theorem qnM:prog.cellsOf 151=1:=by kernel_rfl
theorem qru:prog.cellsOf 3=1:=by kernel_rfl
theorem qoK:(Rows.laid_redact_reading_cborSorts:DataW Unit)=tabData .i64 [4,6,7,8,9,10,0,0]:=by kernel_rfl
theorem qoP:(Rows.laid_redact_reading_packHeads:DataW Unit)=.agg (qhG.map λx=>.agg [.lit (.int .i64 x.1),.lit (.int .i64 x.2),.lit (.int .u64 0)]):=by kernel_rfl
theorem qz6{l:List Value}(h:l.length=3):∃a b c,l=[a,b,c]:=by
 match l,h with
 |[a,b,c],_=>exact⟨a,b,c,rfl⟩
theorem qy6{α:Type}{l:List α}(h:l.length=3):∃a b c,l=[a,b,c]:=by
 match l,h with
 |[a,b,c],_=>exact⟨a,b,c,rfl⟩
theorem qvy{sp:Nat->Bool}{held:Bool}{fuel:Nat}{x y z:Int}{p:List MemPlace}(h:DataW.trod (λ_=>()) prog W 0 sp held fuel 153 cs=some (.agg [.lit (.int .i64 x),.lit (.int .i64 y),.lit (.int .u64 z)],p)):cs=[.int .i64 x,.int .i64 y,.int .u64 z]:=by
 obtain⟨u,n,_,j,i,o,a⟩:=kcH underlying153 h;rw[qkA]at i;have q:u.length=3:=o;obtain⟨b,c,d,rfl⟩:=qz6 i;obtain⟨v,w,A,rfl⟩:=qy6 q;have k:DataW.trod (λ_=>()) prog W 0 sp held n 150 (([b,c,d].drop 0).take (prog.cellsOf 150))=some v:=a 0 _ rfl;have l:DataW.trod (λ_=>()) prog W 0 sp held n 3 (([b,c,d].drop 1).take (prog.cellsOf 3))=some w:=a 1 _ rfl;have m:DataW.trod (λ_=>()) prog W 0 sp held n 151 (([b,c,d].drop 2).take (prog.cellsOf 151))=some A:=a 2 _ rfl;rw[qk4]at k;rw[qru]at l;rw[qnM]at m;obtain⟨B,e,r⟩:=kbq underlying150 k;obtain⟨C,f,s⟩:=kbq underlying3 l;obtain⟨D,g,t⟩:=kbq underlying151 m;simp at e f g;subst e f g;obtain⟨rfl,_⟩:=r;obtain⟨rfl,_⟩:=s;obtain⟨rfl,_⟩:=t;simp only[kaH,kb8,Prod.mk.injEq,DataW.agg.injEq,List.cons.injEq,DataW.lit.injEq,Lit.int.injEq,and_true,true_and]at j;obtain⟨⟨rfl,rfl,rfl⟩,_⟩:=j;simp
theorem q0g{u:Nat}{a b c:Value}(h:(cs.drop (u*3)).take 3=[a,b,c]):cs[u*3]?=some a/\cs[u*3+1]?=some b/\cs[u*3+2]?=some c:=by
 have d:=congrArg (λl=>l[0]?) h;have e:=congrArg (λl=>l[1]?) h;have f:=congrArg (λl=>l[2]?) h;simp[kdO]at d e f;exact⟨d,e,f⟩
theorem qs4(i:laidMet prog Rows.clearedRow.laid W):qdu W:=by
 refine⟨?_,?_⟩
 ·obtain⟨g,t,cs,n,p,a,f,c,b⟩:=laidMet.reads i (d:=Rows.laid_redact_reading_cborSorts) (.tail _ (.tail _ (.tail _ (.tail _ (.head _)))));obtain rfl:g=0:=kaE (a.symm.trans (by kernel_rfl));obtain rfl:=kaE (qvu.symm.trans f);rw[qoK]at b;have r:=cells_of_tab underlying154 underlying150 qk4 qo7 b;intro u h;have q:=kcB a c u;rw[q,<-kbE,r];have:∀v:Fin 8,([4,6,7,8,9,10,0,0]:List Int)[v.val]?=some ((qnF v.val:Nat):Int):=by decide
  rw[kbx,this ⟨u,h⟩];rfl
 obtain⟨g,t,cs,n,p,a,f,c,b⟩:=laidMet.reads i (d:=Rows.laid_redact_reading_packHeads) (.tail _ (.tail _ (.tail _ (.tail _ (.tail _ (.head _))))));obtain rfl:g=1:=kaE (a.symm.trans (by kernel_rfl));obtain rfl:=kaE (qvg.symm.trans f);rw[qoP]at b;intro u h;obtain⟨w,s,q0,j,o⟩:=array_elem underlying156 b u h;have x:qhG.length=32:=rfl;rw[kbx,kab (by omega)]at j;cases j;have k:=qvy o;rw[qkA]at k;obtain⟨l,m,c2⟩:=q0g k;have e:qhG.getD u (0,0)=qhG[u]'(by omega):=by rw[kbh,kab (by omega)];rfl
 rw[e];refine⟨?_,?_,?_⟩
 ·rw[kcB a c,<-kbE];exact l
 ·rw[kcB a c,<-kbE];exact m
 rw[kcB a c,<-kbE];exact c2

end
section
open Go.RowKit Go.Shelf
theorem qbh{P:Program}{fn:Func}{p u u2:Tmp}{ty:TypeId}(h:fn.results=#[.cell p ty,.tmp u,.tmp u2])(b:Array Value)(w:World)(g:Nat)(t:TypeId)(cs:Array Value)(c:Nat×Nat)(d:TypeDesc)(k:b.getD p undef=.pointer (some ⟨g,0,none⟩))(j:w.heap[g]?=some (.cells cs t c))(l:P.underlying ty=some d)(i:(match d with|.struct _|.array _ _=>true|_=>false)=true)(hi:(P.info? ty).map (·.size)=some cs.size)(v f:Value)(m:b.getD u undef=v)(n:b.getD u2 undef=f):(results fn b).run P w=.ok (.tuple #[.agg cs,v,f]) w:=by
 have e:(results fn b).run P w=((asAddr (b.getD p undef)).run P w).andThen λa o=>((loadVar ty a).run P o).andThen λv q=>.ok (.tuple #[v,b.getD u undef,b.getD u2 undef]) q:=by
  simp only[results,h];simp[kbb,Result.andThen]
 subst m n;rw[e,k];simp only[asAddr,kby,kaJ,kbZ w g t ty cs c d j l i hi]
def qcq(O:Array Value)(a:Option Addr)(k c:Nat):Array Value:=O.push (.slice a k c)
def qcT:Array Value:=qcq qaF none 0 0
theorem qdR:prog.built 87 []=some qcT:=by kernel_rfl
theorem qpn(n:Nat)(m:Nat->Nat->Bool)(a:Option Addr)(k c:Nat):prog.built 87 [(0,.agg (qaq n m)),(1,.slice a k c)]=some (qcq (qaq n m) a k c):=by kernel_rfl
theorem qwK:(prog.info? 87).map (·.size)=some 38:=by kernel_rfl
theorem qkC(ρ:Operand->Value)(o:Oper)(a:o.op=.alloc 87)(w:World):(execOp ρ o).run prog w=.ok (.value (.pointer (some ⟨w.heap.size,0,none⟩))) (w.alloc (.cells qcT 87)):=by
 unfold execOp;rw[a];kernel_rfl
theorem qcj{ops:Array Oper}{rest:List Oper}{o:Oper}{a:Act}{Q:Exit->Act->World->Prop}(e:o.guard=none)(f:o.op=.alloc 87)(d:Option Tmp)(c:o.dst=d)(N:Nat)(b:w.heap.size=N)(h:wpList prog ops Q rest (a.put d (.pointer (some ⟨N,0,none⟩))) (w.alloc (.cells qcT 87))):wpList prog ops Q (o::rest) a w:=by
 subst b;exact kc1 e d c _ _ (qkC _ _ f _) h
theorem qfr(n:Nat)(m:Nat->Nat->Bool):(qaq n m).all (·.oneCell')=true:=by
 simp[qaq,Value.oneCell']
theorem qcn(h:O.size=37)(a:Option Addr)(k c:Nat):(qcq O a k c).size=38:=by unfold qcq;simp[h]
theorem qfp(h:O.all (·.oneCell')=true)(a:Option Addr)(k c:Nat):(qcq O a k c).all (·.oneCell')=true:=by
 unfold qcq;rw[Array.all_push,h];rfl
theorem qbj:qcT.size=38:=qcn (qae _ _) _ _ _
theorem qdT:qcT.all (·.oneCell')=true:=qfp (qfr _ _) _ _ _
theorem qbz{A:Array Value}(h:A.size=38):(prog.info? 87).map (·.size)=some A.size:=by rw[h];exact qwK
def qie(c:Cfg):Int:=if¬roE c.labels c.L c.dflt c.clr=0 then roE c.labels c.L c.dflt c.clr else if qe3 c.inn c.out c.depth c.bytes=false then 4 else if qaL c.B=false then 5 else qfm c.labels.toNat c.pol.data.toList
def qpd(c:Cfg):Int:=if¬roE c.labels c.L c.dflt c.clr=0 then 0 else if qe3 c.inn c.out c.depth c.bytes=false then 0 else if qaL c.B=false then 0 else qlo c.labels.toNat c.pol.data.toList
theorem qgP(c:Cfg):(qbC c.labels c.L=true->roE c.labels c.L c.dflt c.clr=if qga c=false then 1 else if qbx c.labels.toNat (qbe c.labels.toNat c.L)=false then 2 else if qb1 c.labels.toNat (qbe c.labels.toNat c.L)=false then 3 else 0)/\(qbC c.labels c.L=false->roE c.labels c.L c.dflt c.clr=1/\qga c=false):=by
 constructor
 ·intro h;obtain⟨_,H⟩:=qek h;have b:∀i j,i<c.labels.toNat->j<c.labels.toNat->qc1 c.labels.toNat c.L i j=qbe c.labels.toNat c.L i j:=λi j a f=>qqk H.hE a f;have d:=qlK b;have e:=qo6 b (λi a=>qpC H.hE a);unfold roE qga;rw[h,d,e];cases qbM c.labels.toNat c.dflt<;>cases qbM c.labels.toNat c.clr<;>cases qbx c.labels.toNat (qbe c.labels.toNat c.L)<;>cases qb1 c.labels.toNat (qbe c.labels.toNat c.L)<;>rfl
 intro h;unfold roE qga;rw[h];exact⟨rfl,rfl⟩
theorem qlW(c:Cfg):qie c=qb4 c/\qpd c=qen c:=by
 have i:qie c=qb4 c/\qpd c=if qb4 c=6 then qa2 c.labels.toNat c.pol.data.toList else 0:=by
  unfold qie qpd qb4 qfm qlo;rw[qoO];cases h:qbC c.labels c.L
  ·obtain⟨j,k⟩:=(qgP c).2 h;rw[j,k];simp
  rw[(qgP c).1 h];by_cases a:qga c=false
  ·simp[a]
  by_cases b:qbx c.labels.toNat (qbe c.labels.toNat c.L)=false
  ·simp[a,b]
  by_cases d:qb1 c.labels.toNat (qbe c.labels.toNat c.L)=false
  ·simp[a,b,d]
  by_cases e:qe3 c.inn c.out c.depth c.bytes=false
  ·simp[a,b,d,e]
  by_cases f:qaG c.B=false
  ·simp[a,b,d,e,f]
  by_cases g:0<=qa2 c.labels.toNat c.pol.data.toList
  ·simp[a,b,d,e,f,g]
  simp[a,b,d,e,f,g]
 exact⟨i.1,i.2.trans rfl⟩
theorem qxX(h:roE c.labels c.L c.dflt c.clr=0):qbC c.labels c.L=true/\roA c.labels c.L c.dflt c.clr=qaq c.labels.toNat (qc1 c.labels.toNat c.L):=by
 constructor
 ·cases a:qbC c.labels c.L
  ·have:=((qgP c).2 a).1;rw[h]at this;cases this
  rfl
 unfold roA;rw[kag h]
structure qwN(w:World)(c:Cfg)(W:World):Prop where
 below:Below w.heap.size w W
 box:W.heap[w.heap.size]?=some (.cells c.arr 25)
 res:W.heap[w.heap.size+1]?=some (.cells qcT 87)
theorem qwN.step(h:qwN w c W)(a:Below W.heap.size W W'):qwN w c W' :=
 ⟨h.below.trans (a.mono h.below.size),(a.block _ (ltA h.box)).trans h.box,(a.block _ (ltA h.res)).trans h.res⟩
theorem qw9(w:World)(c:Cfg):qwN w c ((w.alloc (.cells c.arr 25)).alloc (.cells qcT 87)):=by
 refine⟨(bwA).alloc (by simp) _,(kae _ _ _ (by simp)).trans (qac _ _),?_⟩;have:=qac (w.alloc (.cells c.arr 25)) (.cells qcT 87);rwa[kad]at this
theorem qwN.cell(h:qwN w c W)(j:Nat):W.cell? ⟨w.heap.size,j,none⟩=c.arr[j]?:=qaa h.box j
theorem qzB(h:¬roE c.labels c.L c.dflt c.clr=0):qie c=roE c.labels c.L c.dflt c.clr/\qpd c=0:=by unfold qie qpd;rw[kag h,kag h];exact⟨rfl,rfl⟩

section
attribute[local go_sem] Oper.semAt_some
structure PdI(w:World)(n:Nat)(pre:List Str)(W:World):Prop where
 below:Below w.heap.size w W
 lab:Boxed W w.heap.size 3 (.int .i64 n)
 r0:Boxed W (w.heap.size+1) 85 (.slice none 0 0)
 r1:Boxed W (w.heap.size+2) 28 (.int .i64 0)
 r2:Boxed W (w.heap.size+3) 3 (.int .i64 0)
 rules:∃ao cap xs,Boxed W (w.heap.size+4) 85 (.slice ao pre.length cap)/\W.ownsRow (w.heap.size+8) 178 3 (.slice ao pre.length cap) pre.length xs/\Hid (RwB W (w.heap.size+8) 183 xs (pre.map λx=>enP (enS (qea (lst x)))))
 le:pre.length<=16
 all:(pre.map lst).all (qaC n)=true
 size:w.heap.size+8<=W.heap.size
theorem PdI.own{row:Nat}(h:PdI w n pre W)(a:W.grownBy W' (some row))(c:row=w.heap.size+5\/(w.heap.size+8<=row/\∃o,W.heap[row]?=some o/\o.isCells=false)):PdI w n pre W':=by
 obtain⟨l,m,v,t,k,u⟩:=h.rules;refine⟨h.below.trans ⟨a.os,a.tape,a.output,a.size,λi B=>a.block i (by have:=h.size;omega) (by intro e;injection e with e;omega)⟩,h.lab.kept a (by intro e;injection e with e;omega),h.r0.kept a (by intro e;injection e with e;omega),h.r1.kept a (by intro e;injection e with e;omega),h.r2.kept a (by intro e;injection e with e;omega),⟨l,m,v,t.kept a (by intro e;injection e with e;omega),k.kept a ?_,?hx⟩,h.le,h.all,kaj h.size a.size⟩
 case hx =>
  refine u.out.kept λb p y r g=>⟨r,(a.block b (ltA g) ?_).trans g⟩
  intro e;injection e with e;subst e;rcases c with c|⟨_,o,d,j⟩
  ·omega
  rw[g]at d;cases d;cases j
 rcases k.2 with⟨f,_⟩|⟨q,x,p,f,A,s,_⟩
 ·left;rw[f];rfl
 right;rw[f];intro e;cases e;rcases c with c|⟨_,o,d,j⟩
 ·have z:q=w.heap.size+5:=c;omega
 rw[s]at d;cases d;cases j
theorem PdI.out(x:Str)(h:PdI w n pre W)(i:¬(qaC n (lst x)=true/\pre.length<16)):RdX w n (pre++[x]) .ret (((W.setCell ⟨w.heap.size+1,0,none⟩ (.slice none 0 0)).setCell ⟨w.heap.size+1+1,0,none⟩ (.int .i64 6)).setCell ⟨w.heap.size+1+1+1,0,none⟩ (.int .i64 (pre.length:Nat))) /\
  Tr w.heap.size (w.heap.size+5) W (((W.setCell ⟨w.heap.size+1,0,none⟩ (.slice none 0 0)).setCell ⟨w.heap.size+1+1,0,none⟩ (.int .i64 6)).setCell ⟨w.heap.size+1+1+1,0,none⟩ (.int .i64 (pre.length:Nat))):=by
 have d:=Tr.set w.heap.size (w.heap.size+5) W (w.heap.size+1) (.slice none 0 0) (by omega) (by omega);have f:=Tr.set w.heap.size (w.heap.size+5) (W.setCell ⟨w.heap.size+1,0,none⟩ (.slice none 0 0)) (w.heap.size+1+1) (.int .i64 6) (by omega) (by omega);have g:=Tr.set w.heap.size (w.heap.size+5) ((W.setCell ⟨w.heap.size+1,0,none⟩ (.slice none 0 0)).setCell ⟨w.heap.size+1+1,0,none⟩ (.int .i64 6)) (w.heap.size+1+1+1) (.int .i64 (pre.length:Nat)) (by omega) (by omega);have a:=grownBy_setCell' W (w.heap.size+1) (.slice none 0 0);have b:=grownBy_setCell' (W.setCell ⟨w.heap.size+1,0,none⟩ (.slice none 0 0)) (w.heap.size+1+1) (.int .i64 6);have c:=grownBy_setCell' ((W.setCell ⟨w.heap.size+1,0,none⟩ (.slice none 0 0)).setCell ⟨w.heap.size+1+1,0,none⟩ (.int .i64 6)) (w.heap.size+1+1+1) (.int .i64 (pre.length:Nat));refine⟨⟨rfl,h.below.trans ((d.trans f).trans g).below,?_,?_,⟨pre,x,rfl,?_,h.all,h.le,i⟩,?_⟩,(d.trans f).trans g⟩
 ·exact((h.r0.set _).kept b (by intro e;injection e with e;omega)).kept c (by intro e;injection e with e;omega)
 ·exact(Boxed.set _ (h.r1.kept a (by intro e;injection e with e;omega))).kept c (by intro e;injection e with e;omega)
 ·exact Boxed.set _ ((h.r2.kept a (by intro e;injection e with e;omega)).kept b (by intro e;injection e with e;omega))
 simp[World.setCell];exact h.size
theorem PdI.alloc(h:PdI w n pre W)(o:Obj):PdI w n pre (W.alloc o):=h.own (kbd W o (some (w.heap.size+5))) (.inl rfl)
theorem PdI.belowS(h:PdI w n pre W)(a:Below W.heap.size W W'):PdI w n pre W' :=
 h.own (row:=w.heap.size+5) ⟨a.os,a.tape,a.output,a.size,λi b _=>a.block i b⟩ (.inl rfl)
theorem qyq{w5:World}{x:Str}{v':Value}(h:PdI w n pre V)(q:Tr w.heap.size (w.heap.size+5) W V)(E:Boxed V (w.heap.size+4) 85 v)(m:V.ownsRow (w.heap.size+8) 178 3 v pre.length xs)(o:w5.ownsRow (w.heap.size+8) 178 3 v' (pre.length+1) ys)(a:V.grownBy w5 v.ownBlock)(M:¬(pre.length:Int)=16)(G:qaC n (lst x)=true){pa:Option Addr}{pc:Nat}(H:Hid (RwB V (w.heap.size+8) 183 xs (pre.map λx=>enP (enS (qea (lst x))))))(D:qlu V (w.heap.size+8) 183 pa (((qea (lst x)).1.map sgS).flatMap sgC))(I:ys=xs++[.slice pa (qea (lst x)).1.length pc,.int .i64 (qea (lst x)).2.1,.int .i64 (qea (lst x)).2.2]):KeepsOthers W (w5.setCell ⟨w.heap.size+1+1+1+1,0,none⟩ v')/\qcE (w.heap.size+5) (w.heap.size+5+3) W (w5.setCell ⟨w.heap.size+1+1+1+1,0,none⟩ v')/\PdI w n (pre++[x]) (w5.setCell ⟨w.heap.size+1+1+1+1,0,none⟩ v'):=by
 have f:=λg h=>qb2 m (g:=g) h;have i:Tr w.heap.size (w.heap.size+5) V w5:=Tr.grown m a h.size (by omega) (by omega);have j:=Tr.set w.heap.size (w.heap.size+5) w5 (w.heap.size+4) v' (by omega) (by omega);have d:=grownBy_setCell' w5 (w.heap.size+4) v';have F:=E.kept a (λe=>by have:=f _ e.symm;omega);obtain⟨g,r,rfl⟩:=ownsRow_succ o;refine⟨(q.trans (i.trans j)).keep,(q.trans (i.trans j)).mid,⟨h.below.trans (i.trans j).below,?_,?_,?_,?_,⟨some ⟨g,0,none⟩,r,ys,?_,?_,?hy⟩,?_,?_,?_⟩⟩
 case hy =>
  have u:(pre++[x]).map (λx=>enP (enS (qea (lst x))))=(pre.map λx=>enP (enS (qea (lst x))))++[enP (enS (qea (lst x)))]:=by rw[kaW];rfl
  show RwB _ _ _ _ _;rw[I,u];have p:=RwB.push (pa:=pa) (pc:=pc) H.out (e:=enP (enS (qea (lst x)))) D;have y:(enP (enS (qea (lst x)))).2.1=(qea (lst x)).1.length:=kaP _;rw[y]at p;refine p.kept λb s z B l=>⟨B,?_⟩
  have C:=ltA l;have J:w5.heap[b]?=some (.cells s 183 z):=by
   refine(a.block b C (λe=>?_)).trans l;rcases m.2 with⟨k,_⟩|⟨A,K,L,k,N,c,_⟩
   ·rw[k]at e;cases e
   rw[k]at e;injection e with e;have t:b=A:=e;rw[<-t,l]at c;injection c with c;injection c with _ c _;revert c;decide
  exact(kaG _ _ _ _ (by simp;omega)).trans J
 ·exact(h.lab.kept a (λe=>by have:=f _ e.symm;omega)).kept d (by intro e;injection e with e;omega)
 ·exact(h.r0.kept a (λe=>by have:=f _ e.symm;omega)).kept d (by intro e;injection e with e;omega)
 ·exact(h.r1.kept a (λe=>by have:=f _ e.symm;omega)).kept d (by intro e;injection e with e;omega)
 ·exact(h.r2.kept a (λe=>by have:=f _ e.symm;omega)).kept d (by intro e;injection e with e;omega)
 ·rw[kaa];exact F.set _
 ·rw[kaa];refine o.kept d (.inr (λe=>?_));have:=qb2 o e;omega
 ·have:=h.le;rw[kaa];simp;omega
 ·rw[kaW,kcv,h.all];simp[G]
 exact kaj h.size (i.trans j).below.size
theorem PdI.drew(h:PdI w n pre W):PdI w n pre W.drew:=h.belowS (kam _ _).drew
theorem qxt(w:World)(n:Nat)(s:ByteArray)(a:World)(b:((((((((w.alloc (.cells #[.int .i64 n] 3)).alloc (.cells #[.slice none 0 0] 85)).alloc (.cells #[.int .i64 0] 28)).alloc (.cells #[.int .i64 0] 3)).alloc (.cells #[.slice none 0 0] 85)).alloc (.cells #[.string s] 9)).alloc (.cells #[.string ⟨#[10]⟩] 9)).alloc (.cells #[.int .i64 0] 3))=a):PdI w n [] a:=by
 subst b;refine⟨?_,?_,?_,?_,?_,⟨none,0,[],?_,kaV _ _ _ _,qqT _ _ _⟩,kaY _,rfl,by simp⟩
 ·exact(((((((bwA).alloc (by simp) _).alloc (by simp;omega) _).alloc (by simp;omega) _).alloc (by simp;omega) _).alloc (by simp;omega) _).alloc (by simp;omega) _).alloc (by simp;omega) _
 ·exact(((((((Boxed.new w _ _).alloc _).alloc _).alloc _).alloc _).alloc _).alloc _).alloc _
 ·have:=Boxed.new (w.alloc (.cells #[.int .i64 n] 3)) 85 (.slice none 0 0);rw[kad]at this;exact(((((this.alloc _).alloc _).alloc _).alloc _).alloc _).alloc _
 ·have:=Boxed.new ((w.alloc (.cells #[.int .i64 n] 3)).alloc (.cells #[.slice none 0 0] 85)) 28 (.int .i64 0);rw[kad,kad]at this;exact((((this.alloc _).alloc _).alloc _).alloc _).alloc _
 ·have:=Boxed.new (((w.alloc (.cells #[.int .i64 n] 3)).alloc (.cells #[.slice none 0 0] 85)).alloc (.cells #[.int .i64 0] 28)) 3 (.int .i64 0);rw[kad,kad,kad]at this;exact(((this.alloc _).alloc _).alloc _).alloc _
 have:=Boxed.new ((((w.alloc (.cells #[.int .i64 n] 3)).alloc (.cells #[.slice none 0 0] 85)).alloc (.cells #[.int .i64 0] 28)).alloc (.cells #[.int .i64 0] 3)) 85 (.slice none 0 0);rw[kad,kad,kad,kad]at this;exact((this.alloc _).alloc _).alloc _
def PrB(W:World)(lo:Nat)(v:Value)(rs:List (List (Nat×List UInt8)×Int×Int)):Prop:=∃xs,W.ownsRow lo 178 3 v rs.length xs/\RwB W lo 183 xs (rs.map enP)
theorem PrB.kept(h:PrB W lo v rs)(i:∀b,lo<=b->b<W.heap.size->W'.heap[b]?=W.heap[b]?):PrB W' lo v rs:=by
 obtain⟨m,a,d⟩:=h;refine⟨m,⟨a.1,?_⟩,d.kept λb e n j k=>⟨j,(i b j (ltA k)).trans k⟩⟩;rcases a.2 with c|⟨f,l,e,c,a,g,d⟩
 ·exact .inl c
 exact .inr ⟨f,l,e,c,a,(i f a (ltA g)).trans g,d⟩
theorem PrB.pru(h:PrB W lo v rs):∃a b,v=.slice a rs.length b/\qep W a rs:=by
 obtain⟨e,c,d⟩:=h;exact qvQ c d
theorem qvm{base:Nat}{e:TypeId}{size:Nat}(h:W.ownsRow base e size v n xs)(j:lo<=base):W.ownsRow lo e size v n xs:=by
 refine⟨h.1,?_⟩;rcases h.2 with a|⟨d,b,c,a,i,g,f⟩
 ·exact .inl a
 exact .inr ⟨d,b,c,a,by omega,g,f⟩
def qyJ(n:Nat)(s:ByteArray)(w:World)(e:Ending)(w':World):Prop :=
 ∃a m cap,e=.returned (.tuple #[.slice a m cap,.int .i64 (qfm n s.data.toList),.int .i64 (qlo n s.data.toList)])/\Below w.heap.size w w'/\(qfm n s.data.toList=0->PrB w' w.heap.size (.slice a m cap) ((qcH s.data.toList).map enS))
theorem qxu{s:ByteArray}{hs:s.size<=2000}{xs:List Str}{ao:Option Addr}{cap D:Nat}(m:¬s.size=0)(h:xs.map lst=qam 10 (lst ⟨s,hs⟩))(n:W.ownsRow (w.heap.size+8) 178 3 (.slice ao xs.length cap) xs.length ys)(A:RwB W (w.heap.size+8) 183 ys (xs.map λx=>enP (enS (qea (lst x)))))(r:W.heap[D]?=some (.deferred (some [])))(u:∀j,w.heap.size+8<=j->V.heap[j]?=W.heap[j]?):PrB (V.putObj D (.deferred none)) w.heap.size (.slice ao xs.length cap) ((qcH s.data.toList).map enS):=by
 have B:s.data.toList.length=s.size:=ka8;have o:qcH s.data.toList=(xs.map lst).map qea:=by
  unfold qcH;rw[kac (by omega),h];rfl
 have l:∀b a t f,w.heap.size+8<=b->W.heap[b]?=some (.cells a t f)->(V.putObj D (.deferred none)).heap[b]?=some (.cells a t f):=by
  intro b a t f c d;have m:b≠D:=by
   rintro rfl;rw[r]at d;cases d
  have k:=(u b c).trans d;rw[(grownBy_putObj' V D (.deferred none)).block b (ltA k) (by simpa using m)];exact k
 have y:(V.putObj D (.deferred none)).ownsRow (w.heap.size+8) 178 3 (.slice ao xs.length cap) ((qcH s.data.toList).map enS).length ys:=by
  have e:((qcH s.data.toList).map enS).length=xs.length:=by rw[o];simp
  rw[e];refine⟨n.1,?_⟩;rcases n.2 with g|⟨i,p,a,g,c,v,q⟩
  ·exact .inl g
  exact .inr ⟨i,p,a,g,c,l i a _ _ c v,q⟩
 have z:RwB (V.putObj D (.deferred none)) (w.heap.size+8) 183 ys (((qcH s.data.toList).map enS).map enP):=by
  have e:((qcH s.data.toList).map enS).map enP=xs.map λx=>enP (enS (qea (lst x))):=by
   rw[o,kcN,kcN,kcN];rfl
  rw[e];exact A.kept λb a f c d=>⟨c,l b a _ f c d⟩
 exact⟨ys,qvm y (by omega),z.kept λb a f c d=>⟨by omega,d⟩⟩
theorem ql3(s:ByteArray)(n:Nat)(w:World)(af:qmS w):Calls prog 55 #[.string s,.int .i64 n] w λe w'=>qyJ n s w e w':=by
 have hl:s.data.toList.length=s.size:=ka8;obtain⟨i0,hi,ax,ay,az⟩:=kaF Tryz.infoRule2;have HG:=qab af;clear af;by_cases a4:(2000:Int)<s.size
 ·have E:qa2 n s.data.toList=0:=by unfold qa2;rw[kag (by omega)]
  have U:Hid (qfm n s.data.toList=6):=by show _=_;unfold qfm;rw[E];rfl
  have r:Hid (qlo n s.data.toList=0):=by show _=_;unfold qlo;rw[E];rfl
  clear E;go_enter func55,ntmps55;go_wp2;have l:=qgU w n 6;have R:Below w.heap.size w ((((w.alloc (.cells #[.int .i64 n] 3)).alloc (.cells #[.slice none 0 0] 85)).alloc (.cells #[.int .i64 6] 28)).alloc (.cells #[.int .i64 0] 3)):=((((bwA).alloc (by simp) _).alloc (by simp;omega) _).alloc (by simp;omega) _)
  generalize(((w.alloc (.cells #[.int .i64 n] 3)).alloc (.cells #[.slice none 0 0] 85)).alloc (.cells #[.int .i64 6] 28)).alloc (.cells #[.int .i64 0] 3)=V at *;obtain⟨F,G,H⟩:=l;refine kaw (v:=.tuple #[.slice none 0 0,.int .i64 6,.int .i64 0]) (by simp[results,f55,go_sem,F,G,H]) rfl ?_;exact⟨none,0,0,by rw[U.out,r.out],R,λe=>by rw[U.out]at e;cases e⟩
 have hs:s.size<=2000:=by omega
 cases hd:(s.toList==[])
 ·have K:Hid (¬s.size=0):=by
   intro h;have:s.data.toList=[]:=ka7 (by omega);rw[kaX,this]at hd;cases hd
  refine(kbS (n:=10)).1 ?_;refine callsIn_of_wp_marks func55 rfl trivial ?_ rfl;simp only[ntmps55,kaT,kah,kay,Nat.reduceAdd,Nat.reduceSub,kbz,kb0,kbG,kb4,kbl,kbo]
  gi_wp2_with fail
  refine⟨trivial,(kbS.2 (qfE s ⟨#[10]⟩ _)).mono ?_⟩;rintro e w' ⟨rfl,rfl⟩;simp only[kad]
  gi_wp2
  obtain⟨J,P⟩:∃J,((((((((w.alloc (.cells #[.int .i64 n] 3)).alloc (.cells #[.slice none 0 0] 85)).alloc (.cells #[.int .i64 0] 28)).alloc (.cells #[.int .i64 0] 3)).alloc (.cells #[.slice none 0 0] 85)).alloc (.cells #[.string s] 9)).alloc (.cells #[.string ⟨#[10]⟩] 9)).alloc (.cells #[.int .i64 0] 3))=J:=⟨_,rfl⟩
  have aw:J.heap.size=w.heap.size+8:=by rw[<-P];simp
  have ae:=qxt w n s J P;have ad:=qsa w n s J P;rw[P];refine qcR rfl (by omega) (gf:=113) (lb:=#[.pointer (some ⟨w.heap.size+1+1+1+1+1+1,0,none⟩),.pointer (some ⟨w.heap.size+1+1+1+1+1,0,none⟩),.pointer (some ⟨w.heap.size+1+1+1+1+1+1+1,0,none⟩)]) rfl trivial (enters_of func113 (by kernel_rfl) rfl)
   (st:=w.heap.size+5) (by omega) (lo:=w.heap.size+5) (hi:=w.heap.size+5+3) (by omega) (qkT 9 (w.heap.size+5) 10 ⟨s,hs⟩ J ad) bwR (λx=>rfl)
   (λpre W=>PdI w n pre W) (λc pre W=>RdX w n pre c W)
   (λpre A al h hg=>h.own hg (.inl rfl)) (λc pre A al h hg=>h.own hg (by omega))
   (λpre A k o o' h N hk hc=>h.own (grownBy_putObj' A k o') (.inr ⟨by omega,o,hk,hc⟩)) (λc pre A k o o' h N hk hc=>h.own (grownBy_putObj' A k o') (by omega))
   ae
   (λx=>{tmps:=#[.string s,.int .i64 n,undef,.pointer (some ⟨w.heap.size,0,none⟩),.pointer (some ⟨w.heap.size+1,0,none⟩),.pointer (some ⟨w.heap.size+1+1,0,none⟩),.pointer (some ⟨w.heap.size+1+1+1,0,none⟩),.pointer (some ⟨w.heap.size+1+1+1+1,0,none⟩),.string x.1,undef,undef,.string s,.int .i64 s.size,.bool false,.string s,.bool false,.string s,.func (.func 113) #[] #[.pointer (some ⟨w.heap.size+1+1+1+1+1+1,0,none⟩),.pointer (some ⟨w.heap.size+1+1+1+1+1,0,none⟩),.pointer (some ⟨w.heap.size+1+1+1+1+1+1+1,0,none⟩)],.string x.1,undef,undef,undef,undef,undef,undef,undef,undef,undef,undef,undef,undef,undef,undef,undef,undef,undef,undef,undef,undef],defers:=[]}) ?assign ?body ?done ?stop
  case assign =>
   intro ak x W a0 I
   gi_wp2
   exact I
  case body =>
   clear ae ad P aw;intro ak pre x W y a6;have C:=qab y;have c0:=y.lab.cell;have cR:=qkU x.1 n W x.2 (HG.out.below y.below);clear y
   gi_wp2_with fail
   refine⟨trivial,((kbS.2 cR).inRound ak).mono ?_⟩;clear cR c0;rintro e g ⟨i,m,z,p,t,rfl,N,O⟩;have am:Hid (qaC n x.1.data.toList=true->m=(qea x.1.data.toList).1.length/\p=(qea x.1.data.toList).2.1/\t=(qea x.1.data.toList).2.2/\qlu g (w.heap.size+8) 183 i (((qea x.1.data.toList).1.map sgS).flatMap sgC)):=λe=>⟨(O e).1,(O e).2.1,(O e).2.2.1,(O e).2.2.2.kept λa1 a3 fr h1 h3=>⟨by have:=C.out.size;omega,h3⟩⟩
   clear O;simp only[qg0];have aa:=qab (C.out.belowS N);have aq:Hid (Tr w.heap.size (w.heap.size+5) W g):=Tr.below' N (by have:=C.out.size;omega) (by have:=C.out.size;omega);clear N C;have ba:=aa.out.size;have a:Hid (PdI w n pre (g.alloc (.cells #[.slice i m z,.int .i64 p,.int .i64 t] 178))):=aa.out.alloc _;have B:Hid (Tr w.heap.size (w.heap.size+5) W (g.alloc (.cells #[.slice i m z,.int .i64 p,.int .i64 t] 178))):=aq.out.trans (Tr.alloc _ _ _ _ (by omega) (by omega));have a5:=a.out.le;cases S:qaC n x.1.data.toList
   ·have ah:¬(qaC n (lst x)=true/\pre.length<16):=λh=>by have h1:qaC n x.1.data.toList=true:=h.1;rw[S]at h1;cases h1
    have X:=qab ah;clear ah
    gi_wp2
    generalize g.alloc (.cells #[.slice i m z,.int .i64 p,.int .i64 t] 178)=V at *;obtain⟨d,f,u,L,Z,ab⟩:=a.out.rules;have c4:V.cell? ⟨w.heap.size+1+1+1+1,0,none⟩=some (.slice d pre.length f):=L.cell;have c1:=a.out.r0.cell;have f1:=a.out.r0.frozen;have c2:V.cell? ⟨w.heap.size+1+1,0,none⟩=some (.int .i64 0):=a.out.r1.cell;have f2:V.frozen? ⟨w.heap.size+1+1,0,none⟩=false:=a.out.r1.frozen;have c3:V.cell? ⟨w.heap.size+1+1+1,0,none⟩=some (.int .i64 0):=a.out.r2.cell;have f3:V.frozen? ⟨w.heap.size+1+1+1,0,none⟩=false:=a.out.r2.frozen
    gi_region
    all_goals gi_wp2
    all_goals exact⟨((B.out.trans (qrX V (by have:=a.out.size;omega) (by have:=a.out.size;omega))).trans (a.out.drew.out x X.out).2).keep,(a.out.drew.out x X.out).1⟩
   have a9:g.heap.size<(g.alloc (.cells #[.slice i m z,.int .i64 p,.int .i64 t] 178)).heap.size:=by simp
   have a8:=qac g (.cells #[.slice i m z,.int .i64 p,.int .i64 t] 178);obtain⟨d,f,u,L,Z,ab⟩:=a.out.rules;have c4:(g.alloc (.cells #[.slice i m z,.int .i64 p,.int .i64 t] 178)).cell? ⟨w.heap.size+1+1+1+1,0,none⟩=some (.slice d pre.length f):=L.cell;have HP:=qab L;have M:=qab Z;by_cases ac:(pre.length:Int)=16
   ·have X:Hid (¬(qaC n (lst x)=true/\pre.length<16)):=λh=>by omega
    have c1:=a.out.r0.cell;have f1:=a.out.r0.frozen;have c2:(g.alloc (.cells #[.slice i m z,.int .i64 p,.int .i64 t] 178)).cell? ⟨w.heap.size+1+1,0,none⟩=some (.int .i64 0):=a.out.r1.cell;have f2:(g.alloc (.cells #[.slice i m z,.int .i64 p,.int .i64 t] 178)).frozen? ⟨w.heap.size+1+1,0,none⟩=false:=a.out.r1.frozen;have c3:(g.alloc (.cells #[.slice i m z,.int .i64 p,.int .i64 t] 178)).cell? ⟨w.heap.size+1+1+1,0,none⟩=some (.int .i64 0):=a.out.r2.cell;have f3:(g.alloc (.cells #[.slice i m z,.int .i64 p,.int .i64 t] 178)).frozen? ⟨w.heap.size+1+1+1,0,none⟩=false:=a.out.r2.frozen
    gi_wp2
    generalize g.alloc (.cells #[.slice i m z,.int .i64 p,.int .i64 t] 178)=V at *
    gi_region
    all_goals gi_wp2
    all_goals
     have o:=a.out.drew.out x X.out;rw[ac]at o;exact⟨((B.out.trans (qrX V (by have:=a.out.size;omega) (by have:=a.out.size;omega))).trans o.2).keep,o.1⟩
   have ap:Hid (qaC n (lst x)=true):=S;have T:=qab (am.out S)
   gi_wp2_with(first
    |(gi_at_builtin;refine wpListIn_append_own _ rfl _ _ 85 rfl (w.heap.size+8) 178 i0 (.agg qcI) 3 40 underlying85 hi ax ay az rfl (by decide) _ _ _ rfl (M.out.alloc _) ⟨g.heap.size+1,0,none⟩ 1 1 [.slice i m z,.int .i64 p,.int .i64 t] rfl rfl (qce _ _ _ _) (λx b=>by simp at b;rcases b with rfl|rfl|rfl<;>rfl) (by unfold maxLen;omega) (by omega) (by simp;omega) ?_;intro v' w5 ai ag a7;obtain⟨g5,a2,rfl⟩:=ownsRow_succ ai;have aj:=(HP.out.alloc _).kept ag (λe=>by have:=qb2 M.out e.symm;omega);have c5:w5.cell? ⟨w.heap.size+1+1+1+1,0,none⟩=some (.slice d pre.length f):=aj.cell;have f5:w5.frozen? ⟨w.heap.size+1+1+1+1,0,none⟩=false:=aj.frozen))
   exact qyq (a.out.alloc _) (B.out.trans (Tr.alloc _ _ _ _ (by simp;omega) (by simp;omega))) (HP.out.alloc _) (M.out.alloc _) ai ag ac ap.out (ab.out.below bwA) ((T.out.2.2.2.below bwA).below bwA) (by show _++[Value.slice i m z,.int .i64 p,.int .i64 t]=_;rw[T.out.1,T.out.2.1,T.out.2.2.1];rfl)
  case done =>
   intro D u W hD hS y I;obtain⟨d,f,ys,L,Z,ar⟩:=y.rules;have M:=qab Z;have C:=qab y;have HS:=qab hS;have HK:=qab I;have c4:W.cell? ⟨w.heap.size+1+1+1+1,0,none⟩=some (.slice d u.length f):=L.cell;have c1:=y.r0.cell;have f1:=y.r0.frozen;have c2:W.cell? ⟨w.heap.size+1+1,0,none⟩=some (.int .i64 0):=y.r1.cell;have f2:W.frozen? ⟨w.heap.size+1+1,0,none⟩=false:=y.r1.frozen;have c3:W.cell? ⟨w.heap.size+1+1+1,0,none⟩=some (.int .i64 0):=y.r2.cell;have f3:W.frozen? ⟨w.heap.size+1+1+1,0,none⟩=false:=y.r2.frozen
   gi_wp2
   have E:=qzw K.out HS.out C.out.le C.out.all;have Y:qfm n s.data.toList=0:=by unfold qfm;rw[E];rfl
   have hN:qlo n s.data.toList=0:=by unfold qlo;rw[E];rfl
   have t1:=Tr.set w.heap.size (w.heap.size+5) W (w.heap.size+1) (.slice d u.length f) (by omega) (by omega);have t2:=Tr.set w.heap.size (w.heap.size+5) (W.setCell ⟨w.heap.size+1,0,none⟩ (.slice d u.length f)) (w.heap.size+1+1) (.int .i64 0) (by omega) (by omega);have t3:=Tr.set w.heap.size (w.heap.size+5) ((W.setCell ⟨w.heap.size+1,0,none⟩ (.slice d u.length f)).setCell ⟨w.heap.size+1+1,0,none⟩ (.int .i64 0)) (w.heap.size+1+1+1) (.int .i64 0) (by omega) (by omega);have g1:=grownBy_setCell' W (w.heap.size+1) (.slice d u.length f);have g2:=grownBy_setCell' (W.setCell ⟨w.heap.size+1,0,none⟩ (.slice d u.length f)) (w.heap.size+1+1) (.int .i64 0);have g3:=grownBy_setCell' ((W.setCell ⟨w.heap.size+1,0,none⟩ (.slice d u.length f)).setCell ⟨w.heap.size+1+1,0,none⟩ (.int .i64 0)) (w.heap.size+1+1+1) (.int .i64 0);have b0:=((C.out.r0.set (.slice d u.length f)).kept g2 (by intro e;injection e with e;omega)).kept g3 (by intro e;injection e with e;omega);have b1:=(Boxed.set (.int .i64 0) (C.out.r1.kept g1 (by intro e;injection e with e;omega))).kept g3 (by intro e;injection e with e;omega);have b2:=Boxed.set (.int .i64 0) ((C.out.r2.kept g1 (by intro e;injection e with e;omega)).kept g2 (by intro e;injection e with e;omega));have R:=C.out.below.trans ((t1.trans t2).trans t3).below;have I:=((t1.trans t2).trans t3).keep.same D _ HK.out rfl;have HC:Hid (∀j,w.heap.size+8<=j->(((W.setCell ⟨w.heap.size+1,0,none⟩ (.slice d u.length f)).setCell ⟨w.heap.size+1+1,0,none⟩ (.int .i64 0)).setCell ⟨w.heap.size+1+1+1,0,none⟩ (.int .i64 0)).heap[j]?=W.heap[j]?):=λj hj=>((kaG _ _ _ _ (by simp;omega)).trans (kaG _ _ _ _ (by simp;omega))).trans (kaG _ _ _ _ (by simp;omega));generalize((W.setCell ⟨w.heap.size+1,0,none⟩ (.slice d u.length f)).setCell ⟨w.heap.size+1+1,0,none⟩ (.int .i64 0)).setCell ⟨w.heap.size+1+1+1,0,none⟩ (.int .i64 0)=V at *;refine⟨by simp,.inl ⟨D,_,rfl,run_takeDeferred I,?_⟩⟩;have F:=(Boxed.kept b0 (grownBy_putObj' V D (.deferred none)) (by intro e;injection e with e;omega)).cell;have G:(V.putObj D (.deferred none)).cell? ⟨w.heap.size+1+1,0,none⟩=some (.int .i64 0):=(Boxed.kept b1 (grownBy_putObj' V D (.deferred none)) (by intro e;injection e with e;omega)).cell;have H:(V.putObj D (.deferred none)).cell? ⟨w.heap.size+1+1+1,0,none⟩=some (.int .i64 0):=(Boxed.kept b2 (grownBy_putObj' V D (.deferred none)) (by intro e;injection e with e;omega)).cell;refine⟨.tuple #[.slice d u.length f,.int .i64 0,.int .i64 0],?_,⟨d,u.length,f,by rw[Y,hN],qb8 R (by omega) _,λ_=>qxu K.out HS.out M.out ar.out HK.out HC.out⟩⟩;simp[results,f55,go_sem,F,G,H]
  case stop =>
   intro D c pre W hD hS Q I;obtain rfl:=Q.ret
   gi_wp2
   obtain⟨q,x,rfl,au,ha,av,b⟩:=Q.bad;obtain⟨bb,S⟩:=hS;have E:=qzC K.out S ha av b;have Y:qfm n s.data.toList=6:=by unfold qfm;rw[E,kag (by omega)]
   have hN:qlo n s.data.toList=q.length:=by unfold qlo;rw[E,kag (by omega)]
   refine⟨by simp,.inl ⟨D,_,rfl,run_takeDeferred I,?_⟩⟩;have F:=(Q.r0.kept (grownBy_putObj' W D (.deferred none)) (by intro e;injection e with e;omega)).cell;have G:(W.putObj D (.deferred none)).cell? ⟨w.heap.size+1+1,0,none⟩=some (.int .i64 6):=(Q.r1.kept (grownBy_putObj' W D (.deferred none)) (by intro e;injection e with e;omega)).cell;have H:(W.putObj D (.deferred none)).cell? ⟨w.heap.size+1+1+1,0,none⟩=some (.int .i64 (q.length:Nat)):=(au.kept (grownBy_putObj' W D (.deferred none)) (by intro e;injection e with e;omega)).cell;refine⟨.tuple #[.slice none 0 0,.int .i64 6,.int .i64 (q.length:Nat)],?_,⟨none,0,0,by rw[Y,hN],qb8 Q.below (by omega) _,λe=>by rw[Y]at e;cases e⟩⟩;simp[results,f55,go_sem,F,G,H]
 have h0:s.data.toList=[]:=by rw[<-kaX];exact kdo hd
 have E:qa2 n s.data.toList = -1:=by unfold qa2;rw[h0];rfl
 have U:Hid (qfm n s.data.toList=0):=by show _=_;unfold qfm;rw[E];rfl
 have r:Hid (qlo n s.data.toList=0):=by show _=_;unfold qlo;rw[E];rfl
 have an:Hid (qcH s.data.toList=[]):=by show _=_;unfold qcH;rw[h0];rfl
 go_enter func55,ntmps55;go_wp2;have l:=qgU w n 0;have R:Below w.heap.size w ((((w.alloc (.cells #[.int .i64 n] 3)).alloc (.cells #[.slice none 0 0] 85)).alloc (.cells #[.int .i64 0] 28)).alloc (.cells #[.int .i64 0] 3)):=((((bwA).alloc (by simp) _).alloc (by simp;omega) _).alloc (by simp;omega) _)
 generalize(((w.alloc (.cells #[.int .i64 n] 3)).alloc (.cells #[.slice none 0 0] 85)).alloc (.cells #[.int .i64 0] 28)).alloc (.cells #[.int .i64 0] 3)=V at *;obtain⟨F,G,H⟩:=l;refine kaw (v:=.tuple #[.slice none 0 0,.int .i64 0,.int .i64 0]) (by simp[results,f55,go_sem,F,G,H]) rfl ?_;exact⟨none,0,0,by rw[U.out,r.out],R,λ_=>by rw[an.out];exact⟨[],kaV _ _ _ _,qqT _ _ _⟩⟩
end

def q0v(c:Cfg)(A:Array Value)(w':World):Prop:=A.size=38/\A.all (·.oneCell')=true/\(qie c=0->qbC c.labels c.L=true/\∃a k cap,A=qcq (qaq c.labels.toNat (qc1 c.labels.toNat c.L)) a k cap/\∃lo',PrB w' lo' (.slice a k cap) ((qcH c.pol.data.toList).map enS))
theorem qnh(c:Cfg)(a:World)(h:¬qie c=0):q0v c qcT a:=⟨qbj,qdT,λe=>absurd e h⟩
def qyt(c:Cfg)(w:World)(e:Ending)(w':World):Prop:=∃A,e=.returned (.tuple #[.agg A,.int .i64 (qie c),.int .i64 (qpd c)])/\q0v c A w'/\Below w.heap.size w w'
def q01(n:Nat)(s:ByteArray):Int:=qfm n s.data.toList
def PoK(n:Nat)(s:ByteArray)(w:World)(a:Option Addr)(m cap:Nat)(w':World):Prop:=q01 n s=0->PrB w' w.heap.size (.slice a m cap) ((qcH s.data.toList).map enS)
theorem qo2(s:ByteArray)(n:Nat)(w:World)(h:qmS w):Calls prog 55 #[.string s,.int .i64 n] w λe c=>∃a m b,e=.returned (.tuple #[.slice a m b,.int .i64 (qfm n s.data.toList),.int .i64 (qlo n s.data.toList)])/\Below w.heap.size w c/\PoK n s w a m b c:=by
 refine(ql3 s n w h).mono ?_;rintro e c ⟨a,m,b,d,f,g⟩;exact⟨a,m,b,d,f,g⟩
theorem qlB(c:Cfg)(w:World)(y:qia w c)(U:qmS w):Calls prog 35 #[.agg c.arr] w (qyt c w):=by
 have Y:=qab y;have HG:=qab U;have HS:=qab c.size;have A:=qab (qw9 w c);have hL:c.L.length<=maxLen:=by have:=y.eb;unfold maxLen;omega
 have af:c.B.length<=maxLen:=by have:=y.bb;unfold maxLen;omega
 have N:Calls prog 53 #[.agg c.arr] ((w.alloc (.cells c.arr 25)).alloc (.cells qcT 87)) λe w'=>e=.returned (.tuple #[.agg (roA c.labels c.L c.dflt c.clr),.int .i64 (roE c.labels c.L c.dflt c.clr)])/\Below ((w.alloc (.cells c.arr 25)).alloc (.cells qcT 87)).heap.size ((w.alloc (.cells c.arr 25)).alloc (.cells qcT 87)) w' :=
  qiK c.arr c.labels c.L c.ea c.ecap c.dflt c.clr rfl rfl rfl rfl hL _ (y.edges.below A.out.below)
 have F:(roA c.labels c.L c.dflt c.clr).size=37:=by unfold roA;split<;>exact qae _ _
 have R:(roA c.labels c.L c.dflt c.clr).all (·.oneCell')=true:=by unfold roA;split<;>exact qa9 _ _
 have k:=qab F;have p:=qab R;have v:Hid (qaF.size=(roA c.labels c.L c.dflt c.clr).size):=by show _=_;rw[F];exact qae _ _
 have K:Hid (roE c.labels c.L c.dflt c.clr=0->qbC c.labels c.L=true/\roA c.labels c.L c.dflt c.clr=qaq c.labels.toNat (qc1 c.labels.toNat c.L)):=qxX;have G:Hid (¬roE c.labels c.L c.dflt c.clr=0->qie c=roE c.labels c.L c.dflt c.clr/\qpd c=0):=qzB;have J:Hid (roE c.labels c.L c.dflt c.clr=0->qie c=(if qe3 c.inn c.out c.depth c.bytes=false then 4 else if qaL c.B=false then 5 else qfm c.labels.toNat c.pol.data.toList)/\qpd c=(if qe3 c.inn c.out c.depth c.bytes=false then 0 else if qaL c.B=false then 0 else qlo c.labels.toNat c.pol.data.toList)):=λh=>by
  refine⟨?_,?_⟩
  ·unfold qie;rw[kac (λz=>z h)]
  unfold qpd;rw[kac (λz=>z h)]
 clear F R y U;generalize roA c.labels c.L c.dflt c.clr=O at *;generalize roE c.labels c.L c.dflt c.clr=E0 at *;go_enter func35,ntmps35
 go_wp2_with(first
  |(refine qcj rfl rfl _ rfl (w.heap.size+1) ?hN ?_;case hN=>(simp only[kad];done))
  |(refine kak rfl 25 _ rfl _ rfl _ _ _ _ A.out.box underlying25 rfl (qaD HS.out) ?_)
  |fail)
 refine N.mono ?_;clear N;rintro e a ⟨rfl,P⟩;have M:=qab (A.out.step P);clear P A;have d:Hid (qwN w c (a.alloc (.cells O 84))):=M.out.step bwA;have W:Hid ((a.alloc (.cells O 84)).heap[a.heap.size]?=some (.cells O 84)):=qac _ _;by_cases E:E0=0
 ·subst E;obtain⟨V,S⟩:=K.out rfl;obtain⟨n,s⟩:=J.out rfl;have H:=qab S;have I:=qab V;have h6:(a.alloc (.cells O 84)).cell? ⟨w.heap.size,6,none⟩=some (.int .i64 c.inn):=d.out.cell 6;have h7:(a.alloc (.cells O 84)).cell? ⟨w.heap.size,7,none⟩=some (.int .i64 c.out):=d.out.cell 7;have h8:(a.alloc (.cells O 84)).cell? ⟨w.heap.size,8,none⟩=some (.int .i64 c.depth):=d.out.cell 8;have h9:(a.alloc (.cells O 84)).cell? ⟨w.heap.size,9,none⟩=some (.int .i64 c.bytes):=d.out.cell 9;have ai:(a.alloc (.cells O 84)).cell? ⟨w.heap.size,10,none⟩=some (.slice c.ba c.B.length c.bcap):=d.out.cell 10;have h3:(a.alloc (.cells O 84)).cell? ⟨w.heap.size,3,none⟩=some (.string c.pol):=d.out.cell 3;have h0:(a.alloc (.cells O 84)).cell? ⟨w.heap.size,0,none⟩=some (.int .i64 c.labels):=d.out.cell 0;have t:=λad=>qfJ c.inn c.out c.depth c.bytes ad;clear K J G S V;cases l:qe3 c.inn c.out c.depth c.bytes
  ·have j:Hid (qie c=4):=by show _=_;rw[n,l];rfl
   have m:Hid (qpd c=0):=by show _=_;rw[s,l];rfl
   have o:Hid (¬qie c=0):=by show¬_;rw[j.out];decide
   rw[l]at t;clear n s l
   go_wp2_with(first
    |(go_at_call 10;refine(t _).mono ?_;rintro e u ⟨rfl,rfl⟩)
    |(refine qat rfl rfl _ rfl a.heap.size rfl ?_)
    |(refine kan rfl 84 _ _ rfl a.heap.size O rfl rfl 84 qaF (qac a _) (qas k.out) v.out p.out ?_;rw[kaB])
    |(refine qal rfl 87 _ rfl _ rfl _ [] ?hl qdR ?_;case hl=>simp)
    |(refine kan rfl 87 _ _ rfl (w.heap.size+1) qcT rfl rfl 87 qcT d.out.res (qbz qbj) rfl qdT ?_))
   refine kaw (qbh results35 _ _ (w.heap.size+1) 87 qcT (0,0) _ rfl (kaA _ _ qcT _ _ _ d.out.res) underlying87 rfl (qbz qbj) (.int .i64 4) (.int .i64 0) rfl rfl) rfl ⟨qcT,by rw[j.out,m.out],qnh c _ o.out,qai d.out.below (by omega) _⟩
  rw[l]at t;have x:=qjd c.ba c.bcap c.B af (a.alloc (.cells O 84)) (Y.out.ints.below d.out.below);cases r:qaL c.B
  ·have j:Hid (qie c=5):=by show _=_;rw[n,l,r];rfl
   have m:Hid (qpd c=0):=by show _=_;rw[s,l,r];rfl
   have o:Hid (¬qie c=0):=by show¬_;rw[j.out];decide
   rw[r]at x;clear n s l r
   go_wp2_with(first
    |(go_at_call 10;refine(t _).mono ?_;rintro e u ⟨rfl,rfl⟩)
    |(go_at_call 54;refine x.mono ?_;rintro e u ⟨rfl,rfl⟩)
    |(refine qat rfl rfl _ rfl a.heap.size rfl ?_)
    |(refine kan rfl 84 _ _ rfl a.heap.size O rfl rfl 84 qaF (qac a _) (qas k.out) v.out p.out ?_;rw[kaB])
    |(refine qal rfl 87 _ rfl _ rfl _ [] ?hl qdR ?_;case hl=>simp)
    |(refine kan rfl 87 _ _ rfl (w.heap.size+1) qcT rfl rfl 87 qcT d.out.res (qbz qbj) rfl qdT ?_))
   refine kaw (qbh results35 _ _ (w.heap.size+1) 87 qcT (0,0) _ rfl (kaA _ _ qcT _ _ _ d.out.res) underlying87 rfl (qbz qbj) (.int .i64 5) (.int .i64 0) rfl rfl) rfl ⟨qcT,by rw[j.out,m.out],qnh c _ o.out,qai d.out.below (by omega) _⟩
  rw[r]at x;have D:=qo2 c.pol c.labels.toNat (a.alloc (.cells O 84)) (HG.out.below d.out.below);rw[(qek I.out).1]at D;have j:Hid (qie c=qfm c.labels.toNat c.pol.data.toList):=by show _=_;rw[n,l,r];rfl
  have m:Hid (qpd c=qlo c.labels.toNat c.pol.data.toList):=by show _=_;rw[s,l,r];rfl
  have b:Hid (qfm c.labels.toNat c.pol.data.toList=0->qlo c.labels.toNat c.pol.data.toList=0):=λh=>by
   unfold qfm at h;unfold qlo;split at h
   ·cases h
   next z=>rw[kac z]
  have Z:Hid (q01 c.labels.toNat c.pol=qfm c.labels.toNat c.pol.data.toList):=rfl;generalize qfm c.labels.toNat c.pol.data.toList=E1 at *;generalize qlo c.labels.toNat c.pol.data.toList=N1 at *;by_cases Q:E1=0
  ·subst Q;have ag:=b.out rfl;subst ag;have X:Hid (∀f i g,prog.built 87 [(0,.agg O),(1,.slice f i g)]=some (qcq O f i g)):=λf i g=>by rw[H.out];exact qpn _ _ _ _ _
   have ac:Hid (∀f i g,qcT.size=(qcq O f i g).size):=λf i g=>by rw[qcn k.out];exact qbj
   have ah:a.heap.size<(a.alloc (.cells O 84)).heap.size:=by simp
   go_wp2_with(first
    |(go_at_call 10;refine(t _).mono ?_;rintro e u ⟨rfl,rfl⟩)
    |(go_at_call 54;refine x.mono ?_;rintro e u ⟨rfl,rfl⟩)
    |(go_at_call 55;refine D.mono ?_;rintro e w4 ⟨f,i,g,rfl,C,T⟩;have ab:=qab T;have q:=qab (d.out.step C);have aa:=qab ((C.block _ ah).trans W.out))
    |(refine kak rfl 84 _ rfl _ rfl _ _ _ _ aa.out underlying84 rfl (qas k.out) ?_)
    |(refine qal rfl 87 _ rfl _ rfl _ [(0,.agg O),(1,.slice f i g)] ?hl (X.out f i g) ?_;case hl=>simp[go_sem])
    |(refine kan rfl 87 _ _ rfl (w.heap.size+1) (qcq O f i g) rfl rfl 87 qcT q.out.res (qbz (qcn k.out _ _ _)) (ac.out _ _ _) (qfp p.out _ _ _) ?_)
    |(refine qat rfl rfl _ rfl a.heap.size rfl ?_)
    |(refine kan rfl 84 _ _ rfl a.heap.size O rfl rfl 84 qaF (qac a _) (qas k.out) v.out p.out ?_;rw[kaB]))
   refine kaw (qbh results35 _ _ (w.heap.size+1) 87 (qcq O f i g) (0,0) _ rfl (kaA _ _ qcT _ _ _ q.out.res) underlying87 rfl (qbz (qcn k.out _ _ _)) (.int .i64 0) (.int .i64 0) rfl rfl) rfl ⟨qcq O f i g,by rw[j.out,m.out],?_,qai q.out.below (by omega) _⟩;refine⟨qcn k.out _ _ _,qfp p.out _ _ _,λ_=>⟨I.out,f,i,g,by rw[H.out],?_⟩⟩;have hq:=ab.out Z.out;have aj:=ltA M.out.res;exact⟨_,hq.kept λae h1 _=>kb3 _ (w.heap.size+1) ae _ (by rw[kad]at h1;omega)⟩
  have o:Hid (¬qie c=0):=by show¬_;rw[j.out];exact Q
  go_wp2_with(first
   |(go_at_call 10;refine(t _).mono ?_;rintro e u ⟨rfl,rfl⟩)
   |(go_at_call 54;refine x.mono ?_;rintro e u ⟨rfl,rfl⟩)
   |(go_at_call 55;refine D.mono ?_;rintro e w4 ⟨f,i,g,rfl,C,T⟩;have q:=qab (d.out.step C))
   |(refine kan rfl 87 _ _ rfl (w.heap.size+1) qcT rfl rfl 87 qcT q.out.res (qbz qbj) rfl qdT ?_)
   |(refine qat rfl rfl _ rfl a.heap.size rfl ?_)
   |(refine kan rfl 84 _ _ rfl a.heap.size O rfl rfl 84 qaF (qac a _) (qas k.out) v.out p.out ?_;rw[kaB])
   |(refine qal rfl 87 _ rfl _ rfl _ [] ?hl qdR ?_;case hl=>simp)
   |(refine kan rfl 87 _ _ rfl (w.heap.size+1) qcT rfl rfl 87 qcT d.out.res (qbz qbj) rfl qdT ?_))
  refine kaw (qbh results35 _ _ (w.heap.size+1) 87 qcT (0,0) _ rfl (kaA _ _ qcT _ _ _ q.out.res) underlying87 rfl (qbz qbj) (.int .i64 E1) (.int .i64 N1) rfl rfl) rfl ⟨qcT,by rw[j.out,m.out],qnh c _ o.out,qai q.out.below (by omega) _⟩
 obtain⟨n,s⟩:=G.out E;have j:=qab n;have m:=qab s;have o:Hid (¬qie c=0):=by show¬_;rw[n];exact E
 go_wp2_with(first
  |(refine qat rfl rfl _ rfl a.heap.size rfl ?_)
  |(refine kan rfl 84 _ _ rfl a.heap.size O rfl rfl 84 qaF (qac a _) (qas k.out) v.out p.out ?_;rw[kaB])
  |(refine qal rfl 87 _ rfl _ rfl _ [] ?hl qdR ?_;case hl=>simp)
  |(refine kan rfl 87 _ _ rfl (w.heap.size+1) qcT rfl rfl 87 qcT d.out.res (qbz qbj) rfl qdT ?_))
 refine kaw (qbh results35 _ _ (w.heap.size+1) 87 qcT (0,0) _ rfl (kaA _ _ qcT _ _ _ d.out.res) underlying87 rfl (qbz qbj) (.int .i64 E0) (.int .i64 0) rfl rfl) rfl ⟨qcT,by rw[j.out,m.out],qnh c _ o.out,qai d.out.below (by omega) _⟩

end
section
open Go.RowKit
theorem qp4:∀(q:List (List UInt8)) (i:Nat),qbf n q i<0->i<=16->(∀x∈q,qaC n x=true)/\i+q.length<=16
 |[],i,_,hi=>⟨λx c=>absurd c (by simp),by simpa using hi⟩
 |x::q,i,h,_=>by
  unfold qbf at h;split at h
  ·next hc =>
   obtain⟨b,d⟩:=qp4 q (i+1) h (by omega);refine⟨λy a=>?_,by rw[kah];omega⟩;rcases kbR.1 a with rfl|a
   ·exact hc.1
   exact b y a
  omega
theorem qrd(h:qfe l=true):(qjP l).length<=8:=by
 unfold qfe at h;unfold qjP
 cases a:(l==[46])with
 |true=>simp
 |false =>
  rw[a,kdP,ka2]at h;have:=kaq h.2;simpa using this
theorem qp0{s:List UInt8}(h:s∈qjP l):s.length<=l.length:=by
 unfold qjP at h;split at h
 ·cases h
 exact qb6 47 l s h
theorem qr9(h:qaC n l=true):(qea l).1.length<=8/\∀s∈(qea l).1,s.length<=l.length:=by
 have b:=qir h;have c:=qrf b;have a:qku n [(Lib.cut l [32]).1,(Lib.cut (Lib.cut l [32]).2.1 [32]).1,(Lib.cut (Lib.cut l [32]).2.1 [32]).2.1]=true:=by
  rw[<-b];exact h
 unfold qku at a;rw[ka2]at a;rw[c];have e:(Lib.cut l [32]).1.length<=l.length:=qb6 32 l _ (by rw[b];simp);exact⟨qrd a.1,λs d=>kaj (qp0 d) e⟩
theorem qpL(h:qfm n l=0):(qcH l).length<=16/\∀r∈qcH l,r.1.length<=8/\∀s∈r.1,s.length<=2000:=by
 have a:qa2 n l<0:=by
  unfold qfm at h;split at h
  ·cases h
  omega
 unfold qa2 at a;unfold qcH;split at a
 ·omega
 next hb =>
 split at a
 ·next h0 =>
  rw[kag h0];exact⟨by simp,λr b=>by cases b⟩
 next h0 =>
 rw[kac h0];obtain⟨d,i⟩:=qp4 (qam 10 l) 0 a (by omega);refine⟨by rw[kaP];omega,λr b=>?_⟩;obtain⟨x,c,rfl⟩:=kc7.1 b;obtain⟨f,g⟩:=qr9 (d x c);refine⟨f,λs e=>?_⟩;have:=g s e;have:=qb6 10 l x c;omega
theorem qpk(h:qfm n l=0):((qcH l).map enS).length<=16/\(∀i (h:i<((qcH l).map enS).length),((qcH l).map enS)[i].1.length<=8)/\∀i (h:i<((qcH l).map enS).length) j (a:j<((qcH l).map enS)[i].1.length),((qcH l).map enS)[i].1[j].1<=3/\((qcH l).map enS)[i].1[j].2.length<=1000000000:=by
 obtain⟨m,a⟩:=qpL h;refine⟨by rw[kaP];exact m,λi b=>?_,λi b j c=>?_⟩
 ·rw[kcR];have d:i<(qcH l).length:=by rwa[kaP]at b
  show((qcH l)[i].1.map sgS).length<=8;rw[kaP];exact(a _ (kbC _)).1
 have d:i<(qcH l).length:=by rwa[kaP]at b
 have e:((qcH l).map enS)[i]=enS (qcH l)[i]:=kcR _;have f:j<(qcH l)[i].1.length:=by
  rw[kcR]at c;have:((qcH l)[i].1.map sgS).length=(qcH l)[i].1.length:=kaP _;exact this▸c
 have g:((qcH l).map enS)[i].1[j]=sgS ((qcH l)[i].1[j]):=by
  have:(((qcH l).map enS)[i].1)[j]?=((enS (qcH l)[i]).1)[j]?:=by rw[e]
  rw[kab c]at this;have k:((enS (qcH l)[i]).1)[j]?=some (sgS ((qcH l)[i].1[j])):=by
   show((qcH l)[i].1.map sgS)[j]?=_;rw[kbx,kab f];rfl
  rw[k]at this;injection this
 rw[g];have:=(a _ (kbC d)).2 _ (kbC f);have:=qxg (qcH l)[i].1[j];exact⟨qts _,by omega⟩

end
end Go.Proofs.YtmajcjammmjimaaGreatDoor
