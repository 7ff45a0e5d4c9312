import Derived.Test.YtpifimohecagoaaGreatDoorPq16
set_option maxRecDepth 100000
set_option maxHeartbeats 8000000
namespace Go.Proofs.YtpifimohecagoaaGreatDoor
open Go.Proofs.Tryz
variable{A L j k lo n row tb:Nat}{V W W' w w2:World}{pre xs:List Str}{c:Cfg}{s:ByteArray}{q:Aut}{x:Str}{O:Array Value}{sv v:Value}{ys:List Value}{rs:List (List (Nat×List UInt8)×Int×Int)}{st:Nat->Nat}{tk:Nat->Nat->Nat}
section
open Go.RowKit Go.Shelf
section
attribute[local go_sem] Oper.semAt_some
theorem qrz:∀(q r:List (List UInt8)) (i:Nat),q.all (qaD n)=true->i+q.length<=16->qbh n (q++r) i=qbh n r (i+q.length)
 |[],r,i,_,_=>rfl
 |x::q,r,i,h,hl=>by
  rw[List.all_cons,Bool.and_eq_true]at h;rw[List.length_cons]at hl;rw[List.cons_append,qbh,if_pos ⟨h.1,by omega⟩,qrz q r (i+1) h.2 (by omega),List.length_cons];congr 1;omega
def qft(n:Nat)(l:List UInt8):Int:=if 0<=qa5 n l then 6 else 0
def qkn(n:Nat)(l:List UInt8):Int:=if 0<=qa5 n l then qa5 n l else 0
structure RdX(w:World)(n:Nat)(pre:List Str)(c:Code)(W:World):Prop where
 ret:c=.ret
 below:Below w.heap.size w W
 r0:Boxed W (w.heap.size+1) 68 (.slice none 0 0)
 r1:Boxed W (w.heap.size+2) 29 (.int .i64 6)
 bad:∃q x,pre=q++[x]/\Boxed W (w.heap.size+3) 3 (.int .i64 (q.length:Nat))/\(q.map lst).all (qaD n)=true/\q.length<=16/\¬(qaD n (lst x)=true/\q.length<16)
 size:w.heap.size+8<=W.heap.size
theorem RdX.own{c:Code}(h:RdX w n pre c W)(a:W.grownBy W' (some row))(j:w.heap.size+4<=row):RdX w n pre c W':=by
 obtain⟨q,x,e,d,b,f,g⟩:=h.bad;exact⟨h.ret,h.below.trans ⟨a.os,a.tape,a.output,a.size,λi k=>a.block i (by have:=h.size;omega) (by intro e;injection e with e;omega)⟩,h.r0.kept a (by intro e;injection e with e;omega),h.r1.kept a (by intro e;injection e with e;omega),⟨q,x,e,d.kept a (by intro e;injection e with e;omega),b,f,g⟩,Nat.le_trans h.size a.size⟩
theorem qrn{N:Nat}(W:World)(a:N<=W.heap.size)(b:k+3<=W.heap.size):Tr N k W W.drew:=Tr.below' (Below.refl _ _).drew a b
theorem Tryz.infoRule2:(prog.info? 146).map (λi=>(i.zero,i.size,i.bytes))=some (some (.agg qcF),3,40):=by kernel_rfl
theorem qzf{hs:s.size<=2000}(e:¬s.size=0)(h:xs.map lst=qam 10 (lst ⟨s,hs⟩))(c:xs.length<=16)(b:(xs.map lst).all (qaD n)=true):qa5 n s.data.toList = -1:=by
 have a:qam 10 s.data.toList=xs.map lst:=h.symm;have d:s.data.toList.length=s.size:=Array.length_toList;unfold qa5;rw[if_neg (by omega),if_neg (by omega),a];have:=qrz (n:=n) (xs.map lst) [] 0 b (by rw[List.length_map];omega);rw[List.append_nil]at this;rw[this];rfl
theorem qzV{hs:s.size<=2000}{q:List Str}{r:List (List UInt8)}(f:¬s.size=0)(h:qam 10 (lst ⟨s,hs⟩)=(q++[x]).map lst++r)(b:(q.map lst).all (qaD n)=true)(e:q.length<=16)(c:¬(qaD n (lst x)=true/\q.length<16)):qa5 n s.data.toList=q.length:=by
 have a:qam 10 s.data.toList=(q++[x]).map lst++r:=h;have d:s.data.toList.length=s.size:=Array.length_toList;unfold qa5;rw[if_neg (by omega),if_neg (by omega),a,List.map_append,List.append_assoc,qrz (q.map lst) _ 0 b (by rw[List.length_map];omega)];simp only[List.map_cons,List.map_nil,List.cons_append,List.nil_append,List.length_map,Nat.zero_add];rw[qbh,if_neg c]
theorem qpN(w:World)(n:Nat)(s:ByteArray)(a:World)(b:((((((((w.alloc (.cells #[.int .i64 n] 3)).alloc (.cells #[.slice none 0 0] 68)).alloc (.cells #[.int .i64 0] 29)).alloc (.cells #[.int .i64 0] 3)).alloc (.cells #[.slice none 0 0] 68)).alloc (.cells #[.string s] 9)).alloc (.cells #[.string ⟨#[10]⟩] 9)).alloc (.cells #[.int .i64 0] 3))=a):qhg (w.heap.size+5) 10 a s:=by
 subst b;generalize hA:((((w.alloc (.cells #[.int .i64 n] 3)).alloc (.cells #[.slice none 0 0] 68)).alloc (.cells #[.int .i64 0] 29)).alloc (.cells #[.int .i64 0] 3)).alloc (.cells #[.slice none 0 0] 68)=A;have c:w.heap.size+5=A.heap.size:=by rw[<-hA];simp
 rw[c];refine⟨?_,?_,?_⟩
 ·exact((Below.heap_alloc _ _ _ (by simp;omega)).trans (Below.heap_alloc _ _ _ (by simp))).trans (qac A _)
 ·refine(Below.heap_alloc _ _ _ (by simp)).trans ?_;have:=qac (A.alloc (.cells #[.string s] 9)) (.cells #[.string ⟨#[10]⟩] 9);rwa[World.size_alloc]at this
 have:=qac ((A.alloc (.cells #[.string s] 9)).alloc (.cells #[.string ⟨#[10]⟩] 9)) (.cells #[.int .i64 0] 3);rwa[World.size_alloc,World.size_alloc]at this
theorem qho(w:World)(n:Nat)(e:Int):((((w.alloc (.cells #[.int .i64 n] 3)).alloc (.cells #[.slice none 0 0] 68)).alloc (.cells #[.int .i64 e] 29)).alloc (.cells #[.int .i64 0] 3)).cell? ⟨w.heap.size+1,0,none⟩=some (.slice none 0 0) /\
  ((((w.alloc (.cells #[.int .i64 n] 3)).alloc (.cells #[.slice none 0 0] 68)).alloc (.cells #[.int .i64 e] 29)).alloc (.cells #[.int .i64 0] 3)).cell? ⟨w.heap.size+1+1,0,none⟩=some (.int .i64 e) /\
  ((((w.alloc (.cells #[.int .i64 n] 3)).alloc (.cells #[.slice none 0 0] 68)).alloc (.cells #[.int .i64 e] 29)).alloc (.cells #[.int .i64 0] 3)).cell? ⟨w.heap.size+1+1+1,0,none⟩=some (.int .i64 0):=by
 refine⟨?_,?_,?_⟩
 ·have:=Boxed.new (w.alloc (.cells #[.int .i64 n] 3)) 68 (.slice none 0 0);rw[World.size_alloc]at this;exact((this.alloc _).alloc _).cell
 ·have:=Boxed.new ((w.alloc (.cells #[.int .i64 n] 3)).alloc (.cells #[.slice none 0 0] 68)) 29 (.int .i64 e);rw[World.size_alloc,World.size_alloc]at this;exact(this.alloc _).cell
 have:=Boxed.new (((w.alloc (.cells #[.int .i64 n] 3)).alloc (.cells #[.slice none 0 0] 68)).alloc (.cells #[.int .i64 e] 29)) 3 (.int .i64 0);rw[World.size_alloc,World.size_alloc,World.size_alloc]at this;exact this.cell
end

theorem qbl{P:Program}{fn:Func}{p u u2:Tmp}{ty:TypeId}(h:fn.results=#[.cell p ty,.tmp u,.tmp u2])(b:Array Value)(w:World)(g:Nat)(t:TypeId)(cs:Array Value)(c:Nat×Nat)(d:TypeDesc)(k:b.getD p undef=.pointer (some ⟨g,0,none⟩))(j:w.heap[g]?=some (.cells cs t c))(l:P.underlying ty=some d)(i:(match d with|.struct _|.array _ _=>true|_=>false)=true)(hi:(P.info? ty).map (·.size)=some cs.size)(v f:Value)(m:b.getD u undef=v)(n:b.getD u2 undef=f):(results fn b).run P w=.ok (.tuple #[.agg cs,v,f]) w:=by
 have e:(results fn b).run P w=((asAddr (b.getD p undef)).run P w).andThen λa o=>((loadVar ty a).run P o).andThen λv q=>.ok (.tuple #[v,b.getD u undef,b.getD u2 undef]) q:=by
  simp only[results,h];simp[Sem.run_bind,Result.andThen]
 subst m n;rw[e,k];simp only[asAddr,Sem.run_pure,Result.andThen_ok,run_loadVar_row w g t ty cs c d j l i hi]
def qcu(O:Array Value)(a:Option Addr)(k c:Nat):Array Value:=O.push (.slice a k c)
def qcU:Array Value:=qcu qaI none 0 0
theorem qdS:prog.built 70 []=some qcU:=by kernel_rfl
theorem qpK(n:Nat)(m:Nat->Nat->Bool)(a:Option Addr)(k c:Nat):prog.built 70 [(0,.agg (qaq n m)),(1,.slice a k c)]=some (qcu (qaq n m) a k c):=by kernel_rfl
theorem qxq:(prog.info? 70).map (·.size)=some 38:=by kernel_rfl
theorem qjM(ρ:Operand->Value)(o:Oper)(a:o.op=.alloc 70)(w:World):(execOp ρ o).run prog w=.ok (.value (.pointer (some ⟨w.heap.size,0,none⟩))) (w.alloc (.cells qcU 70)):=by
 unfold execOp;rw[a];kernel_rfl
theorem qcn{ops:Array Oper}{rest:List Oper}{o:Oper}{a:Act}{Q:Exit->Act->World->Prop}(e:o.guard=none)(f:o.op=.alloc 70)(d:Option Tmp)(c:o.dst=d)(N:Nat)(b:w.heap.size=N)(h:wpList prog ops Q rest (a.put d (.pointer (some ⟨N,0,none⟩))) (w.alloc (.cells qcU 70))):wpList prog ops Q (o::rest) a w:=by
 subst b;exact Great.wpList_allocTo e d c _ _ (qjM _ _ f _) h
theorem qfu(n:Nat)(m:Nat->Nat->Bool):(qaq n m).all (·.oneCell')=true:=by
 simp[qaq,Value.oneCell']
theorem qcw(h:O.size=37)(a:Option Addr)(k c:Nat):(qcu O a k c).size=38:=by unfold qcu;simp[h]
theorem qfq(h:O.all (·.oneCell')=true)(a:Option Addr)(k c:Nat):(qcu O a k c).all (·.oneCell')=true:=by
 unfold qcu;rw[Array.all_push,h];rfl
theorem qbk:qcU.size=38:=qcw (qae _ _) _ _ _
theorem qdN:qcU.all (·.oneCell')=true:=qfq (qfu _ _) _ _ _
theorem qbx{A:Array Value}(h:A.size=38):(prog.info? 70).map (·.size)=some A.size:=by rw[h];exact qxq
def qir(c:Cfg):Int:=if¬roE c.labels c.L c.dflt c.clr=0 then roE c.labels c.L c.dflt c.clr else if qeZ c.inn c.out c.depth c.bytes=false then 4 else if qaN c.B=false then 5 else qft c.labels.toNat c.pol.data.toList
def qoS(c:Cfg):Int:=if¬roE c.labels c.L c.dflt c.clr=0 then 0 else if qeZ c.inn c.out c.depth c.bytes=false then 0 else if qaN c.B=false then 0 else qkn c.labels.toNat c.pol.data.toList
theorem qhc(c:Cfg):(qbD c.labels c.L=true->roE c.labels c.L c.dflt c.clr=if qfO c=false then 1 else if qby c.labels.toNat (qbf c.labels.toNat c.L)=false then 2 else if qb2 c.labels.toNat (qbf c.labels.toNat c.L)=false then 3 else 0)/\(qbD c.labels c.L=false->roE c.labels c.L c.dflt c.clr=1/\qfO c=false):=by
 constructor
 ·intro h;obtain⟨_,H⟩:=qek h;have b:∀i j,i<c.labels.toNat->j<c.labels.toNat->qcL c.labels.toNat c.L i j=qbf c.labels.toNat c.L i j:=λi j a f=>qqt H.hE a f;have d:=qlB b;have e:=qnH b (λi a=>qpL H.hE a);unfold roE qfO;rw[h,d,e];cases qbM c.labels.toNat c.dflt<;>cases qbM c.labels.toNat c.clr<;>cases qby c.labels.toNat (qbf c.labels.toNat c.L)<;>cases qb2 c.labels.toNat (qbf c.labels.toNat c.L)<;>rfl
 intro h;unfold roE qfO;rw[h];exact⟨rfl,rfl⟩
theorem qlE(c:Cfg):qir c=qb3 c/\qoS c=qew c:=by
 have i:qir c=qb3 c/\qoS c=if qb3 c=6 then qa5 c.labels.toNat c.pol.data.toList else 0:=by
  unfold qir qoS qb3 qft qkn;rw[qoE];cases h:qbD c.labels c.L
  ·obtain⟨j,k⟩:=(qhc c).2 h;rw[j,k];simp
  rw[(qhc c).1 h];by_cases a:qfO c=false
  ·simp[a]
  by_cases b:qby c.labels.toNat (qbf c.labels.toNat c.L)=false
  ·simp[a,b]
  by_cases d:qb2 c.labels.toNat (qbf c.labels.toNat c.L)=false
  ·simp[a,b,d]
  by_cases e:qeZ c.inn c.out c.depth c.bytes=false
  ·simp[a,b,d,e]
  by_cases f:qaF c.B=false
  ·simp[a,b,d,e,f]
  by_cases g:0<=qa5 c.labels.toNat c.pol.data.toList
  ·simp[a,b,d,e,f,g]
  simp[a,b,d,e,f,g]
 exact⟨i.1,i.2.trans rfl⟩
theorem qxH(h:roE c.labels c.L c.dflt c.clr=0):qbD c.labels c.L=true/\roA c.labels c.L c.dflt c.clr=qaq c.labels.toNat (qcL c.labels.toNat c.L):=by
 constructor
 ·cases a:qbD c.labels c.L
  ·have:=((qhc c).2 a).1;rw[h]at this;cases this
  rfl
 unfold roA;rw[if_pos h]
structure qwX(w:World)(c:Cfg)(W:World):Prop where
 below:Below w.heap.size w W
 box:W.heap[w.heap.size]?=some (.cells c.arr 25)
 res:W.heap[w.heap.size+1]?=some (.cells qcU 70)
theorem qwX.step(h:qwX w c W)(a:Below W.heap.size W W'):qwX w c W' :=
 ⟨h.below.trans (a.mono h.below.size),(a.block _ (ltA h.box)).trans h.box,(a.block _ (ltA h.res)).trans h.res⟩
theorem qwt(w:World)(c:Cfg):qwX w c ((w.alloc (.cells c.arr 25)).alloc (.cells qcU 70)):=by
 refine⟨(bwA).alloc (by simp) _,(Below.heap_alloc _ _ _ (by simp)).trans (qac _ _),?_⟩;have:=qac (w.alloc (.cells c.arr 25)) (.cells qcU 70);rwa[World.size_alloc]at this
theorem qwX.cell(h:qwX w c W)(j:Nat):W.cell? ⟨w.heap.size,j,none⟩=c.arr[j]?:=qaa h.box j
theorem qzz(h:¬roE c.labels c.L c.dflt c.clr=0):qir c=roE c.labels c.L c.dflt c.clr/\qoS c=0:=by unfold qir qoS;rw[if_pos h,if_pos h];exact⟨rfl,rfl⟩

def qy6(n:Nat)(s:ByteArray)(w:World)(e:Ending)(w':World):Prop :=
 ∃a m cap x y,e=.returned (.tuple #[.agg (qfX a m cap x y),.bool (qaD n s.data.toList)])/\Below w.heap.size w w'/\(qaD n s.data.toList=true->m=(qec s.data.toList).1.length/\x=(qec s.data.toList).2.1/\y=(qec s.data.toList).2.2/\qlq w' w.heap.size 151 a (((qec s.data.toList).1.map sgS).flatMap sgC))
theorem qkf(s:ByteArray)(n:Nat)(w:World)(X:s.size<=2000)(U:qmF w):Calls prog 62 #[.string s,.int .i64 n] w λe b=>qy6 n s w e b:=by
 have l:Hid ((prog.info? 146).map (·.size)=some qcF.size):=qe1;have q:=qab U;obtain⟨g,Z,b0,B,C,V,W,K⟩:=qri s X;obtain⟨d,f,b1,D,E,ac,ad,M⟩:=qri Z W;have Y:qaD n s.data.toList=(qfl g.data.toList&&(qiK d.data.toList n&&qeM f != 0)):=by
  rw[<-qrZ];unfold qsG;rw[<-B,<-C,<-D,<-E,qzt]
 have m:=qab Y;have J:Hid (qaD n s.data.toList=true->qec s.data.toList=(qjB g.data.toList,qse d.data.toList,qeM f)):=by
  intro T;have F:=qhU T;rw[<-B,<-C,<-D,<-E]at F;have:=qr4 F;rw[qzt]at this;exact this
 have z:=qab (qvT w);have L:=K _ (q.out.below z.out.below);go_enter func62,ntmps62
 go_wp2_with(fail)
 refine L.mono ?_;rintro e w2 ⟨rfl,P⟩;have A:=qab (z.out.step P);have N:=M _ (q.out.below A.out.below)
 go_wp2_with(fail)
 refine N.mono ?_;rintro e H ⟨rfl,Q⟩;have r:=qab (A.out.step Q);have O:=qhh g H V (q.out.below r.out.below)
 go_wp2_with(fail)
 refine O.mono ?_;rintro e w4 ⟨t,u,G,rfl,R,S⟩;have I:=qab S;have y:=qab (ltA r.out.res);have a:=qab (r.out.step R);cases i:qfl g.data.toList
 ·have c:Hid (qaD n s.data.toList=false):=by show _=_;rw[m.out,i];rfl
  go_wp2_with(first
   |(go_at_call 78;refine(qda d n _).mono ?_;rintro e v ⟨rfl,rfl⟩)
   |(go_at_call 79;refine(qcB f _).mono ?_;rintro e x ⟨rfl,rfl⟩)
   |(refine wpList_store_row rfl 146 _ _ rfl w.heap.size qcF rfl rfl 146 qcF a.out.res l.out rfl qgi ?_))
  refine bodyPost_ret (qap results62 _ _ w.heap.size 146 qcF (0,0) _ rfl (setRow_heap _ _ qcF _ _ _ a.out.res) underlying146 rfl qe1 (.bool false) rfl) rfl ⟨none,0,0,0,0,by rw[c.out];rfl,qah a.out.below (by omega) _,λe=>by rw[c.out]at e;cases e⟩
 cases k:qiK d.data.toList n
 ·have c:Hid (qaD n s.data.toList=false):=by show _=_;rw[m.out,i,k];rfl
  have h:=λw=>qda d n w;rw[k]at h
  go_wp2_with(first
   |(go_at_call 78;refine(h _).mono ?_;rintro e v ⟨rfl,rfl⟩)
   |(go_at_call 79;refine(qcB f _).mono ?_;rintro e x ⟨rfl,rfl⟩)
   |(refine wpList_store_row rfl 146 _ _ rfl w.heap.size qcF rfl rfl 146 qcF a.out.res l.out rfl qgi ?_))
  refine bodyPost_ret (qap results62 _ _ w.heap.size 146 qcF (0,0) _ rfl (setRow_heap _ _ qcF _ _ _ a.out.res) underlying146 rfl qe1 (.bool false) rfl) rfl ⟨none,0,0,0,0,by rw[c.out];rfl,qah a.out.below (by omega) _,λe=>by rw[c.out]at e;cases e⟩
 have h:=λw=>qda d n w;rw[k]at h;have o:=λw=>qcB f w;cases j:(qeM f != 0)
 ·have c:Hid (qaD n s.data.toList=false):=by show _=_;rw[m.out,i,k,j];rfl
  rw[j]at o
  go_wp2_with(first
   |(go_at_call 78;refine(h _).mono ?_;rintro e v ⟨rfl,rfl⟩)
   |(go_at_call 79;refine(o _).mono ?_;rintro e x ⟨rfl,rfl⟩)
   |(refine wpList_store_row rfl 146 _ _ rfl w.heap.size qcF rfl rfl 146 qcF a.out.res l.out rfl qgi ?_))
  refine bodyPost_ret (qap results62 _ _ w.heap.size 146 qcF (0,0) _ rfl (setRow_heap _ _ qcF _ _ _ a.out.res) underlying146 rfl qe1 (.bool false) rfl) rfl ⟨none,0,0,0,0,by rw[c.out];rfl,qah a.out.below (by omega) _,λe=>by rw[c.out]at e;cases e⟩
 have c:Hid (qaD n s.data.toList=true):=by show _=_;rw[m.out,i,k,j];rfl
 rw[j]at o;have p:Hid (qec s.data.toList=(qjB g.data.toList,qse d.data.toList,qeM f)/\u=(qjB g.data.toList).length/\qlq w4 H.heap.size 151 t (((qjB g.data.toList).map sgS).flatMap sgC)):=⟨J.out c.out,I.out i⟩
 generalize qse d.data.toList=li at *;generalize qeM f=ai at *
 go_wp2_with(first
  |(go_at_call 78;refine(h _).mono ?_;rintro e v ⟨rfl,rfl⟩)
  |(go_at_call 79;refine(o _).mono ?_;rintro e x ⟨rfl,rfl⟩)
  |(refine wpList_store_row rfl 146 _ _ rfl w.heap.size (qfX t u G li ai) rfl rfl 146 qcF a.out.res l.out rfl (qcX _ _ _ _ _) ?_))
 refine bodyPost_ret (qap results62 _ _ w.heap.size 146 (qfX t u G li ai) (0,0) _ rfl (setRow_heap _ _ qcF _ _ _ a.out.res) underlying146 rfl qe1 (.bool true) rfl) rfl ⟨_,_,_,_,_,by rw[c.out],qah a.out.below (by omega) _,λ_=>?_⟩;rw[p.out.1];exact⟨p.out.2.1,rfl,rfl,p.out.2.2.kept λaa ab fr i j=>⟨by have:=y.out;omega,sx (by have:=y.out;omega) j⟩⟩

section
attribute[local go_sem] Oper.semAt_some
structure PdI(w:World)(n:Nat)(pre:List Str)(W:World):Prop where
 below:Below w.heap.size w W
 lab:Boxed W w.heap.size 3 (.int .i64 n)
 r0:Boxed W (w.heap.size+1) 68 (.slice none 0 0)
 r1:Boxed W (w.heap.size+2) 29 (.int .i64 0)
 r2:Boxed W (w.heap.size+3) 3 (.int .i64 0)
 rules:∃ao cap xs,Boxed W (w.heap.size+4) 68 (.slice ao pre.length cap)/\W.ownsRow (w.heap.size+8) 146 3 (.slice ao pre.length cap) pre.length xs/\Hid (RwB W (w.heap.size+8) 151 xs (pre.map λx=>enP (enS (qec (lst x)))))
 le:pre.length<=16
 all:(pre.map lst).all (qaD n)=true
 size:w.heap.size+8<=W.heap.size
theorem PdI.own(h:PdI w n pre W)(a:W.grownBy W' (some row))(c:row=w.heap.size+5\/(w.heap.size+8<=row/\∃o,W.heap[row]?=some o/\o.isCells=false)):PdI w n pre W':=by
 obtain⟨l,m,v,t,k,u⟩:=h.rules;refine⟨h.below.trans ⟨a.os,a.tape,a.output,a.size,λi B=>a.block i (by have:=h.size;omega) (by intro e;injection e with e;omega)⟩,h.lab.kept a (by intro e;injection e with e;omega),h.r0.kept a (by intro e;injection e with e;omega),h.r1.kept a (by intro e;injection e with e;omega),h.r2.kept a (by intro e;injection e with e;omega),⟨l,m,v,t.kept a (by intro e;injection e with e;omega),k.kept a ?_,?hx⟩,h.le,h.all,Nat.le_trans h.size a.size⟩
 case hx =>
  refine u.out.kept λb p y r g=>⟨r,(a.block b (ltA g) ?_).trans g⟩
  intro e;injection e with e;subst e;rcases c with c|⟨_,o,d,j⟩
  ·omega
  rw[g]at d;cases d;cases j
 rcases k.2 with⟨f,_⟩|⟨q,x,p,f,A,s,_⟩
 ·left;rw[f];rfl
 right;rw[f];intro e;cases e;rcases c with c|⟨_,o,d,j⟩
 ·have z:q=w.heap.size+5:=c;omega
 rw[s]at d;cases d;cases j
theorem PdI.out(x:Str)(h:PdI w n pre W)(i:¬(qaD n (lst x)=true/\pre.length<16)):RdX w n (pre++[x]) .ret (((W.setCell ⟨w.heap.size+1,0,none⟩ (.slice none 0 0)).setCell ⟨w.heap.size+1+1,0,none⟩ (.int .i64 6)).setCell ⟨w.heap.size+1+1+1,0,none⟩ (.int .i64 (pre.length:Nat))) /\
  Tr w.heap.size (w.heap.size+5) W (((W.setCell ⟨w.heap.size+1,0,none⟩ (.slice none 0 0)).setCell ⟨w.heap.size+1+1,0,none⟩ (.int .i64 6)).setCell ⟨w.heap.size+1+1+1,0,none⟩ (.int .i64 (pre.length:Nat))):=by
 have d:=Tr.set w.heap.size (w.heap.size+5) W (w.heap.size+1) (.slice none 0 0) (by omega) (by omega);have f:=Tr.set w.heap.size (w.heap.size+5) (W.setCell ⟨w.heap.size+1,0,none⟩ (.slice none 0 0)) (w.heap.size+1+1) (.int .i64 6) (by omega) (by omega);have g:=Tr.set w.heap.size (w.heap.size+5) ((W.setCell ⟨w.heap.size+1,0,none⟩ (.slice none 0 0)).setCell ⟨w.heap.size+1+1,0,none⟩ (.int .i64 6)) (w.heap.size+1+1+1) (.int .i64 (pre.length:Nat)) (by omega) (by omega);have a:=grownBy_setCell' W (w.heap.size+1) (.slice none 0 0);have b:=grownBy_setCell' (W.setCell ⟨w.heap.size+1,0,none⟩ (.slice none 0 0)) (w.heap.size+1+1) (.int .i64 6);have c:=grownBy_setCell' ((W.setCell ⟨w.heap.size+1,0,none⟩ (.slice none 0 0)).setCell ⟨w.heap.size+1+1,0,none⟩ (.int .i64 6)) (w.heap.size+1+1+1) (.int .i64 (pre.length:Nat));refine⟨⟨rfl,h.below.trans ((d.trans f).trans g).below,?_,?_,⟨pre,x,rfl,?_,h.all,h.le,i⟩,?_⟩,(d.trans f).trans g⟩
 ·exact((h.r0.set _).kept b (by intro e;injection e with e;omega)).kept c (by intro e;injection e with e;omega)
 ·exact(Boxed.set _ (h.r1.kept a (by intro e;injection e with e;omega))).kept c (by intro e;injection e with e;omega)
 ·exact Boxed.set _ ((h.r2.kept a (by intro e;injection e with e;omega)).kept b (by intro e;injection e with e;omega))
 simp[World.setCell];exact h.size
theorem PdI.alloc(h:PdI w n pre W)(o:Obj):PdI w n pre (W.alloc o):=h.own (World.grownBy_alloc W o (some (w.heap.size+5))) (.inl rfl)
theorem PdI.belowS(h:PdI w n pre W)(a:Below W.heap.size W W'):PdI w n pre W' :=
 h.own (row:=w.heap.size+5) ⟨a.os,a.tape,a.output,a.size,λi b _=>a.block i b⟩ (.inl rfl)
theorem qxI{w5:World}{v':Value}{xs:List Value}(h:PdI w n pre V)(q:Tr w.heap.size (w.heap.size+5) W V)(E:Boxed V (w.heap.size+4) 68 v)(m:V.ownsRow (w.heap.size+8) 146 3 v pre.length xs)(o:w5.ownsRow (w.heap.size+8) 146 3 v' (pre.length+1) ys)(a:V.grownBy w5 v.ownBlock)(M:¬(pre.length:Int)=16)(G:qaD n (lst x)=true){pa:Option Addr}{pc:Nat}(H:Hid (RwB V (w.heap.size+8) 151 xs (pre.map λx=>enP (enS (qec (lst x))))))(D:qlq V (w.heap.size+8) 151 pa (((qec (lst x)).1.map sgS).flatMap sgC))(I:ys=xs++[.slice pa (qec (lst x)).1.length pc,.int .i64 (qec (lst x)).2.1,.int .i64 (qec (lst x)).2.2]):KeepsOthers W (w5.setCell ⟨w.heap.size+1+1+1+1,0,none⟩ v')/\qcC (w.heap.size+5) (w.heap.size+5+3) W (w5.setCell ⟨w.heap.size+1+1+1+1,0,none⟩ v')/\PdI w n (pre++[x]) (w5.setCell ⟨w.heap.size+1+1+1+1,0,none⟩ v'):=by
 have f:=λg h=>qb4 m (g:=g) h;have i:Tr w.heap.size (w.heap.size+5) V w5:=Tr.grown m a h.size (by omega) (by omega);have j:=Tr.set w.heap.size (w.heap.size+5) w5 (w.heap.size+4) v' (by omega) (by omega);have d:=grownBy_setCell' w5 (w.heap.size+4) v';have F:=E.kept a (λe=>by have:=f _ e.symm;omega);obtain⟨g,r,rfl⟩:=ownsRow_succ o;refine⟨(q.trans (i.trans j)).keep,(q.trans (i.trans j)).mid,⟨h.below.trans (i.trans j).below,?_,?_,?_,?_,⟨some ⟨g,0,none⟩,r,ys,?_,?_,?hy⟩,?_,?_,?_⟩⟩
 case hy =>
  have u:(pre++[x]).map (λx=>enP (enS (qec (lst x))))=(pre.map λx=>enP (enS (qec (lst x))))++[enP (enS (qec (lst x)))]:=by rw[List.map_append];rfl
  show RwB _ _ _ _ _;rw[I,u];have p:=RwB.push (pa:=pa) (pc:=pc) H.out (e:=enP (enS (qec (lst x)))) D;have y:(enP (enS (qec (lst x)))).2.1=(qec (lst x)).1.length:=List.length_map _;rw[y]at p;refine p.kept λb s z B l=>⟨B,?_⟩
  have C:=ltA l;have J:w5.heap[b]?=some (.cells s 151 z):=by
   refine(a.block b C (λe=>?_)).trans l;rcases m.2 with⟨k,_⟩|⟨A,K,L,k,N,c,_⟩
   ·rw[k]at e;cases e
   rw[k]at e;injection e with e;have t:b=A:=e;rw[<-t,l]at c;injection c with c;injection c with _ c _;revert c;decide
  exact(Below.heap_setCell _ _ _ _ (by simp;omega)).trans J
 ·exact(h.lab.kept a (λe=>by have:=f _ e.symm;omega)).kept d (by intro e;injection e with e;omega)
 ·exact(h.r0.kept a (λe=>by have:=f _ e.symm;omega)).kept d (by intro e;injection e with e;omega)
 ·exact(h.r1.kept a (λe=>by have:=f _ e.symm;omega)).kept d (by intro e;injection e with e;omega)
 ·exact(h.r2.kept a (λe=>by have:=f _ e.symm;omega)).kept d (by intro e;injection e with e;omega)
 ·rw[List.length_append];exact F.set _
 ·rw[List.length_append];refine o.kept d (.inr (λe=>?_));have:=qb4 o e;omega
 ·have:=h.le;rw[List.length_append];simp;omega
 ·rw[List.map_append,List.all_append,h.all];simp[G]
 exact Nat.le_trans h.size (i.trans j).below.size
theorem PdI.drew(h:PdI w n pre W):PdI w n pre W.drew:=h.belowS (Below.refl _ _).drew
theorem qwW(w:World)(n:Nat)(s:ByteArray)(a:World)(b:((((((((w.alloc (.cells #[.int .i64 n] 3)).alloc (.cells #[.slice none 0 0] 68)).alloc (.cells #[.int .i64 0] 29)).alloc (.cells #[.int .i64 0] 3)).alloc (.cells #[.slice none 0 0] 68)).alloc (.cells #[.string s] 9)).alloc (.cells #[.string ⟨#[10]⟩] 9)).alloc (.cells #[.int .i64 0] 3))=a):PdI w n [] a:=by
 subst b;refine⟨?_,?_,?_,?_,?_,⟨none,0,[],?_,World.ownsRow_nil _ _ _ _,qqS _ _ _⟩,Nat.zero_le _,rfl,by simp⟩
 ·exact(((((((bwA).alloc (by simp) _).alloc (by simp;omega) _).alloc (by simp;omega) _).alloc (by simp;omega) _).alloc (by simp;omega) _).alloc (by simp;omega) _).alloc (by simp;omega) _
 ·exact(((((((Boxed.new w _ _).alloc _).alloc _).alloc _).alloc _).alloc _).alloc _).alloc _
 ·have:=Boxed.new (w.alloc (.cells #[.int .i64 n] 3)) 68 (.slice none 0 0);rw[World.size_alloc]at this;exact(((((this.alloc _).alloc _).alloc _).alloc _).alloc _).alloc _
 ·have:=Boxed.new ((w.alloc (.cells #[.int .i64 n] 3)).alloc (.cells #[.slice none 0 0] 68)) 29 (.int .i64 0);rw[World.size_alloc,World.size_alloc]at this;exact((((this.alloc _).alloc _).alloc _).alloc _).alloc _
 ·have:=Boxed.new (((w.alloc (.cells #[.int .i64 n] 3)).alloc (.cells #[.slice none 0 0] 68)).alloc (.cells #[.int .i64 0] 29)) 3 (.int .i64 0);rw[World.size_alloc,World.size_alloc,World.size_alloc]at this;exact(((this.alloc _).alloc _).alloc _).alloc _
 have:=Boxed.new ((((w.alloc (.cells #[.int .i64 n] 3)).alloc (.cells #[.slice none 0 0] 68)).alloc (.cells #[.int .i64 0] 29)).alloc (.cells #[.int .i64 0] 3)) 68 (.slice none 0 0);rw[World.size_alloc,World.size_alloc,World.size_alloc,World.size_alloc]at this;exact((this.alloc _).alloc _).alloc _
def PrB(W:World)(lo:Nat)(v:Value)(rs:List (List (Nat×List UInt8)×Int×Int)):Prop:=∃xs,W.ownsRow lo 146 3 v rs.length xs/\RwB W lo 151 xs (rs.map enP)
theorem PrB.kept(h:PrB W lo v rs)(i:∀b,lo<=b->b<W.heap.size->W'.heap[b]?=W.heap[b]?):PrB W' lo v rs:=by
 obtain⟨m,a,d⟩:=h;refine⟨m,⟨a.1,?_⟩,d.kept λb e n j k=>⟨j,(i b j (ltA k)).trans k⟩⟩;rcases a.2 with c|⟨f,l,e,c,a,g,d⟩
 ·exact .inl c
 exact .inr ⟨f,l,e,c,a,(i f a (ltA g)).trans g,d⟩
theorem PrB.pru(h:PrB W lo v rs):∃a b,v=.slice a rs.length b/\qe0 W a rs:=by
 obtain⟨e,c,d⟩:=h;exact qxa c d
theorem qxi{base:Nat}{e:TypeId}{size:Nat}{xs:List Value}(h:W.ownsRow base e size v n xs)(j:lo<=base):W.ownsRow lo e size v n xs:=by
 refine⟨h.1,?_⟩;rcases h.2 with a|⟨d,b,c,a,i,g,f⟩
 ·exact .inl a
 exact .inr ⟨d,b,c,a,by omega,g,f⟩
def qzh(n:Nat)(s:ByteArray)(w:World)(e:Ending)(w':World):Prop :=
 ∃a m cap,e=.returned (.tuple #[.slice a m cap,.int .i64 (qft n s.data.toList),.int .i64 (qkn n s.data.toList)])/\Below w.heap.size w w'/\(qft n s.data.toList=0->PrB w' w.heap.size (.slice a m cap) ((qcI s.data.toList).map enS))
theorem qwx{hs:s.size<=2000}{ao:Option Addr}{cap D:Nat}(m:¬s.size=0)(h:xs.map lst=qam 10 (lst ⟨s,hs⟩))(n:W.ownsRow (w.heap.size+8) 146 3 (.slice ao xs.length cap) xs.length ys)(A:RwB W (w.heap.size+8) 151 ys (xs.map λx=>enP (enS (qec (lst x)))))(r:W.heap[D]?=some (.deferred (some [])))(u:∀j,w.heap.size+8<=j->V.heap[j]?=W.heap[j]?):PrB (V.putObj D (.deferred none)) w.heap.size (.slice ao xs.length cap) ((qcI s.data.toList).map enS):=by
 have B:s.data.toList.length=s.size:=Array.length_toList;have o:qcI s.data.toList=(xs.map lst).map qec:=by
  unfold qcI;rw[if_neg (by omega),h];rfl
 have l:∀b a t f,w.heap.size+8<=b->W.heap[b]?=some (.cells a t f)->(V.putObj D (.deferred none)).heap[b]?=some (.cells a t f):=by
  intro b a t f c d;have m:b≠D:=by
   rintro rfl;rw[r]at d;cases d
  have k:=(u b c).trans d;rw[(grownBy_putObj' V D (.deferred none)).block b (ltA k) (by simpa using m)];exact k
 have y:(V.putObj D (.deferred none)).ownsRow (w.heap.size+8) 146 3 (.slice ao xs.length cap) ((qcI s.data.toList).map enS).length ys:=by
  have e:((qcI s.data.toList).map enS).length=xs.length:=by rw[o];simp
  rw[e];refine⟨n.1,?_⟩;rcases n.2 with g|⟨i,p,a,g,c,v,q⟩
  ·exact .inl g
  exact .inr ⟨i,p,a,g,c,l i a _ _ c v,q⟩
 have z:RwB (V.putObj D (.deferred none)) (w.heap.size+8) 151 ys (((qcI s.data.toList).map enS).map enP):=by
  have e:((qcI s.data.toList).map enS).map enP=xs.map λx=>enP (enS (qec (lst x))):=by
   rw[o,List.map_map,List.map_map,List.map_map];rfl
  rw[e];exact A.kept λb a f c d=>⟨c,l b a _ f c d⟩
 exact⟨ys,qxi y (by omega),z.kept λb a f c d=>⟨by omega,d⟩⟩
theorem qlN(s:ByteArray)(n:Nat)(w:World)(af:qmF w):Calls prog 42 #[.string s,.int .i64 n] w λe w'=>qzh n s w e w':=by
 have hl:s.data.toList.length=s.size:=Array.length_toList;obtain⟨i0,hi,ax,ay,az⟩:=info_parts Tryz.infoRule2;have HG:=qab af;clear af;by_cases a4:(2000:Int)<s.size
 ·have E:qa5 n s.data.toList=0:=by unfold qa5;rw[if_pos (by omega)]
  have U:Hid (qft n s.data.toList=6):=by show _=_;unfold qft;rw[E];rfl
  have r:Hid (qkn n s.data.toList=0):=by show _=_;unfold qkn;rw[E];rfl
  clear E;go_enter func42,ntmps42;go_wp2;have l:=qho w n 6;have R:Below w.heap.size w ((((w.alloc (.cells #[.int .i64 n] 3)).alloc (.cells #[.slice none 0 0] 68)).alloc (.cells #[.int .i64 6] 29)).alloc (.cells #[.int .i64 0] 3)):=((((bwA).alloc (by simp) _).alloc (by simp;omega) _).alloc (by simp;omega) _)
  generalize(((w.alloc (.cells #[.int .i64 n] 3)).alloc (.cells #[.slice none 0 0] 68)).alloc (.cells #[.int .i64 6] 29)).alloc (.cells #[.int .i64 0] 3)=V at *;obtain⟨F,G,H⟩:=l;refine bodyPost_ret (v:=.tuple #[.slice none 0 0,.int .i64 6,.int .i64 0]) (by simp[results,f42,go_sem,F,G,H]) rfl ?_;exact⟨none,0,0,by rw[U.out,r.out],R,λe=>by rw[U.out]at e;cases e⟩
 have hs:s.size<=2000:=by omega
 cases hd:(s.toList==[])
 ·have K:Hid (¬s.size=0):=by
   intro h;have:s.data.toList=[]:=List.eq_nil_of_length_eq_zero (by omega);rw[Lib.toList_data,this]at hd;cases hd
  refine(callsIn_wide (n:=10)).1 ?_;refine callsIn_of_wp_marks func42 rfl trivial ?_ rfl;simp only[ntmps42,List.size_toArray,List.length_cons,List.length_nil,Nat.reduceAdd,Nat.reduceSub,Array.replicate_succ,Array.replicate_zero,List.push_toArray,List.append_toArray,List.nil_append,List.cons_append]
  gi_wp2_with fail
  refine⟨trivial,(callsIn_wide.2 (qf1 s ⟨#[10]⟩ _)).mono ?_⟩;rintro e w' ⟨rfl,rfl⟩;simp only[World.size_alloc]
  gi_wp2
  obtain⟨J,P⟩:∃J,((((((((w.alloc (.cells #[.int .i64 n] 3)).alloc (.cells #[.slice none 0 0] 68)).alloc (.cells #[.int .i64 0] 29)).alloc (.cells #[.int .i64 0] 3)).alloc (.cells #[.slice none 0 0] 68)).alloc (.cells #[.string s] 9)).alloc (.cells #[.string ⟨#[10]⟩] 9)).alloc (.cells #[.int .i64 0] 3))=J:=⟨_,rfl⟩
  have aw:J.heap.size=w.heap.size+8:=by rw[<-P];simp
  have ae:=qwW w n s J P;have ad:=qpN w n s J P;rw[P];refine qcH rfl (by omega) (gf:=92) (lb:=#[.pointer (some ⟨w.heap.size+1+1+1+1+1+1,0,none⟩),.pointer (some ⟨w.heap.size+1+1+1+1+1,0,none⟩),.pointer (some ⟨w.heap.size+1+1+1+1+1+1+1,0,none⟩)]) rfl trivial (enters_of func92 (by kernel_rfl) rfl)
   (st:=w.heap.size+5) (by omega) (lo:=w.heap.size+5) (hi:=w.heap.size+5+3) (by omega) (qlc 9 (w.heap.size+5) 10 ⟨s,hs⟩ J ad) bwR (λx=>rfl)
   (λpre W=>PdI w n pre W) (λc pre W=>RdX w n pre c W)
   (λpre A al h hg=>h.own hg (.inl rfl)) (λc pre A al h hg=>h.own hg (by omega))
   (λpre A k o o' h N hk hc=>h.own (grownBy_putObj' A k o') (.inr ⟨by omega,o,hk,hc⟩)) (λc pre A k o o' h N hk hc=>h.own (grownBy_putObj' A k o') (by omega))
   ae
   (λx=>{tmps:=#[.string s,.int .i64 n,undef,.pointer (some ⟨w.heap.size,0,none⟩),.pointer (some ⟨w.heap.size+1,0,none⟩),.pointer (some ⟨w.heap.size+1+1,0,none⟩),.pointer (some ⟨w.heap.size+1+1+1,0,none⟩),.pointer (some ⟨w.heap.size+1+1+1+1,0,none⟩),.string x.1,undef,undef,.string s,.int .i64 s.size,.bool false,.string s,.bool false,.string s,.func (.func 92) #[] #[.pointer (some ⟨w.heap.size+1+1+1+1+1+1,0,none⟩),.pointer (some ⟨w.heap.size+1+1+1+1+1,0,none⟩),.pointer (some ⟨w.heap.size+1+1+1+1+1+1+1,0,none⟩)],.string x.1,undef,undef,undef,undef,undef,undef,undef,undef,undef,undef,undef,undef,undef,undef,undef,undef,undef,undef,undef,undef],defers:=[]}) ?assign ?body ?done ?stop
  case assign =>
   intro ak x W a0 I
   gi_wp2
   exact I
  case body =>
   clear ae ad P aw;intro ak pre x W y a6;have C:=qab y;have c0:=y.lab.cell;have cR:=qkf x.1 n W x.2 (HG.out.below y.below);clear y
   gi_wp2_with fail
   refine⟨trivial,((callsIn_wide.2 cR).inRound ak).mono ?_⟩;clear cR c0;rintro e g ⟨i,m,z,p,t,rfl,N,O⟩;have am:Hid (qaD n x.1.data.toList=true->m=(qec x.1.data.toList).1.length/\p=(qec x.1.data.toList).2.1/\t=(qec x.1.data.toList).2.2/\qlq g (w.heap.size+8) 151 i (((qec x.1.data.toList).1.map sgS).flatMap sgC)):=λe=>⟨(O e).1,(O e).2.1,(O e).2.2.1,(O e).2.2.2.kept λa1 a3 fr h1 h3=>⟨by have:=C.out.size;omega,h3⟩⟩
   clear O;simp only[qfX];have aa:=qab (C.out.belowS N);have aq:Hid (Tr w.heap.size (w.heap.size+5) W g):=Tr.below' N (by have:=C.out.size;omega) (by have:=C.out.size;omega);clear N C;have ba:=aa.out.size;have a:Hid (PdI w n pre (g.alloc (.cells #[.slice i m z,.int .i64 p,.int .i64 t] 146))):=aa.out.alloc _;have B:Hid (Tr w.heap.size (w.heap.size+5) W (g.alloc (.cells #[.slice i m z,.int .i64 p,.int .i64 t] 146))):=aq.out.trans (Tr.alloc _ _ _ _ (by omega) (by omega));have a5:=a.out.le;cases S:qaD n x.1.data.toList
   ·have ah:¬(qaD n (lst x)=true/\pre.length<16):=λh=>by have h1:qaD n x.1.data.toList=true:=h.1;rw[S]at h1;cases h1
    have X:=qab ah;clear ah
    gi_wp2
    generalize g.alloc (.cells #[.slice i m z,.int .i64 p,.int .i64 t] 146)=V at *;obtain⟨d,f,u,L,Z,ab⟩:=a.out.rules;have c4:V.cell? ⟨w.heap.size+1+1+1+1,0,none⟩=some (.slice d pre.length f):=L.cell;have c1:=a.out.r0.cell;have f1:=a.out.r0.frozen;have c2:V.cell? ⟨w.heap.size+1+1,0,none⟩=some (.int .i64 0):=a.out.r1.cell;have f2:V.frozen? ⟨w.heap.size+1+1,0,none⟩=false:=a.out.r1.frozen;have c3:V.cell? ⟨w.heap.size+1+1+1,0,none⟩=some (.int .i64 0):=a.out.r2.cell;have f3:V.frozen? ⟨w.heap.size+1+1+1,0,none⟩=false:=a.out.r2.frozen
    gi_region
    all_goals gi_wp2
    all_goals exact⟨((B.out.trans (qrn V (by have:=a.out.size;omega) (by have:=a.out.size;omega))).trans (a.out.drew.out x X.out).2).keep,(a.out.drew.out x X.out).1⟩
   have a9:g.heap.size<(g.alloc (.cells #[.slice i m z,.int .i64 p,.int .i64 t] 146)).heap.size:=by simp
   have a8:=qac g (.cells #[.slice i m z,.int .i64 p,.int .i64 t] 146);obtain⟨d,f,u,L,Z,ab⟩:=a.out.rules;have c4:(g.alloc (.cells #[.slice i m z,.int .i64 p,.int .i64 t] 146)).cell? ⟨w.heap.size+1+1+1+1,0,none⟩=some (.slice d pre.length f):=L.cell;have HP:=qab L;have M:=qab Z;by_cases ac:(pre.length:Int)=16
   ·have X:Hid (¬(qaD n (lst x)=true/\pre.length<16)):=λh=>by omega
    have c1:=a.out.r0.cell;have f1:=a.out.r0.frozen;have c2:(g.alloc (.cells #[.slice i m z,.int .i64 p,.int .i64 t] 146)).cell? ⟨w.heap.size+1+1,0,none⟩=some (.int .i64 0):=a.out.r1.cell;have f2:(g.alloc (.cells #[.slice i m z,.int .i64 p,.int .i64 t] 146)).frozen? ⟨w.heap.size+1+1,0,none⟩=false:=a.out.r1.frozen;have c3:(g.alloc (.cells #[.slice i m z,.int .i64 p,.int .i64 t] 146)).cell? ⟨w.heap.size+1+1+1,0,none⟩=some (.int .i64 0):=a.out.r2.cell;have f3:(g.alloc (.cells #[.slice i m z,.int .i64 p,.int .i64 t] 146)).frozen? ⟨w.heap.size+1+1+1,0,none⟩=false:=a.out.r2.frozen
    gi_wp2
    generalize g.alloc (.cells #[.slice i m z,.int .i64 p,.int .i64 t] 146)=V at *
    gi_region
    all_goals gi_wp2
    all_goals
     have o:=a.out.drew.out x X.out;rw[ac]at o;exact⟨((B.out.trans (qrn V (by have:=a.out.size;omega) (by have:=a.out.size;omega))).trans o.2).keep,o.1⟩
   have ap:Hid (qaD n (lst x)=true):=S;have T:=qab (am.out S)
   gi_wp2_with(first
    |(gi_at_builtin;refine wpListIn_append_own _ rfl _ _ 68 rfl (w.heap.size+8) 146 i0 (.agg qcF) 3 40 underlying68 hi ax ay az rfl (by decide) _ _ _ rfl (M.out.alloc _) ⟨g.heap.size+1,0,none⟩ 1 1 [.slice i m z,.int .i64 p,.int .i64 t] rfl rfl (qce _ _ _ _) (λx b=>by simp at b;rcases b with rfl|rfl|rfl<;>rfl) (by unfold maxLen;omega) (by omega) (by simp;omega) ?_;intro v' w5 ai ag a7;obtain⟨g5,a2,rfl⟩:=ownsRow_succ ai;have aj:=(HP.out.alloc _).kept ag (λe=>by have:=qb4 M.out e.symm;omega);have c5:w5.cell? ⟨w.heap.size+1+1+1+1,0,none⟩=some (.slice d pre.length f):=aj.cell;have f5:w5.frozen? ⟨w.heap.size+1+1+1+1,0,none⟩=false:=aj.frozen))
   exact qxI (a.out.alloc _) (B.out.trans (Tr.alloc _ _ _ _ (by simp;omega) (by simp;omega))) (HP.out.alloc _) (M.out.alloc _) ai ag ac ap.out (ab.out.below bwA) ((T.out.2.2.2.below bwA).below bwA) (by show _++[Value.slice i m z,.int .i64 p,.int .i64 t]=_;rw[T.out.1,T.out.2.1,T.out.2.2.1];rfl)
  case done =>
   intro D u W hD hS y I;obtain⟨d,f,ys,L,Z,ar⟩:=y.rules;have M:=qab Z;have C:=qab y;have HS:=qab hS;have HK:=qab I;have c4:W.cell? ⟨w.heap.size+1+1+1+1,0,none⟩=some (.slice d u.length f):=L.cell;have c1:=y.r0.cell;have f1:=y.r0.frozen;have c2:W.cell? ⟨w.heap.size+1+1,0,none⟩=some (.int .i64 0):=y.r1.cell;have f2:W.frozen? ⟨w.heap.size+1+1,0,none⟩=false:=y.r1.frozen;have c3:W.cell? ⟨w.heap.size+1+1+1,0,none⟩=some (.int .i64 0):=y.r2.cell;have f3:W.frozen? ⟨w.heap.size+1+1+1,0,none⟩=false:=y.r2.frozen
   gi_wp2
   have E:=qzf K.out HS.out C.out.le C.out.all;have Y:qft n s.data.toList=0:=by unfold qft;rw[E];rfl
   have hN:qkn n s.data.toList=0:=by unfold qkn;rw[E];rfl
   have t1:=Tr.set w.heap.size (w.heap.size+5) W (w.heap.size+1) (.slice d u.length f) (by omega) (by omega);have t2:=Tr.set w.heap.size (w.heap.size+5) (W.setCell ⟨w.heap.size+1,0,none⟩ (.slice d u.length f)) (w.heap.size+1+1) (.int .i64 0) (by omega) (by omega);have t3:=Tr.set w.heap.size (w.heap.size+5) ((W.setCell ⟨w.heap.size+1,0,none⟩ (.slice d u.length f)).setCell ⟨w.heap.size+1+1,0,none⟩ (.int .i64 0)) (w.heap.size+1+1+1) (.int .i64 0) (by omega) (by omega);have g1:=grownBy_setCell' W (w.heap.size+1) (.slice d u.length f);have g2:=grownBy_setCell' (W.setCell ⟨w.heap.size+1,0,none⟩ (.slice d u.length f)) (w.heap.size+1+1) (.int .i64 0);have g3:=grownBy_setCell' ((W.setCell ⟨w.heap.size+1,0,none⟩ (.slice d u.length f)).setCell ⟨w.heap.size+1+1,0,none⟩ (.int .i64 0)) (w.heap.size+1+1+1) (.int .i64 0);have b0:=((C.out.r0.set (.slice d u.length f)).kept g2 (by intro e;injection e with e;omega)).kept g3 (by intro e;injection e with e;omega);have b1:=(Boxed.set (.int .i64 0) (C.out.r1.kept g1 (by intro e;injection e with e;omega))).kept g3 (by intro e;injection e with e;omega);have b2:=Boxed.set (.int .i64 0) ((C.out.r2.kept g1 (by intro e;injection e with e;omega)).kept g2 (by intro e;injection e with e;omega));have R:=C.out.below.trans ((t1.trans t2).trans t3).below;have I:=((t1.trans t2).trans t3).keep.same D _ HK.out rfl;have HC:Hid (∀j,w.heap.size+8<=j->(((W.setCell ⟨w.heap.size+1,0,none⟩ (.slice d u.length f)).setCell ⟨w.heap.size+1+1,0,none⟩ (.int .i64 0)).setCell ⟨w.heap.size+1+1+1,0,none⟩ (.int .i64 0)).heap[j]?=W.heap[j]?):=λj hj=>((Below.heap_setCell _ _ _ _ (by simp;omega)).trans (Below.heap_setCell _ _ _ _ (by simp;omega))).trans (Below.heap_setCell _ _ _ _ (by simp;omega));generalize((W.setCell ⟨w.heap.size+1,0,none⟩ (.slice d u.length f)).setCell ⟨w.heap.size+1+1,0,none⟩ (.int .i64 0)).setCell ⟨w.heap.size+1+1+1,0,none⟩ (.int .i64 0)=V at *;refine⟨by simp,.inl ⟨D,_,rfl,run_takeDeferred I,?_⟩⟩;have F:=(Boxed.kept b0 (grownBy_putObj' V D (.deferred none)) (by intro e;injection e with e;omega)).cell;have G:(V.putObj D (.deferred none)).cell? ⟨w.heap.size+1+1,0,none⟩=some (.int .i64 0):=(Boxed.kept b1 (grownBy_putObj' V D (.deferred none)) (by intro e;injection e with e;omega)).cell;have H:(V.putObj D (.deferred none)).cell? ⟨w.heap.size+1+1+1,0,none⟩=some (.int .i64 0):=(Boxed.kept b2 (grownBy_putObj' V D (.deferred none)) (by intro e;injection e with e;omega)).cell;refine⟨.tuple #[.slice d u.length f,.int .i64 0,.int .i64 0],?_,⟨d,u.length,f,by rw[Y,hN],qb9 R (by omega) _,λ_=>qwx K.out HS.out M.out ar.out HK.out HC.out⟩⟩;simp[results,f42,go_sem,F,G,H]
  case stop =>
   intro D c pre W hD hS Q I;obtain rfl:=Q.ret
   gi_wp2
   obtain⟨q,x,rfl,au,ha,av,b⟩:=Q.bad;obtain⟨bb,S⟩:=hS;have E:=qzV K.out S ha av b;have Y:qft n s.data.toList=6:=by unfold qft;rw[E,if_pos (by omega)]
   have hN:qkn n s.data.toList=q.length:=by unfold qkn;rw[E,if_pos (by omega)]
   refine⟨by simp,.inl ⟨D,_,rfl,run_takeDeferred I,?_⟩⟩;have F:=(Q.r0.kept (grownBy_putObj' W D (.deferred none)) (by intro e;injection e with e;omega)).cell;have G:(W.putObj D (.deferred none)).cell? ⟨w.heap.size+1+1,0,none⟩=some (.int .i64 6):=(Q.r1.kept (grownBy_putObj' W D (.deferred none)) (by intro e;injection e with e;omega)).cell;have H:(W.putObj D (.deferred none)).cell? ⟨w.heap.size+1+1+1,0,none⟩=some (.int .i64 (q.length:Nat)):=(au.kept (grownBy_putObj' W D (.deferred none)) (by intro e;injection e with e;omega)).cell;refine⟨.tuple #[.slice none 0 0,.int .i64 6,.int .i64 (q.length:Nat)],?_,⟨none,0,0,by rw[Y,hN],qb9 Q.below (by omega) _,λe=>by rw[Y]at e;cases e⟩⟩;simp[results,f42,go_sem,F,G,H]
 have h0:s.data.toList=[]:=by rw[<-Lib.toList_data];exact eq_of_beq hd
 have E:qa5 n s.data.toList = -1:=by unfold qa5;rw[h0];rfl
 have U:Hid (qft n s.data.toList=0):=by show _=_;unfold qft;rw[E];rfl
 have r:Hid (qkn n s.data.toList=0):=by show _=_;unfold qkn;rw[E];rfl
 have an:Hid (qcI s.data.toList=[]):=by show _=_;unfold qcI;rw[h0];rfl
 go_enter func42,ntmps42;go_wp2;have l:=qho w n 0;have R:Below w.heap.size w ((((w.alloc (.cells #[.int .i64 n] 3)).alloc (.cells #[.slice none 0 0] 68)).alloc (.cells #[.int .i64 0] 29)).alloc (.cells #[.int .i64 0] 3)):=((((bwA).alloc (by simp) _).alloc (by simp;omega) _).alloc (by simp;omega) _)
 generalize(((w.alloc (.cells #[.int .i64 n] 3)).alloc (.cells #[.slice none 0 0] 68)).alloc (.cells #[.int .i64 0] 29)).alloc (.cells #[.int .i64 0] 3)=V at *;obtain⟨F,G,H⟩:=l;refine bodyPost_ret (v:=.tuple #[.slice none 0 0,.int .i64 0,.int .i64 0]) (by simp[results,f42,go_sem,F,G,H]) rfl ?_;exact⟨none,0,0,by rw[U.out,r.out],R,λ_=>by rw[an.out];exact⟨[],World.ownsRow_nil _ _ _ _,qqS _ _ _⟩⟩
end

end
section
open Go.RowKit
theorem qr5(q:Aut)(st:Nat->Nat)(b a:Value):(qiB q st b a)[0]?=some (.slice q.ra q.rs.length q.rc):=by kernel_rfl
theorem qcy.low{W0:World}(h:qcy W A tb L q sv st tk V)(a:Below W0.heap.size W0 W)(c:W0.heap.size<=A):Below W0.heap.size W0 V :=
 ⟨h.os.trans a.os,h.tape.trans a.tape,h.output.trans a.output,Nat.le_trans a.size h.size,λi b=>(h.block i (Nat.lt_of_lt_of_le b a.size) (by omega)).trans (a.block i b)⟩
theorem qcy.names{lm:Nat}{ks:List (List UInt8)}(h:qcy W A tb L q sv st tk V)(b:ImK W lm ks)(d:A≠lm):ImK V lm ks :=
 b.kept (row:=some A) ⟨h.os,h.tape,h.output,h.size,λi a c=>h.block i a (by simpa using c)⟩ (by simpa using d.symm)
theorem qcy.c2(h:qcy W A tb L q sv st tk V):V.cell? ⟨A,2,none⟩=some (.map (some q.lm)):=(cell_of_row V A 2 _ _ _ h.row).trans (qrk _ _ _ _)
theorem qcy.c19(h:qcy W A tb L q sv st tk V):V.cell? ⟨A,19,none⟩=some (.slice (some ⟨tb,0,none⟩) L L):=(cell_of_row V A 19 _ _ _ h.row).trans (qpr _ _ _ _)
theorem qcy.cs(h:qcy W A tb L q sv st tk V)(r:Nat)(a:r<16):V.cell? ⟨A,3+r,none⟩=some (.int .u16 (st r))/\V.frozen? ⟨A,3+r,none⟩=false :=
 ⟨(cell_of_row V A (3+r) _ _ _ h.row).trans (qwH _ _ _ _ r a),frozen_of_row V A (3+r) _ _ h.row⟩
theorem qcy.ct(h:qcy W A tb L q sv st tk V)(x r:Nat)(d:x<L)(c:r<16):V.cell? ⟨tb,x*16+r,none⟩=some (.int .u16 (tk x r))/\V.frozen? ⟨tb,x*16+r,none⟩=false:=by
 obtain⟨e,a,b⟩:=h.tks;exact⟨(cell_of_row V tb (x*16+r) _ _ _ a).trans (b.at_ x r d c),frozen_of_row V tb (x*16+r) _ _ a⟩
theorem qtx(st:Nat->Nat)(k j:Nat):(λi=>if i=k then st k|||2^j else st i)=stU st k j true:=by
 funext i;unfold stU;by_cases h:i=k
 ·subst h;rw[if_pos rfl,if_pos ⟨rfl,rfl⟩]
 rw[if_neg h,if_neg (λe=>h e.1)]
theorem qeP(st:Nat->Nat)(k j:Nat):stU st k j false=st:=by
 funext i;unfold stU;rw[if_neg (by simp)]
theorem qcy.alike{tk':Nat->Nat->Nat}(h:qcy W A tb L q sv st tk V)(f:∀x r,x<L->tk' x r=tk x r):qcy W A tb L q sv st tk' V:=by
 obtain⟨b,c,d,e⟩:=h.tks;exact⟨h.row,⟨b,c,d,λx r a g=>by rw[f x r a];exact e x r a g⟩,h.os,h.tape,h.output,h.size,h.block⟩
def tk1(tk:Nat->Nat->Nat)(x k j:Nat):Nat->Nat->Nat:=λy i=>if y=x/\i=k then tk x k|||2^j else tk y i
theorem qcy.one(h:qcy W A tb L q sv st tk V)(b:A≠tb)(c:W.heap.size<=tb)(x k j:Nat)(d:x<L)(a:k<16):qcy W A tb L q sv st (tk1 tk x k j) (V.drew.setCell ⟨tb,x*16+k,none⟩ (.int .u16 ((tk x k|||2^j:Nat):Int))):=h.took b c x k (tk x k|||2^j) d a
def tkm(tk:Nat->Nat->Nat)(m k j:Nat):Nat->Nat->Nat:=λy=>if y<m then stU (tk y) k j true else tk y
theorem qsN(tk:Nat->Nat->Nat)(k j:Nat):tkm tk 0 k j=tk:=by
 funext y;unfold tkm;rw[if_neg (by omega)]
theorem qso(tk:Nat->Nat->Nat)(m k j:Nat):tk1 (tkm tk m k j) m k j=tkm tk (m+1) k j:=by
 funext y i;unfold tk1 tkm;by_cases h:y=m
 ·subst h;rw[if_pos (by omega:y<y+1)];by_cases a:i=k
  ·subst a;rw[if_pos ⟨rfl,rfl⟩,if_neg (by omega:¬y<y)];unfold stU;rw[if_pos ⟨rfl,rfl⟩]
  rw[if_neg (λe=>a e.2),if_neg (by omega:¬y<y)];unfold stU;rw[if_neg (λe=>a e.1)]
 rw[if_neg (λe=>h e.1)];by_cases b:y<m
 ·rw[if_pos b,if_pos (by omega:y<m+1)]
 rw[if_neg b,if_neg (by omega:¬y<m+1)]
theorem quN(tk:Nat->Nat->Nat)(x k j:Nat)(y:Nat):tk1 tk x k j y=stU (tk y) k j (y==x):=by
 funext i;unfold tk1 stU;by_cases h:y=x
 ·subst h;by_cases a:i=k
  ·subst a;rw[if_pos ⟨rfl,rfl⟩,if_pos ⟨rfl,by simp⟩]
  rw[if_neg (λe=>a e.2),if_neg (λe=>a e.1)]
 rw[if_neg (λe=>h e.1),if_neg (λe=>h (by simpa using e.2))]

theorem quS(h:qcy W A tb L q sv st tk V)(b:A≠tb)(a:k<16)(c:w2=V.drew.setCell ⟨A,3+k,none⟩ (.int .u16 ((st k|||2^j:Nat):Int))):qcy W A tb L q sv (stU st k j true) tk w2:=by
 rw[c,<-qtx];exact h.stays b k (st k|||2^j) a
theorem qmk(h:qcy W A tb L q sv st tk V)(b:A≠tb)(d:W.heap.size<=tb){x o:Nat}(f:x<L)(a:k<16)(c:o=x*16)(e:w2=V.drew.setCell ⟨tb,o+k,none⟩ (.int .u16 ((tk x k|||2^j:Nat):Int))):qcy W A tb L q sv st (tk1 tk x k j) w2:=by
 rw[e,c];exact h.one b d x k j f a
def qyN(W:World)(A:Nat)(q:Aut)(sv:Value)(ks:List (List UInt8))(e:Ending)(W':World):Prop :=
 e=.returned (.tuple #[])/\∃tb st tk,W.heap.size<=tb/\qcy W A tb (2+ks.length) q sv st tk W'/\LyD q.rs ks st tk
theorem qgV(H W:World)(A:Nat)(q:Aut)(l:Value)(ks:List (List UInt8))(a4:Below H.heap.size H W)(K:W.heap[A]?=some (.cells (qiB q (λ_=>0) (.slice none 0 0) l) 116))(ak:H.heap.size<=A)(hn:q.rs.length<=16)(h8:∀i (h:i<q.rs.length),q.rs[i].1.length<=8)(a6:∀i (h:i<q.rs.length) j (Y:j<q.rs[i].1.length),q.rs[i].1[j].1<=3/\q.rs[i].1[j].2.length<=1000000000)(hr:qe0 H q.ra q.rs)(hm:ImK W q.lm ks)(an:ks.length<=128)(a5:∀i (h:i<q.rs.length) j (Y:j<q.rs[i].1.length),q.rs[i].1[j].1=3->q.rs[i].1[j].2∈ks)(bm:A≠q.lm):Calls prog 44 #[.pointer (some ⟨A,0,none⟩)] W (qyN W A q l ks):=by
 have c2:=(cell_of_row W A 2 _ _ _ K).trans (qrk _ _ _ _);have bp:=hm.len underlying107;have af:=qab K;have bl:=frozen_of_row W A 19 _ _ K;have c19:=(cell_of_row W A 19 _ _ _ K).trans (qpr _ _ _ _);have HR:=qab hr;have ah:=qab a4;have HM:=qab hm;have be:=qab a6;have bd:=qab a5;have H8:=qab h8;have ay:=qab (qz1 ks.length an);have bf:=qab an;clear K hr a4 hm a6 a5 h8 an;go_enter func44,ntmps44;have bt:=ay.out;have lA:=ltA af.out;have bz:A≠W.heap.size:=by omega
 have ap:Hid ((W.alloc (.cells (madeCells (plA zPl) ((2+ks.length)*16)) 112)).setCell ⟨A,19,none⟩ (.slice (some ⟨W.heap.size,0,none⟩) (2+ks.length) (2+ks.length))=(W.setCell ⟨A,19,none⟩ (.slice (some ⟨W.heap.size,0,none⟩) (2+ks.length) (2+ks.length))).alloc (.cells (madeCells (plA zPl) ((2+ks.length)*16)) 112)):=by show _=_;go_simp
 have av:Hid (qcy W A W.heap.size (2+ks.length) q l (λ_=>0) (λ_ _=>0) ((W.setCell ⟨A,19,none⟩ (.slice (some ⟨W.heap.size,0,none⟩) (2+ks.length) (2+ks.length))).alloc (.cells (madeCells (plA zPl) ((2+ks.length)*16)) 112))):=by
  have h:=qok (L:=2+ks.length) af.out;rw[ap.out]at h;exact h
 have c0:=(cell_of_row _ A 0 _ _ _ af.out).trans (qr5 _ _ _ _);obtain⟨ra,ae⟩:∃ra,Hid (q.ra=ra):=⟨_,rfl⟩
 rw[ae.out]at c0;have a1:Hid (qe0 H ra q.rs):=by rw[<-ae.out];exact HR.out
 clear HR ae;go_wp2;clear c2 bp bl c19 c0 bt ay ap;obtain⟨L,P⟩:∃L,Hid (L=2+ks.length):=⟨_,rfl⟩
 obtain⟨c,G⟩:∃c,Hid (W.heap.size<=c/\c=W.heap.size):=⟨_,Nat.le_refl _,rfl⟩
 have V:A≠c:=by have:=G.out.2;omega
 have aw:Hid (qcy W A c L q l (λ_=>0) (λ_ _=>0) ((W.setCell ⟨A,19,none⟩ (.slice (some ⟨W.heap.size,0,none⟩) (2+ks.length) (2+ks.length))).alloc (.cells (madeCells (plA zPl) ((2+ks.length)*16)) 112))):=by
  rw[P.out,G.out.2];exact av.out
 clear av;generalize(W.setCell ⟨A,19,none⟩ (.slice (some ⟨W.heap.size,0,none⟩) (2+ks.length) (2+ks.length))).alloc (.cells (madeCells (plA zPl) ((2+ks.length)*16)) 112)=V00 at *
 go_loopg[22] q.rs.length (λaj z wr=>∃(k:Nat) (a:Nat->Nat) (tk:Nat->Nat->Nat),z=.int .i64 k/\Hid (k+aj=q.rs.length)/\Hid (qcy W A c L q l a tk wr)/\Hid (LyM q.rs ks k 0 a tk))
 case atStart=>exact⟨0,_,_,rfl,by show _=_;omega,aw,qpb _ _⟩
 case round =>
  clear aw;obtain⟨k,a,tk,rfl,hg,Q,HK⟩:=hrel
  cases gk with
  |zero =>
   have bq:¬(k:Int)<(q.rs.length:Int):=by have:=hg.out;omega
   go_wp2;go_end0;refine⟨rfl,c,a,tk,G.out.1,?_,HK.out.done (by have:=hg.out;omega)⟩;rw[<-P.out];exact Q.out
  |succ aj =>
   have N:k<q.rs.length:=by have:=hg.out;omega
   have bq:(k:Int)<(q.rs.length:Int):=by omega
   obtain⟨bk,off,pa,pc,rfl,hb,e0,e1,X,bv⟩:=(a1.out.below (Q.out.low ah.out ak)).at_ k N;have a2:Hid (qlM H pa q.rs[k].1):=by
    obtain⟨b',b6,b8,b9,al,bn,f0,f1,f2,bu⟩:=a1.out.at_ k N;injection al with al;injection al with hab1 hab2;subst hab1;subst hab2;have I:=((Q.out.low ah.out ak).cell (p:=⟨bk,off+k*3,none⟩) bn).trans f0;rw[e0]at I;injection I with I;injection I with I _ _;subst I;exact bu
   have bo:=H8.out k N;have o:k<16:=by omega
   have ar:Hid (∀j (Y:j<q.rs[k].1.length),(q.rs[k].1[j].1<=3/\q.rs[k].1[j].2.length<=1000000000)/\(q.rs[k].1[j].1=3->q.rs[k].1[j].2∈ks)):=λj Y=>⟨be.out k N j Y,bd.out k N j Y⟩
   have a0:=qab (List.getElem?_eq_getElem N);have az:Hid (qcy W A c L q l a tk (wr.alloc (.cells #[.slice pa q.rs[k].1.length pc,.int .i64 q.rs[k].2.1,.int .i64 q.rs[k].2.2] 146))):=Q.out.next bwA
   clear bv;go_wp2;clear e0 e1 X Q;generalize wr.alloc (.cells #[.slice pa q.rs[k].1.length pc,.int .i64 q.rs[k].2.1,.int .i64 q.rs[k].2.2] 146)=V0 at *;generalize q.rs[k]=R at *;obtain⟨F,lb,ac⟩:=R;dsimp only at a2 bo ar
   go_loopg[30] F.length (λJ z ai=>∃(j:Nat) (a:Nat->Nat) (tk:Nat->Nat->Nat),z=.int .i64 j/\Hid (j+J=F.length)/\Hid (qcy W A c L q l a tk ai)/\Hid (LyM q.rs ks k j a tk))
   case atStart=>exact⟨0,a,tk,rfl,by show _=_;omega,az,HK⟩
   case round =>
    clear az HK;obtain⟨j,a,tk,rfl,E,C,y⟩:=hrel
    cases gk with
    |zero =>
     have br:¬(j:Int)<(F.length:Int):=by have:=E.out;omega
     go_wp2;go_roundg aj
     case measure=>omega
     case rel=>exact⟨k+1,a,tk,by go_num,by show _=_;have:=hg.out;omega,C,y.out.rule a0.out (by have:=E.out;show F.length<=j;omega)⟩
    |succ J =>
     have am:j<F.length:=by have:=E.out;omega
     have br:(j:Int)<(F.length:Int):=by omega
     obtain⟨b2,b7,rfl,b4,s0,s1⟩:=(a2.out.below (C.out.low ah.out ak)).at_ j am;obtain⟨⟨a7,a8⟩,bb⟩:=ar.out j am;have bg:=qab (List.getElem?_eq_getElem am);have au:=qab a8;have ax:=qab bb;have aq:=qab a7;have ab:j<16:=by omega
     clear a8 bb a7;generalize F[j]=sg at *;have n:Hid (qcy W A c L q l a tk (wr.alloc (.cells #[.int .i64 sg.1,.string ⟨sg.2.toArray⟩] 151))):=C.out.next bwA
     have ad:=y.out.lt H8.out;have bh:=qab ad.1;have ag:=qab ad.2;clear ad;have w:=qab (y.out.place a0.out bg.out);have bi:Hid (c<wr.heap.size):=by
      obtain⟨bx,h1,_⟩:=C.out.tks;exact ltA h1
     obtain⟨O,d⟩:=sg;have g:Hid ((wr.alloc (.cells #[.int .i64 O,.string ⟨d.toArray⟩] 151)).heap[wr.heap.size]?=some (.cells #[.int .i64 O,.string ⟨d.toArray⟩] 151)):=qac _ _;dsimp only at au ax aq;have U:=C.out.c19;have b0:=ltA C.out.row;have b1:(1:Int)<(L:Int):=by have:=P.out;omega
     have b3:L<=130:=by have:=P.out;have:=bf.out;omega
     clear C y;rcases(by have:=aq.out;omega:O=0\/O=1\/O=2\/O=3)with rfl|rfl|rfl|rfl
     ·have D:Hid (LyM q.rs ks k (j+1) a (λx=>stU (tk x) k j true)):=by
       have h:=w.out;have e:stU a k j (((0,d):Nat×List UInt8).1==1)=a:=qeP a k j;rw[e]at h;exact h
      clear w;go_wp2;generalize wr.alloc (.cells #[.int .i64 ((0:Nat):Int),.string ⟨d.toArray⟩] 151)=V1 at *
      go_loopg[44] L (λg3 z ai=>∃m:Nat,z=.int .i64 m/\Hid (m+g3=L)/\Hid (qcy W A c L q l a (tkm tk m k j) ai))
      case atStart=>exact⟨0,rfl,by show _=_;omega,by rw[qsN];exact n⟩
      case round =>
       clear n g U;obtain⟨m,rfl,aa,T⟩:=hrel
       cases gk with
       |zero =>
        have bs:¬(m:Int)<(L:Int):=by have:=aa.out;omega
        have v:Hid (qcy W A c L q l a (λx=>stU (tk x) k j true) wr):=T.out.alike λx ca hx=>by
         unfold tkm;rw[if_pos (by have:=aa.out;omega)]
        clear T;go_wp2;go_roundg J
        case measure=>omega
        case rel=>exact⟨j+1,a,_,by go_num,by show _=_;have:=E.out;omega,v,D⟩
       |succ g3 =>
        have ba:m<L:=by have:=aa.out;omega
        have bs:(m:Int)<(L:Int):=by omega
        have U:=T.out.c19;obtain⟨ct,u⟩:=T.out.ct m k ba o;have a9:tkm tk m k j m k<65536:=by
         unfold tkm;rw[if_neg (by omega)];have:=ag.out m k;omega
        have t:=qdt wr c (m*16) (tkm tk m k j m k) k j o ab a9 ct u;clear ct u a9
        go_wp2_with(first
         |(go_at_call 63;refine t.mono ?_;clear t;rintro e b ⟨rfl,s⟩;have v:=qab (qmk T.out V G.out.1 ba o rfl s);clear s U))
        go_roundg g3
        case measure=>omega
        case rel=>exact⟨m+1,by go_num,by show _=_;have:=aa.out;omega,by rw[<-qso];exact v⟩
     ·have D:Hid (LyM q.rs ks k (j+1) (stU a k j true) tk):=by
       have h:=w.out;have e:(λx=>stU (tk x) k j (tkX ks (1,d) x))=tk:=by
        funext x;exact qeP (tk x) k j
       rw[e]at h;exact h
      obtain⟨ct,u⟩:=n.out.cs k o;have t:=qdt _ A 3 (a k) k j o ab (by have:=bh.out k;omega) ct u;clear w ct u
      go_wp2_with(first
       |(go_at_call 63;refine t.mono ?_;clear t;rintro e b ⟨rfl,s⟩;have v:=qab (quS n.out V o s);clear s U n))
      go_roundg J
      case measure=>omega
      case rel=>exact⟨j+1,_,tk,by go_num,by show _=_;have:=E.out;omega,v,D⟩
     ·have D:Hid (LyM q.rs ks k (j+1) a (tk1 tk 1 k j)):=by
       have h:=w.out;have e:(λx=>stU (tk x) k j (tkX ks (2,d) x))=tk1 tk 1 k j:=by
        funext x;exact(quN tk 1 k j x).symm
       have X:stU a k j (((2,d):Nat×List UInt8).1==1)=a:=qeP a k j;rw[e,X]at h;exact h
      obtain⟨ct,u⟩:=n.out.ct 1 k (by omega) o;have t:=qdt _ c 16 (tk 1 k) k j o ab (by have:=ag.out 1 k;omega) ct u;clear w ct u
      go_wp2_with(first
       |(go_at_call 63;refine t.mono ?_;clear t;rintro e b ⟨rfl,s⟩;have v:Hid (qcy W A c L q l a (tk1 tk 1 k j) b):=qmk n.out V G.out.1 (by omega) o rfl s;clear s U n))
      go_roundg J
      case measure=>omega
      case rel=>exact⟨j+1,a,_,by go_num,by show _=_;have:=E.out;omega,v,D⟩
     obtain⟨x,HX⟩:∃x,Hid (x=(fnL ks (.string d)).getD 0):=⟨_,rfl⟩
     have bj:Hid (x<L):=by
      have h:=ax.out rfl;show x<L;rw[HX.out,qeR h,P.out];have:=List.idxOf_lt_length_iff.2 h;show 2+ks.idxOf d<_;omega
     have D:Hid (LyM q.rs ks k (j+1) a (tk1 tk x k j)):=by
      have h:=w.out;have e:(λao=>stU (tk ao) k j (tkX ks (3,d) ao))=tk1 tk x k j:=by
       funext ao;rw[quN,HX.out];rfl
      have X:stU a k j (((3,d):Nat×List UInt8).1==1)=a:=qeP a k j;rw[e,X]at h;exact h
     have hxL:=bj.out;have b5:(x:Int)<(L:Int):=by omega
     clear w;go_wp2;generalize wr.alloc (.cells #[.int .i64 ((3:Nat):Int),.string ⟨d.toArray⟩] 151)=V1 at *;generalize wr.heap.size=M at *;refine rgn (S:=λZ=>(∃tk,qcy W A c L q l a tk Z)/\Z.heap[M]?=some (.cells #[.int .i64 ((3:Nat):Int),.string ⟨d.toArray⟩] 151)) (⟨⟨tk,n.out.next (Below.refl _ _).drew⟩,g.out⟩) (by kernel_rfl) ?_;intro f;refine tkp 0 77 (.pointer (some ⟨A,0,none⟩)) f ?_;refine tkp 1 78 (.pointer (some ⟨A,0,none⟩)) f ?_;refine tkp 2 79 (.pointer (some ⟨A,19,none⟩)) f ?_;refine tkq 3 80 (.slice (some ⟨c,0,none⟩) L L) rfl (λZ B=>?y3) f ?_
     case y3=>(obtain⟨bc,r⟩:=B.1;have z1:=r.c19;go_simp)
     refine tkp 4 81 (.pointer (some ⟨A,0,none⟩)) f ?_;refine tkp 5 82 (.pointer (some ⟨A,0,none⟩)) f ?_;refine tkp 6 83 (.pointer (some ⟨A,2,none⟩)) f ?_;refine tkq 7 84 (.map (some q.lm)) rfl (λZ B=>?y7) f ?_
     case y7=>(obtain⟨bc,r⟩:=B.1;have z1:=r.c2;go_simp)
     refine tkp 8 85 (.pointer (some ⟨M,1,none⟩)) f ?_;refine tkq 9 86 (.string ⟨d.toArray⟩) rfl (λZ B=>?y9) f ?_
     case y9=>(have z1:=qaa B.2 1;go_simp)
     refine tkq 10 87 (.int .i64 x) rfl (λZ B=>?y10) f ?_
     case y10=>(obtain⟨bc,r⟩:=B.1;have z3:=qgN (r.names HM.out bm).im stK underlying107 (qmL d au.out);rw[<-HX.out]at z3;go_simp)
     refine tkq 11 88 (.pointer (some ⟨c,x*16,none⟩)) rfl (λZ B=>?y11) f ?_
     case y11=>(go_simp)
     refine tkp 12 89 (.int .i64 k) f ?_;refine tkp 13 90 (.int .i64 j) f ?_;obtain⟨ct,u⟩:=(n.out.next (Below.refl _ _).drew).ct x k hxL o;have t:=qdt _ c (x*16) (tk x k) k j o ab (by have:=ag.out x k;omega) ct u;clear ct u;refine rdq 14 (λbw hK=>?_);go_simp;refine t.mono ?_;clear t;rintro e b ⟨rfl,s⟩;have v:=qab (qmk (n.out.next (Below.refl _ _).drew) V G.out.1 hxL o rfl s);have a3:(λZ:World=>(∃tk,qcy W A c L q l a tk Z)/\Z.heap[M]?=some (.cells #[.int .i64 ((3:Nat):Int),.string ⟨d.toArray⟩] 151)) b:=⟨⟨_,v.out⟩,by rw[s];exact(Below.heap_setCell _ _ _ _ (by have:=bi.out;simp;omega)).trans g.out⟩
     clear s n g;refine hK.out _ _ a3 (λ_=>?_);clear hK f a3;refine wdn ?_;go_simp;go_wp2;go_roundg J
     case measure=>omega
     case rel=>exact⟨j+1,a,_,by go_num,by show _=_;have:=E.out;omega,v,D⟩

end
end Go.Proofs.YtpifimohecagoaaGreatDoor
