import Derived.Test.YtpifimohecagoaaGreatDoorPq31
set_option maxRecDepth 100000
set_option maxHeartbeats 8000000
namespace Go.Proofs.YtpifimohecagoaaGreatDoor
open Go.Proofs.Tryz
variable{U V V' W w:World}{c:Cfg}{N base fuel g k last n p p2 p3 p4 p5 p6 p7 q size:Nat}{d td z:Array Value}{P:DataW Unit->Prop}{rd:Nat->Except (Int×Int) (DataW Unit×Nat)}{ks:List (List UInt8)}{bs l:List UInt8}{hd:Nat->Nat×Nat×Nat}{lim:Int}{ea:Option Addr}{v:Value}{o:Obj}{md:Region.Mode}{ops:Array Oper}{Q:Exit->Act->World->Prop}{S:World->Prop}{listed:Array Bool}{a:Act}{xs:List Value}
section
open Go.RowKit Go.Lib
structure qlk(w:World)(c:Cfg)(N:Nat)(td:Array Value)(V:World):Prop where
 below:Below w.heap.size w V
 cfg:V.heap[w.heap.size]?=some (.cells c.arr 25)
 told:V.heap[N]?=some (.cells td 31)
 lt:w.heap.size<N
theorem qlk.step{b:Nat}(h:qlk w c N td V)(a:Below b V V')(d:N<b):qlk w c N td V' :=
 ⟨h.below.trans (a.mono (by have:=h.lt;omega)),(a.block _ (by have:=h.lt;omega)).trans h.cfg,(a.block _ d).trans h.told,h.lt⟩
theorem qlk.next(h:qlk w c N td V)(a:Below V.heap.size V V'):qlk w c N td V' :=
 h.step a (ltA h.told)
theorem qhS(s:List UInt8)(R:Rep)(e p:Int)(h:V.heap[N]?=some (.cells (tdA s R e p) 31)):∀(j:Nat) (u:Value),(qaH R)[j]?=some u->V.cell? ⟨N,1+j,none⟩=some u:=by
 intro j u a;refine(qaa h (1+j)).trans ?_;have b:j<4:=ltA a
 match j,b,a with
 |0,_,a=>exact a
 |1,_,a=>exact a
 |2,_,a=>exact a
 |3,_,a=>exact a
theorem qzY{w2:World}(h:qh8 w c V)(a:Below V.heap.size V w2)(b:Array Value):qlk w c w2.heap.size b (w2.alloc (.cells b 31)):=by
 have e:=a.size;have d:=ltA h.box;exact⟨(h.below.trans (a.mono h.below.size)).alloc (by have:=h.below.size;omega) _,(Below.heap_alloc _ _ _ (by omega)).trans ((a.block _ d).trans h.box),qac w2 _,by omega⟩

end
section
open Go.ChangeShapes Go.WideShapes Go.ChangeAt Go.RowKit Go.Lib Go.Deep Go.ChangeMaps
theorem q00:(prog.globals[6]?).map (·.type)=some 275:=by kernel_rfl
theorem qvp:prog.cellsOf 275=20:=by kernel_rfl
theorem qw8:(Rows.laid_internal_strconv_uint64pow10:DataW Unit)=tabData .u64 pow10Tab:=by kernel_rfl
def q0c:List Int:=[0,1,56,2,57,49,28,3,61,58,42,50,38,29,17,4,62,47,59,36,45,43,51,22,53,39,33,30,24,18,12,5,63,55,48,27,60,41,37,16,46,35,44,21,52,32,23,11,54,26,40,15,34,20,31,10,25,14,19,9,13,8,7,6]
theorem q0z:(prog.globals[8]?).map (·.type)=some 282:=by kernel_rfl
theorem quZ:prog.cellsOf 282=64:=by kernel_rfl
theorem quY:prog.cellsOf 5=1:=by kernel_rfl
theorem qw1:(Rows.laid_math_bits_deBruijn64tab:DataW Unit)=tabData .u8 q0c:=by kernel_rfl
theorem qwU(e:laidMetH prog Rows.paddedRow.laid W)(l:W.ShapedOpen prog):qhR W.heap.size W:=by
 have k:laidMet prog Rows.paddedRow.laid W:=e;have i:W.cell? ⟨8,15,none⟩=some (.int .u8 4)/\9<=W.heap.size:=by
  obtain⟨g,t,cs,m,p,c,j,a,b⟩:=laidMet.reads k (d:=Rows.laid_math_bits_deBruijn64tab) (.tail _ (.head _));obtain rfl:g=8:=Option.some.inj (c.symm.trans (by kernel_rfl));obtain rfl:=Option.some.inj (q0z.symm.trans j);rw[qw1]at b;have f:=cells_of_tab underlying282 underlying5 quY quZ b;have n:=World.var?_cell c a 15;refine⟨?_,?_⟩
  ·rw[n,<-Array.getElem?_toList,f];rfl
  unfold World.var? at a;rw[c]at a;simp only[Option.bind_some]at a;split at a
  ·next h=>exact ltA h
  cases a
 refine⟨⟨(qrm e l).tabs,qtU e,i.2⟩,?_,i.1,qrm e l,i.2,Nat.le_refl _⟩;refine Lib.tabBelow_of_tabIs ?_;obtain⟨g,t,cs,m,p,c,j,a,b⟩:=laidMet.reads k (d:=Rows.laid_internal_strconv_uint64pow10) (.tail _ (.tail _ (.head _)));obtain rfl:g=6:=Option.some.inj (c.symm.trans (by kernel_rfl));obtain rfl:=Option.some.inj (q00.symm.trans j);rw[qw8]at b;have f:=cells_of_tab underlying275 underlying169 qmD qvp b;have o:W.var? prog qrt=some cs:=by
  refine Eq.trans ?_ a;exact congrArg (λs=>W.var? prog s) (by kernel_rfl)
 unfold TabIs;rw[o,<-f]
section
variable{H:Type} {enc:TypeId×Value->H} {w:World}
end

end
section
open Go.RowKit Go.Lib
theorem qkc(H:∀p x q,rd p=.ok (x,q)->P x):∀(n p:Nat) (acc ds:List (DataW Unit)) (q:Nat),(∀x∈acc,P x)->qbn rd n p acc=.ok (ds,q)->∀x∈ds,P x
 |0,p,acc,ds,q,ha,h=>by
  cases h;exact ha
 |n+1,p,acc,ds,q,ha,h=>by
  rw[qbn]at h;split at h
  ·cases h
  next d r hr =>
  refine qkc H n r (acc++[d]) ds q (λx a=>?_) h;rcases List.mem_append.1 a with a|a
  ·exact ha x a
  rw[List.mem_singleton.1 a];exact H _ _ _ hr
def qx0(P:DataW Unit->Prop)(ks:List (List UInt8))(es:List (Lit×DataW Unit)):Prop:=(es.map λe=>qaG e.1).Nodup/\(∀e∈es,qaG e.1∈ks)/\∀e∈es,(∃l,e.1=.string l/\Vt l)/\P e.2
theorem qql(P:DataW Unit->Prop):qx0 P [] []:=⟨List.nodup_nil,(λ_ h=>by cases h),λ_ h=>by cases h⟩
theorem qnj{es:List (Lit×DataW Unit)}{d:DataW Unit}(h:qx0 P ks es)(k:¬l∈ks)(m:Vt l)(j:P d):qx0 P (l::ks) (es++[(.string l,d)]):=by
 refine⟨?_,λe c=>?_,λe c=>?_⟩
 ·rw[List.map_append,List.nodup_append];refine⟨h.1,by simp,λa i b f=>?_⟩;obtain⟨e,c,rfl⟩:=List.mem_map.1 i;have f:b=l:=by simpa[qaG]using f
  rw[f];intro g;exact k (g▸h.2.1 e c)
 ·rcases List.mem_append.1 c with c|c
  ·exact List.mem_cons_of_mem _ (h.2.1 e c)
  rw[List.mem_singleton.1 c];exact List.mem_cons_self ..
 rcases List.mem_append.1 c with c|c
 ·exact h.2.2 e c
 rw[List.mem_singleton.1 c];exact⟨⟨l,rfl,m⟩,j⟩
theorem qyM(h:qes hd bs lim ks p=.ok (l,q)):¬l∈ks/\Vt l:=by
 unfold qes at h;split at h
 ·cases h
 split at h
 ·cases h
 split at h
 ·split at h
  ·cases h
  split at h
  ·cases h
  next l2 r hb =>
  split at h
  ·cases h
  next hn =>
  cases h;exact⟨hn,qnA bs lim _ _ [] [] _ _ qnh (.inl rfl) hb⟩
 cases h
theorem qnc(H:∀p x q,rd p=.ok (x,q)->P x):∀(n p:Nat) (a:List (List UInt8)) (acc es:List (Lit×DataW Unit)) (q:Nat),qx0 P a acc->qa7 (qes hd bs lim) rd n p a acc=.ok (es,q)->∃a,qx0 P a es
 |0,p,a,acc,es,q,ha,h=>by
  cases h;exact⟨_,ha⟩
 |n+1,p,a,acc,es,q,ha,h=>by
  rw[qa7]at h;split at h
  ·cases h
  next l r hk =>
  split at h
  ·cases h
  next d r2 hr =>
  obtain⟨b,c⟩:=qyM hk;exact qnc H n r2 (l::a) _ es q (qnj ha b c (H _ _ _ hr)) h
theorem qrr(a:Nat->Nat×Nat×Nat)(bs:List UInt8)(lim depth:Int):∀(g b p:Nat) (d:DataW Unit) (q:Nat),(g:Int)+b=depth+1->thB a bs lim depth g b p=.ok (d,q)->Gd g d
 |0,_,_,_,_,_,h=>by cases h
 |g+1,b,p,d,q,hg,h=>by
  have k:∀p x q,thB a bs lim depth g (b+1) p=.ok (x,q)->Gd g x:=λp x q m=>qrr a bs lim depth g (b+1) p x q (by omega) m;rw[thB]at h;split at h
  ·cases h
  split at h
  ·cases h
  split at h
  ·cases h
  split at h
  ·cases h
  next c hc h1 h2 h3 =>
  split at h
  ·cases h
  next x q1 ha =>
  have j:(a c.toNat).1=9\/(a c.toNat).1=10->1<=g:=λe=>by
   rcases Nat.eq_zero_or_pos g with f|f
   ·exact absurd ⟨e,by omega⟩ h3
   exact f
  generalize(a c.toNat).1=so at *;unfold qgr at h;split at h
  ·cases h;exact trivial
  ·cases h;exact trivial
  ·split at h
   ·cases h
   next z hz=>cases h;exact qgd hz
  ·split at h
   ·cases h
   next z hz=>cases h;exact qgd hz
  ·split at h
   ·cases h
   next z hz=>cases h;exact qgd hz
  ·split at h
   ·cases h
   cases h;exact trivial
  ·split at h
   ·cases h
   next l r hb=>cases h;exact qnA bs lim _ _ [] [] _ _ qnh (.inl rfl) hb
  ·split at h
   ·cases h
   next ds r hi=>cases h;exact⟨j (.inl rfl),qkc k _ _ _ _ _ (λ_ h=>(List.not_mem_nil h).elim) hi⟩
  ·split at h
   ·cases h
   next es r hi =>
   cases h;obtain⟨n,i⟩:=qnc k _ _ _ _ _ _ (qql _) hi;exact⟨j (.inr rfl),i.1,i.2.2⟩
  cases h;exact trivial
theorem qlW{α:Type}{itF:α->Nat->Except (Int×Int) (α×Nat)}{P:α->Prop}(H:∀a p b q,P a->itF a p=.ok (b,q)->P b):∀(g p:Nat) (a b:α) (q:Nat),P a->qfQ bs lim itF last g p a=.ok (b,q)->P b
 |0,_,_,_,_,_,h=>by cases h
 |g+1,p,a,b,q,ha,h=>by
  rw[qfQ]at h;split at h
  ·cases h
  split at h
  ·cases h
  next a2 p2 hi =>
  have c:=H _ _ _ _ ha hi;split at h
  ·cases h
  split at h
  ·cases h
  split at h
  ·cases h
  split at h
  ·cases h;exact c
  split at h
  ·exact qlW H g _ _ _ _ c h
  cases h
theorem qpp{α:Type}{itF:α->Nat->Except (Int×Int) (α×Nat)}{a a':α}{P:α->Prop}(H:∀a p a' q,P a->itF a p=.ok (a',q)->P a')(b:P a)(h:qdV bs lim itF last p a=.ok (a',q)):P a':=by
 unfold qdV at h;split at h
 ·cases h
 split at h
 ·exact qlW H _ _ _ _ _ b h
 split at h
 ·cases h
 split at h
 ·cases h;exact b
 exact qlW H _ _ _ _ _ b h
theorem qv4(h:qlm bs lim ks p=.ok (l,q)):¬l∈ks/\Vt l:=by
 unfold qlm at h;split at h
 ·cases h
 split at h
 ·cases h
 next l2 r hb =>
 split at h
 ·cases h
 next hn =>
 cases h;exact⟨hn,qjV bs lim _ _ [] [] _ _ qnh (.inl rfl) hb⟩
theorem quy(bs:List UInt8)(lim depth:Int):∀(g e p:Nat) (d:DataW Unit) (q:Nat),(g:Int)+e=depth+1->thJ bs lim depth (λc p=>qeq ⟨none,bs,0,0,lim,p,0⟩ c) g e p=.ok (d,q)->Gd g d
 |0,_,_,_,_,_,h=>by cases h
 |g+1,e,p,d,q,hg,h=>by
  have j:∀p x q,thJ bs lim depth (λc p=>qeq ⟨none,bs,0,0,lim,p,0⟩ c) g (e+1) p=.ok (x,q)->Gd g x:=λp x q b=>quy bs lim depth g (e+1) p x q (by omega) b;rw[thJ]at h;split at h
  ·cases h
  split at h
  ·cases h
  next c hc h1 =>
  unfold qjC at h;split at h
  ·split at h
   ·cases h
   cases h;exact trivial
  split at h
  ·split at h
   ·cases h
   cases h;exact trivial
  split at h
  ·split at h
   ·cases h
   cases h;exact trivial
  split at h
  ·split at h
   ·cases h
   next l r hb=>cases h;exact qjV bs lim _ _ [] [] _ _ qnh (.inl rfl) hb
  split at h
  ·split at h
   ·cases h
   next hw =>
   split at h
   ·cases h
   next ds r hi =>
   cases h;refine⟨by omega,qpp (P:=λl=>∀x∈l,Gd g x) (λa p k q f b=>?_) (λ_ h=>(List.not_mem_nil h).elim) hi⟩;unfold liJ at b;split at b
   ·cases b
   next d q hd =>
   cases b;intro x b;rcases List.mem_append.1 b with b|b
   ·exact f x b
   rw[List.mem_singleton.1 b];exact j _ _ _ hd
  split at h
  ·split at h
   ·cases h
   next hw =>
   split at h
   ·cases h
   next es r hi =>
   cases h;have i:=qpp (P:=λa=>qx0 (Gd g) a.1 a.2) (λa p k q f b=>?_) (qql _) hi
   ·exact⟨by omega,i.1,i.2.2⟩
   unfold enJ at b;split at b
   ·cases b
   next l p1 hk =>
   obtain⟨m,n⟩:=qv4 hk;split at b
   ·cases b
   split at b
   ·cases b
   split at b
   ·cases b
   split at b
   ·cases b
   next d p5 hd =>
   cases b;exact qnj f m n (j _ _ _ hd)
  split at h
  ·next hc2 =>
   split at h
   ·cases h
   next z r hz=>cases h;exact(qff hc2 hz).1
  cases h
theorem qy8{fm:Int}{d:Int}{x:DataW Unit}(a:0<=d)(h:qgn fm bs d lim=.ok x):Gd (d.toNat+1) x:=by
 unfold qgn qoT at h;split at h
 ·cases h
 split at h
 ·cases h
 next y q hy =>
 split at h
 ·cases h
 split at h
 ·cases h
 cases h;unfold thO at hy;split at hy
 ·exact quy bs lim d _ 0 _ _ _ (by omega) hy
 split at hy
 ·exact qrr qdO bs lim d _ 0 _ _ _ (by omega) hy
 exact qrr qcb bs lim d _ 0 _ _ _ (by omega) hy

def qlp:Nat->List (Int×Int)
 |0=>[]
 |k+1=>qlp k++[((k:Int),(k:Int)+1)]
theorem qeJ:∀k,(qlp k).length=k
 |0=>rfl
 |k+1=>by rw[qlp,List.length_append,qeJ k];rfl
theorem qqF{cap:Nat}{L:List (Int×Int)}(h:w.ownsRow base 40 2 (.slice ea L.length cap) L.length (qaY L)):qba w ea L:=by
 refine⟨λi d=>?_⟩;rcases h.2 with⟨_,k⟩|⟨g,f,j,e,_,a,l,_,m,c⟩
 ·omega
 injection e with e1 _ _;have b:=qf2 L i d;rw[<-c,List.getElem?_take_of_lt (by omega),List.getElem?_take_of_lt (by omega)]at b;refine⟨g,0,e1,ltA a,?_,?_⟩
 ·rw[Nat.zero_add,qaa a];simpa using b.1
 rw[Nat.zero_add,qaa a];simpa using b.2
theorem Tryz.infoEdge:(prog.info? 40).map (λi=>(i.zero,i.size,i.bytes))=some (some (.agg #[.int .i64 0,.int .i64 0]),2,16):=by kernel_rfl
structure qvb(w:World)(c:Cfg)(z:Array Value)(k:Nat)(v:Value)(V:World):Prop where
 below:Below w.heap.size w V
 cfg:V.heap[w.heap.size]?=some (.cells c.arr 25)
 res:V.heap[w.heap.size+1]?=some (.cells z 25)
 own:V.ownsRow (w.heap.size+2) 40 2 v k (qaY (qlp k))
def cfZ:Array Value:=#[.int .i64 0,.slice none 0 0,.int .i64 0,.string ⟨#[]⟩,.int .i64 0,.int .i64 0,.int .i64 0,.int .i64 0,.int .i64 0,.int .i64 0,.slice none 0 0]
theorem qzZ(w:World)(c:Cfg):qvb w c cfZ 0 (.slice none 0 0) ((w.alloc (.cells c.arr 25)).alloc (.cells cfZ 25)) :=
 ⟨bwA.trans (bwA.mono (by simp)),(Below.heap_alloc _ _ _ (by simp)).trans (qac _ _),by have:=qac (w.alloc (.cells c.arr 25)) (.cells cfZ 25);simpa using this,World.ownsRow_nil _ _ _ _⟩
theorem qvb.app{v':Value}(h:qvb w c z k v V)(g:V'.ownsRow (w.heap.size+2) 40 2 v' (k+1) (qaY (qlp k)++[.int .i64 k,.int .i64 ((k:Int)+1)]))(a:(V.alloc o).grownBy V' v.ownBlock):qvb w c z (k+1) v' V':=by
 have f:∀j,j<w.heap.size+2->some j≠v.ownBlock:=λj b e=>by have:=qbE h.own e.symm;omega
 have i:=ltA h.res;have d:∀j,j<w.heap.size+2->V'.heap[j]?=V.heap[j]?:=λj b=>(a.block j (by simp;omega) (f j b)).trans (Below.heap_alloc _ _ _ (by omega));refine⟨⟨a.os.trans h.below.os,a.tape.trans h.below.tape,a.output.trans h.below.output,?_,λj b=>(d j (by omega)).trans (h.below.block j b)⟩,(d _ (by omega)).trans h.cfg,(d _ (by omega)).trans h.res,?_⟩
 ·have:=a.size;have:=h.below.size;simp at *;omega
 rw[qlp,qfM];exact g
theorem qtz{P:Program}(L:Array Bool)(b:Nat)(c:List (Nat×Value))(W':World)(d:wpAnyH P md ops Q S b L (c.foldl (λa p=>a.put (some p.1) p.2) a) W'->wpAnyH P md ops Q S fuel listed a w)(e:∀A,c.foldl (λa p=>a.put (some p.1) p.2) a=A->wpAnyH P md ops Q S b L A W'):wpAnyH P md ops Q S fuel listed a w:=d (e _ rfl)
def I64(x:Int):Prop := -9223372036854775808<=x/\x<=9223372036854775807
def q0j(c:Cfg):Prop:=I64 c.labels/\I64 c.dflt/\I64 c.clr/\I64 c.inn/\I64 c.out/\I64 c.depth/\I64 c.bytes
theorem qfB(x:Int)(n:Nat)(b:1<=n)(d:n<=4096)(a:I64 x)(V:World):Calls prog 6 #[.int .i64 x,.int .i64 (n:Int)] V λe c=>e=.returned (.int .i64 (qaZ x n))/\V=c:=(qwq x n V b (by unfold maxLen;omega) a.1 a.2).mono λ_ _ h=>⟨h.1,h.2.symm⟩
theorem qyP{t:TypeId}(h:W.ownsRow base t size v n xs):∃a b,v=.slice a n b:=by
 rcases h.2 with⟨rfl,rfl⟩|⟨g,b,_,rfl,_⟩
 ·exact⟨none,0,rfl⟩
 exact⟨_,b,rfl⟩
theorem qhr{x:Obj}(h:V.heap[g]?=some x):(V.alloc o).heap[g]?=some x:=(Below.heap_alloc _ _ _ (ltA h)).trans h
def opA(c:Cfg)(k:Nat)(ea:Option Addr)(ecap p2 p3 p4 p5 p6 p7:Nat)(pol:ByteArray)(bv:Value):Array Value:=#[.int .i64 (1+(k:Int)),.slice ea k ecap,.int .i64 p2,.string pol,.int .i64 p3,.int .i64 c.key,.int .i64 (1+(p4:Int)),.int .i64 (1+(p5:Int)),.int .i64 (1+(p6:Int)),.int .i64 (1+(p7:Int)),bv]
theorem qmb(c:Cfg)(k:Nat)(b:Option Addr)(d e f g h i j:Nat)(l:ByteArray)(a:Option Addr)(n m:Nat):(opA c k b d e f g h i j l (.slice a n m)).all (·.oneCell')=true:=by simp[opA,Value.oneCell']
def opC(c:Cfg)(k:Nat)(ea:Option Addr)(ecap p2 p3 p4 p5 p6 p7:Nat)(pol:ByteArray)(B:List Int)(ba:Option Addr)(bcap:Nat):Cfg:=⟨1+(k:Int),qlp k,ea,ecap,p2,pol,p3,c.key,1+(p4:Int),1+(p5:Int),1+(p6:Int),1+(p7:Int),B,ba,bcap⟩
theorem qmx(c:Cfg)(k:Nat)(a:Option Addr)(b d e f g h i:Nat)(j:ByteArray)(B:List Int)(ba:Option Addr)(bcap:Nat):(opC c k a b d e f g h i j B ba bcap).arr=opA c k a b d e f g h i j (.slice ba B.length bcap):=by
 unfold opC Cfg.arr opA;dsimp only;rw[qeJ]
def opG(c:Cfg)(ea:Option Addr)(ecap:Nat):ByteArray->List Int->Option Addr->Nat->Cfg:=opC c (qaZ c.labels 6) ea ecap (qaZ c.dflt (1+qaZ c.labels 6)) (qaZ c.clr (1+qaZ c.labels 6)) (qaZ c.inn 3) (qaZ c.out 3) (qaZ c.depth 16) (qaZ c.bytes 4096)
def qyL(c:Cfg)(rules:List UInt8):ByteArray:=if c.pol.toList.isEmpty=true then⟨rules.toArray⟩else⟨rules.toArray⟩++⟨#[10]⟩++c.pol
def qzr(c:Cfg)(rules:List UInt8)(d:Cfg):Prop:=∃ea ecap,(d=opG c ea ecap (qyL c rules) c.B c.ba c.bcap/\qb3 d=0)\/(d=opG c ea ecap ⟨rules.toArray⟩ [] none 0/\¬qb3 (opG c ea ecap (qyL c rules) c.B c.ba c.bcap)=0)
theorem qw3{ecap:Nat}(h:qvb w c z k (.slice ea k ecap) U)(o:∀j,j<U.heap.size->j≠w.heap.size+1->V.heap[j]?=U.heap[j]?)(q:Below w.heap.size w V)(r:k<=6){pol:ByteArray}{B:List Int}{ba:Option Addr}{bcap:Nat}(hi:qcR w ba B)(p:ba=none->B.length=0/\bcap=0)(n:(B.length+8)*8<=281474976710656):qin V (opC c k ea ecap p2 p3 p4 p5 p6 p7 pol B ba bcap):=by
 have l:V.ownsRow (w.heap.size+2) 40 2 (.slice ea k ecap) k (qaY (qlp k)):=by
  refine⟨h.own.1,?_⟩;rcases h.own.2 with a|⟨g,f,i,a,d,b,m⟩
  ·exact .inl a
  exact .inr ⟨g,f,i,a,d,(o g (ltA b) (by omega)).trans b,m⟩
 refine⟨qqF (show V.ownsRow (w.heap.size+2) 40 2 (.slice ea (qlp k).length ecap) (qlp k).length (qaY (qlp k)) by rw[qeJ];exact l),hi.below q,λe=>?_,p,?_,n⟩
 ·show(qlp k).length=0/\ecap=0;rw[qeJ];have e:ea=none:=e;subst e;rcases l.2 with⟨a,d⟩|⟨g,f,i,a,_⟩
  ·injection a with _ _ b;exact⟨d,b⟩
  injection a with a;cases a
 show((qlp k).length+8)*16<=_;rw[qeJ];omega
theorem qym{rules:List UInt8}{P:ByteArray}(a:Option Addr)(b:Nat)(d:qaZ c.labels 6=k)(e:qaZ c.dflt (1+k)=p2)(f:qaZ c.clr (1+k)=p3)(g:qaZ c.inn 3=p4)(i:qaZ c.out 3=p5)(j:qaZ c.depth 16=p6)(l:qaZ c.bytes 4096=p7)(n:qyL c rules=P){E:Int}(m:qb3 (opC c k a b p2 p3 p4 p5 p6 p7 P c.B c.ba c.bcap)=E):(E=0->qzr c rules (opC c k a b p2 p3 p4 p5 p6 p7 P c.B c.ba c.bcap))/\(¬E=0->qzr c rules (opC c k a b p2 p3 p4 p5 p6 p7 ⟨rules.toArray⟩ [] none 0)):=by
 subst d e f g i j l n m;exact⟨λh=>⟨a,b,.inl ⟨rfl,h⟩⟩,λh=>⟨a,b,.inr ⟨rfl,h⟩⟩⟩
structure qlT(U:World)(d:Array Value)(V:World):Prop where
 below:Below U.heap.size U V
 box:V.heap[U.heap.size]?=some (.cells d 25)
theorem qz2(U:World)(d:Array Value):qlT U d ((({U with drawn:=U.drawn+1}:World).alloc (.cells cfZ 25)).setRow U.heap.size d) :=
 ⟨qah (((Below.refl U.heap.size U).drew).alloc (Nat.le_refl _) _) (Nat.le_refl _) _,setRow_heap _ _ _ _ _ _ (qac {U with drawn:=U.drawn+1} _)⟩
theorem qlT.set(h:qlT U d V)(j:Nat)(v:Value):qlT U (d.setIfInBounds j v) (V.setCell ⟨U.heap.size,j,none⟩ v) :=
 ⟨⟨h.below.os,h.below.tape,h.below.output,by have:=h.below.size;simpa[World.setCell]using this,λk a=>(heap_setCell_other _ _ _ _ (by show k≠U.heap.size;omega)).trans (h.below.block k a)⟩,heap_setCell_same _ _ _ _ _ _ h.box⟩
theorem qlT.next(h:qlT U d V)(a:Below V.heap.size V V'):qlT U d V' :=
 ⟨h.below.trans (a.mono h.below.size),(a.block _ (ltA h.box)).trans h.box⟩
theorem qlT.old(h:qlT U d V){cs:Array Value}(e:U.heap[g]?=some (.cells cs 25))(j:Nat):V.cell? ⟨g,j,none⟩=cs[j]?:=qaa ((h.below.block g (ltA e)).trans e) j
theorem qf5(h:qvb w c cfZ k v U)(a:qlT U d V):(V.setRow (w.heap.size+1) d).heap[w.heap.size+1]?=some (.cells d 25)/\Below w.heap.size w (V.setRow (w.heap.size+1) d)/\∀j,j<U.heap.size->j≠w.heap.size+1->(V.setRow (w.heap.size+1) d).heap[j]?=U.heap[j]? :=
 ⟨setRow_heap _ _ _ _ _ _ ((a.below.block _ (ltA h.res)).trans h.res),qah (h.below.trans (a.below.mono h.below.size)) (by omega) _,λj b e=>(setRow_other _ _ _ _ e).trans (a.below.block j b)⟩
theorem qvr(c:Cfg)(w:World)(O:qin w c)(hk:q0j c)(ht:qhR w.heap.size w)(G:List UInt8)(hr:G.length<=100)(bi:c.pol.size<=281474976710656):Calls prog 4 #[.agg c.arr,.string ⟨G.toArray⟩] w λe V=>∃ae,e=.returned (.agg ae.arr)/\qin V ae/\Below w.heap.size w V/\qzr c G ae:=by
 have HS:=qab c.size;have f:=qab (qzZ w c);have ab:=qfB c.labels 6 (by omega) (by omega) hk.1;obtain⟨m,W⟩:∃m,Hid (qaZ c.labels 6=m):=⟨_,show _=_ from rfl⟩
 simp only[W.out]at ab;have hm:m<6:=by rw[<-W.out];exact qbi _ _ (by omega)
 have ac:=qfB c.dflt (1+m) (by omega) (by omega) hk.2.1;have ad:=qfB c.clr (1+m) (by omega) (by omega) hk.2.2.1;have aj:=qfB c.inn 3 (by omega) (by omega) hk.2.2.2.1;have ak:=qfB c.out 3 (by omega) (by omega) hk.2.2.2.2.1;have al:=qfB c.depth 16 (by omega) (by omega) hk.2.2.2.2.2.1;have am:=qfB c.bytes 4096 (by omega) (by omega) hk.2.2.2.2.2.2;have an:(((1+m:Nat):Int))=1+(m:Int):=by omega
 rw[an]at ac ad;obtain⟨C,X⟩:∃p,Hid (qaZ c.dflt (1+m)=p):=⟨_,show _=_ from rfl⟩
 have bc:C<(1+m):=by rw[<-X.out];exact qbi _ _ (by omega)
 simp only[X.out]at ac;obtain⟨D,Y⟩:∃p,Hid (qaZ c.clr (1+m)=p):=⟨_,show _=_ from rfl⟩
 have bd:D<(1+m):=by rw[<-Y.out];exact qbi _ _ (by omega)
 simp only[Y.out]at ad;obtain⟨q,u⟩:∃p,Hid (qaZ c.inn 3=p):=⟨_,show _=_ from rfl⟩
 have be:q<3:=by rw[<-u.out];exact qbi _ _ (by omega)
 simp only[u.out]at aj;obtain⟨r,i⟩:∃p,Hid (qaZ c.out 3=p):=⟨_,show _=_ from rfl⟩
 have bf:r<3:=by rw[<-i.out];exact qbi _ _ (by omega)
 simp only[i.out]at ak;obtain⟨s,j⟩:∃p,Hid (qaZ c.depth 16=p):=⟨_,show _=_ from rfl⟩
 have bg:s<16:=by rw[<-j.out];exact qbi _ _ (by omega)
 simp only[j.out]at al;obtain⟨t,h⟩:∃p,Hid (qaZ c.bytes 4096=p):=⟨_,show _=_ from rfl⟩
 have bh:t<4096:=by rw[<-h.out];exact qbi _ _ (by omega)
 simp only[h.out]at am;have ax:=qab (qxt (1+(q:Int)) (by omega));have ay:=qab (qxt (1+(r:Int)) (by omega));have az:=qab (qxt (1+(s:Int)) (by omega));have a0:=qab (qxt (1+(t:Int)) (by omega));clear hk an;go_enter func4,ntmps4;have c0:_=some (Value.int .i64 c.labels):=qaa f.out.cfg 0;unfold cfZ at c0
 go_wp2_with(first
  |(go_at_call 6;refine(ab _).mono ?_;clear ab;rintro e w2 ⟨rfl,rfl⟩))
 clear c0
 go_loopg[6,7] m (λaf ye yi V=>∃k:Nat,yi=.int .i64 ((k:Int)+1)/\Hid (k<=m/\m<=k+af)/\Hid (qvb w c cfZ k ye V))
 case atStart=>exact⟨0,rfl,⟨Nat.zero_le _,by omega⟩,f⟩
 case round =>
  clear f;obtain⟨k,rfl,R,f⟩:=hrel;by_cases a1:(k:Int)+1<1+(m:Int)
  ·cases gk with
   |zero=>have:=R.out;omega
   |succ af =>
    have a9:k<=5:=by have:=R.out;omega
    have bk:((k:Int)+1-1)=(k:Int):=by omega
    obtain⟨i0,hi,a3,a4,a5⟩:=info_parts Tryz.infoEdge
    go_wp2_with(first
     |(at_builtin;refine wpList_append_own _ rfl _ _ 22 rfl (w.heap.size+2) 40 i0 (.agg #[.int .i64 0,.int .i64 0]) 2 16 underlying22 hi a3 a4 a5 rfl (by decide) _ _ _ rfl (f.out.own.alloc _) ⟨wr.heap.size,0,none⟩ 1 1 [.int .i64 k,.int .i64 ((k:Int)+1)] rfl rfl (qag _ _ _) (λbl hu=>by simp at hu;rcases hu with rfl|rfl<;>rfl) (by unfold maxLen;omega) (by omega) (by have:=ltA f.out.res;simp;omega) ?_;intro v' w5 ar aq a2;clear a2;have aw:=qab (f.out.app ar aq);clear ar aq f))
    go_roundg af
    case measure=>omega
    case rel=>exact⟨k+1,congrArg (Value.int .i64) (by omega),by have:=R.out;show _/\_;omega,aw⟩
  have hk:k=m:=by have:=R.out;omega
  subst hk
  go_wp2_with fail
  obtain⟨v,y,rfl⟩:=qyP f.out.own;refine rgn (S:=λZ=>Z.heap[w.heap.size]?=some (.cells c.arr 25)) f.out.cfg (by kernel_rfl) ?_;intro l;have I:=(qhr (o:=.cells cfZ 25) l)
  refine tkp 0 27 (.int .i64 (1+(k:Int))) l ?_;refine tkp 1 28 (.slice v k y) l ?_;refine tkp 4 31 (.int .i64 (1+(k:Int))) l ?_;refine tkp 8 35 (.int .i64 (1+(k:Int))) l ?_;refine tkp 2 29 (.pointer (some ⟨w.heap.size,2,none⟩)) l ?_;refine tkp 6 33 (.pointer (some ⟨w.heap.size,4,none⟩)) l ?_;refine tkp 10 37 (.pointer (some ⟨w.heap.size,5,none⟩)) l ?_;refine tkp 12 39 (.pointer (some ⟨w.heap.size,6,none⟩)) l ?_;refine tkp 16 43 (.pointer (some ⟨w.heap.size,7,none⟩)) l ?_;refine tkp 20 47 (.pointer (some ⟨w.heap.size,8,none⟩)) l ?_;refine tkp 24 51 (.pointer (some ⟨w.heap.size,9,none⟩)) l ?_;refine tkp 28 55 (.pointer (some ⟨w.heap.size,10,none⟩)) l ?_;refine tkq 3 30 (.int .i64 c.dflt) rfl (λZ H=>by have z:_=some (Value.int .i64 c.dflt):=qaa H 2;go_simp) l ?_;refine tkq 7 34 (.int .i64 c.clr) rfl (λZ H=>by have z:_=some (Value.int .i64 c.clr):=qaa H 4;go_simp) l ?_;refine tkq 11 38 (.int .i64 c.key) rfl (λZ H=>by have z:_=some (Value.int .i64 c.key):=qaa H 5;go_simp) l ?_;refine tkq 13 40 (.int .i64 c.inn) rfl (λZ H=>by have z:_=some (Value.int .i64 c.inn):=qaa H 6;go_simp) l ?_;refine tkq 17 44 (.int .i64 c.out) rfl (λZ H=>by have z:_=some (Value.int .i64 c.out):=qaa H 7;go_simp) l ?_;refine tkq 21 48 (.int .i64 c.depth) rfl (λZ H=>by have z:_=some (Value.int .i64 c.depth):=qaa H 8;go_simp) l ?_;refine tkq 25 52 (.int .i64 c.bytes) rfl (λZ H=>by have z:_=some (Value.int .i64 c.bytes):=qaa H 9;go_simp) l ?_;refine tkq 29 56 (.slice c.ba c.B.length c.bcap) rfl (λZ H=>by have z:_=some (Value.slice c.ba c.B.length c.bcap):=qaa H 10;go_simp) l ?_;refine qtz #[true,true,true,true,true,true,true,true,true,true,true,true,true,true,true,true,true,true,true,true,true,true,true,true,true,true,true,true,true,true,true,true,false] 1 [(32,.int .i64 C),(36,.int .i64 D),(41,.int .i64 q),(45,.int .i64 r),(49,.int .i64 s),(53,.int .i64 t),(42,.int .i64 (1+(q:Int))),(46,.int .i64 (1+(r:Int))),(50,.int .i64 (1+(s:Int))),(54,.int .i64 (1+(t:Int))),(57,.agg (opA c k v y C D q r s t ⟨#[]⟩ (.slice c.ba c.B.length c.bcap))),(8,.pointer (some ⟨wr.heap.size,0,none⟩))] (({wr with drawn:=wr.drawn+1}:World).alloc (.cells cfZ 25)) (λau=>?reg) ?tail
  case reg =>
   clear O ht f R a1 hm;have n:=l
   all_goals
    first
    |(have _:=F;refine rdq 5 (λK b=>?_))
    |(refine qll 5 31 (λK b=>?_) (λK b=>?_);rotate_left;(go_simp;refine b.out _ _ I (λ_=>?_);clear b n;have n:=I;have F:=True.intro;refine rdq 5 (λK b=>?_)))
   all_goals
    go_simp;refine(ac _).mono ?_;rintro e M ⟨rfl,rfl⟩;refine b.out _ _ n (λ_=>?_);clear b
   all_goals
    first
    |(have _:=F;refine rdq 9 (λK b=>?_))
    |(refine qll 9 31 (λK b=>?_) (λK b=>?_);rotate_left;(go_simp;refine b.out _ _ I (λ_=>?_);clear b n;have n:=I;have F:=True.intro;refine rdq 9 (λK b=>?_)))
   all_goals
    go_simp;refine(ad _).mono ?_;rintro e M ⟨rfl,rfl⟩;refine b.out _ _ n (λ_=>?_);clear b
   all_goals
    first
    |(have _:=F;refine rdq 14 (λK b=>?_))
    |(refine qll 14 31 (λK b=>?_) (λK b=>?_);rotate_left;(go_simp;refine b.out _ _ I (λ_=>?_);clear b n;have n:=I;have F:=True.intro;refine rdq 14 (λK b=>?_)))
   all_goals
    go_simp;refine(aj _).mono ?_;rintro e M ⟨rfl,rfl⟩;refine b.out _ _ n (λ_=>?_);clear b;refine tkq 15 42 (.int .i64 (1+(q:Int))) rfl (λZ _=>by go_simp<;>exact ax.out) n ?_
   all_goals
    first
    |(have _:=F;refine rdq 18 (λK b=>?_))
    |(refine qll 18 31 (λK b=>?_) (λK b=>?_);rotate_left;(go_simp;refine b.out _ _ I (λ_=>?_);clear b n;have n:=I;have F:=True.intro;refine rdq 18 (λK b=>?_)))
   all_goals
    go_simp;refine(ak _).mono ?_;rintro e M ⟨rfl,rfl⟩;refine b.out _ _ n (λ_=>?_);clear b;refine tkq 19 46 (.int .i64 (1+(r:Int))) rfl (λZ _=>by go_simp<;>exact ay.out) n ?_
   all_goals
    first
    |(have _:=F;refine rdq 22 (λK b=>?_))
    |(refine qll 22 31 (λK b=>?_) (λK b=>?_);rotate_left;(go_simp;refine b.out _ _ I (λ_=>?_);clear b n;have n:=I;have F:=True.intro;refine rdq 22 (λK b=>?_)))
   all_goals
    go_simp;refine(al _).mono ?_;rintro e M ⟨rfl,rfl⟩;refine b.out _ _ n (λ_=>?_);clear b;refine tkq 23 50 (.int .i64 (1+(s:Int))) rfl (λZ _=>by go_simp<;>exact az.out) n ?_
   all_goals
    first
    |(have _:=F;refine rdq 26 (λK b=>?_))
    |(refine qll 26 31 (λK b=>?_) (λK b=>?_);rotate_left;(go_simp;refine b.out _ _ I (λ_=>?_);clear b n;have n:=I;have F:=True.intro;refine rdq 26 (λK b=>?_)))
   all_goals
    go_simp;refine(am _).mono ?_;rintro e M ⟨rfl,rfl⟩;refine b.out _ _ n (λ_=>?_);clear b;refine tkq 27 54 (.int .i64 (1+(t:Int))) rfl (λZ _=>by go_simp<;>exact a0.out) n ?_;refine tkq 30 57 (.agg (opA c k v y C D q r s t ⟨#[]⟩ (.slice c.ba c.B.length c.bcap))) rfl (λZ _=>by kernel_rfl) n ?_
   all_goals
    first
    |(have _:=F;exact cast (by kernel_rfl) au)
    |(refine rdq 31 (λK b=>?_);go_simp;refine b.out _ _ I (λ_=>?_);exact cast (by kernel_rfl) au)
  case tail =>
   have U:=qab (qz2 wr (opA c k v y C D q r s t ⟨#[]⟩ (.slice c.ba c.B.length c.bcap)));intro ag F;have h8:ag.eval (.tmp 8)=.pointer (some ⟨wr.heap.size,0,none⟩):=by rw[<-F];kernel_rfl
   have ap:ag.eval (.tmp 57)=.agg (opA c k v y C D q r s t ⟨#[]⟩ (.slice c.ba c.B.length c.bcap)):=by rw[<-F];kernel_rfl
   refine wpAnyH_ready (fuel:=0) (rs:=[32]) (by kernel_rfl) (by simp) (AllReadyH.cons (o := ?o) ?hi ?hk AllReadyH.nil)
   case hi=>exact rfl
   intro K b;rw[if_pos (by kernel_rfl)];refine wp_store_row 25 (.tmp 8) (.tmp 57) rfl wr.heap.size (opA c k v y C D q r s t ⟨#[]⟩ (.slice c.ba c.B.length c.bcap)) h8 ap 25 cfZ (qac {wr with drawn:=wr.drawn+1} _) (qaA rfl) rfl (qmb ..) ?_;refine b.out _ _ ((U.out.below.block _ (ltA f.out.cfg)).trans f.out.cfg) (λ_=>?_);clear b l I h8 ap;subst F;generalize(({wr with drawn:=wr.drawn+1}:World).alloc (.cells cfZ 25)).setRow wr.heap.size (opA c k v y C D q r s t ⟨#[]⟩ (.slice c.ba c.B.length c.bcap))=V1 at *;refine wdn ?_;go_simp;have c3:_=some (Value.string ⟨#[]⟩):=qaa U.out.box 3;have f3:=frozen_of_row _ _ 3 _ _ U.out.box;have Q:Hid (qlT wr (opA c k v y C D q r s t ⟨G.toArray⟩ (.slice c.ba c.B.length c.bcap)) _):=U.out.set 3 (.string ⟨G.toArray⟩);have q3:_=some (Value.string c.pol):=Q.out.old f.out.cfg 3;have bj:¬9223372036854775807<G.length+1+c.pol.size:=by omega
   have ah:Hid (∀P V,qlT wr (opA c k v y C D q r s t P (.slice c.ba c.B.length c.bcap)) V->∃E av,Hid (qb3 (opC c k v y C D q r s t P c.B c.ba c.bcap)=E)/\Calls prog 8 #[.agg (opA c k v y C D q r s t P (.slice c.ba c.B.length c.bcap))] V λe M=>e=.returned (.tuple #[.int .i64 E,.int .i64 av])/\Below V.heap.size V M):=λP V hV=>by
    have ao:=qfE (opC c k v y C D q r s t P c.B c.ba c.bcap) V (qw3 f.out (λa7 hj _=>hV.below.block a7 hj) (f.out.below.trans (hV.below.mono f.out.below.size)) (by omega) O.ints O.bn O.bb) (ht.below (f.out.below.trans (hV.below.mono f.out.below.size))).gl;rw[qmx]at ao;exact⟨_,_,rfl,ao⟩
   by_cases a:c.pol.toList.isEmpty=true;have d:=qab (show qyL c G=_ from if_pos a);have L:=Q
   rotate_left
   have d:=qab (show qyL c G=_ from if_neg a);have d3:_=some (Value.string ⟨G.toArray⟩):=qaa Q.out.box 3;have g3:=frozen_of_row _ _ 3 _ _ Q.out.box;have L:Hid (qlT wr (opA c k v y C D q r s t ((⟨G.toArray⟩:ByteArray)++(⟨#[10]⟩:ByteArray)++c.pol) (.slice c.ba c.B.length c.bcap)) _):=Q.out.set 3 (.string ((⟨G.toArray⟩:ByteArray)++(⟨#[10]⟩:ByteArray)++c.pol));have a:=Bool.eq_false_iff.2 a
   rotate_left
   all_goals
    obtain⟨E,av,ai,x⟩:=ah.out _ _ L.out;have HC:=qab O;clear ah O ht;by_cases A:E=0
    ·subst A
     go_wp2_with(first
      |(refine wpList_load_row rfl 25 _ rfl wr.heap.size rfl _ _ _ _ L.out.box underlying25 rfl (qaA rfl) ?_)
      |(go_at_call 8;refine x.mono ?_;clear x;rintro e w5 ⟨rfl,T⟩;have J:=qab (L.out.next T);clear L T)
      |(refine wpList_load_row rfl 25 _ rfl wr.heap.size rfl _ _ _ _ J.out.box underlying25 rfl (qaA rfl) ?_)
      |(refine wpList_store_row rfl 25 _ _ rfl (w.heap.size+1) (opA c k v y C D q r s t _ (.slice c.ba c.B.length c.bcap)) rfl rfl 25 _ ((J.out.below.block _ (ltA f.out.res)).trans f.out.res) (qaA rfl) rfl (qmb ..) ?_))
     refine bodyPost_ret (results_cell_row results4 _ _ (w.heap.size+1) 25 _ (0,0) _ rfl (qf5 f.out J.out).1 underlying25 rfl (qaA rfl)) rfl ⟨_,congrArg (λaa=>Ending.returned (.agg aa)) (qmx ..).symm,qw3 f.out (qf5 f.out J.out).2.2 (qf5 f.out J.out).2.1 (by omega) HC.out.ints HC.out.bn HC.out.bb,(qf5 f.out J.out).2.1,(qym v y W.out X.out Y.out u.out i.out j.out h.out d.out ai.out).1 rfl⟩
    have HN:=qab A;have A:(E==0)=false:=by simpa using A
    go_wp2_with(first
     |(refine wpList_load_row rfl 25 _ rfl wr.heap.size rfl _ _ _ _ L.out.box underlying25 rfl (qaA rfl) ?_)
     |(go_at_call 8;refine x.mono ?_;clear x;rintro e w5 ⟨rfl,T⟩;have J:=qab (L.out.next T);clear L T;have c3:_=some (Value.string _):=qaa J.out.box 3;have f3:=frozen_of_row _ _ 3 _ _ J.out.box;have g:Hid (qlT wr (opA c k v y C D q r s t ⟨G.toArray⟩ (.slice c.ba c.B.length c.bcap)) _):=J.out.set 3 (.string ⟨G.toArray⟩);have a8:_=some (Value.slice _ _ _):=qaa g.out.box 10;have f10:=frozen_of_row _ _ 10 _ _ g.out.box;have N:Hid (qlT wr (opA c k v y C D q r s t ⟨G.toArray⟩ (.slice none 0 0)) _):=g.out.set 10 (.slice none 0 0))
     |(refine wpList_load_row rfl 25 _ rfl wr.heap.size rfl _ _ _ _ N.out.box underlying25 rfl (qaA rfl) ?_)
     |(refine wpList_store_row rfl 25 _ _ rfl (w.heap.size+1) (opA c k v y C D q r s t ⟨G.toArray⟩ (.slice none 0 0)) rfl rfl 25 _ ((N.out.below.block _ (ltA f.out.res)).trans f.out.res) (qaA rfl) rfl (qmb ..) ?_))
    refine bodyPost_ret (results_cell_row results4 _ _ (w.heap.size+1) 25 _ (0,0) _ rfl (qf5 f.out N.out).1 underlying25 rfl (qaA rfl)) rfl ⟨_,congrArg (λaa=>Ending.returned (.agg aa)) (qmx c k v y C D q r s t ⟨G.toArray⟩ [] none 0).symm,qw3 f.out (qf5 f.out N.out).2.2 (qf5 f.out N.out).2.1 (by omega) (B:=[]) (ba:=none) (bcap:=0) ⟨λa6 hi=>absurd hi (Nat.not_lt_zero a6)⟩ (λ_=>⟨rfl,rfl⟩) (by simp),(qf5 f.out N.out).2.1,(qym v y W.out X.out Y.out u.out i.out j.out h.out d.out ai.out).2 HN.out⟩

end
section
open Go.RowKit
theorem qrl{P:Program}{o:Oper}{K':Act->World->Prop}(e:Shut (∀a w,S w->(S w->wpAnyH P md ops Q S fuel listed a w)->K' a w))(m:Region.wanted o (yielded ops a.tmps)=true)(c:TypeId)(x y:Operand)(k:o.op=.store c x y)(i:o.dst=none)(g:Nat)(b:Array Value)(n:a.eval x=.pointer (some ⟨g,0,none⟩))(p:a.eval y=.agg b)(t:TypeId)(old:Array Value)(j:w.heap[g]?=some (.cells old t (0,0)))(hi:(P.info? c).map (·.size)=some b.size)(l:old.size=b.size)(d:b.all (·.oneCell')=true)(f:S (w.setRow g b))(h:wpAnyH P md ops Q S fuel listed a (w.setRow g b)):if Region.wanted o (yielded ops a.tmps)=true then Oper.wp P o a w K' Q else K' (a.put o.dst undef) w:=by
 rw[if_pos m];refine wp_store_row c x y k g b n p t old j hi l d ?_;rw[i];exact e _ _ f (λ_=>h)
theorem qrR{P:Program}{o:Oper}(i:Nat)(n:Region.ready md ops listed=[i])(hi:ops[i]?=some o)(p:Region.wanted o (yielded ops a.tmps)=true)(c:TypeId)(x y:Operand)(l:o.op=.store c x y)(j:o.dst=none)(g:Nat)(b:Array Value)(q:a.eval x=.pointer (some ⟨g,0,none⟩))(r:a.eval y=.agg b)(t:TypeId)(old:Array Value)(k:w.heap[g]?=some (.cells old t (0,0)))(s:(P.info? c).map (·.size)=some b.size)(m:old.size=b.size)(d:b.all (·.oneCell')=true)(f:S (w.setRow g b))(h:wpAnyH P md ops Q S fuel (listed.setIfInBounds i true) a (w.setRow g b)):wpAnyH P md ops Q S (fuel+1) listed a w :=
 wpAnyH_ready n (by simp) (AllReadyH.cons hi (λ_ e=>qrl e p c x y l j g b q r t old k s m d f h) AllReadyH.nil)
theorem qb7.slice{t:TypeId}{F:Nat->Prop}(h:qb7 V t size F v n xs):∃a m c,v=.slice a m c:=by
 rcases h.2 with⟨e,_⟩|⟨g,b,d,e,_⟩
 ·exact⟨_,_,_,e⟩
 exact⟨_,_,_,e⟩

end
end Go.Proofs.YtpifimohecagoaaGreatDoor
