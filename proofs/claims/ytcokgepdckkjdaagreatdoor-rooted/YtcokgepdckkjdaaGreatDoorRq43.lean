import Derived.Test.YtcokgepdckkjdaaGreatDoorRq42
set_option maxRecDepth 100000
set_option maxHeartbeats 8000000
namespace Go.Proofs.YtcokgepdckkjdaaGreatDoor
open Go.Proofs.Tryz
variable {U V V' w:World}{c:Cfg}{N a base g k p2 p3 p4 p5 p6 p7:Nat}{d td z:Array Value}{ea:Option Addr}{v:Value}{o:Obj}
section
open Go.RowKit Go.Lib
structure qhH (w:World)(c:Cfg)(N:Nat)(td:Array Value)(V:World):Prop where
 below:Below w.heap.size w V
 cfg:V.heap[w.heap.size]? = some (.cells c.arr 25)
 told:V.heap[N]? = some (.cells td 41)
 lt:w.heap.size<N
theorem qhH.step {b:Nat}(h:qhH w c N td V)(a:Below b V V')(d:N<b):qhH w c N td V' :=
 ⟨h.below.trans (a.mono (by have:=h.lt;omega)),(a.block _ (by have:=h.lt;omega)).trans h.cfg,(a.block _ d).trans h.told,h.lt⟩
theorem qhH.next (h:qhH w c N td V)(a:Below V.heap.size V V'):qhH w c N td V' :=
 h.step a (ltA h.told)

def qzd:Nat->List (Int×Int)
 |0=>[]
 |k+1=>qzd k++[((k:Int),(k:Int)+1)]
theorem qy1:∀k,(qzd k).length=k
 |0=>rfl
 |k+1=>by rw[qzd,List.length_append,qy1 k];rfl
theorem q0V {cap:Nat}{L:List (Int×Int)}(h:w.ownsRow base 32 2 (.slice ea L.length cap) L.length (qxH L)):qaY w ea L:=by
 refine⟨fun i d => ?_⟩;rcases h.2 with ⟨_,k⟩|⟨g,f,j,e,_,a,l,_,m,c⟩
 ·omega
 injection e with e1 _ _;have b:=qyC L i d;rw[<-c,List.getElem?_take_of_lt (by omega),List.getElem?_take_of_lt (by omega)] at b;refine⟨g,0,e1,ltA a,?_,?_⟩
 ·rw[Nat.zero_add,qab a];simpa using b.1
 rw[Nat.zero_add,qab a];simpa using b.2
theorem Tryz.infoEdge:(prog.info? 32).map (fun i=>(i.zero,i.size,i.bytes))=some (some (.agg #[.int .i64 0,.int .i64 0]),2,16):=by kernel_rfl
structure q25 (w:World)(c:Cfg)(z:Array Value)(k:Nat)(v:Value)(V:World):Prop where
 below:Below w.heap.size w V
 cfg:V.heap[w.heap.size]? = some (.cells c.arr 25)
 res:V.heap[w.heap.size+1]? = some (.cells z 25)
 own:V.ownsRow (w.heap.size+2) 32 2 v k (qxH (qzd k))
def cfZ:Array Value:=#[.int .i64 0,.slice none 0 0,.int .i64 0,.string ⟨#[]⟩,.int .i64 0,.int .i64 0,.int .i64 0,.int .i64 0,.int .i64 0,.int .i64 0,.slice none 0 0]
theorem q3j (w:World)(c:Cfg):q25 w c cfZ 0 (.slice none 0 0) ((w.alloc (.cells c.arr 25)).alloc (.cells cfZ 25)) :=
 ⟨bwA.trans (bwA.mono (by simp)),(Below.heap_alloc _ _ _ (by simp)).trans (qac _ _),by have:=qac (w.alloc (.cells c.arr 25)) (.cells cfZ 25);simpa using this,World.ownsRow_nil _ _ _ _⟩
theorem q25.app {v':Value}(h:q25 w c z k v V)(g:V'.ownsRow (w.heap.size+2) 32 2 v' (k+1) (qxH (qzd k)++[.int .i64 k,.int .i64 ((k:Int)+1)]))(a:(V.alloc o).grownBy V' v.ownBlock):q25 w c z (k+1) v' V':=by
 have f:∀j,j<w.heap.size+2->some j≠v.ownBlock:=fun j b e=>by have:=qbA h.own e.symm;omega
 have i:=ltA h.res;have d:∀j,j<w.heap.size+2->V'.heap[j]? = V.heap[j]?:=fun j b=>(a.block j (by simp;omega) (f j b)).trans (Below.heap_alloc _ _ _ (by omega));refine⟨⟨a.os.trans h.below.os,a.tape.trans h.below.tape,a.output.trans h.below.output,?_,fun j b=>(d j (by omega)).trans (h.below.block j b)⟩,(d _ (by omega)).trans h.cfg,(d _ (by omega)).trans h.res,?_⟩
 ·have:=a.size;have:=h.below.size;simp at *;omega
 rw[qzd,qyF];exact g
theorem q1E {P:Program}{md:Region.Mode}{ops:Array Oper}{Q:Exit->Act->World->Prop}{S:World->Prop}{fuel:Nat}{listed:Array Bool}{a:Act}(L:Array Bool)(b:Nat)(c:List (Nat×Value))(W':World)(d:wpAnyH P md ops Q S b L (c.foldl (fun a p=>a.put (some p.1) p.2) a) W'->wpAnyH P md ops Q S fuel listed a w)(e:∀A,c.foldl (fun a p=>a.put (some p.1) p.2) a=A->wpAnyH P md ops Q S b L A W'):wpAnyH P md ops Q S fuel listed a w:=d (e _ rfl)
def I64 (x:Int):Prop := -9223372036854775808<=x/\x<=9223372036854775807
def q3q (c:Cfg):Prop:=I64 c.labels/\I64 c.dflt/\I64 c.clr/\I64 c.inn/\I64 c.out/\I64 c.depth/\I64 c.bytes
theorem qyB (x:Int)(n:Nat)(b:1<=n)(d:n<=4096)(a:I64 x)(V:World):Calls prog 4 #[.int .i64 x,.int .i64 (n:Int)] V fun e c=>e=.returned (.int .i64 (qie x n))/\V=c:=(qsT x n V b (by unfold maxLen;omega) a.1 a.2).mono fun _ _ h=>⟨h.1,h.2.symm⟩
theorem q2V {W:World}{t:TypeId}{size:Nat}{n:Nat}{xs:List Value}(h:W.ownsRow base t size v n xs):∃a b,v=.slice a n b:=by
 rcases h.2 with ⟨rfl,rfl⟩|⟨g,b,_,rfl,_⟩
 ·exact⟨none,0,rfl⟩
 exact⟨_,b,rfl⟩
theorem q2y {x:Obj}(h:V.heap[g]? = some x):(V.alloc o).heap[g]? = some x:=(Below.heap_alloc _ _ _ (ltA h)).trans h
def opA (c:Cfg)(k:Nat)(ea:Option Addr)(ecap p2 p3 p4 p5 p6 p7:Nat)(pol:ByteArray)(bv:Value):Array Value:=#[.int .i64 (1+(k:Int)),.slice ea k ecap,.int .i64 p2,.string pol,.int .i64 p3,.int .i64 c.key,.int .i64 (1+(p4:Int)),.int .i64 (1+(p5:Int)),.int .i64 (1+(p6:Int)),.int .i64 (1+(p7:Int)),bv]
theorem q0f (c:Cfg)(k:Nat)(b:Option Addr)(d e f g h i j:Nat)(l:ByteArray)(a:Option Addr)(n m:Nat):(opA c k b d e f g h i j l (.slice a n m)).all (·.oneCell')=true:=by simp[opA,Value.oneCell']
def opC (c:Cfg)(k:Nat)(ea:Option Addr)(ecap p2 p3 p4 p5 p6 p7:Nat)(pol:ByteArray)(B:List Int)(ba:Option Addr)(bcap:Nat):Cfg:=⟨1+(k:Int),qzd k,ea,ecap,p2,pol,p3,c.key,1+(p4:Int),1+(p5:Int),1+(p6:Int),1+(p7:Int),B,ba,bcap⟩
theorem qzQ (c:Cfg)(k:Nat)(a:Option Addr)(b d e f g h i:Nat)(j:ByteArray)(B:List Int)(ba:Option Addr)(bcap:Nat):(opC c k a b d e f g h i j B ba bcap).arr=opA c k a b d e f g h i j (.slice ba B.length bcap):=by
 unfold opC Cfg.arr opA;dsimp only;rw[qy1]
def opG (c:Cfg)(ea:Option Addr)(ecap:Nat):ByteArray->List Int->Option Addr->Nat->Cfg:=opC c (qie c.labels 6) ea ecap (qie c.dflt (1+qie c.labels 6)) (qie c.clr (1+qie c.labels 6)) (qie c.inn 3) (qie c.out 3) (qie c.depth 16) (qie c.bytes 4096)
def q2N (c:Cfg)(rules:List UInt8):ByteArray:=if c.pol.toList.isEmpty=true then ⟨rules.toArray⟩ else ⟨rules.toArray⟩++⟨#[10]⟩++c.pol
def q2G (c:Cfg)(rules:List UInt8)(d:Cfg):Prop:=∃ea ecap,(d=opG c ea ecap (q2N c rules) c.B c.ba c.bcap/\qbw d=0)\/(d=opG c ea ecap ⟨rules.toArray⟩ [] none 0/\¬qbw (opG c ea ecap (q2N c rules) c.B c.ba c.bcap)=0)
theorem q2D {ecap:Nat}(h:q25 w c z k (.slice ea k ecap) U)(o:∀j,j<U.heap.size->j≠w.heap.size+1->V.heap[j]? = U.heap[j]?)(q:Below w.heap.size w V)(r:k<=6){pol:ByteArray}{B:List Int}{ba:Option Addr}{bcap:Nat}(hi:qbV w ba B)(p:ba=none->B.length=0/\bcap=0)(n:(B.length+8)*8<=281474976710656):ql7 V (opC c k ea ecap p2 p3 p4 p5 p6 p7 pol B ba bcap):=by
 have l:V.ownsRow (w.heap.size+2) 32 2 (.slice ea k ecap) k (qxH (qzd k)):=by
  refine⟨h.own.1,?_⟩;rcases h.own.2 with a|⟨g,f,i,a,d,b,m⟩
  ·exact .inl a
  exact .inr ⟨g,f,i,a,d,(o g (ltA b) (by omega)).trans b,m⟩
 refine⟨q0V (show V.ownsRow (w.heap.size+2) 32 2 (.slice ea (qzd k).length ecap) (qzd k).length (qxH (qzd k)) by rw[qy1];exact l),hi.below q,fun e => ?_,p,?_,n⟩
 ·show(qzd k).length=0/\ecap=0;rw[qy1];have e:ea=none:=e;subst e;rcases l.2 with ⟨a,d⟩|⟨g,f,i,a,_⟩
  ·injection a with _ _ b;exact⟨d,b⟩
  injection a with a;cases a
 show((qzd k).length+8)*16<=_;rw[qy1];omega
theorem q2J {rules:List UInt8}{P:ByteArray}(a:Option Addr)(b:Nat)(d:qie c.labels 6=k)(e:qie c.dflt (1+k)=p2)(f:qie c.clr (1+k)=p3)(g:qie c.inn 3=p4)(i:qie c.out 3=p5)(j:qie c.depth 16=p6)(l:qie c.bytes 4096=p7)(n:q2N c rules=P){E:Int}(m:qbw (opC c k a b p2 p3 p4 p5 p6 p7 P c.B c.ba c.bcap)=E):(E=0->q2G c rules (opC c k a b p2 p3 p4 p5 p6 p7 P c.B c.ba c.bcap))/\(¬E=0->q2G c rules (opC c k a b p2 p3 p4 p5 p6 p7 ⟨rules.toArray⟩ [] none 0)):=by
 subst d e f g i j l n m;exact⟨fun h=>⟨a,b,.inl ⟨rfl,h⟩⟩,fun h=>⟨a,b,.inr ⟨rfl,h⟩⟩⟩
structure qzT (U:World)(d:Array Value)(V:World):Prop where
 below:Below U.heap.size U V
 box:V.heap[U.heap.size]? = some (.cells d 25)
theorem q3n (U:World)(d:Array Value):qzT U d ((({U with drawn:=U.drawn+1}:World).alloc (.cells cfZ 25)).setRow U.heap.size d) :=
 ⟨qah (((Below.refl U.heap.size U).drew).alloc (Nat.le_refl _) _) (Nat.le_refl _) _,setRow_heap _ _ _ _ _ _ (qac {U with drawn:=U.drawn+1} _)⟩
theorem qzT.set (h:qzT U d V)(j:Nat)(v:Value):qzT U (d.setIfInBounds j v) (V.setCell ⟨U.heap.size,j,none⟩ v) :=
 ⟨⟨h.below.os,h.below.tape,h.below.output,by have:=h.below.size;simpa [World.setCell] using this,fun k a=>(heap_setCell_other _ _ _ _ (by show k≠U.heap.size;omega)).trans (h.below.block k a)⟩,heap_setCell_same _ _ _ _ _ _ h.box⟩
theorem qzT.next (h:qzT U d V)(a:Below V.heap.size V V'):qzT U d V' :=
 ⟨h.below.trans (a.mono h.below.size),(a.block _ (ltA h.box)).trans h.box⟩
theorem qzT.old (h:qzT U d V){cs:Array Value}(e:U.heap[g]? = some (.cells cs 25))(j:Nat):V.cell? ⟨g,j,none⟩=cs[j]?:=qab ((h.below.block g (ltA e)).trans e) j
theorem qyD (h:q25 w c cfZ k v U)(a:qzT U d V):(V.setRow (w.heap.size+1) d).heap[w.heap.size+1]? = some (.cells d 25)/\Below w.heap.size w (V.setRow (w.heap.size+1) d)/\∀j,j<U.heap.size->j≠w.heap.size+1->(V.setRow (w.heap.size+1) d).heap[j]? = U.heap[j]? :=
 ⟨setRow_heap _ _ _ _ _ _ ((a.below.block _ (ltA h.res)).trans h.res),qah (h.below.trans (a.below.mono h.below.size)) (by omega) _,fun j b e=>(setRow_other _ _ _ _ e).trans (a.below.block j b)⟩
theorem q2z (c:Cfg)(w:World)(O:ql7 w c)(hk:q3q c)(ht:qko w.heap.size w)(G:List UInt8)(hr:G.length<=100)(bi:c.pol.size<=281474976710656):Calls prog 5 #[.agg c.arr,.string ⟨G.toArray⟩] w fun e V=>∃ae,e=.returned (.agg ae.arr)/\ql7 V ae/\Below w.heap.size w V/\q2G c G ae:=by
 have HS:=qaa c.size;have f:=qaa (q3j w c);have ab:=qyB c.labels 6 (by omega) (by omega) hk.1;obtain⟨m,W⟩:∃m,Hid (qie c.labels 6=m):=⟨_,show _=_ from rfl⟩
 simp only[W.out] at ab;have hm:m<6:=by rw[<-W.out];exact qr6 _ _ (by omega)
 have ac:=qyB c.dflt (1+m) (by omega) (by omega) hk.2.1;have ad:=qyB c.clr (1+m) (by omega) (by omega) hk.2.2.1;have aj:=qyB c.inn 3 (by omega) (by omega) hk.2.2.2.1;have ak:=qyB c.out 3 (by omega) (by omega) hk.2.2.2.2.1;have al:=qyB c.depth 16 (by omega) (by omega) hk.2.2.2.2.2.1;have am:=qyB c.bytes 4096 (by omega) (by omega) hk.2.2.2.2.2.2;have an:(((1+m:Nat):Int))=1+(m:Int):=by omega
 rw[an] at ac ad;obtain⟨C,X⟩:∃p,Hid (qie c.dflt (1+m)=p):=⟨_,show _=_ from rfl⟩
 have bc:C<(1+m):=by rw[<-X.out];exact qr6 _ _ (by omega)
 simp only[X.out] at ac;obtain⟨D,Y⟩:∃p,Hid (qie c.clr (1+m)=p):=⟨_,show _=_ from rfl⟩
 have bd:D<(1+m):=by rw[<-Y.out];exact qr6 _ _ (by omega)
 simp only[Y.out] at ad;obtain⟨q,u⟩:∃p,Hid (qie c.inn 3=p):=⟨_,show _=_ from rfl⟩
 have be:q<3:=by rw[<-u.out];exact qr6 _ _ (by omega)
 simp only[u.out] at aj;obtain⟨r,i⟩:∃p,Hid (qie c.out 3=p):=⟨_,show _=_ from rfl⟩
 have bf:r<3:=by rw[<-i.out];exact qr6 _ _ (by omega)
 simp only[i.out] at ak;obtain⟨s,j⟩:∃p,Hid (qie c.depth 16=p):=⟨_,show _=_ from rfl⟩
 have bg:s<16:=by rw[<-j.out];exact qr6 _ _ (by omega)
 simp only[j.out] at al;obtain⟨t,h⟩:∃p,Hid (qie c.bytes 4096=p):=⟨_,show _=_ from rfl⟩
 have bh:t<4096:=by rw[<-h.out];exact qr6 _ _ (by omega)
 simp only[h.out] at am;have ax:=qaa (q05 (1+(q:Int)) (by omega));have ay:=qaa (q05 (1+(r:Int)) (by omega));have az:=qaa (q05 (1+(s:Int)) (by omega));have a0:=qaa (q05 (1+(t:Int)) (by omega));clear hk an;go_enter func5,ntmps5;have c0:_=some (Value.int .i64 c.labels):=qab f.out.cfg 0;unfold cfZ at c0
 go_wp2_with (first
  |(go_at_call 4;refine(ab _).mono ?_;clear ab;rintro e w2 ⟨rfl,rfl⟩))
 clear c0
 go_loopg [6,7] m (fun af ye yi V=>∃k:Nat,yi=.int .i64 ((k:Int)+1)/\Hid (k<=m/\m<=k+af)/\Hid (q25 w c cfZ k ye V))
 case atStart=>exact⟨0,rfl,⟨Nat.zero_le _,by omega⟩,f⟩
 case round =>
  clear f;obtain⟨k,rfl,R,f⟩:=hrel;by_cases a1:(k:Int)+1<1+(m:Int)
  ·cases gk with
   |zero=>have:=R.out;omega
   |succ af =>
    have a9:k<=5:=by have:=R.out;omega
    have bk:((k:Int)+1-1)=(k:Int):=by omega
    obtain⟨i0,hi,a3,a4,a5⟩:=info_parts Tryz.infoEdge
    go_wp2_with (first
     |(at_builtin;refine wpList_append_own _ rfl _ _ 22 rfl (w.heap.size+2) 32 i0 (.agg #[.int .i64 0,.int .i64 0]) 2 16 underlying22 hi a3 a4 a5 rfl (by decide) _ _ _ rfl (f.out.own.alloc _) ⟨wr.heap.size,0,none⟩ 1 1 [.int .i64 k,.int .i64 ((k:Int)+1)] rfl rfl (qag _ _ _) (fun bl hu=>by simp at hu;rcases hu with rfl|rfl<;>rfl) (by unfold maxLen;omega) (by omega) (by have:=ltA f.out.res;simp;omega) ?_;intro v' w5 ar aq a2;clear a2;have aw:=qaa (f.out.app ar aq);clear ar aq f))
    go_roundg af
    case measure=>omega
    case rel=>exact⟨k+1,congrArg (Value.int .i64) (by omega),by have:=R.out;show _/\_;omega,aw⟩
  have hk:k=m:=by have:=R.out;omega
  subst hk
  go_wp2_with fail
  obtain⟨v,y,rfl⟩:=q2V f.out.own;refine rgn (S:=fun Z=>Z.heap[w.heap.size]? = some (.cells c.arr 25)) f.out.cfg (by kernel_rfl) ?_;intro l;have I:=(q2y (o:=.cells cfZ 25) l)
  refine tkk 0 27 (.int .i64 (1+(k:Int))) (by kernel_rfl) iQ3 l ?_;refine tkk 1 28 (.slice v k y) (by kernel_rfl) iQ3 l ?_;refine tkk 4 31 (.int .i64 (1+(k:Int))) (by kernel_rfl) iQ3 l ?_;refine tkk 8 35 (.int .i64 (1+(k:Int))) (by kernel_rfl) iQ3 l ?_;refine tkk 2 29 (.pointer (some ⟨w.heap.size,2,none⟩)) (by kernel_rfl) iQ3 l ?_;refine tkk 6 33 (.pointer (some ⟨w.heap.size,4,none⟩)) (by kernel_rfl) iQ3 l ?_;refine tkk 10 37 (.pointer (some ⟨w.heap.size,5,none⟩)) (by kernel_rfl) iQ3 l ?_;refine tkk 12 39 (.pointer (some ⟨w.heap.size,6,none⟩)) (by kernel_rfl) iQ3 l ?_;refine tkk 16 43 (.pointer (some ⟨w.heap.size,7,none⟩)) (by kernel_rfl) iQ3 l ?_;refine tkk 20 47 (.pointer (some ⟨w.heap.size,8,none⟩)) (by kernel_rfl) iQ3 l ?_;refine tkk 24 51 (.pointer (some ⟨w.heap.size,9,none⟩)) (by kernel_rfl) iQ3 l ?_;refine tkk 28 55 (.pointer (some ⟨w.heap.size,10,none⟩)) (by kernel_rfl) iQ3 l ?_;refine tk 3 30 (.int .i64 c.dflt) rfl (by kernel_rfl) iQ3 (fun Z H=>by have z:_=some (Value.int .i64 c.dflt):=qab H 2;go_simp) l ?_;refine tk 7 34 (.int .i64 c.clr) rfl (by kernel_rfl) iQ3 (fun Z H=>by have z:_=some (Value.int .i64 c.clr):=qab H 4;go_simp) l ?_;refine tk 11 38 (.int .i64 c.key) rfl (by kernel_rfl) iQ3 (fun Z H=>by have z:_=some (Value.int .i64 c.key):=qab H 5;go_simp) l ?_;refine tk 13 40 (.int .i64 c.inn) rfl (by kernel_rfl) iQ3 (fun Z H=>by have z:_=some (Value.int .i64 c.inn):=qab H 6;go_simp) l ?_;refine tk 17 44 (.int .i64 c.out) rfl (by kernel_rfl) iQ3 (fun Z H=>by have z:_=some (Value.int .i64 c.out):=qab H 7;go_simp) l ?_;refine tk 21 48 (.int .i64 c.depth) rfl (by kernel_rfl) iQ3 (fun Z H=>by have z:_=some (Value.int .i64 c.depth):=qab H 8;go_simp) l ?_;refine tk 25 52 (.int .i64 c.bytes) rfl (by kernel_rfl) iQ3 (fun Z H=>by have z:_=some (Value.int .i64 c.bytes):=qab H 9;go_simp) l ?_;refine tk 29 56 (.slice c.ba c.B.length c.bcap) rfl (by kernel_rfl) iQ3 (fun Z H=>by have z:_=some (Value.slice c.ba c.B.length c.bcap):=qab H 10;go_simp) l ?_;refine q1E #[true,true,true,true,true,true,true,true,true,true,true,true,true,true,true,true,true,true,true,true,true,true,true,true,true,true,true,true,true,true,true,true,false] 1 [(32,.int .i64 C),(36,.int .i64 D),(41,.int .i64 q),(45,.int .i64 r),(49,.int .i64 s),(53,.int .i64 t),(42,.int .i64 (1+(q:Int))),(46,.int .i64 (1+(r:Int))),(50,.int .i64 (1+(s:Int))),(54,.int .i64 (1+(t:Int))),(57,.agg (opA c k v y C D q r s t ⟨#[]⟩ (.slice c.ba c.B.length c.bcap))),(8,.pointer (some ⟨wr.heap.size,0,none⟩))] (({wr with drawn:=wr.drawn+1}:World).alloc (.cells cfZ 25)) (fun au => ?reg) ?tail
  case reg =>
   clear O ht f R a1 hm;have n:=l
   all_goals
    first
    |(have _:=F;refine rdH 5 rfl (by kernel_rfl) (fun K b => ?_))
    |(refine qsx 5 31 rfl rfl (by kernel_rfl) (fun K b => ?_) (fun K b => ?_);rotate_left;(go_simp;refine b.out _ _ I (fun _ => ?_);clear b n;have n:=I;have F:=True.intro;refine rdH 5 rfl (by kernel_rfl) (fun K b => ?_)))
   all_goals
    go_simp;refine(ac _).mono ?_;rintro e M ⟨rfl,rfl⟩;refine b.out _ _ n (fun _ => ?_);clear b
   all_goals
    first
    |(have _:=F;refine rdH 9 rfl (by kernel_rfl) (fun K b => ?_))
    |(refine qsx 9 31 rfl rfl (by kernel_rfl) (fun K b => ?_) (fun K b => ?_);rotate_left;(go_simp;refine b.out _ _ I (fun _ => ?_);clear b n;have n:=I;have F:=True.intro;refine rdH 9 rfl (by kernel_rfl) (fun K b => ?_)))
   all_goals
    go_simp;refine(ad _).mono ?_;rintro e M ⟨rfl,rfl⟩;refine b.out _ _ n (fun _ => ?_);clear b
   all_goals
    first
    |(have _:=F;refine rdH 14 rfl (by kernel_rfl) (fun K b => ?_))
    |(refine qsx 14 31 rfl rfl (by kernel_rfl) (fun K b => ?_) (fun K b => ?_);rotate_left;(go_simp;refine b.out _ _ I (fun _ => ?_);clear b n;have n:=I;have F:=True.intro;refine rdH 14 rfl (by kernel_rfl) (fun K b => ?_)))
   all_goals
    go_simp;refine(aj _).mono ?_;rintro e M ⟨rfl,rfl⟩;refine b.out _ _ n (fun _ => ?_);clear b;refine tk 15 42 (.int .i64 (1+(q:Int))) rfl (by kernel_rfl) iQ3 (fun Z _=>by go_simp<;>exact ax.out) n ?_
   all_goals
    first
    |(have _:=F;refine rdH 18 rfl (by kernel_rfl) (fun K b => ?_))
    |(refine qsx 18 31 rfl rfl (by kernel_rfl) (fun K b => ?_) (fun K b => ?_);rotate_left;(go_simp;refine b.out _ _ I (fun _ => ?_);clear b n;have n:=I;have F:=True.intro;refine rdH 18 rfl (by kernel_rfl) (fun K b => ?_)))
   all_goals
    go_simp;refine(ak _).mono ?_;rintro e M ⟨rfl,rfl⟩;refine b.out _ _ n (fun _ => ?_);clear b;refine tk 19 46 (.int .i64 (1+(r:Int))) rfl (by kernel_rfl) iQ3 (fun Z _=>by go_simp<;>exact ay.out) n ?_
   all_goals
    first
    |(have _:=F;refine rdH 22 rfl (by kernel_rfl) (fun K b => ?_))
    |(refine qsx 22 31 rfl rfl (by kernel_rfl) (fun K b => ?_) (fun K b => ?_);rotate_left;(go_simp;refine b.out _ _ I (fun _ => ?_);clear b n;have n:=I;have F:=True.intro;refine rdH 22 rfl (by kernel_rfl) (fun K b => ?_)))
   all_goals
    go_simp;refine(al _).mono ?_;rintro e M ⟨rfl,rfl⟩;refine b.out _ _ n (fun _ => ?_);clear b;refine tk 23 50 (.int .i64 (1+(s:Int))) rfl (by kernel_rfl) iQ3 (fun Z _=>by go_simp<;>exact az.out) n ?_
   all_goals
    first
    |(have _:=F;refine rdH 26 rfl (by kernel_rfl) (fun K b => ?_))
    |(refine qsx 26 31 rfl rfl (by kernel_rfl) (fun K b => ?_) (fun K b => ?_);rotate_left;(go_simp;refine b.out _ _ I (fun _ => ?_);clear b n;have n:=I;have F:=True.intro;refine rdH 26 rfl (by kernel_rfl) (fun K b => ?_)))
   all_goals
    go_simp;refine(am _).mono ?_;rintro e M ⟨rfl,rfl⟩;refine b.out _ _ n (fun _ => ?_);clear b;refine tk 27 54 (.int .i64 (1+(t:Int))) rfl (by kernel_rfl) iQ3 (fun Z _=>by go_simp<;>exact a0.out) n ?_;refine tk 30 57 (.agg (opA c k v y C D q r s t ⟨#[]⟩ (.slice c.ba c.B.length c.bcap))) rfl (by kernel_rfl) iQ3 (fun Z _=>by kernel_rfl) n ?_
   all_goals
    first
    |(have _:=F;exact cast (by kernel_rfl) au)
    |(refine rdH 31 rfl (by kernel_rfl) (fun K b => ?_);go_simp;refine b.out _ _ I (fun _ => ?_);exact cast (by kernel_rfl) au)
  case tail =>
   have U:=qaa (q3n wr (opA c k v y C D q r s t ⟨#[]⟩ (.slice c.ba c.B.length c.bcap)));intro ag F;have h8:ag.eval (.tmp 8)=.pointer (some ⟨wr.heap.size,0,none⟩):=by rw[<-F];kernel_rfl
   have ap:ag.eval (.tmp 57)=.agg (opA c k v y C D q r s t ⟨#[]⟩ (.slice c.ba c.B.length c.bcap)):=by rw[<-F];kernel_rfl
   refine wpAnyH_ready (fuel:=0) (rs:=[32]) (by kernel_rfl) (by simp) (AllReadyH.cons (o := ?o) ?hi ?hk AllReadyH.nil)
   case hi=>exact rfl
   intro K b;rw[if_pos (by kernel_rfl)];refine wp_store_row 25 (.tmp 8) (.tmp 57) rfl wr.heap.size (opA c k v y C D q r s t ⟨#[]⟩ (.slice c.ba c.B.length c.bcap)) h8 ap 25 cfZ (qac {wr with drawn:=wr.drawn+1} _) (qaV rfl) rfl (q0f ..) ?_;refine b.out _ _ ((U.out.below.block _ (ltA f.out.cfg)).trans f.out.cfg) (fun _ => ?_);clear b l I h8 ap;subst F;generalize (({wr with drawn:=wr.drawn+1}:World).alloc (.cells cfZ 25)).setRow wr.heap.size (opA c k v y C D q r s t ⟨#[]⟩ (.slice c.ba c.B.length c.bcap))=V1 at *;refine wpAnyH_done (by kernel_rfl) ?_ _;go_simp;have c3:_=some (Value.string ⟨#[]⟩):=qab U.out.box 3;have f3:=frozen_of_row _ _ 3 _ _ U.out.box;have Q:Hid (qzT wr (opA c k v y C D q r s t ⟨G.toArray⟩ (.slice c.ba c.B.length c.bcap)) _):=U.out.set 3 (.string ⟨G.toArray⟩);have q3:_=some (Value.string c.pol):=Q.out.old f.out.cfg 3;have bj:¬9223372036854775807<G.length+1+c.pol.size:=by omega
   have ah:Hid (∀P V,qzT wr (opA c k v y C D q r s t P (.slice c.ba c.B.length c.bcap)) V->∃E av,Hid (qbw (opC c k v y C D q r s t P c.B c.ba c.bcap)=E)/\Calls prog 8 #[.agg (opA c k v y C D q r s t P (.slice c.ba c.B.length c.bcap))] V fun e M=>e=.returned (.tuple #[.int .i64 E,.int .i64 av])/\Below V.heap.size V M):=fun P V hV=>by
    have ao:=qjE (opC c k v y C D q r s t P c.B c.ba c.bcap) V (q2D f.out (fun a7 hj _=>hV.below.block a7 hj) (f.out.below.trans (hV.below.mono f.out.below.size)) (by omega) O.ints O.bn O.bb) (ht.below (f.out.below.trans (hV.below.mono f.out.below.size))).gl;rw[qzQ] at ao;exact⟨_,_,rfl,ao⟩
   by_cases a:c.pol.toList.isEmpty=true;have d:=qaa (show q2N c G=_ from if_pos a);have L:=Q
   rotate_left
   have d:=qaa (show q2N c G=_ from if_neg a);have d3:_=some (Value.string ⟨G.toArray⟩):=qab Q.out.box 3;have g3:=frozen_of_row _ _ 3 _ _ Q.out.box;have L:Hid (qzT wr (opA c k v y C D q r s t ((⟨G.toArray⟩:ByteArray)++(⟨#[10]⟩:ByteArray)++c.pol) (.slice c.ba c.B.length c.bcap)) _):=Q.out.set 3 (.string ((⟨G.toArray⟩:ByteArray)++(⟨#[10]⟩:ByteArray)++c.pol));have a:=Bool.eq_false_iff.2 a
   rotate_left
   all_goals
    obtain⟨E,av,ai,x⟩:=ah.out _ _ L.out;have HC:=qaa O;clear ah O ht;by_cases A:E=0
    ·subst A
     go_wp2_with (first
      |(refine wpList_load_row rfl 25 _ rfl wr.heap.size rfl _ _ _ _ L.out.box underlying25 rfl (qaV rfl) ?_)
      |(go_at_call 8;refine x.mono ?_;clear x;rintro e w5 ⟨rfl,T⟩;have J:=qaa (L.out.next T);clear L T)
      |(refine wpList_load_row rfl 25 _ rfl wr.heap.size rfl _ _ _ _ J.out.box underlying25 rfl (qaV rfl) ?_)
      |(refine wpList_store_row rfl 25 _ _ rfl (w.heap.size+1) (opA c k v y C D q r s t _ (.slice c.ba c.B.length c.bcap)) rfl rfl 25 _ ((J.out.below.block _ (ltA f.out.res)).trans f.out.res) (qaV rfl) rfl (q0f ..) ?_))
     refine bodyPost_ret (results_cell_row results5 _ _ (w.heap.size+1) 25 _ (0,0) _ rfl (qyD f.out J.out).1 underlying25 rfl (qaV rfl)) rfl ⟨_,congrArg (fun aa=>Ending.returned (.agg aa)) (qzQ ..).symm,q2D f.out (qyD f.out J.out).2.2 (qyD f.out J.out).2.1 (by omega) HC.out.ints HC.out.bn HC.out.bb,(qyD f.out J.out).2.1,(q2J v y W.out X.out Y.out u.out i.out j.out h.out d.out ai.out).1 rfl⟩
    have HN:=qaa A;have A:(E==0)=false:=by simpa using A
    go_wp2_with (first
     |(refine wpList_load_row rfl 25 _ rfl wr.heap.size rfl _ _ _ _ L.out.box underlying25 rfl (qaV rfl) ?_)
     |(go_at_call 8;refine x.mono ?_;clear x;rintro e w5 ⟨rfl,T⟩;have J:=qaa (L.out.next T);clear L T;have c3:_=some (Value.string _):=qab J.out.box 3;have f3:=frozen_of_row _ _ 3 _ _ J.out.box;have g:Hid (qzT wr (opA c k v y C D q r s t ⟨G.toArray⟩ (.slice c.ba c.B.length c.bcap)) _):=J.out.set 3 (.string ⟨G.toArray⟩);have a8:_=some (Value.slice _ _ _):=qab g.out.box 10;have f10:=frozen_of_row _ _ 10 _ _ g.out.box;have N:Hid (qzT wr (opA c k v y C D q r s t ⟨G.toArray⟩ (.slice none 0 0)) _):=g.out.set 10 (.slice none 0 0))
     |(refine wpList_load_row rfl 25 _ rfl wr.heap.size rfl _ _ _ _ N.out.box underlying25 rfl (qaV rfl) ?_)
     |(refine wpList_store_row rfl 25 _ _ rfl (w.heap.size+1) (opA c k v y C D q r s t ⟨G.toArray⟩ (.slice none 0 0)) rfl rfl 25 _ ((N.out.below.block _ (ltA f.out.res)).trans f.out.res) (qaV rfl) rfl (q0f ..) ?_))
    refine bodyPost_ret (results_cell_row results5 _ _ (w.heap.size+1) 25 _ (0,0) _ rfl (qyD f.out N.out).1 underlying25 rfl (qaV rfl)) rfl ⟨_,congrArg (fun aa=>Ending.returned (.agg aa)) (qzQ c k v y C D q r s t ⟨G.toArray⟩ [] none 0).symm,q2D f.out (qyD f.out N.out).2.2 (qyD f.out N.out).2.1 (by omega) (B:=[]) (ba:=none) (bcap:=0) ⟨fun a6 hi=>absurd hi (Nat.not_lt_zero a6)⟩ (fun _=>⟨rfl,rfl⟩) (by simp),(qyD f.out N.out).2.1,(q2J v y W.out X.out Y.out u.out i.out j.out h.out d.out ai.out).2 HN.out⟩

def rtP (a:Nat):List UInt8:=[46,32,49,32]++(if a=1 then [100,114,111,112] else if a=2 then [109,97,115,107] else [116,97,103])
structure RtC (a:Nat)(c:Cfg):Prop where
 act:a=1\/a=2\/a=3
 chn:∃k:Nat,1<=k/\k<=5/\c.labels=1+(k:Int)/\c.L=qzd k
 dfl:0<=c.dflt/\c.dflt<c.labels
 clr:c.clr=0
 inn:c.inn=1
 out:c.out=1
 dep:1<=c.depth/\c.depth<=16
 byt:1<=c.bytes/\c.bytes<=4096
 bk:c.B=[]
 pol:c.pol.data.toList=rtP a
theorem q1T:∀k:Nat,k=1\/k=2\/k=3\/k=4\/k=5->qbx (1+(k:Int)) (qzd k)=true/\qbz (1+k) (qaZ (1+k) (qzd k))=true/\qb6 (1+k) (qaZ (1+k) (qzd k))=true/\qcF (1+k) (qzd k) 1 0=false/\qa3 (1+k) (rtP 1) = -1/\qa3 (1+k) (rtP 2) = -1/\qa3 (1+k) (rtP 3) = -1:=by
 rintro k (rfl|rfl|rfl|rfl|rfl)<;>exact⟨by kernel_rfl,by kernel_rfl,by kernel_rfl,by kernel_rfl,by kernel_rfl,by kernel_rfl,by kernel_rfl⟩
theorem q3r (h:RtC a c):∃k:Nat,(k=1\/k=2\/k=3\/k=4\/k=5)/\c.labels=1+(k:Int)/\c.labels.toNat=1+k/\c.L=qzd k:=by
 obtain⟨k,e,f,b,d⟩:=h.chn;exact⟨k,by omega,b,by omega,d⟩
theorem q1Q (h:RtC a c):qbw c=0:=by
 obtain⟨k,p,m,n,o⟩:=q3r h;obtain⟨i,j,l,_,q,r,s⟩:=q1T k p;have b:qbC (1+k) c.dflt=true:=decide_eq_true (by have:=h.dfl;omega);have d:qbC (1+k) c.clr=true:=decide_eq_true (by have:=h.clr;omega);have e:qf4 c.inn c.out c.depth c.bytes=true:=by
  unfold qf4;rw[h.inn,h.out,decide_eq_true h.dep.1,decide_eq_true h.dep.2,decide_eq_true h.byt.1,decide_eq_true h.byt.2];rfl
 have f:qaH c.B=true:=by rw[h.bk];rfl
 have g:qa3 (1+k) (rtP a) = -1:=by rcases h.act with rfl|rfl|rfl<;>assumption
 unfold qbw qg9;rw[n,o,h.pol,m,i,b,d,j,l,e,f,g];rfl
theorem q0Z (h:RtC a c):lbF c.dflt (qlc c) []=(1,(a:Int)):=by
 unfold qlc;rw[h.pol];rcases h.act with rfl|rfl|rfl<;>kernel_rfl
theorem q2e (h:RtC a c):qcF c.labels.toNat c.L 1 0=false:=by
 obtain⟨k,e,f,b,d⟩:=q3r h;rw[b,d];exact(q1T k e).2.2.2.1
def rtS (a:Nat)(key:Int)(cb:List UInt8):List UInt8:=if a=1 then [110,117,108,108] else if a=2 then [34,42,42,42,34] else [34]++qs5 key 1 cb++[34]
def rtR (a:Nat):Rep:=if a=1 then (0,1,0,0) else if a=2 then (0,0,1,0) else (0,0,0,1)
theorem q26:∀(u:Nat) (g:Nat) (r:List UInt8),qd5 (g+1) (qfU (u%16)::r)=qfU (u%16)::qd5 g r:=by
 have h:∀x,x<16->∀(g:Nat) (r:List UInt8),qd5 (g+1) (qfU x::r)=qfU x::qd5 g r:=by
  intro x a g r;rcases(by omega:x=0\/x=1\/x=2\/x=3\/x=4\/x=5\/x=6\/x=7\/x=8\/x=9\/x=10\/x=11\/x=12\/x=13\/x=14\/x=15) with rfl|rfl|rfl|rfl|rfl|rfl|rfl|rfl|rfl|rfl|rfl|rfl|rfl|rfl|rfl|rfl<;>rfl
 exact fun u g r=>h _ (Nat.mod_lt _ (by omega)) g r
def Hx (l:List UInt8):Prop:=∀c∈l,∃x,c=qfU (x%16)
theorem q1X:∀(l:List UInt8),Hx l->qd5 l.length l=l
 |[],_=>rfl
 |c::r,h=>by
  obtain⟨x,rfl⟩:=h c (.head _);rw[List.length_cons,q26,q1X r fun c a=>h c (.tail _ a)]
theorem q3s:∀(k u:Nat),u<16^(k+1)->Hx (hxL u)
 |k,u,hu=>by
  by_cases h:u<16
  ·rw[qox h];intro c a;rw[List.mem_singleton] at a;exact⟨u,by rw[a,Nat.mod_eq_of_lt h]⟩
  rw[qs8 h];intro c a;rcases List.mem_append.1 a with a|a
  ·match k with
   |0=>omega
   |k+1=>exact q3s k (u / 16) (by rw[Nat.pow_succ] at hu;omega) c a
  rw[List.mem_singleton] at a;exact⟨u,a⟩
theorem q2a (key:Int)(b:List UInt8):Hx (qs5 key 1 b):=by
 intro c a;unfold qs5 qt4 at a;rcases List.mem_append.1 a with a|a
 ·exact⟨0,(List.mem_replicate.1 a).2⟩
 exact q3s 15 _ (Nat.lt_of_lt_of_le (qoH _ _ (qkj _ _)) (by decide)) c a
theorem q3i (h:RtC a c){s:List UInt8}{x:DataW Unit}(i:qgE 1 s c.depth c.bytes=.ok x)(j:(s.length:Int)<=c.bytes):tdO c s=tdA (rtS a c.key (qaU (kC c) x)) (rtR a) 0 0:=by
 have g:s.take (c.bytes.toNat+1)=s:=List.take_of_length_le (by omega);have f:¬(rvC c).m (lbF (rvC c).dflt (rvC c).rs [].reverse).1.toNat (rvC c).clr=true:=by
  show ¬qcF c.labels.toNat c.L (lbF c.dflt (qlc c) []).1.toNat c.clr.toNat=true;rw[q0Z h,h.clr];show ¬qcF c.labels.toNat c.L 1 0=true;rw[q2e h];decide
 have b:(lbF (rvC c).dflt (rvC c).rs [].reverse)=(1,(a:Int)):=q0Z h;unfold tdO;rw[if_pos (q1Q h),g];unfold clO;rw[h.inn,i,h.out,h.bk];dsimp only;have d:kC c=c.depth.toNat+1:=rfl;rcases h.act with rfl|rfl|rfl
 ·rw[d,qrg f (by rw[b];decide) (by rw[b];decide)];rfl
 ·rw[d,qrP f (by rw[b];rfl)];rfl
 rw[d,qtq f (by rw[b];rfl),b];have e:poF 1 (c.depth.toNat+1) (.lit (.string (qs5 c.key 1 (qaU (c.depth.toNat+1) x)))) []=.ok ([34]++qs5 c.key 1 (qaU (c.depth.toNat+1) x)++[34]):=by
  refine qr8 (fun h=>by cases h.2) ?_;show some (jsT _)=_;unfold jsT;rw[q1X _ (q2a _ _)]
 show tdA (czS (.ok (_,poF 1 _ (.lit (.string (qs5 c.key 1 _))) []))) (czR (.ok (_,poF 1 _ (.lit (.string (qs5 c.key 1 _))) []))) (czE (.ok (_,poF 1 _ (.lit (.string (qs5 c.key 1 _))) []))) _=_;rw[e];rfl

theorem q2X {c:UInt8}(h:∃x,c=qfU (x%16)):(48<=c.toNat/\c.toNat<=57)\/(97<=c.toNat/\c.toNat<=102):=by
 obtain⟨x,rfl⟩:=h;have h:=Nat.mod_lt x (show 0<16 by omega);generalize x%16=y at *;rcases(by omega:y=0\/y=1\/y=2\/y=3\/y=4\/y=5\/y=6\/y=7\/y=8\/y=9\/y=10\/y=11\/y=12\/y=13\/y=14\/y=15) with rfl|rfl|rfl|rfl|rfl|rfl|rfl|rfl|rfl|rfl|rfl|rfl|rfl|rfl|rfl|rfl<;>decide
theorem q18 (W:World)(t:List UInt8)(i:t.length=16)(m:Hx t):Calls prog 11 #[.string ⟨([34]++t++[34]).toArray⟩] W fun e q=>(∃a f,e=.returned (.slice a 1 f))/\Below W.heap.size W q:=by
 obtain⟨s,d⟩:∃s,Hid ([34]++t++[34]=s):=⟨_,show _=_ from rfl⟩
 have w:s.length=18:=by rw[<-d.out];simp[i]
 have x:=qyo s;have C:∀V:World,(Instr.index 9 (.string ⟨s.toArray⟩) (.int .i64 0)).run prog V=.ok (.int .u8 34) V:=qxF s 0 34 (by rw[<-d.out];rfl);have D:∀V:World,(Instr.index 9 (.string ⟨s.toArray⟩) (.int .i64 17)).run prog V=.ok (.int .u8 34) V:=qxF s 17 34 (by rw[<-d.out,List.getElem?_append_right (by simp[i])];simp[i]);have p:Hid (∀j,j<16->∃c,s[1+j]? = some c/\((48<=c.toNat/\c.toNat<=57)\/(97<=c.toNat/\c.toNat<=102))):=fun j E=>by
  refine⟨t[j],?_,q2X (m _ (List.getElem_mem _))⟩;rw[<-d.out,List.append_assoc,Nat.add_comm];show(t++[34])[j]? = _;rw[List.getElem?_append_left (by omega)];exact List.getElem?_eq_getElem _
 rw[d.out];rw[w] at x;clear d i m;go_enter func11,ntmps11
 go_wp2_with fail
 go_loopg [3,4] 1 (fun g o n V=>Hid (Below W.heap.size W V)/\((n=.int .i64 0/\o=.slice none 0 0/\g=1)\/(n=.int .i64 1/\∃a f,o=.slice a 1 f)))
 case atStart=>exact⟨Below.refl _ _,.inl ⟨rfl,rfl,rfl⟩⟩
 case round =>
  obtain⟨b,⟨rfl,rfl,rfl⟩|⟨rfl,a,f,rfl⟩⟩:=hrel
  ·go_wp2_with fail
   go_loopg [5,6] 16 (fun g z y V=>∃j:Nat,z=.bool true/\y=.int .i64 (1+(j:Int))/\Hid (j<=16/\16<=j+g)/\Hid (Below W.heap.size W V))
   case atStart=>exact⟨0,rfl,rfl,⟨by omega,by omega⟩,b⟩
   case round =>
    clear b;obtain⟨j,rfl,rfl,k,b⟩:=hrel;by_cases F:1+(j:Int)<17
    ·cases gk with
     |zero=>have:=k.out;omega
     |succ g =>
      obtain⟨c,l,h⟩:=p.out j (by omega);have v:=qxF s (1+j) c l;rw[show((1+j:Nat):Int)=1+(j:Int) by omega] at v;clear l;rcases h with h|h;have r:(48:Int)<=(c.toNat:Int):=by omega
      have u:(c.toNat:Int)<=57:=by omega
      rotate_left
      have r:(48:Int)<=(c.toNat:Int):=by omega
      have u:¬(c.toNat:Int)<=57:=by omega
      have A:(97:Int)<=(c.toNat:Int):=by omega
      have B:(c.toNat:Int)<=102:=by omega
      rotate_left
      all_goals
       clear h
       go_wp2_with fail
       go_roundg g
       case measure=>omega
       case rel=>exact⟨j+1,rfl,congrArg (Value.int .i64) (by omega),by have:=k.out;show _/\_;omega,b⟩
    go_wp2_with fail
    go_roundg 0
    case measure=>omega
    case rel=>exact⟨((b.out.alloc b.out.size _).alloc (by have:=b.out.size;simp;omega) _).drew,.inr ⟨rfl,_,_,rfl⟩⟩
  go_wp2;go_ret;exact⟨⟨a,f,rfl⟩,b.out⟩

def q2i (J:Prop)(W:World)(e:Ending)(W':World):Prop:=∃q E P,e=.returned (.tuple #[.string q,.int .i64 E,.int .i64 P])/\(E=0->J)/\Below W.heap.size W W'
theorem q0P (J:Prop)(W:World)(bs:List UInt8)(d l:Int)(a:Calls prog 9 #[.int .i64 1,.int .i64 2,.int .i64 d,.int .i64 l,.string ⟨bs.toArray⟩] W (q2i J W)):Calls prog 6 #[.string ⟨bs.toArray⟩,.int .i64 d,.int .i64 l] W fun e j=>∃b,e=.returned (.bool b)/\(b=true->J)/\Below W.heap.size W j:=by
 go_enter func6,ntmps6
 go_wp2_with (first
  |(go_at_call 9;refine a.mono ?_;clear a;rintro e k ⟨q,E,P,rfl,f,c⟩;have i:=qaa f;have g:=qaa c;clear f c))
 go_ret;exact⟨_,rfl,fun h=>i.out (by simpa using h),g.out⟩

end
end Go.Proofs.YtcokgepdckkjdaaGreatDoor
