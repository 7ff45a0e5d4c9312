import Derived.Lib.ValidU
import Derived.Lib.TrimUEq
import Derived.Shelf.Unicode.ValidAny
import Derived.Maps.OwnSet
import Derived.Test.YtcokgepdckkjdaaGreatDoorRq09
import Derived.Test.YtcokgepdckkjdaaGreatDoorRq10
import Derived.Test.YtcokgepdckkjdaaGreatDoorRq11
import Derived.Test.YtcokgepdckkjdaaGreatDoorRq12
set_option maxRecDepth 100000
set_option maxHeartbeats 8000000
namespace Go.Proofs.YtcokgepdckkjdaaGreatDoor
open Go.Proofs.Tryz
variable {P:Program}{N base g i k lo lo' m n size:Nat}{a:Act}{W W' w:World}{s:ByteArray}{f:Lit->Option Nat}{key v:Value}{kl:Lit}{o:Oper}{cs xs:List Value}{x:Str}{F:Fence}{Q:Exit->Act->World->Prop}{l:List UInt8}{pa:Option Addr}{es:List (List Value×Nat×Int×Int)}
section
open Go.RowKit
theorem qux (n a b c d:Nat)(e:128<=a):128<=(Lib.decodeN n a b c d).1:=by
 unfold Lib.decodeN
 repeat' split
 all_goals first|(simp;done)|(simp only[];omega)
def q1I (r:Nat):Bool:=decide (r<=32)||(r==42||(r==91||(r==93||(r==47||r==46))))
def qmm:Nat->List UInt8->Option Nat
 |_,[]=>some 0
 |0,_::_=>none
 |g+1,b::t=>if q1I (Lib.decodeL (b::t)).1=true then none else (qmm g ((b::t).drop (Lib.decodeL (b::t)).2)).map (·+1)
theorem qwA (b:UInt8)(t:List UInt8):q1I (Lib.decodeL (b::t)).1=qqm b:=by
 by_cases h:b.toNat<128
 ·rw[Lib.decodeL_ascii b t h];rfl
 have d:128<=(Lib.decodeL (b::t)).1:=by
  rw[Lib.decodeL_N];exact qux _ _ _ _ _ (by show 128<=b.toNat;omega)
 have a:q1I (Lib.decodeL (b::t)).1=false:=by
  unfold q1I;simp only[Bool.or_eq_false_iff,decide_eq_false_iff_not,beq_eq_false_iff_ne];omega
 have c:qqm b=false:=by
  unfold qqm;simp only[Bool.or_eq_false_iff,decide_eq_false_iff_not,beq_eq_false_iff_ne];omega
 rw[a,c]
theorem qjc:∀(g:Nat) (l:List UInt8),l.length<=g->qlV g l=if Lib.validD l then qmm g l else none
 |g,[],_=>by cases g<;>simp[qlV,qmm,Lib.validD_nil]
 |0,b::t,h=>by simp at h
 |g+1,b::t,h=>by
  rw[Lib.validD_step (b::t) (by simp)];rcases qmW (b::t) (by simp) with ⟨e,d⟩|⟨e,d,f⟩
  ·simp[qlV,e,d]
  rw[if_neg f,qlV,qmm,qwA,d];by_cases a:qqm b=true
  ·rw[if_pos (Or.inr a),if_pos a];split<;>rfl
  rw[if_neg (by intro c;rcases c with c|c;omega;exact a c),if_neg a,qjc g _ (by rw[List.length_drop];simp at h ⊢;omega)];split<;>rfl
theorem qnx (l:List UInt8):qgw l=(Lib.validD l&&qwG (qmm l.length l)):=by
 unfold qgw;rw[qjc l.length l (Nat.le_refl _)];cases Lib.validD l
 ·rfl
 rfl

end
section
open Go.RowKit Go.Shelf
theorem qgz (W:World)(N:Nat)(s:ByteArray)(a:Nat)(c:TypeId)(b:W.heap[N]? = some (.stringIter s a))(h:a<s.size):(Instr.next (.pointer (some ⟨N,0,none⟩)) true c).run P W =
   .ok (.tuple #[.bool true,.int .i64 a,.int .i32 (Utf8.decode s a).1]) (W.putObj N (.stringIter s (a+(Utf8.decode s a).2))):=by
 simp only[Instr.next,getObj,setObj,Sem.run_bind,Sem.run,b,Result.andThen,h,if_true,World.putObj];simp[goInt]
theorem qeb (W:World)(N:Nat)(s:ByteArray)(a:Nat)(c:TypeId)(b:W.heap[N]? = some (.stringIter s a))(h:¬a<s.size):(Instr.next (.pointer (some ⟨N,0,none⟩)) true c).run P W=.ok (.tuple #[.bool false]) W:=by
 simp[Instr.next,getObj,Sem.run,b,h]
theorem qbs {B:Nat}{a:World}(h:Below B a w)(b:B<=g)(o:Obj):Below B a (w.putObj g o) :=
 h.trans ⟨rfl,rfl,rfl,by simp[World.putObj],fun k c=>World.putObj_heap_other (by omega)⟩
structure qea (w:World)(N:Nat)(s:ByteArray)(i:Nat)(W:World):Prop where
 below:Below w.heap.size w W
 it:W.heap[N]? = some (.stringIter s i)
theorem qea.step (h:qea w N s i W)(a:Below W.heap.size W W'):qea w N s i W' :=
 ⟨h.below.trans (a.mono h.below.size),(a.block _ (ltA h.it)).trans h.it⟩
theorem qea.next (h:qea w N s i W)(a:w.heap.size<=N)(j:Nat):qea w N s j (W.putObj N (.stringIter s j)) :=
 ⟨qbs h.below a _,World.putObj_heap_same (ltA h.it)⟩
theorem q07 (r:Nat):q1I r=(decide ((r:Int)<=32)||qua (r:Int)):=by
 unfold q1I qua;rw[Bool.eq_iff_iff];simp only[Bool.or_eq_true,decide_eq_true_eq,beq_iff_eq];omega
theorem qh7 (s:ByteArray)(w:World)(hs:s.size<=2000)(X:qlZ w):Calls prog 135 #[.string s] w fun e G=>e=.returned (.bool (qgw s.data.toList))/\Below w.heap.size w G:=by
 have Q:s.data.toList.length=s.size:=Array.length_toList;have o:Calls prog 159 #[.string s] w fun e G=>e=.returned (.bool (Lib.validD s.data.toList))/\Below w.heap.size w G :=
  Any.utf8_ValidString Tryz.lays196 s w (by omega) X.tabs
 cases v:Lib.validD s.data.toList
 ·have j:Hid (qgw s.data.toList=false):=by show _=_;rw[qnx,v];rfl
  rw[v] at o;go_enter func135,ntmps135
  go_wp2_with (first|(go_at_call 159;refine o.mono ?_;rintro e f ⟨rfl,d⟩))
  go_ret;exact⟨by rw[j.out];rfl,d⟩
 obtain⟨A,H⟩:∃A,Hid (qmm s.data.toList.length s.data.toList=A):=⟨_,show _=_ from rfl⟩
 have j:Hid (qgw s.data.toList=qwG A):=by show _=_;rw[qnx,v,H.out];rfl
 rw[v] at o;go_enter func135,ntmps135
 go_wp2_with (first|(go_at_call 159;refine o.mono ?_;rintro e f ⟨rfl,d⟩))
 have b:Hid (qea w f.heap.size s 0 (f.iter s 0)):=⟨d.alloc d.size _,World.iter_heap _ _ _⟩
 have W:=d.size;generalize f.iter s 0=W0 at *;generalize f.heap.size=N at *
 go_loopg [3,5] s.size (fun g x _ wr=>∃n i:Nat,x=.int .i64 n/\Hid (n<=i)/\Hid (i<=s.size)/\Hid (s.size<=i+g)/\Hid (qea w N s i wr)/\Hid (A=(qmm g (s.data.toList.drop i)).map (·+n)))
 case atStart =>
  refine⟨0,0,rfl,Nat.le_refl _,Nat.zero_le _,by show _<=_;omega,b,?_⟩;show _=_;rw[<-H.out,Q,List.drop_zero];cases qmm s.size s.data.toList<;>rfl
 case round =>
  obtain⟨n,i,rfl,R,E,O,b,B⟩:=hrel;by_cases p:i=s.size
  ·have c:Hid (qgw s.data.toList=decide (1<=n/\n<=16)):=by
    show _=_;have C:A=some n:=by
     rw[B.out,p,<-Q,List.drop_length];cases gk<;>simp[qmm]
    rw[j.out,C];rfl
   have S:=fun F=>qeb (P:=prog) wr N s i F b.out.it (by omega);by_cases ha:(1:Int)<=n
   ·by_cases hb:(n:Int)<=16
    ·have a:Hid (qgw s.data.toList=true):=by show _=_;rw[c.out,decide_eq_true (by omega)]
     go_wp2;go_ret;exact⟨by rw[a.out];rfl,b.out.below⟩
    have a:Hid (qgw s.data.toList=false):=by show _=_;rw[c.out,decide_eq_false (by omega)]
    go_wp2;go_ret;exact⟨by rw[a.out];rfl,b.out.below⟩
   have a:Hid (qgw s.data.toList=false):=by show _=_;rw[c.out,decide_eq_false (by omega)]
   go_wp2;go_ret;exact⟨by rw[a.out];rfl,b.out.below⟩
  have Y:i<s.size:=by have:=E.out;omega
  obtain⟨g,rfl⟩:∃g,gk=g+1:=⟨gk-1,by have:=O.out;omega⟩
  have S:=fun F=>qgz (P:=prog) wr N s i F b.out.it Y;obtain⟨r,T⟩:∃r,(Utf8.decode s i).1=r:=⟨_,rfl⟩
  obtain⟨k,t⟩:∃k,(Utf8.decode s i).2=k:=⟨_,rfl⟩
  rw[T,t] at S;have J:Hid (s.data.toList.drop i=s[i]::s.data.toList.drop (i+1)):=by show _=_;rw[List.drop_eq_getElem_cons (by omega)];rfl
  have q:=Lib.decodeL_drop s i;have I:Hid (qmm (g+1) (s.data.toList.drop i)=if q1I r=true then none else (qmm g (s.data.toList.drop (i+k))).map (·+1)):=by
   show _=_;have L:(Lib.decodeL (s.data.toList.drop i)).1=r:=by rw[q];exact T
   have p:(Lib.decodeL (s.data.toList.drop i)).2=k:=by rw[q];exact t
   rw[J.out] at L p ⊢;rw[qmm,L,p,<-J.out,List.drop_drop]
  have aa:1<=k:=by have:=Lib.decodeL_width (s.data.toList.drop i);rw[q,t] at this;exact this
  have ab:k<=s.size-i:=by
   have:=Lib.decodeL_le (s.data.toList.drop i) (by intro h;have:=congrArg List.length h;rw[List.length_drop] at this;simp at this;omega);rw[q,t,List.length_drop] at this;omega
  have K:Hid (q1I r=true->qgw s.data.toList=false):=fun h=>by
   have C:A=none:=by rw[B.out,I.out,if_pos h];rfl
   rw[j.out,C];rfl
  have V:Hid (q1I r=false->A=(qmm g (s.data.toList.drop (i+k))).map (·+(n+1))):=fun h=>by
   rw[B.out,I.out,if_neg (by rw[h];simp),Option.map_map];congr 1;funext x;simp only[Function.comp];omega
  have y:Hid (qea w N s (i+k) (wr.putObj N (.stringIter s (i+k)))):=b.out.next W _
  have ac:n<=2000:=by have:=R.out;have:=E.out;omega
  have l:=q07 r;generalize wr.putObj N (.stringIter s (i+k))=W2 at *;by_cases M:(r:Int)<=32
  ·have c:=K.out (by rw[l,decide_eq_true M];rfl);have a:=qaa c;go_wp2;go_ret;exact⟨by rw[a.out];rfl,y.out.below⟩
  have m:=qfb (r:Int) (by omega) W2;rw[decide_eq_false M,Bool.false_or] at l;cases u:qua (r:Int)
  ·have U:=qaa (V.out (by rw[l,u]));rw[u] at m
   go_wp2_with (first|(go_at_call 160;refine m.mono ?_;rintro e Z ⟨rfl,D⟩;have z:=qaa (y.out.step D)))
   go_roundg g
   case measure=>omega
   case rel =>
    refine⟨n+1,i+k,by go_num,?_,?_,?_,z,U⟩
    all_goals (show _<=_;have:=R.out;have:=E.out;have:=O.out;omega)
  have a:=qaa (K.out (by rw[l,u]));rw[u] at m
  go_wp2_with (first|(go_at_call 160;refine m.mono ?_;rintro e Z ⟨rfl,D⟩;have z:=qaa (y.out.step D)))
  go_ret;exact⟨by rw[a.out];rfl,z.out.below⟩

end
section
open Go.RowKit
def qcW (W:World)(kt:TypeId)(m n:Nat)(f:Lit->Option Nat):Prop :=
 ∃D:DataW Unit,W.ownsMap prog kt (plainElem prog 3) m n D/\∀l,Maps.has D l=(f l).isSome/\∀v:Nat,f l=some v->D.atKey l (.lit (.int .i64 0))=.lit (.int .i64 v)
theorem qcW.kept {kt:TypeId}{row:Option Nat}(h:qcW W kt m n f)(c:W.grownBy W' row)(d:some m≠row):qcW W' kt m n f:=by
 obtain⟨D,a,b⟩:=h;exact⟨D,a.kept c d,b⟩
theorem qcW.lt {kt:TypeId}(h:qcW W kt m n f):m<W.heap.size:=by
 obtain⟨D,a,_⟩:=h;exact a.lt
theorem qkF (W:World)(a:TypeId):qcW (W.alloc (.map #[] 0)) a W.heap.size 0 (fun _=>none) :=
 ⟨_,World.ownsMap_made W prog a _,fun l=>⟨by simp[Maps.has],fun v h=>by cases h⟩⟩
theorem qx3 (W:World):(zeroValue 3).run prog W=.ok (.int .i64 0) W:=by kernel_rfl
theorem qs4 {kt:TypeId}{D:DataW Unit}(_h1:W.ownsMap prog kt (plainElem prog 3) m n D)(a:∀l,Maps.has D l=(f l).isSome/\∀v:Nat,f l=some v->D.atKey l (.lit (.int .i64 0))=.lit (.int .i64 v))(kl:Lit):D.atKey kl (.lit (.int .i64 0))=.lit (.int .i64 (((f kl).getD 0:Nat):Int)):=by
 cases b:f kl with
 |some v=>exact(a kl).2 v b
 |none =>
  have:=(a kl).1;rw[b] at this;exact Maps.atKey_of_not_has this _
theorem qf8 {kt t:TypeId}(h:qcW W kt m n f)(K:Maps.Keyed prog kt)(j:prog.underlying t=some (.map kt 3))(g:keyOf prog kt key=some kl):(Instr.lookup t (.map (some m)) key false).run prog W=.ok (.int .i64 (((f kl).getD 0:Nat):Int)) W:=by
 obtain⟨D,a,d⟩:=h;obtain⟨c,i,b,_⟩:=a.lookup_int K j underlying3 (qx3 W) g;rw[qs4 a d kl] at b;have e:(((f kl).getD 0:Nat):Int)=c:=by simpa using b
 rw[i,e]
theorem qdz {kt t:TypeId}(h:qcW W kt m n f)(K:Maps.Keyed prog kt)(k:prog.underlying t=some (.map kt 3))(i:keyOf prog kt key=some kl):(Instr.lookup t (.map (some m)) key true).run prog W=.ok (.tuple #[.int .i64 (((f kl).getD 0:Nat):Int),.bool (f kl).isSome]) W:=by
 obtain⟨D,a,b⟩:=h;obtain⟨v,l,j,d⟩:=a.look_ok K k (qx3 W) (plainElem_int underlying3 (by decide)) i;rw[qs4 a b kl] at d;obtain⟨c,rfl,g,_⟩:=plainElem_int_inv underlying3 d;have e:(((f kl).getD 0:Nat):Int)=c:=by
  have:=congrArg Prod.fst g;simpa using this
 rw[j,(b kl).1,e]
theorem qly {kt t:TypeId}(h:qcW W kt m n f)(K:Maps.Keyed prog kt)(r:prog.underlying t=some (.map kt 3))(x:n<1000000000)(i:keyOf prog kt key=some kl)(v:Nat)(y:v<1000000000):∃a,(Instr.mapUpdate t (.map (some m)) key (.int .i64 v)).run prog W=.ok () a/\(∀c:Lit->Option Nat,c kl=some v->(∀l,l≠kl->c l=f l)->qcW a kt m (n+1) c)/\W.grownBy a (some m):=by
 obtain⟨D,g,k⟩:=h;have w:(Lit.int .i64 (v:Int)).wf=true:=by
  have b:IntKind.i64.min = -9223372036854775808:=by kernel_rfl
  have d:IntKind.i64.max=9223372036854775807:=by kernel_rfl
  simp[Lit.wf,b,d];omega
 obtain⟨a,q,p,o⟩:=g.store K r (by unfold maxLen;omega) i (plainElem_int underlying3 w);refine⟨a,q,fun c b d=>⟨_,p,fun l => ?_⟩,o.grown⟩;by_cases e:l=kl
 ·subst e;refine⟨(Maps.has_put_same g.isMap (K.key i) _).trans (by rw[b];rfl),fun u j => ?_⟩;have s:=Option.some.inj (b.symm.trans j);rw[<-s];exact Maps.atKey_put_same g.isMap (K.key i) _ _
 rw[d l e];exact⟨(Maps.has_put_other e _).trans (k l).1,fun u j=>(Maps.atKey_put_other e _ _).trans ((k l).2 u j)⟩
theorem plK:Maps.Keyed prog 129:=Maps.Keyed.of_law qog
theorem mvK:Maps.Keyed prog 293:=Maps.Keyed.of_law qsm

structure Aut where
 ra:Option Addr
 rc:Nat
 rs:List (List (Nat×List UInt8)×Int×Int)
 dflt:Int
 lm:Nat
 ln:Nat
 lf:Lit->Option Nat
 st:Nat->Nat
 tb:Nat
 L:Nat
 tc:Nat
 tk:Nat->Nat->Nat
 nb:Nat
 mb:Nat
def qvY (q:Aut)(sv:Value):Array Value:=#[.slice q.ra q.rs.length q.rc,.int .i64 q.dflt,.map (some q.lm),.int .u16 (q.st 0),.int .u16 (q.st 1),.int .u16 (q.st 2),.int .u16 (q.st 3),.int .u16 (q.st 4),.int .u16 (q.st 5),.int .u16 (q.st 6),.int .u16 (q.st 7),.int .u16 (q.st 8),.int .u16 (q.st 9),.int .u16 (q.st 10),.int .u16 (q.st 11),.int .u16 (q.st 12),.int .u16 (q.st 13),.int .u16 (q.st 14),.int .u16 (q.st 15),.slice (some ⟨q.tb,0,none⟩) q.L q.tc,sv,.map (some q.nb),.map (some q.mb)]
def stC (x:(Nat->Nat)×Int×Int):List Value:=(plA x.1).toList++[.int .i64 x.2.1,.int .i64 x.2.2]
structure qcj (W0:World)(A:Nat)(q:Aut)(sts:List ((Nat->Nat)×Int×Int))(sv:Value)(nf:Lit->Option Nat)(mn:Nat)(mf:Lit->Option Nat)(W:World):Prop where
 row:W.heap[A]? = some (.cells (qvY q sv) 133)
 rules:qdW W0 q.ra q.rs
 few:q.rs.length<=16/\∀i (h:i<q.rs.length),q.rs[i].1.length<=8
 below:Below W0.heap.size W0 W
 letters:qcW W 9 q.lm q.ln q.lf
 takes:∃cur,W.heap[q.tb]? = some (.cells cur 129)/\∀(x r:Nat),x<q.L->r<16->cur[x*16+r]? = some (.int .u16 (q.tk x r))
 states:W.ownsRow W0.heap.size 175 18 sv sts.length (sts.flatMap stC)
 numbers:qcW W 129 q.nb sts.length nf
 moves:qcW W 293 q.mb mn mf
 high:W0.heap.size<=A/\W0.heap.size<=q.lm/\W0.heap.size<=q.tb/\W0.heap.size<=q.nb/\W0.heap.size<=q.mb
 apart:A≠q.lm/\A≠q.tb/\A≠q.nb/\A≠q.mb/\q.lm≠q.tb/\q.lm≠q.nb/\q.lm≠q.mb/\q.tb≠q.nb/\q.tb≠q.mb/\q.nb≠q.mb
 own:∀g,sv.ownBlock=some g->g≠A/\g≠q.lm/\g≠q.tb/\g≠q.nb/\g≠q.mb
 bits:(∀r,q.st r<256)/\∀x r,q.tk x r<256
 here:∀(i:Nat) (x:(Nat->Nat)×Int×Int),sts[i]? = some x->x.2=jdg q.dflt q.rs x.1 0/\∀r,x.1 r<512
 num:∀(i:Nat) (x:(Nat->Nat)×Int×Int),sts[i]? = some x->∀l,keyOf prog 129 (.agg (plA x.1))=some l->nf l=some i
 num':∀(l:Lit) (i:Nat),nf l=some i->∃x,sts[i]? = some x/\keyOf prog 129 (.agg (plA x.1))=some l
theorem qix {ev:Operand->Value}(a:TypeId)(x:Operand)(f:o.op=.load a x)(g:Nat)(i:ev x=.pointer (some ⟨g,0,none⟩))(t:TypeId)(cs:Array Value)(b:Nat×Nat)(d:TypeDesc)(e:W.heap[g]? = some (.cells cs t b))(h:P.underlying a=some d)(c:(match d with|.struct _|.array _ _=>true|_=>false)=true)(hi:(P.info? a).map (·.size)=some cs.size):(execOp ev o).run P W=.ok (.value (.agg cs)) W:=by
 unfold execOp;simp only[f,i,Instr.loadAt,Instr.sureAddr,Sem.run_bind,Sem.run_pure,Result.andThen_ok,run_loadVar_row W g t a cs b d e h c hi]
theorem qjv (k:World)(A:Nat)(q:Aut)(d:List ((Nat->Nat)×Int×Int))(t:Value)(c:Lit->Option Nat)(s:Nat)(r:Lit->Option Nat)(W:World)(h:qcj k A q d t c s r W)(Y:Nat->Nat)(l:Lit)(o:keyOf prog 129 (.agg (plA Y))=some l)(i:Nat)(hi:c l=some i):Calls prog 62 #[.pointer (some ⟨A,0,none⟩),.agg (plA Y)] W fun e j=>e=.returned (.int .i64 i)/\Below W.heap.size W j:=by
 have f:Hid ((W.alloc (.cells (plA Y) 129)).heap[W.heap.size]? = some (.cells (plA Y) 129)):=qac _ _;have n:=ltA h.row;have m:W.cell? ⟨A,21,none⟩=some (.map (some q.nb)):=qab h.row 21;have g:=qaa (h.numbers.kept (World.grownBy_alloc W (.cells (plA Y) 129) none) (by simp));go_enter func62,ntmps62;go_wp2;have b:(fun Z:World=>Z.cell? ⟨A,21,none⟩=some (.map (some q.nb))/\Z.heap[W.heap.size]? = some (.cells (plA Y) 129)/\qcW Z 129 q.nb d.length c) {W.alloc (.cells (plA Y) 129) with drawn:=(W.alloc (.cells (plA Y) 129)).drawn+1}:=⟨((((Below.refl W.heap.size W).alloc (Nat.le_refl _) (.cells (plA Y) 129)).cell (p:=⟨A,21,none⟩) n).trans m :),f.out,g.out⟩
 refine wp_region_held (S:=fun Z=>Z.cell? ⟨A,21,none⟩=some (.map (some q.nb))/\Z.heap[W.heap.size]? = some (.cells (plA Y) 129)/\qcW Z 129 q.nb d.length c) (by kernel_rfl) ?_;refine tkH 0 10 (.pointer (some ⟨A,0,none⟩)) rfl (by kernel_rfl) (fun _ _ _ h=>h) (fun Z a=>by kernel_rfl) b ?_;refine tkH 1 11 (.pointer (some ⟨A,0,none⟩)) rfl (by kernel_rfl) (fun _ _ _ h=>h) (fun Z a=>by kernel_rfl) b ?_;refine tkH 2 12 (.pointer (some ⟨A,21,none⟩)) rfl (by kernel_rfl) (fun _ _ _ h=>h) (fun Z a=>by kernel_rfl) b ?_;refine tkH 3 13 (.map (some q.nb)) rfl (by kernel_rfl) (fun _ _ _ h=>h) (fun Z a => ?y3) b ?_
 case y3=>(have v:=a.1;go_simp)
 refine tkH 4 14 (.agg (plA Y)) rfl (by kernel_rfl) (fun _ _ _ h=>h) (fun Z a => ?y4) b ?_
 case y4=>exact qix 129 (.tmp 3) rfl W.heap.size rfl _ _ _ _ a.2.1 underlying129 rfl (qbh Y)
 refine tkH 5 15 (.tuple #[.int .i64 i,.bool true]) rfl (by kernel_rfl) (fun _ _ _ h=>h) (fun Z a => ?y5) b ?_
 case y5=>(have u:=qdz a.2.2 plK underlying125 o;rw[hi] at u;go_simp)
 refine tkH 6 9 (.tuple #[.int .i64 i,.bool true]) rfl (by kernel_rfl) (fun _ _ _ h=>h) (fun Z a=>by kernel_rfl) b ?_;refine tkH 7 16 (.int .i64 i) rfl (by kernel_rfl) (fun _ _ _ h=>h) (fun Z a=>by kernel_rfl) b ?_;refine tkH 8 17 (.bool true) rfl (by kernel_rfl) (fun _ _ _ h=>h) (fun Z a=>by kernel_rfl) b ?_;refine tkH 9 5 (.int .i64 i) rfl (by kernel_rfl) (fun _ _ _ h=>h) (fun Z a=>by kernel_rfl) b ?_;refine tkH 10 6 (.bool true) rfl (by kernel_rfl) (fun _ _ _ h=>h) (fun Z a=>by kernel_rfl) b ?_;refine wpAnyH_done (by kernel_rfl) ?_ _;go_simp;go_wp2;go_ret;exact⟨rfl,(bwA).drew⟩

end
section
open Go.RowKit Go.Shelf
section
attribute [local go_sem] Oper.semAt_some
structure Tr (N k:Nat)(W W':World):Prop where
 below:Below N W W'
 keep:KeepsOthers W W'
 mid:qc0 k (k+3) W W'
theorem Tr.refl (N k:Nat)(W:World):Tr N k W W:=⟨Below.refl _ _,KeepsOthers.refl _,qc0.refl _ _ _⟩
theorem Tr.trans {A B C:World}(h:Tr N k A B)(g:Tr N k B C):Tr N k A C:=⟨h.below.trans g.below,h.keep.trans g.keep,h.mid.trans g.mid⟩
theorem Tr.alloc (N k:Nat)(W:World)(o:Obj)(a:N<=W.heap.size)(b:k+3<=W.heap.size):Tr N k W (W.alloc o) :=
 ⟨(Below.refl _ _).alloc a _,KeepsOthers.alloc _ _,⟨by simp,fun i _ h=>Below.heap_alloc _ _ _ (by omega)⟩⟩
theorem Tr.set (N k:Nat)(W:World)(p:Nat)(v:Value)(c:N<=p)(e:p<k\/k+3<=p):Tr N k W (W.setCell ⟨p,0,none⟩ v) :=
 ⟨(Below.refl _ _).trans ⟨rfl,rfl,rfl,by simp[World.setCell],fun i d=>heap_setCell_other W _ _ _ (by simp;omega)⟩,KeepsOthers.setCell _ _ _,⟨by simp[World.setCell],fun i a b=>heap_setCell_other W _ _ _ (by simp;omega)⟩⟩
theorem Tr.below' (h:Below W.heap.size W W')(b:N<=W.heap.size)(d:k+3<=W.heap.size):Tr N k W W' :=
 ⟨h.mono b,⟨h.size,fun i o a _=>(h.block i (ltA a)).trans a⟩,⟨h.size,fun i _ c=>h.block i (by omega)⟩⟩
theorem Tr.grown {e:TypeId}(l:W.ownsRow base e size v n xs)(a:W.grownBy W' v.ownBlock)(u:base<=W.heap.size)(t:N<=base)(x:k+3<=base):Tr N k W W':=by
 have key:∀g,v.ownBlock=some g->base<=g:=fun g h=>by
  rcases l.2 with ⟨b,_⟩|⟨q,m,p,rfl,c,_⟩
  ·subst b;cases h
  cases h;exact c
 refine⟨⟨a.os,a.tape,a.output,a.size,fun i w=>a.block i (by omega) (fun h=>by have:=key i h.symm;omega)⟩,KeepsOthers.of_grownBy a (fun j o d f => ?_),⟨a.size,fun i _ s=>a.block i (by omega) (fun h=>by have:=key i h.symm;omega)⟩⟩;rcases l.2 with ⟨b,_⟩|⟨q,m,p,rfl,c,r,_⟩
 ·subst b;cases d
 cases d;rw[r] at f;cases f;rfl
structure qvy (w:World)(pre:List Str)(c:Code)(W:World):Prop where
 ret:c=.ret
 below:Below w.heap.size w W
 r0:Boxed W w.heap.size 162 (.slice none 0 0)
 r1:Boxed W (w.heap.size+1) 4 (.bool false)
 bad:8<pre.length\/pre.all (fun x=>qg3 (lst x))=false
 size:w.heap.size+6<=W.heap.size
theorem qvy.own {pre:List Str}{c:Code}{row:Nat}(h:qvy w pre c W)(a:W.grownBy W' (some row))(b:w.heap.size+2<=row):qvy w pre c W' :=
 ⟨h.ret,h.below.trans ⟨a.os,a.tape,a.output,a.size,fun i d=>a.block i (by have:=h.size;omega) (by intro e;cases e;omega)⟩,h.r0.kept a (by intro e;cases e;omega),h.r1.kept a (by intro e;cases e;omega),h.bad,Nat.le_trans h.size a.size⟩
theorem qsj (w W:World):Tr w.heap.size (w.heap.size+3) W ((W.setCell ⟨w.heap.size,0,none⟩ (.slice none 0 0)).setCell ⟨w.heap.size+1,0,none⟩ (.bool false)) :=
 (Tr.set _ _ W w.heap.size _ (Nat.le_refl _) (by omega)).trans (Tr.set _ _ _ (w.heap.size+1) _ (by omega) (by omega))
def sgL:Nat->List UInt8
 |0=>[42]
 |1=>[42,42]
 |_=>[91,93]
theorem Tryz.infoSeg:(prog.info? 169).map (fun i=>(i.zero,i.size,i.bytes))=some (some (.agg #[.int .i64 0,.string ByteArray.empty]),2,24):=by kernel_rfl
theorem qqU (w:World)(s:ByteArray)(a:World)(b:((((((w.alloc (.cells #[.slice none 0 0] 162)).alloc (.cells #[.bool false] 4)).alloc (.cells #[.slice none 0 0] 162)).alloc (.cells #[.string s] 9)).alloc (.cells #[.string ⟨#[47]⟩] 9)).alloc (.cells #[.int .i64 0] 3))=a):qfY (w.heap.size+3) 47 a s:=by
 subst b;generalize hA:((w.alloc (.cells #[.slice none 0 0] 162)).alloc (.cells #[.bool false] 4)).alloc (.cells #[.slice none 0 0] 162)=A;have c:w.heap.size+3=A.heap.size:=by rw[<-hA];simp
 rw[c];refine⟨?_,?_,?_⟩
 ·exact((Below.heap_alloc _ _ _ (by simp;omega)).trans (Below.heap_alloc _ _ _ (by simp))).trans (qac A _)
 ·refine(Below.heap_alloc _ _ _ (by simp)).trans ?_;have:=qac (A.alloc (.cells #[.string s] 9)) (.cells #[.string ⟨#[47]⟩] 9);rwa [World.size_alloc] at this
 have:=qac ((A.alloc (.cells #[.string s] 9)).alloc (.cells #[.string ⟨#[47]⟩] 9)) (.cells #[.int .i64 0] 3);rwa [World.size_alloc,World.size_alloc] at this
theorem qbp {e:TypeId}(c:W.ownsRow base e size v n xs)(h:v.ownBlock=some g):base<=g:=by
 rcases c.2 with ⟨a,_⟩|⟨i,d,f,rfl,b,_⟩
 ·subst a;cases h
 cases h;exact b
theorem qih (h:(x.1.toList==sgL i)=true):qg3 (lst x)=true:=by
 have e:lst x=sgL i:=by unfold lst;rw[<-Lib.toList_data];exact eq_of_beq h
 rw[e];unfold qg3
 match i with
 |0=>simp[sgL]
 |1=>simp[sgL]
 |_+2=>simp[sgL]
theorem qtx (h:∀i,i<3->(x.1.toList==sgL i)=false):qg3 (lst x)=qgw x.1.data.toList:=by
 have e:lst x=x.1.toList:=by unfold lst;rw[<-Lib.toList_data]
 have a:=h 0 (by omega);have b:=h 1 (by omega);have c:=h 2 (by omega);simp only[sgL] at a b c;unfold qg3;rw[e,a,b,c,Lib.toList_data];simp
theorem qbP (w:World)(o:Obj)(cs:Array Value)(t:TypeId):∀(j:Nat) (u:Value),cs.toList[j]? = some u->((w.alloc o).alloc (.cells cs t)).cell? ((⟨w.heap.size+1,0,none⟩:Addr).add j)=some u:=fun j u a=>by
 have:=cell_of_row ((w.alloc o).alloc (.cells cs t)) (w.heap.size+1) j cs t (0,0) (by have:=qac (w.alloc o) (.cells cs t);rwa [World.size_alloc] at this);rw[qcn,Nat.zero_add,this];simpa using a
theorem qhU (w:World)(cs:Array Value)(t:TypeId):∀(j:Nat) (u:Value),cs.toList[j]? = some u->(w.alloc (.cells cs t)).cell? ((⟨w.heap.size,0,none⟩:Addr).add j)=some u:=fun j u a=>by
 rw[qcn,Nat.zero_add,cell_of_row _ _ _ _ _ _ (qac _ _)];simpa using a
theorem qtY {hs:s.size<=2000}{xs:List Str}(d:(s.toList==[46])=false)(h:xs.map lst=qal 47 (lst ⟨s,hs⟩))(b:xs.length<=8)(c:xs.all (fun x=>qg3 (lst x))=true):qe8 s.data.toList=true:=by
 have a:qal 47 s.data.toList=xs.map lst:=h.symm;unfold qe8;rw[a,<-Lib.toList_data,d,List.length_map,decide_eq_true b,List.all_map];simpa [Function.comp] using c
theorem qwp {hs:s.size<=2000}{pre:List Str}{r:List (List UInt8)}(c:(s.toList==[46])=false)(h:qal 47 (lst ⟨s,hs⟩)=pre.map lst++r)(a:8<pre.length\/pre.all (fun x=>qg3 (lst x))=false):qe8 s.data.toList=false:=by
 have b:qal 47 s.data.toList=pre.map lst++r:=h;unfold qe8;rw[b,<-Lib.toList_data,c,List.all_append,List.all_map];rcases a with a|a
 ·rw[decide_eq_false (by rw[List.length_append,List.length_map];omega)];simp
 have:(pre.all (qg3∘lst))=false:=a;rw[this];simp
theorem qsP (V:World):(Instr.index 245 (.agg #[.string ⟨#[42]⟩,.int .i64 0,.string ⟨#[42,42]⟩,.int .i64 1,.string ⟨#[91,93]⟩,.int .i64 2]) (.int .i64 0)).run prog V=.ok (.agg #[.string ⟨#[42]⟩,.int .i64 0]) V:=by kernel_rfl
theorem qud (V:World):(Instr.index 245 (.agg #[.string ⟨#[42]⟩,.int .i64 0,.string ⟨#[42,42]⟩,.int .i64 1,.string ⟨#[91,93]⟩,.int .i64 2]) (.int .i64 1)).run prog V=.ok (.agg #[.string ⟨#[42,42]⟩,.int .i64 1]) V:=by kernel_rfl
theorem qt3 (V:World):(Instr.index 245 (.agg #[.string ⟨#[42]⟩,.int .i64 0,.string ⟨#[42,42]⟩,.int .i64 1,.string ⟨#[91,93]⟩,.int .i64 2]) (.int .i64 2)).run prog V=.ok (.agg #[.string ⟨#[91,93]⟩,.int .i64 2]) V:=by kernel_rfl
theorem qns {md:Region.Mode}{ops:Array Oper}{fuel:Nat}{listed:Array Bool}(L:Array Bool)(b:Nat)(c:World->List (Nat×Value))(T:World->Prop)(d:World->World)(e:(∀V,T V->wpAnyIn F n P md ops Q b L ((c V).foldl (fun a p=>a.put (some p.1) p.2) a) (d V))->wpAnyIn F n P md ops Q fuel listed a w)(f:∀V,T V->wpAnyIn F n P md ops Q b L ((c V).foldl (fun a p=>a.put (some p.1) p.2) a) (d V)):wpAnyIn F n P md ops Q fuel listed a w:=e f
theorem qgp {nF:Nat}{K:Act->World->Prop}(s x:Operand)(t:TypeId)(p:o.op=.call {callee:=.builtin .append,args:=#[s,x],argTypes:=#[t,t]})(f:Nat)(e:TypeId)(i:TypeInfo)(z:Value)(size l:Nat)(O:P.underlying t=some (.slice e))(hi:P.info? e=some i)(S:i.zero=some z)(M:i.size=size)(C:i.bytes=l)(T:z.cells.size=size)(N:0<size)(v:Value)(n:Nat)(xs:List Value)(L:a.eval s=v)(I:w.ownsRow f e size v n xs)(k:Addr)(m c:Nat)(b:List Value)(R:a.eval x=.slice (some k) m c)(G:b.length=m*size)(H:∀j u,b[j]? = some u->w.cell? (k.add j)=some u)(q:∀u∈b,u.oneCell'=true)(A:n+m<=maxLen)(D:(n+m)*l<=140737488355328)(B:f<=w.heap.size)(h:∀g d,d.ownsRow f e size g (n+m) (xs++b)->w.grownBy d v.ownBlock->K (a.put o.dst g) d):o.wpIn F nF P a w K Q:=by
 obtain⟨g,d,J,r,y,_⟩:=run_append_own (P:=P) w f t o.type e i z size l O hi S M C T N v n xs I k m c b G H q A D B;unfold Oper.wpIn;refine⟨by simp[Oper.about,p,resolve,Target.leads,Sem.run_pure],?_⟩;rw[Oper.semAt_plain F _ _ (by rw[p];intro c E;cases E)];simp[execOp,p,resolve,invoke,builtin,L,R,J,Result.andThen];exact h g d r y
end

end
section
open Go.RowKit
theorem qge (c:UInt8):∀l:List UInt8,(Lib.index l [c] = -1/\qal c l=[l])\/∃a r,l=a++c::r/\Lib.index l [c]=a.length/\qal c l=a::qal c r
 |[]=>Or.inl ⟨rfl,rfl⟩
 |x::r=>by
  by_cases e:x=c
  ·subst e;right;exact⟨[],r,rfl,by simp[Lib.index],by simp[qal]⟩
  have g:([c].isPrefixOf (x::r))=false:=by simp[List.isPrefixOf,Ne.symm e]
  have f:(x==c)=false:=by simp[e]
  rcases qge c r with ⟨b,d⟩|⟨a,q,b,d,h⟩
  ·left;refine⟨?_,?_⟩
   ·unfold Lib.index;rw[g,b];rfl
   unfold qal;rw[f,d];rfl
  right;refine⟨x::a,q,by rw[b];rfl,?_,?_⟩
  ·unfold Lib.index;rw[g,d];have:((a.length:Int) == -1)=false:=by rw[beq_eq_false_iff_ne];omega
   rw[this];simp
  rw[qal,f,h];rfl
theorem qby (c:UInt8)(l:List UInt8):(Lib.cut l [c]=(l,[],false)/\qal c l=[l])\/∃a r,Lib.cut l [c]=(a,r,true)/\l=a++c::r/\qal c l=a::qal c r:=by
 rcases qge c l with ⟨b,d⟩|⟨a,r,b,d,e⟩
 ·left;refine⟨?_,d⟩;unfold Lib.cut;rw[b,if_neg (by omega)]
 right;refine⟨a,r,?_,b,e⟩;unfold Lib.cut;rw[d,if_pos (by omega)];simp[b]
def qqG (n:Nat)(l:List UInt8):Bool :=
 qe8 (Lib.cut l [32]).1&&(qh5 (Lib.cut (Lib.cut l [32]).2.1 [32]).1 n&&qeu ⟨(Lib.cut (Lib.cut l [32]).2.1 [32]).2.1.toArray⟩ != 0)
theorem qif (l:List UInt8):qeu ⟨l.toArray⟩=if l==[100,114,111,112] then 1 else if l==[109,97,115,107] then 2 else if l==[116,97,103] then 3 else 0:=by
 unfold qeu;rw[Lib.toList_data]
theorem qkb (a r:List UInt8):qeu ⟨(a++32::r).toArray⟩=0:=by
 have b:(32:UInt8)∈a++32::r:=by simp
 rw[qif];generalize a++32::r=l at *;rw[if_neg (by intro h;rw[eq_of_beq h] at b;revert b;decide),if_neg (by intro h;rw[eq_of_beq h] at b;revert b;decide),if_neg (by intro h;rw[eq_of_beq h] at b;revert b;decide)]
theorem qn3 (n:Nat)(l:List UInt8):qqG n l=qa9 n l:=by
 unfold qqG qa9;rcases qby 32 l with ⟨g,h⟩|⟨a,r,g,_,h⟩
 ·rw[g,h];rcases qby 32 [] with ⟨c,f⟩|⟨a,r,_,c,_⟩
  ·simp[c,qh5,qiX]
  simp at c
 rw[g,h];rcases qby 32 r with ⟨c,f⟩|⟨b,q,c,_,f⟩
 ·rw[c,f];have:qeu ⟨([]:List UInt8).toArray⟩=0:=by rw[qif];rfl
  simp[this,qiX]
 rw[c,f];rcases qby 32 q with ⟨j,i⟩|⟨d,e,j,i,k⟩
 ·rw[i];rfl
 rw[k,qke (by have:=List.length_pos_iff.2 (qfD 32 e);simp only[List.length_cons];omega),i];simp[qkb]

def sgS (l:List UInt8):Nat×List UInt8:=if l==[42] then (0,[]) else if l==[42,42] then (1,[]) else if l==[91,93] then (2,[]) else (3,l)
def sgC (s:Nat×List UInt8):List Value:=[.int .i64 s.1,.string ⟨s.2.toArray⟩]
def qiL (l:List UInt8):List (List UInt8):=if l==[46] then [] else qal 47 l
def qdE (l:List UInt8):List (List UInt8)×Int×Int:=match qal 32 l with
 |[p,b,c]=>(qiL p,qoC b,qeu ⟨c.toArray⟩)
 |_=>([],0,0)
def qcA (l:List UInt8):List (List (List UInt8)×Int×Int):=if l.length=0 then [] else (qal 10 l).map qdE
def enS (r:List (List UInt8)×Int×Int):List (Nat×List UInt8)×Int×Int:=(r.1.map sgS,r.2)
theorem qqu (l:List UInt8):(sgS l).1<=3:=by
 unfold sgS;split
 ·exact Nat.zero_le _
 split
 ·show(1:Nat)<=3;omega
 split
 ·show(2:Nat)<=3;omega
 exact Nat.le_refl _
theorem qtT (l:List UInt8):(sgS l).2.length<=l.length:=by
 unfold sgS;split
 ·simp
 split
 ·simp
 split
 ·simp
 exact Nat.le_refl _
theorem qgV (h:qa9 n l=true):qal 32 l=[(Lib.cut l [32]).1,(Lib.cut (Lib.cut l [32]).2.1 [32]).1,(Lib.cut (Lib.cut l [32]).2.1 [32]).2.1]:=by
 rw[<-qn3] at h;unfold qqG at h;rcases qby 32 l with ⟨f,j⟩|⟨a,r,f,_,j⟩
 ·rw[f] at h;rcases qby 32 [] with ⟨c,g⟩|⟨a,r,_,c,_⟩
  ·simp[c,qh5] at h
  simp at c
 rw[f] at h ⊢;rw[j];rcases qby 32 r with ⟨c,g⟩|⟨b,q,c,_,g⟩
 ·rw[c] at h;have:qeu ⟨([]:List UInt8).toArray⟩=0:=by rw[qif];rfl
  simp[this] at h
 rw[c] at h ⊢;rw[g];rcases qby 32 q with ⟨k,i⟩|⟨d,e,k,i,m⟩
 ·rw[i]
 rw[i] at h;simp[qkb] at h
theorem qqd {p b c:List UInt8}(h:qal 32 l=[p,b,c]):qdE l=(qiL p,qoC b,qeu ⟨c.toArray⟩):=by
 unfold qdE;rw[h]
def qkk (W:World)(lo:Nat)(t:TypeId)(pa:Option Addr)(cs:List Value):Prop :=
 cs=[]\/∃b off cur fr,pa=some ⟨b,off,none⟩/\lo<=b/\W.heap[b]? = some (.cells cur t fr)/\∀j (h:j<cs.length),cur[off+j]? = some cs[j]
theorem qkk.kept {t:TypeId}(h:qkk W lo t pa cs)(i:∀b a c,lo<=b->W.heap[b]? = some (.cells a t c)->lo'<=b/\W'.heap[b]? = some (.cells a t c)):qkk W' lo' t pa cs:=by
 rcases h with h|⟨b,off,a,c,d,e,f,g⟩
 ·exact .inl h
 obtain⟨j,k⟩:=i b a c e f;exact .inr ⟨b,off,a,c,d,j,k,g⟩
theorem qkk.below {t:TypeId}(h:qkk W lo t pa cs)(d:Below W.heap.size W W'):qkk W' lo t pa cs :=
 h.kept fun b _ _ c a=>⟨c,(d.block b (ltA a)).trans a⟩
theorem quU {e:TypeId}(h:W.ownsRow base e size v n xs)(p:lo<=base):∃f c,v=.slice f n c/\qkk W lo e f xs:=by
 obtain⟨o,⟨b,d⟩|⟨g,c,i,b,d,k,_,_,_,l⟩⟩:=h
 ·subst d;exact⟨none,0,b,.inl (List.eq_nil_of_length_eq_zero (by omega))⟩
 refine⟨_,_,b,.inr ⟨g,0,i,_,rfl,by omega,k,fun j m => ?_⟩⟩;have a:=congrArg (·[j]?) l;simp only[List.getElem?_take] at a;rw[if_pos (by omega),List.getElem?_eq_getElem m] at a;rw[Nat.zero_add];simpa using a
def RwB (W:World)(lo:Nat)(t:TypeId)(xs:List Value)(es:List (List Value×Nat×Int×Int)):Prop :=
 xs.length=es.length*3/\∀i (h:i<es.length),∃pa pc,xs[i*3]? = some (.slice pa es[i].2.1 pc)/\xs[i*3+1]? = some (.int .i64 es[i].2.2.1)/\xs[i*3+2]? = some (.int .i64 es[i].2.2.2)/\qkk W lo t pa es[i].1
theorem qnO (W:World)(lo:Nat)(t:TypeId):RwB W lo t [] []:=⟨rfl,fun i h=>by simp at h⟩
theorem RwB.kept {t:TypeId}(h:RwB W lo t xs es)(k:∀b a c,lo<=b->W.heap[b]? = some (.cells a t c)->lo'<=b/\W'.heap[b]? = some (.cells a t c)):RwB W' lo' t xs es:=by
 refine⟨h.1,fun i j => ?_⟩;obtain⟨l,m,d,e,f,g⟩:=h.2 i j;exact⟨l,m,d,e,f,g.kept k⟩
theorem RwB.below {t:TypeId}(h:RwB W lo t xs es)(d:Below W.heap.size W W'):RwB W' lo t xs es :=
 h.kept fun b _ _ c a=>⟨c,(d.block b (ltA a)).trans a⟩
theorem RwB.push {t:TypeId}(h:RwB W lo t xs es){e:List Value×Nat×Int×Int}{pc:Nat}(j:qkk W lo t pa e.1):RwB W lo t (xs++[.slice pa e.2.1 pc,.int .i64 e.2.2.1,.int .i64 e.2.2.2]) (es++[e]):=by
 have a:=h.1;refine⟨by simp[a];omega,fun i k => ?_⟩;by_cases b:i<es.length
 ·obtain⟨m,n,c,d,f,g⟩:=h.2 i b;rw[List.getElem_append_left b];refine⟨m,n,?_,?_,?_,g⟩
  ·rw[List.getElem?_append_left (by omega)];exact c
  ·rw[List.getElem?_append_left (by omega)];exact d
  rw[List.getElem?_append_left (by omega)];exact f
 have l:i=es.length:=by simp at k;omega
 subst l;rw[List.getElem_append_right (Nat.le_refl _)];simp only[Nat.sub_self,List.getElem_cons_zero];refine⟨pa,pc,?_,?_,?_,j⟩
 ·rw[List.getElem?_append_right (by omega),a,Nat.sub_self];rfl
 ·rw[List.getElem?_append_right (by omega),a,show es.length*3+1-es.length*3=1 by omega];rfl
 rw[List.getElem?_append_right (by omega),a,show es.length*3+2-es.length*3=2 by omega];rfl
theorem qv0:∀(ss:List (Nat×List UInt8)) (j:Nat) (h:j<ss.length),(ss.flatMap sgC)[j*2]? = some (.int .i64 ss[j].1)/\(ss.flatMap sgC)[j*2+1]? = some (.string ⟨ss[j].2.toArray⟩)
 |x::ss,0,_=>⟨rfl,rfl⟩
 |x::ss,j+1,h=>by
  have a:=qv0 ss j (by simpa using h);rw[List.flatMap_cons,show(j+1)*2=j*2+2 by omega];exact a
theorem qw5 (a:List (Nat×List UInt8)):(a.flatMap sgC).length=a.length*2:=by
 induction a with
 |nil=>rfl
 |cons x a b =>
  rw[List.flatMap_cons,List.length_append,b,List.length_cons];show 2+_=_;omega
def enP (r:List (Nat×List UInt8)×Int×Int):List Value×Nat×Int×Int:=(r.1.flatMap sgC,r.1.length,r.2.1,r.2.2)
theorem qtI {t:TypeId}{ss:List (Nat×List UInt8)}(h:qkk W lo t pa (ss.flatMap sgC)):qks W pa ss:=by
 refine⟨fun i n => ?_⟩;have j:=qw5 ss;rcases h with h|⟨b,off,e,f,m,o,a,g⟩
 ·rw[h] at j;simp at j;omega
 obtain⟨k,l⟩:=qv0 ss i n;have c:=g (i*2) (by omega);have d:=g (i*2+1) (by omega);rw[<-List.getElem?_eq_getElem] at c d;refine⟨b,off,m,(ltA a),?_,?_⟩
 ·rw[cell_of_row W b _ e _ f a,c,k]
 rw[Nat.add_assoc,cell_of_row W b _ e _ f a,d,l]
theorem qth {t:TypeId}{rs:List (List (Nat×List UInt8)×Int×Int)}(h:W.ownsRow base 164 3 v rs.length xs)(w:RwB W lo t xs (rs.map enP)):∃a e,v=.slice a rs.length e/\qdW W a rs:=by
 obtain⟨z,⟨c,f⟩|⟨g,e,q,c,f,k,_,_,_,s⟩⟩:=h
 ·exact⟨none,0,by rw[c,f],⟨fun i d=>by omega⟩⟩
 refine⟨_,_,c,⟨fun i d => ?_⟩⟩;obtain⟨x,y,m,n,o,p⟩:=w.2 i (by simpa using d);have key:∀j u,xs[j]? = some u->W.cell? ⟨g,0+j,none⟩=some u:=by
  intro j u l;have A:=ltL l;have b:=congrArg (·[j]?) s;simp only[List.getElem?_take] at b;rw[if_pos (by omega),l] at b;rw[Nat.zero_add,cell_of_row W g j q _ _ k];simpa using b
 have r:(rs.map enP)[i]'(by simpa using d)=enP rs[i]:=by simp
 rw[r] at m n o p;exact⟨g,0,x,y,rfl,(ltA k),key _ _ m,by have:=key _ _ n;rwa [Nat.zero_add] at this ⊢,by have:=key _ _ o;rwa [Nat.zero_add] at this ⊢,qtI p⟩

end
end Go.Proofs.YtcokgepdckkjdaaGreatDoor
