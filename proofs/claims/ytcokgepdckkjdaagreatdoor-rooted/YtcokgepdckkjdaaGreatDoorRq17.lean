import Derived.Laws.Concat
import Derived.Test.YtcokgepdckkjdaaGreatDoorRq15
import Derived.Test.YtcokgepdckkjdaaGreatDoorRq13
import Derived.Test.YtcokgepdckkjdaaGreatDoorRq16
import Derived.Test.YtcokgepdckkjdaaGreatDoorRq14
set_option maxRecDepth 100000
set_option maxHeartbeats 8000000
namespace Go.Proofs.YtcokgepdckkjdaaGreatDoor
open Go.Proofs.Tryz
variable {V V' W W' w:World}{N b base i n:Nat}{v v':Value}{cur l:List UInt8}{s:ByteArray}{o:Oper}{P:Program}{a:Act}{K:Act->World->Prop}{Q:Exit->Act->World->Prop}{ops:Array Oper}{m m':Nat->Nat->Bool}{c:Cfg}
section
open Go.RowKit Go.Lib
def wmF (s b:Nat):Nat:=((s ^^^ b)*1099511628211)%18446744073709551616
theorem qkj (s b:Nat):wmF s b<18446744073709551616:=Nat.mod_lt _ (by decide)
theorem qwZ (a b:Nat)(e:a<18446744073709551616)(f:b<18446744073709551616):bits .xor .u64 (a:Int) (b:Int)=((a ^^^ b:Nat):Int):=by
 have h:(BitVec.ofNat 64 a ^^^ BitVec.ofNat 64 b).toNat=a ^^^ b:=by
  rw[BitVec.toNat_xor,BitVec.toNat_ofNat,BitVec.toNat_ofNat,Nat.mod_eq_of_lt (by omega),Nat.mod_eq_of_lt (by omega)]
 have c:BitVec.ofInt 64 (a:Int)=BitVec.ofNat 64 a:=BitVec.ofInt_natCast ..;have d:BitVec.ofInt 64 (b:Int)=BitVec.ofNat 64 b:=BitVec.ofInt_natCast ..;show IntKind.u64.wrap ((BitVec.ofInt 64 (a:Int) ^^^ BitVec.ofInt 64 (b:Int)).toNat:Int)=_;have g:a ^^^ b<2^64:=Nat.xor_lt_two_pow (by omega) (by omega);rw[c,d,h];unfold IntKind.wrap;simp[IntKind.bits,IntKind.signed];omega
theorem qup (x:Nat):IntKind.u64.wrap ((x:Int)*1099511628211)=(((x*1099511628211)%18446744073709551616:Nat):Int):=by
 unfold IntKind.wrap;simp[IntKind.bits,IntKind.signed]
theorem qi5 (s b:Nat)(c:s<18446744073709551616)(d:b<256)(W:World):Calls prog 139 #[.int .u64 s,.int .u8 b] W fun e a=>e=.returned (.int .u64 (wmF s b))/\a=W:=by
 have f:=qwZ s b c (by omega);go_enter func139,ntmps139;go_wp2;rw[qup];go_ret;exact⟨rfl,rfl⟩

def qfU (x:Nat):UInt8:=[48,49,50,51,52,53,54,55,56,57,97,98,99,100,101,102].getD x 0
def qmw (r:Nat):List UInt8:=if r=34\/r=92 then [92,UInt8.ofNat r] else if r<32 then [92,117,48,48,qfU (r / 16),qfU (r%16)] else qcD r
def qd5:Nat->List UInt8->List UInt8
 |0,_=>[]
 |_+1,[]=>[]
 |g+1,b::t=>qmw (decodeL (b::t)).1++qd5 g ((b::t).drop (decodeL (b::t)).2)
def jsT (l:List UInt8):List UInt8:=[34]++qd5 l.length l++[34]
theorem qgt {bs:List UInt8}(h:Own W b v bs)(c:Below W.heap.size W W'):Own W' b v bs:=by
 refine⟨⟨h.1.1,?_⟩,Nat.le_trans h.2.1 c.size,h.2.2⟩;rcases h.1.2 with a|⟨g,e,f,a,i,d,j⟩
 ·exact .inl a
 exact .inr ⟨g,e,f,a,i,(c.block g (ltA d)).trans d,j⟩
theorem qoY (g:Nat):qd5 g []=[]:=by cases g<;>rfl
def KpU (W V:World):Prop:=∀(k:Nat) (cs:Array Value) (t:TypeId) (fr:Nat×Nat),W.heap[k]? = some (.cells cs t fr)->t≠5->V.heap[k]? = some (.cells cs t fr)
theorem KpU.refl (W:World):KpU W W:=by intro k cs t a h _;exact h
theorem KpU.trans {A B C:World}(h:KpU A B)(g:KpU B C):KpU A C:=by intro k cs t a c b;exact g k cs t a (h k cs t a c b) b
theorem qed (W:World)(o:Obj):KpU W (W.alloc o):=by intro k cs t b a _;exact(Below.heap_alloc _ _ _ (ltA a)).trans a
theorem qek {xs:List Value}(j:W.ownsRow base 5 1 v n xs)(i:W.grownBy V v.ownBlock):KpU W V:=by
 intro k cs t m d h;refine(i.block k (ltA d) (fun e => ?_)).trans d;rcases j.2 with ⟨b,_⟩|⟨g,l,c,b,_,a,_⟩
 ·rw[b] at e;cases e
 rw[b] at e;injection e with e;have f:k=g:=e;rw[<-f,d] at a;injection a with a;injection a with _ a _;exact h a
structure qgU (base:Nat)(W:World)(N:Nat)(s:ByteArray)(i:Nat)(v:Value)(cur:List UInt8)(V:World):Prop where
 own:Own V base v cur
 it:V.heap[N]? = some (.stringIter s i)
 below:Below base W V
 lo:base<=N
 kp:KpU W V
theorem qgU.ne (h:qgU base W N s i v cur V):some N≠v.ownBlock:=by
 intro e;rcases h.own.1.2 with ⟨a,_⟩|⟨g,f,c,a,_,b,_⟩
 ·rw[a] at e;cases e
 rw[a] at e;injection e with e;have d:N=g:=e;rw[<-d,h.it] at b;cases b
theorem qgU.app {o:Obj}(h:qgU base W N s i v cur V)(d:V'.ownsRow base 5 1 v' (cur.length+l.length) (cur.map qav++l.map qav))(a:(V.alloc o).grownBy V' v.ownBlock):qgU base W N s i v' (cur++l) V':=by
 have b:=qaz ((Below.refl base V).alloc h.own.2.1 _) (h.own.1.alloc _) a (by have:=h.own.2.1;simp;omega);have f:=ltA h.it;refine⟨⟨by rw[List.length_append,List.map_append];exact d,Nat.le_trans h.own.2.1 b.size,?_⟩,(a.block N (by simp;omega) h.ne).trans ((Below.heap_alloc _ _ _ f).trans h.it),h.below.trans b,h.lo,h.kp.trans ((qed V o).trans (qek (h.own.1.alloc o) a))⟩;rcases d.2 with ⟨e,_⟩|⟨g,j,c,e,_⟩
 ·exact⟨none,0,0,e⟩
 exact⟨_,_,_,e⟩
theorem qgU.appS (h:qgU base W N s i v cur V)(d:V'.ownsRow base 5 1 v' (cur.length+(⟨l.toArray⟩:ByteArray).size) (cur.map qav++strCells ⟨l.toArray⟩))(a:V.grownBy V' v.ownBlock):qgU base W N s i v' (cur++l) V':=by
 obtain⟨b,c⟩:=qaL h.own d a;exact⟨b,(a.block N (ltA h.it) h.ne).trans h.it,h.below.trans c,h.lo,h.kp.trans (qek h.own.1 a)⟩
theorem qgU.next (h:qgU base W N s i v cur V)(j:Nat):qgU base W N s j v cur (V.putObj N (.stringIter s j)):=by
 have o:=ltA h.it;have q:=h.ne;refine⟨⟨⟨h.own.1.1,?_⟩,by simpa [World.putObj] using h.own.2.1,h.own.2.2⟩,by simp[World.putObj,o],qbs h.below h.lo _,h.lo,?hkp⟩
 case hkp =>
  intro k cs t l r u;have b:=h.kp k cs t l r u;refine((grownBy_putObj' V N (.stringIter s j)).block k (ltA b) (fun e => ?_)).trans b;injection e with e;rw[e,h.it] at b;cases b
 rcases h.own.1.2 with a|⟨g,f,c,a,m,d,n⟩
 ·exact .inl a
 refine .inr ⟨g,f,c,a,m,?_,n⟩;have p:g≠N:=by
  rintro rfl;exact q (by rw[a];rfl)
 exact((grownBy_putObj' V N (.stringIter s j)).block g (ltA d) (by simpa using p)).trans d
theorem qgU.drew (h:qgU base W N s i v cur V):qgU base W N s i v cur V.drew:=⟨h.own,h.it,h.below.drew,h.lo,h.kp⟩
theorem qs3 (x:Nat)(a:x<16)(V:World):(Instr.index 9 (.string ⟨#[48,49,50,51,52,53,54,55,56,57,97,98,99,100,101,102]⟩) (.int .i32 x)).run prog V=.ok (qav (qfU x)) V:=by
 have h:x=0\/x=1\/x=2\/x=3\/x=4\/x=5\/x=6\/x=7\/x=8\/x=9\/x=10\/x=11\/x=12\/x=13\/x=14\/x=15:=by omega
 rcases h with rfl|rfl|rfl|rfl|rfl|rfl|rfl|rfl|rfl|rfl|rfl|rfl|rfl|rfl|rfl|rfl<;>(show _=_;kernel_rfl)
theorem qu2 (r:Nat)(a:r<32):bits .and .i32 (r:Int) 15=((r%16:Nat):Int):=by
 have h:r=0\/r=1\/r=2\/r=3\/r=4\/r=5\/r=6\/r=7\/r=8\/r=9\/r=10\/r=11\/r=12\/r=13\/r=14\/r=15\/r=16\/r=17\/r=18\/r=19\/r=20\/r=21\/r=22\/r=23\/r=24\/r=25\/r=26\/r=27\/r=28\/r=29\/r=30\/r=31:=by omega
 rcases h with rfl|rfl|rfl|rfl|rfl|rfl|rfl|rfl|rfl|rfl|rfl|rfl|rfl|rfl|rfl|rfl|rfl|rfl|rfl|rfl|rfl|rfl|rfl|rfl|rfl|rfl|rfl|rfl|rfl|rfl|rfl|rfl<;>(show _=_;kernel_rfl)
theorem qlX {ev:Operand->Value}(a:TypeId)(x y:Operand)(b:o.op=.index a x y){X Y:Value}(c:ev x=X)(d:ev y=Y)(h:(Instr.index a X Y).run P W=.ok v W):(execOp ev o).run P W=.ok (.value v) W:=by
 unfold execOp;simp only[b,c,d,Sem.run_bind,h,Result.andThen_ok];rfl
theorem qn8 (a b:UInt8)(V:World):(Instr.buildSlice 66 2 #[(0,qav a),(1,qav b)]).run prog V=.ok (.slice (some ⟨V.heap.size,0,none⟩) 2 2) (V.alloc (.cells #[qav a,qav b] 5)):=by kernel_rfl
theorem qkT (x y:Operand)(b:o.op=.buildSlice 66 2 #[(0,x),(1,y)])(p q:UInt8)(c:a.eval x=qav p)(d:a.eval y=qav q)(h:K (a.put o.dst (.slice (some ⟨w.heap.size,0,none⟩) 2 2)) (w.alloc (.cells #[qav p,qav q] 5))):o.wp prog a w K Q:=by
 have e:(#[(0,x),(1,y)].map fun (i,y)=>(i,a.eval y))=#[((0:Nat),qav p),(1,qav q)]:=by simp[c,d]
 unfold Oper.wp execOp;simp only[b,Sem.run_bind,e,qn8,Result.andThen_ok];exact h

end
section
open Go.RowKit
theorem qcS (w:World)(B:Nat)(t k e:TypeId)(i:TypeInfo)(z:Value)(size r:Nat)(q:P.underlying t=some (.slice e))(hi:P.info? e=some i)(A:i.zero=some z)(L:i.size=size)(F:i.bytes=r)(v:Value)(n:Nat)(xs:List Value)(p:w.ownsRow B e size v n xs)(a:Addr)(m c:Nat)(b:List Value)(h:b.length=m*size)(o:∀j u,b[j]? = some u->w.cell? (a.add j)=some u)(C:∀u∈b,u.oneCell'=true)(J:0<m)(D:n+m<=maxLen)(x:(n+m)*r<=140737488355328){w':World}(d:(Builtin.append_ #[t,t] k #[v,.slice (some a) m c]).run P w=.ok v' w'):v'.ownBlock=v.ownBlock\/v'.ownBlock=some w.heap.size:=by
 subst L;subst F;have Q:n+m<=9223372036854775807:=by simp only[maxLen] at D;omega
 rcases p.2 with ⟨rfl,rfl⟩|⟨g,l,s,rfl,M,I,O,N,G,R⟩
 ·have f:=run_append_nil (P:=P) w t k e i z q hi A a m c b h o J (by omega) (by have E:=x;simp only[Nat.zero_add] at E;omega);rw[f] at d;injection d with e1 e2;right;rw[<-e1];rfl
 by_cases y:n+m<=l
 ·have H:n*i.size+b.length<=s.size:=by rw[h,G,<-Nat.add_mul];exact Nat.mul_le_mul_right _ y
  have f:=run_append_room (P:=P) w t k e i q hi g n l s I a m c b h o C y H;rw[f] at d;injection d with e1 e2;left;rw[<-e1];rfl
 have K:=p.cells (g:=g) rfl;have f:=run_append_grow (P:=P) w t k e i z q hi A ⟨g,0,none⟩ n l xs p.1 K a m c b h o (by omega) (by omega) (growslice_fits (by omega) x);rw[f] at d;injection d with e1 e2;right;rw[<-e1];rfl
theorem qaX (w:World){rest:List Oper}(N:o.guard=none)(s x:Operand)(t:TypeId)(R:o.op=.call {callee:=.builtin .append,args:=#[s,x],argTypes:=#[t,t]})(f:Nat)(e:TypeId)(i:TypeInfo)(z:Value)(size l:Nat)(F:P.underlying t=some (.slice e))(hi:P.info? e=some i)(G:i.zero=some z)(E:i.size=size)(r:i.bytes=l)(V:z.cells.size=size)(T:0<size)(v:Value)(n:Nat)(xs:List Value)(S:a.eval s=v)(C:w.ownsRow f e size v n xs)(k:Addr)(m c:Nat)(b:List Value)(U:a.eval x=.slice (some k) m c)(A:b.length=m*size)(B:∀j u,b[j]? = some u->w.cell? (k.add j)=some u)(p:∀u∈b,u.oneCell'=true)(O:0<m)(q:n+m<=maxLen)(y:(n+m)*l<=140737488355328)(M:f<=w.heap.size)(h:∀d g,g.ownsRow f e size d (n+m) (xs++b)->w.grownBy g v.ownBlock->(d.ownBlock=v.ownBlock\/d.ownBlock=some w.heap.size)->wpList P ops Q rest (a.put o.dst d) g):wpList P ops Q (o::rest) a w:=by
 refine wpList_plain N fun K L => ?_;obtain⟨d,g,D,H,I,_⟩:=run_append_own (P:=P) w f t o.type e i z size l F hi G E r V T v n xs C k m c b A B p q y M;have J:=qcS (P:=P) w f t o.type e i z size l F hi G E r v n xs C k m c b A B p O q y D;unfold Oper.wp execOp;simp only[R,resolve,invoke,builtin,Sem.run_bind,Sem.run_pure,Result.andThen_ok,List.map_toArray,List.map_cons,List.map_nil,S,U,D];exact L _ _ (h d g H I J)

theorem qe2 {s:Src}(k n:Nat)(h:qad W b s):qad ((W.drewN n).setCell ⟨b,4,none⟩ (.int .i64 k)) b {s with within:=k}/\But b W ((W.drewN n).setCell ⟨b,4,none⟩ (.int .i64 k)):=by
 have e:(W.drewN n).heap[b]? = some (.cells s.arr 211):=h.row;have d:∀q,q≠b->((W.drewN n).setCell ⟨b,4,none⟩ (.int .i64 k)).heap[q]? = W.heap[q]?:=fun q a=>heap_setCell_other (W.drewN n) _ _ _ (by simpa using a);refine⟨⟨?_,fun i l => ?_,h.len,h.le⟩,⟨rfl,rfl,rfl,by simp[World.setCell,World.drewN],fun q _ a=>d q a⟩⟩
 ·rw[setCell_eq_setRow _ b 4 _ _ _ _ e,setRow_heap _ _ _ _ _ _ e];rfl
 obtain⟨g,off,f,c,j⟩:=h.inp i l;exact⟨g,off,f,c,(World.cell?_of_block (w:=W) (d g c)).trans j⟩
theorem qin (W:World)(b:Nat)(s:Src)(h:qad W b s)(d:¬(s.within:Int)=s.depth)(i:s.within<=1000000):Calls prog 221 #[.pointer (some ⟨b,0,none⟩)] W fun e c=>e=.returned (.tuple #[])/\qad c b {s with within:=s.within+1}/\But b W c:=by
 have j:W.cell? ⟨b,1,none⟩=some (.int .i64 s.depth):=qab h.row 1;have k:W.cell? ⟨b,4,none⟩=some (.int .i64 s.within):=qab h.row 4;have g:=frozen_of_row W b 4 _ _ h.row;have a:Hid (∀n,qad ((W.drewN n).setCell ⟨b,4,none⟩ (.int .i64 ((s.within:Int)+1))) b {s with within:=s.within+1}/\But b W ((W.drewN n).setCell ⟨b,4,none⟩ (.int .i64 ((s.within:Int)+1)))):=fun n=>qe2 (s.within+1) n h;have f:((s.within:Int)==s.depth)=false:=by simpa using d
 go_enter func221,ntmps221;go_wp2
 go_quiet (fail)
 go_wp2;go_end0;exact⟨rfl,(a.out nq).1,(a.out nq).2⟩
theorem qjb (W:World)(b:Nat)(s:Src)(h:qad W b s)(f:(s.within:Int)=s.depth):Calls prog 221 #[.pointer (some ⟨b,0,none⟩)] W fun e a=>qao 11 ((s.pos:Int)-1) e/\But b W a/\∃p,qad a b {s with pos:=p}:=by
 have i:W.cell? ⟨b,1,none⟩=some (.int .i64 s.depth):=qab h.row 1;have j:W.cell? ⟨b,4,none⟩=some (.int .i64 s.within):=qab h.row 4;have g:((s.within:Int)==s.depth)=true:=by simpa using f
 have d:=fun n=>qat (W.drewN n) b s 11 (h.drewN n);have c:=qaa h;go_enter func221,ntmps221;go_wp2
 go_quiet (fail)
 go_wp2_with (first
  |(go_at_call 227;refine(d nq).mono ?_;rintro e k ⟨hF,rfl⟩;obtain rfl:=hF))
 exact⟨rfl,rfl,But.of_below (qam W nq),_,c.out.drewN nq⟩
theorem qj2 (W:World)(b k:Nat)(s:Src)(h:qad W b s)(d:s.within=k+1)(i:s.within<=1000000):Calls prog 249 #[.pointer (some ⟨b,0,none⟩)] W fun e c=>e=.returned (.tuple #[])/\qad c b {s with within:=k}/\But b W c:=by
 have j:W.cell? ⟨b,4,none⟩=some (.int .i64 ((k:Int)+1)):=by
  have:=qab h.row 4;rw[this];show some (Value.int .i64 (s.within:Int))=_;rw[d];rfl
 have f:=frozen_of_row W b 4 _ _ h.row;have a:Hid (qad (W.setCell ⟨b,4,none⟩ (.int .i64 k)) b {s with within:=k}/\But b W (W.setCell ⟨b,4,none⟩ (.int .i64 k))):=qe2 k 0 h;have g:k<=1000000:=by omega
 go_enter func249,ntmps249;go_wp2;go_end0;exact⟨rfl,a.out.1,a.out.2⟩

end
section
open Go.RowKit Go.Deep
theorem qkJ (h:∀i j,i<n->j<n->m i j=m' i j):qa7 n m = !qbz n m':=by
 cases c:qa7 n m
 ·symm;rw[Bool.not_eq_false'];refine qeP (fun a b d e => ?_);cases l:qd3 n m' a b
  ·rfl
  exfalso;unfold qd3 at l;simp only[Bool.and_eq_true,Bool.not_eq_true',beq_eq_false_iff_ne] at l;obtain⟨_,⟨r,f⟩,g⟩:=l;rw[<-h a b d e] at f;rw[<-h b a e d] at g;rcases Nat.lt_or_ge b a with o|q
  ·have:=qdg (m:=m) d o (by unfold qqg;rw[f,g];rfl);rw[c] at this;cases this
  have:=qdg (m:=m) e (show a<b by omega) (by unfold qqg;rw[f,g];rfl);rw[c] at this;cases this
 symm;rw[Bool.not_eq_true'];unfold qa7 at c;rw[List.any_eq_true] at c;obtain⟨a,d,c⟩:=c;rw[List.any_eq_true] at c;obtain⟨b,e,c⟩:=c;have k:=List.mem_range.1 d;have p:=List.mem_range.1 e;unfold qqg at c;simp only[Bool.and_eq_true] at c;refine qfP (a:=a) (b:=b) k (by omega) ?_;unfold qd3;rw[<-h a b k (by omega),<-h b a (by omega) k,c.1,c.2,beq_eq_false_iff_ne.2 (show a≠b by omega)];simp
theorem ql0 (m:Nat->Nat->Bool)(a b k:Nat):ubB m a b k=ubB m b a k:=by unfold ubB;exact Bool.and_comm _ _
theorem qeg (n:Nat)(m:Nat->Nat->Bool)(a b:Nat):qa1 n m a b=qa1 n m b a:=by
 unfold qa1;congr 1;funext j;unfold qaK;rw[ql0];congr 2;funext k;rw[ql0]
theorem qdZ {a:Nat}(c:a<n)(d:m a a=true):qa1 n m a a=true:=by
 refine qdy c (qfw (by unfold ubB;rw[d];rfl) (fun k _ b => ?_));unfold ubB at b;simp only[Bool.and_eq_true] at b;exact b.1
theorem qml (h:∀i j,i<n->j<n->m i j=m' i j)(l:∀i,i<n->m' i i=true):qa6 n m=qb6 n m':=by
 have k:∀a b,a<n->b<n->qey n m a b=qb5 n m' a b:=fun a b c e=>by
  unfold qey qb5;rw[qcz h c e,qcz (fun i j q r=>h j i r q) c e]
 have t:∀a b,qb5 n m' a b=qb5 n m' b a:=fun a b=>by
  unfold qb5;rw[qeg,qeg n (fun i j=>m' j i)]
 have u:∀a,a<n->qb5 n m' a a=true:=fun a c=>by
  unfold qb5;rw[qdZ c (l a c),qdZ (m:=fun i j=>m' j i) c (l a c)];rfl
 cases d:qa6 n m
 ·symm;unfold qa6 at d;rw[List.all_eq_false] at d;obtain⟨a,c,d⟩:=d;rw[Bool.not_eq_true,List.all_eq_false] at d;obtain⟨b,e,d⟩:=d;have f:=List.mem_range.1 c;have v:=List.mem_range.1 e;exact qdM (a:=a) (b:=b) f (by omega) (by rw[<-k a b f (by omega)];exact Bool.not_eq_true _▸d)
 symm;refine qeV (fun a b c e => ?_);have g:∀a b,a<n->b<a->qb5 n m' a b=true:=fun a b c e=>by
  rw[<-k a b c (by omega)];exact List.all_eq_true.1 (List.all_eq_true.1 d a (List.mem_range.2 c)) b (List.mem_range.2 e)
 rcases Nat.lt_trichotomy a b with s|o|p
 ·rw[t];exact g b a e s
 ·subst o;exact u a c
 exact g a b c p

end
section
open Go.RowKit
def qg9 (c:Cfg):Bool:=qbx c.labels c.L&&qbC c.labels.toNat c.dflt&&qbC c.labels.toNat c.clr
def qbw (c:Cfg):Int :=
 if qg9 c=false then 1
 else if qbz c.labels.toNat (qaZ c.labels.toNat c.L)=false then 2
 else if qb6 c.labels.toNat (qaZ c.labels.toNat c.L)=false then 3
 else if qf4 c.inn c.out c.depth c.bytes=false then 4
 else if qaH c.B=false then 5
 else if 0<=qa3 c.labels.toNat c.pol.data.toList then 6 else 0
def qdN (c:Cfg):Int:=if qbw c=6 then qa3 c.labels.toNat c.pol.data.toList else 0
structure qir (w:World)(c:Cfg)(W:World):Prop where
 below:Below w.heap.size w W
 box:W.heap[w.heap.size]? = some (.cells c.arr 25)
theorem qir.step (h:qir w c W)(a:Below W.heap.size W W'):qir w c W' :=
 ⟨h.below.trans (a.mono h.below.size),(a.block _ (ltA h.box)).trans h.box⟩
theorem qhW (w:World)(c:Cfg):qir w c (w.alloc (.cells c.arr 25)):=⟨bwA,qac _ _⟩
theorem qir.cell (h:qir w c W)(j:Nat):W.cell? ⟨w.heap.size,j,none⟩=c.arr[j]?:=qab h.box j
theorem qir.cfg (h:qir w c W)(a:ql7 w c):ql7 W c:=a.below h.below
theorem qqX (c:Cfg)(w:World)(h:ql7 w c):Calls prog 12 #[.agg c.arr] w fun e d=>e=.returned (.bool (qbx c.labels c.L))/\Below w.heap.size w d:=by
 by_cases a:1<=c.labels/\c.labels<=6/\c.L.length<=30
 ·have e:qbx c.labels c.L=qaO c.labels.toNat c.L:=by unfold qbx;rw[decide_eq_true a];rfl
  rw[e];have b:((c.labels.toNat:Nat):Int)=c.labels:=Int.toNat_of_nonneg (by omega);exact qnB c.arr c.labels.toNat c.L c.ea c.ecap ⟨c.size,by rw[b];rfl,rfl⟩ (by omega) (by omega) a.2.2 w h.edges
 have e:qbx c.labels c.L=false:=by unfold qbx;rw[decide_eq_false a];rfl
 rw[e];exact qmk c.arr c.labels c.L c.ea c.ecap rfl rfl (by have:=h.eb;unfold maxLen;omega) w a
theorem qdO (h:qbx c.labels c.L=true):((c.labels.toNat:Nat):Int)=c.labels/\qi4 c.arr c.labels.toNat c.L c.ea c.ecap:=by
 unfold qbx at h;rw[Bool.and_eq_true] at h;have b:=of_decide_eq_true h.1;have a:((c.labels.toNat:Nat):Int)=c.labels:=Int.toNat_of_nonneg (by omega);exact⟨a,⟨⟨c.size,by rw[a];rfl,rfl⟩,by omega,b.2.2,h.2⟩⟩

def qyh (l:List UInt8):Value:=.string ⟨l.toArray⟩
theorem qyL (W:World)(F:Nat->Prop)(v:Value)(ks:List (List UInt8))(s:List UInt8)(h:qb1 W 9 1 F v ks.length (ks.map qyh))(L:ks.length<=200000000):Calls prog 104 #[v,.string ⟨s.toArray⟩] W fun e r=>e=.returned (.bool (decide (s∈ks)))/\r=W:=by
 obtain⟨R,f⟩:∃R,Hid (decide (s∈ks)=R):=⟨_,show _=_ from rfl⟩
 rw[f.out];obtain⟨a,i,rfl,p⟩:∃a i,v=.slice a ks.length i/\Hid (∀(j:Nat) (x:List UInt8),ks[j]? = some x->∃g,a=some ⟨g,0,none⟩/\W.cell? ⟨g,j,none⟩=some (qyh x)):=by
  obtain⟨E,w⟩:=h;rcases w with ⟨rfl,u⟩|⟨g,i,t,rfl,J,c,G,H,I,y⟩
  ·refine⟨none,0,by rw[u],fun j x b => ?_⟩;have:=ltL b;omega
  refine⟨_,i,rfl,fun j x b=>⟨g,rfl,?_⟩⟩;rw[qab c j];have K:=ltL b;have n:(t.toList.take (ks.length*1))[j]? = some (qyh x):=by rw[y,List.getElem?_map,b];rfl
  rw[List.getElem?_take_of_lt (by omega)] at n;simpa using n
 go_enter func104,ntmps104;go_wp2
 go_loopg [5] ks.length (fun g z wr=>wr=W/\∃k:Nat,z=.int .i64 k/\Hid (k+g=ks.length)/\Hid (decide (s∈ks.drop k)=R))
 case atStart=>exact⟨rfl,0,rfl,by show _=_;omega,f⟩
 case round =>
  obtain⟨rfl,k,rfl,c,f⟩:=hrel;have d:=f.out
  cases gk with
  |zero =>
   rw[List.drop_eq_nil_of_le (by have:=c.out;omega)] at d;have m:Hid (R=false):=by show _=_;rw[<-d];simp
   have B:¬(k:Int)<(ks.length:Int):=by have:=c.out;omega
   go_wp2;go_ret;rw[m.out];exact⟨rfl,rfl⟩
  |succ g =>
   have o:k<ks.length:=by have:=c.out;omega
   have B:(k:Int)<(ks.length:Int):=by omega
   obtain⟨x,b⟩:∃x,ks[k]? = some x:=⟨_,List.getElem?_eq_getElem o⟩
   obtain⟨D,rfl,A⟩:=p.out k x b;unfold qyh at A;rw[List.drop_eq_getElem_cons o,(List.getElem?_eq_some_iff.1 b).2] at d;by_cases l:x=s
   ·have m:Hid (R=true):=by show _=_;rw[<-d,l];simp
    have C:(x==s)=true:=by rw[l];exact beq_self_eq_true s
    go_wp2;go_ret;rw[m.out];exact⟨rfl,rfl⟩
   have q:Hid (decide (s∈ks.drop (k+1))=R):=by
    show _=_;rw[<-d];simp[List.mem_cons,Ne.symm l]
   have C:(x==s)=false:=by simpa using l
   go_wp2;go_roundg g
   case measure=>omega
   case rel=>exact⟨rfl,k+1,by go_num,by show _=_;have:=c.out;omega,q⟩

end
section
open Go.RowKit Go.Lib
theorem wop (hi:ops[i]? = some o)(b:o.guard=none)(h:o.upon prog a K Q ((execOp a.eval o).run prog w)):wpOp prog ops Q i K a w:=by
 unfold wpOp;rw[hi];simp only[Region.wanted,b,if_true];exact .inl h
theorem qzK (a:Act)(p:Nat)(y:Value)(h:p<a.tmps.size):(a.put (some p) y).eval (.tmp p)=y:=by
 simp[Act.put,Act.eval,Array.getD,h]
theorem qzh (a:Act)(i j:Nat)(u v:Value)(h:i≠j):(a.put (some i) u).put (some j) v=(a.put (some j) v).put (some i) u:=by
 simp only[Act.put];rw[Array.setIfInBounds_comm _ _ h]
theorem q0l (a:Act)(p:Nat)(y:Value):(a.put (some p) y).tmps.size=a.tmps.size:=by simp[Act.put]
theorem q2j (w:World)(g:Nat)(b:UInt8)(a:w.cell? ⟨g,0,none⟩=some (.int .u8 (b.toNat:Int))):(convert 66 9 (.slice (some ⟨g,0,none⟩) 1 1)).run prog w=.ok (.string ⟨#[b]⟩) w:=by
 refine run_convert_bytes_back _ 66 9 5 ⟨g,0,none⟩ 1 [b] underlying66 underlying5 underlying9 ?_;intro j c;obtain rfl:j=0:=by simpa using c
 exact a
theorem tri {S:World->Prop}{fuel:Nat}{listed:Array Bool}{oc ob ov:Oper}{args:Array Value}(c b v s p q:Nat)(f:FuncId)(r:Value)(u:UInt8)(z:ops[c]? = some oc/\ops[b]? = some ob/\ops[v]? = some ov)(L:(oc.guard,oc.dst,ob.guard,ob.dst,ov.guard,ov.dst,ov.op)=(none,some s,none,some p,none,some q,.convert 66 9 (.tmp p)))(M:((Region.ready .any ops listed).all (fun i=>i==c||i==b)&&(Region.ready .any ops (listed.setIfInBounds c true)).all (·==b)&&(Region.ready .any ops (listed.setIfInBounds b true)).all (fun i=>i==c||i==v)&&(Region.ready .any ops ((listed.setIfInBounds c true).setIfInBounds b true)).all (·==v)&&(Region.ready .any ops ((listed.setIfInBounds b true).setIfInBounds v true)).all (·==c) && !(Region.ready .any ops listed).isEmpty && !(Region.ready .any ops (listed.setIfInBounds c true)).isEmpty && !(Region.ready .any ops (listed.setIfInBounds b true)).isEmpty && !(Region.ready .any ops ((listed.setIfInBounds c true).setIfInBounds b true)).isEmpty && !(Region.ready .any ops ((listed.setIfInBounds b true).setIfInBounds v true)).isEmpty&&decide (c≠b/\c≠v/\b≠v/\s≠p/\s≠q/\p≠q/\p<a.tmps.size))=true)(C:∀y aa V,(execOp a.eval oc).run prog V=.ok (.enter f args) V/\(execOp (a.put (some p) y).eval oc).run prog V=.ok (.enter f args) V/\(execOp ((a.put (some p) y).put (some q) aa).eval oc).run prog V=.ok (.enter f args) V)(J:∀V,(execOp a.eval ob).run prog V=.ok (.value (.slice (some ⟨V.heap.size,0,none⟩) 1 1)) (V.alloc (.cells #[.int .u8 u.toNat] 5))/\(execOp (a.put (some s) r).eval ob).run prog V=.ok (.value (.slice (some ⟨V.heap.size,0,none⟩) 1 1)) (V.alloc (.cells #[.int .u8 u.toNat] 5)))(hC:∀V,Calls prog f args V fun e l=>e=.returned r/\Below V.heap.size V l)(o:∀V,Below w.heap.size w V->S V)(h:∀V y,Below w.heap.size w V->wpAnyH prog .any ops Q S fuel (((listed.setIfInBounds c true).setIfInBounds b true).setIfInBounds v true) (((a.put (some s) r).put (some p) y).put (some q) (.string ⟨#[u]⟩)) V):wpAnyH prog .any ops Q S (fuel+3) listed a w:=by
 simp only[Bool.and_eq_true,List.all_eq_true,Bool.or_eq_true,beq_iff_eq,decide_eq_true_eq,Bool.not_eq_true',List.isEmpty_eq_false_iff] at M;obtain⟨⟨⟨⟨⟨⟨⟨⟨⟨⟨r1,r2⟩,r3⟩,P⟩,r5⟩,n1⟩,n2⟩,n3⟩,N⟩,n5⟩,F,R,d3,G,T,d6,B⟩:=M;simp only[Prod.mk.injEq] at L;obtain⟨U,W,H,I,X,Y,Z⟩:=L;obtain⟨o1,O,o3⟩:=z;have x:∀{a':Act} {V:World} {K:Act->World->Prop},(execOp a'.eval oc).run prog V=.ok (.enter f args) V->(∀l,Below V.heap.size V l->K (a'.put (some s) r) l)->wpOp prog ops Q c K a' V:=fun {a' V K} e k=>by
  refine wop o1 U ?_;rw[e];refine(hC V).mono ?_;rintro e l ⟨rfl,d⟩;show K (a'.put oc.dst r) l;rw[W];exact k l d
 have A:∀{a':Act} {V:World} {K:Act->World->Prop} {g:Nat},a'.eval (.tmp p)=.slice (some ⟨g,0,none⟩) 1 1->V.cell? ⟨g,0,none⟩=some (.int .u8 (u.toNat:Int))->K (a'.put (some q) (.string ⟨#[u]⟩)) V->wpOp prog ops Q v K a' V:=fun {a' V K g} e k h=>by
  refine wop o3 X ?_;unfold execOp;simp only[Z,e,Sem.run_bind,q2j V g u k];show K (a'.put ov.dst _) V;rw[Y];exact h
 have cell:∀{V l:World},Below (V.heap.size+1) (V.alloc (.cells #[.int .u8 u.toNat] 5)) l->l.cell? ⟨V.heap.size,0,none⟩=some (.int .u8 (u.toNat:Int)):=fun {V l} d=>by
  rw[d.cell (p:=⟨V.heap.size,0,none⟩) (by simp)];exact qab (qac V _) 0
 have D:∀V:World,(V.alloc (.cells #[.int .u8 u.toNat] 5)).heap.size=V.heap.size+1:=fun V=>by simp
 have E:∀V:World,Below V.heap.size V (V.alloc (.cells #[.int .u8 u.toNat] 5)):=fun V=>bwA;refine wpAnyH_all rfl n1 fun i hi => ?_;rcases r1 i hi with rfl|rfl
 ·refine x (C undef undef w).1 fun V d=>⟨o V d,wpAnyH_all rfl n2 fun j n => ?_⟩
  obtain rfl:=r2 j n;refine wop O H ?_;rw[(J V).2];show S _/\_;rw[I];have m:=d.trans ((E V).mono d.size);refine⟨o _ m,wpAnyH_all rfl N fun j n => ?_⟩;obtain rfl:=P j n;exact A (qzK _ _ _ (by rw[q0l];exact B)) (cell (Below.refl _ _)) ⟨o _ m,h _ _ m⟩
 refine wop O H ?_;rw[(J w).1];show S _/\_;rw[I];have t:=E w;refine⟨o _ t,wpAnyH_all rfl n3 fun j n => ?_⟩;rcases r3 j n with rfl|rfl
 ·refine x (C _ undef _).2.1 fun V d => ?_;have m:=t.trans (d.mono (by rw[D];omega));rw[D] at d;rw[Array.setIfInBounds_comm _ _ F.symm,qzh _ _ _ _ _ G.symm];refine⟨o _ m,wpAnyH_all rfl N fun j n => ?_⟩;obtain rfl:=P j n;exact A (qzK _ _ _ (by rw[q0l];exact B)) (cell d) ⟨o _ m,h _ _ m⟩
 refine A (qzK _ _ _ B) (cell (Below.refl _ _)) ⟨o _ t,wpAnyH_all rfl n5 fun j n => ?_⟩
 obtain rfl:=r5 j n;refine x (C _ _ _).2.2 fun V d => ?_;have m:=t.trans (d.mono (by rw[D];omega));refine⟨o _ m,?_⟩;rw[qzh _ _ _ _ _ T.symm,qzh _ _ _ _ _ G.symm,Array.setIfInBounds_comm _ _ R.symm,Array.setIfInBounds_comm _ _ F.symm];exact h _ _ m
theorem q3g (h:Below W.heap.size W V)(k:Below V.heap.size {V with drawn:=V.drawn+1} V'):Below W.heap.size W V':=h.drew.trans (k.mono h.size)
theorem q0u:∀(k x:Nat),beF x (k+1)=beF (x / 256) k++[UInt8.ofNat (x%256)]
 |0,x=>by simp[beF]
 |k+1,x=>by
  rw[beF,q0u k x,beF,List.cons_append,Nat.div_div_eq_div_mul,show 256*2^(8*k)=2^(8*(k+1)) by rw[Nat.mul_succ,Nat.pow_add];omega]
theorem qyf (l m:List UInt8):(⟨l.toArray⟩:ByteArray)++⟨m.toArray⟩=⟨(l++m).toArray⟩:=by
 apply ByteArray.ext;simp
theorem w64 (x:Int)(h : -9223372036854775808<=x/\x<=9223372036854775807):IntKind.i64.wrap x=x:=(IntKind.wrap_i64 x).trans (by omega)
theorem w8 (x:Int)(h:0<=x/\x<=255):IntKind.u8.wrap x=x:=by
 unfold IntKind.wrap;simp only[IntKind.bits,IntKind.signed,Bool.false_and];rw[if_neg (by decide)];omega
theorem u8n (x:Nat)(h:x<256):(UInt8.ofNat x).toNat=x:=by rw[UInt8.toNat_ofNat',Nat.mod_eq_of_lt h]
theorem qzl (x:Nat):∀k,(beF x k).length=k
 |0=>rfl
 |k+1=>by rw[beF,List.length_cons,qzl x k]
theorem q0k:∀(k n:Nat) (W:World),n<=9223372036854775807->k<=8->Calls prog 54 #[.int .i64 n,.int .i64 k] W fun e i=>e=.returned (qyh (beF n k))/\Below W.heap.size W i
 |0,n,W,_,_=>by
  unfold qyh beF;go_enter func54,ntmps54;go_wp2;go_ret;exact⟨rfl,bwR⟩
 |k+1,n,W,hn,hk=>by
  have c:=fun V=>q0k k (n / 256) V (by omega) (by omega);obtain⟨u,b⟩:∃u,UInt8.ofNat (n%256)=u:=⟨_,rfl⟩
  have j:(n:Int).tdiv 256=((n / 256:Nat):Int):=by rw[Int.tdiv_eq_ediv_of_nonneg (by omega)];omega
  have l:(n:Int).tmod 256=((n%256:Nat):Int):=by rw[Int.tmod_eq_emod_of_nonneg (by omega)];omega
  have h:Hid (IntKind.u8.wrap ((n:Int).tmod 256)=(u.toNat:Int)):=by show _=_;rw[<-b,u8n _ (by omega),l,w8 _ (by omega)]
  have g:Hid (IntKind.i64.wrap ((n:Int).tdiv 256)=((n / 256:Nat):Int)):=by show _=_;rw[j,w64 _ (by omega)]
  have f:Hid (IntKind.i64.wrap (((k+1:Nat):Int)-1)=(k:Int)):=by show _=_;rw[w64 _ (by omega)];omega
  have o:(((k+1:Nat):Int)==0)=false:=by simp;omega
  have d:Hid (beF n (k+1)=beF (n / 256) k++[u]):=by show _=_;rw[q0u,b]
  have p:¬((beF (n / 256) k).length+1>9223372036854775807):=by rw[qzl];omega
  rw[d.out];generalize ((k+1:Nat):Int)=k1 at *;go_enter func54,ntmps54
  go_wp2_with fail
  refine rgn (S:=fun _=>True) trivial (by kernel_rfl) ?_;intro a;refine tkk 0 7 (.int .i64 n) (by kernel_rfl) iQ3 a ?_;refine tk 1 8 (.int .i64 ((n / 256:Nat):Int)) rfl (by kernel_rfl) iQ3 (fun Z _ => ?y1) a ?_
  case y1=>(go_simp;exact g.out)
  refine tkk 2 9 (.int .i64 k1) (by kernel_rfl) iQ3 a ?_;refine tk 3 10 (.int .i64 k) rfl (by kernel_rfl) iQ3 (fun Z _ => ?y2) a ?_
  case y2=>(go_simp;exact f.out)
  refine tkk 5 12 (.int .i64 n) (by kernel_rfl) iQ3 a ?_;refine tk 6 13 (.int .i64 ((n:Int).tmod 256)) rfl (by kernel_rfl) iQ3 (fun Z _ => ?y3) a ?_
  case y3=>go_simp
  refine tk 7 14 (.int .u8 u.toNat) rfl (by kernel_rfl) iQ3 (fun Z _ => ?y4) a ?_
  case y4=>(go_simp;exact h.out)
  refine tri 4 8 9 11 15 16 54 (qyh (beF (n / 256) k)) u ⟨rfl,rfl,rfl⟩ rfl (by kernel_rfl) (fun _ _ _=>⟨by kernel_rfl,by kernel_rfl,by kernel_rfl⟩) (fun _=>⟨by kernel_rfl,by kernel_rfl⟩) c (fun _ _=>trivial) (fun V y m => ?_);refine tk 10 17 (qyh (beF (n / 256) k++[u])) rfl (by kernel_rfl) iQ3 (fun Z _ => ?y5) a ?_
  case y5=>(unfold qyh;go_simp;exact qyf _ [u])
  refine tkk 11 4 (qyh (beF (n / 256) k++[u])) (by kernel_rfl) iQ3 a ?_;refine wpAnyH_done (by kernel_rfl) ?_ _;go_wp2;go_ret;exact⟨rfl,(bwR (w:=W)).drew.trans m⟩

def ixN (n:Nat):Nat:=if n<256 then 0 else if n<65536 then 1 else if n<4294967296 then 2 else 3
theorem q2L (n:Nat):ixN n<=3:=by
 unfold ixN;split
 ·omega
 split
 ·omega
 split<;>omega
theorem q1c (W:World)(n:Int):Calls prog 52 #[.int .i64 n] W fun e f=>e=.returned (.int .i64 ((2^ixN n.toNat:Nat):Int))/\Below W.heap.size W f:=by
 have h:(n<256/\Hid (ixN n.toNat=0))\/(¬n<256/\n<65536/\Hid (ixN n.toNat=1))\/(¬n<256/\¬n<65536/\n<4294967296/\Hid (ixN n.toNat=2))\/(¬n<256/\¬n<65536/\¬n<4294967296/\Hid (ixN n.toNat=3)):=by
  unfold ixN Hid;by_cases a:n<256
  ·exact .inl ⟨a,if_pos (by omega)⟩
  by_cases b:n<65536
  ·exact .inr (.inl ⟨a,b,by rw[if_neg (by omega),if_pos (by omega)]⟩)
  by_cases c:n<4294967296
  ·exact .inr (.inr (.inl ⟨a,b,c,by rw[if_neg (by omega),if_neg (by omega),if_pos (by omega)]⟩))
  exact .inr (.inr (.inr ⟨a,b,c,by rw[if_neg (by omega),if_neg (by omega),if_neg (by omega)]⟩))
 rcases h with ⟨a,d⟩|⟨a,b,d⟩|⟨a,b,c,d⟩|⟨a,b,c,d⟩
 all_goals
  go_enter func52,ntmps52;go_wp2;go_ret;rw[d.out];exact⟨rfl,bwR⟩
theorem q1m {j m:Nat}(h:j<=m)(a:m<=3):1<=2^j/\2^j<=8:=by
 rcases(show j=0\/j=1\/j=2\/j=3 by omega) with rfl|rfl|rfl|rfl<;>decide

end
end Go.Proofs.YtcokgepdckkjdaaGreatDoor
