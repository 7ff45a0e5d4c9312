import Derived.Lib.LaidU8T
import Derived.PinnedBridge
import Derived.Test.YtmajcjammmjimaaGreatDoorCq12
import Derived.Test.YtmajcjammmjimaaGreatDoorCq09
import Derived.Test.YtmajcjammmjimaaGreatDoorCq13
set_option maxRecDepth 100000
set_option maxHeartbeats 8000000
set_option linter.all false
namespace Go.Proofs.YtmajcjammmjimaaGreatDoor
open Go.Proofs.Tryz
variable{B C V V' W W' W0 w:World}{sp:Nat->Bool}{A N base fuel i lm m mn n t u:Nat}{cs:List Value}{b bs cur l:List UInt8}{P:Program}{sv v v':Value}{s:ByteArray}{o:Oper}{ev:Operand->Value}{a:Act}{K:Act->World->Prop}{Q:Exit->Act->World->Prop}{ops:Array Oper}{q:Aut}{sts:List ((Nat->Nat)×Int×Int)}{mf nf:Lit->Option Nat}{ks:List (List UInt8)}
section
open Go.RowKit Go.Deep Go.Shelf Go.Lib
def q0G:Cfg:=⟨0,[],none,0,0,ByteArray.empty,0,0,0,0,0,0,[],none,0⟩
section
variable{H:Type} {enc:TypeId×Value->H} {w:World}
end
theorem Tryz.gSignsT:(prog.globals[2]?).map (·.type)=some 226:=by kernel_rfl
theorem Tryz.x8:U8Extra prog Tryz.lays196_ren:=⟨by kernel_rfl,by kernel_rfl,by kernel_rfl,by kernel_rfl,by kernel_rfl,by kernel_rfl,by kernel_rfl⟩
theorem qkb:prog.cellsOf 225=2:=by kernel_rfl
theorem qqU:prog.cellsOf 181=1:=by kernel_rfl
theorem qoW:prog.cellsOf 226=6:=by kernel_rfl
theorem qmk{held:Bool}{k:Int}{p:List MemPlace}(h:DataW.trod (λ_=>()) prog W 0 sp held fuel 225 cs=some (.agg [.lit (.string b),.lit (.int .i64 k)],p)):cs=[.string ⟨b.toArray⟩,.int .i64 k]:=by
 obtain⟨s,n,_,f,e,m,d⟩:=kcH underlying225 h;rw[qkb]at e;have o:s.length=2:=m;obtain⟨j,l,rfl⟩:=qs2 e;obtain⟨t,u,rfl⟩:=qs2 o;have g:DataW.trod (λ_=>()) prog W 0 sp held n 9 (([j,l].drop 0).take (prog.cellsOf 9))=some t:=d 0 _ rfl;have i:DataW.trod (λ_=>()) prog W 0 sp held n 181 (([j,l].drop 1).take (prog.cellsOf 181))=some u:=d 1 _ rfl;rw[qn2]at g;rw[qqU]at i;obtain⟨v,a,q⟩:=kdZ underlying9 g;obtain⟨w,c,r⟩:=kbq underlying181 i;simp at a c;subst a c;obtain⟨rfl,_⟩:=q;obtain⟨rfl,_⟩:=r;simp only[kaH,kb8,Prod.mk.injEq,DataW.agg.injEq,List.cons.injEq,DataW.lit.injEq,Lit.string.injEq,Lit.int.injEq,and_true,true_and]at f;obtain⟨⟨rfl,rfl⟩,_⟩:=f;simp
theorem quZ{H:Type}{enc:TypeId×Value->H}{held:Bool}{t e:TypeId}{x:DataW H×List MemPlace}(a:P.underlying t=some (.array n e))(h:DataW.trod enc P w base sp held fuel t cs=some x):cs.length=P.cellsOf t:=by
 cases fuel with
 |zero=>simp[DataW.trod]at h
 |succ fuel =>
  simp only[DataW.trod,a]at h;split at h
  ·next hh=>simpa using hh
  cases h
theorem six(d:cs.length=6){a0 a1 b0 b1 c0 c1:Value}(a:(cs.drop (0*2)).take 2=[a0,a1])(b:(cs.drop (1*2)).take 2=[b0,b1])(c:(cs.drop (2*2)).take 2=[c0,c1]):cs=[a0,a1,b0,b1,c0,c1]:=by
 match cs,d with
 |[x0,x1,x2,x3,x4,x5],_ =>
  simp at a b c;obtain⟨rfl,rfl⟩:=a;obtain⟨rfl,rfl⟩:=b;obtain⟨rfl,rfl⟩:=c;rfl
theorem qqr(q:laidMetH prog Rows.clearedRow.laid W)(r:W.ShapedOpen prog):qmS W:=by
 have c:laidMet prog Rows.clearedRow.laid W:=q;refine⟨?_,?_,Tryz.laysM145.s1_3 W r⟩
 ·obtain⟨g,t,cs,l,p,f,z,a,v⟩:=laidMet.reads c (d:=Rows.laid_redact_policy_signs) (.tail _ (.tail _ (.tail _ (.tail _ (.tail _ (.tail _ (.head _)))))));obtain rfl:g=2:=kaE (f.symm.trans (by kernel_rfl));obtain rfl:=kaE (Tryz.gSignsT.symm.trans z);have b:DataW.trod (λ_=>()) prog W 0 (λ_=>true) false l 226 cs.toList=some (.agg [.agg [.lit (.string [42]),.lit (.int .i64 0)],.agg [.lit (.string [42,42]),.lit (.int .i64 1)],.agg [.lit (.string [91,93]),.lit (.int .i64 2)]],p):=v;obtain⟨D,A,q0,w,m⟩:=array_elem underlying226 b 0 (by omega);obtain⟨f1,B,q1,x,n⟩:=array_elem underlying226 b 1 (by omega);obtain⟨E,C,F,y,o⟩:=array_elem underlying226 b 2 (by omega);cases w;cases x;cases y;have i:=qmk m;have j:=qmk n;have k:=qmk o;rw[qkb]at i j k;have s:=(quZ underlying226 b).trans qoW;have u:=six s i j k;unfold World.var? at a;rw[f]at a;simp only[kel]at a;split at a
  ·next cs' t fr hh =>
   cases a;refine⟨t,fr,?_⟩;rw[hh];have:cs=[Value.string ⟨[42].toArray⟩,.int .i64 0,.string ⟨[42,42].toArray⟩,.int .i64 1,.string ⟨[91,93].toArray⟩,.int .i64 2].toArray:=by rw[<-u]
   rw[this]
  cases a
 refine utf8Tabs_of_readsT (U8Types.of196 Tryz.lays196) Tryz.x8 ?_ ?_
 ·rw[<-Pinned.utf8First_eq];exact laidMet.reads c (.tail _ (.tail _ (.tail _ (.tail _ (.tail _ (.tail _ (.tail _ (.head _))))))))
 have e:(Rows.laid_unicode_utf8_acceptRanges:DataW Unit)=acceptData:=by kernel_rfl
 have h:=laidMet.reads c (d:=Rows.laid_unicode_utf8_acceptRanges) (.tail _ (.tail _ (.tail _ (.head _))));rw[e]at h;exact h

end
section
open Go.RowKit Go.Lib
def wmF(s b:Nat):Nat:=((s^^^b)*1099511628211)%18446744073709551616
theorem qkX(s b:Nat):wmF s b<18446744073709551616:=kd8 _ (by decide)
theorem qzH(a b:Nat)(e:a<18446744073709551616)(f:b<18446744073709551616):bits .xor .u64 (a:Int) (b:Int)=((a^^^b:Nat):Int):=by
 have h:(BitVec.ofNat 64 a^^^BitVec.ofNat 64 b).toNat=a^^^b:=by
  rw[BitVec.toNat_xor,kbr,kbr,kaQ (by omega),kaQ (by omega)]
 have c:BitVec.ofInt 64 (a:Int)=BitVec.ofNat 64 a:=kbK ..;have d:BitVec.ofInt 64 (b:Int)=BitVec.ofNat 64 b:=kbK ..;show IntKind.u64.wrap ((BitVec.ofInt 64 (a:Int)^^^BitVec.ofInt 64 (b:Int)).toNat:Int)=_;have g:a^^^b<2^64:=Nat.xor_lt_two_pow (by omega) (by omega);rw[c,d,h];unfold IntKind.wrap;simp[IntKind.bits,IntKind.signed];omega
theorem qwX(x:Nat):IntKind.u64.wrap ((x:Int)*1099511628211)=(((x*1099511628211)%18446744073709551616:Nat):Int):=by
 unfold IntKind.wrap;simp[IntKind.bits,IntKind.signed]
theorem qjk(s b:Nat)(c:s<18446744073709551616)(d:b<256)(W:World):Calls prog 121 #[.int .u64 s,.int .u8 b] W λe a=>e=.returned (.int .u64 (wmF s b))/\a=W:=by
 have f:=qzH s b c (by omega);go_enter func121,ntmps121;go_wp2;rw[qwX];go_ret;exact⟨rfl,rfl⟩

def qeY(x:Nat):UInt8:=[48,49,50,51,52,53,54,55,56,57,97,98,99,100,101,102].getD x 0
def qjQ(r:Nat):List UInt8:=if r=34\/r=92 then[92,UInt8.ofNat r]else if r<32 then[92,117,48,48,qeY (r/16),qeY (r%16)]else qbP r
def qdC:Nat->List UInt8->List UInt8
 |0,_=>[]
 |_+1,[]=>[]
 |g+1,b::t=>qjQ (decodeL (b::t)).1++qdC g ((b::t).drop (decodeL (b::t)).2)
def jsT(l:List UInt8):List UInt8:=[34]++qdC l.length l++[34]
theorem qhl{b:Nat}(h:Own W b v bs)(c:Below W.heap.size W W'):Own W' b v bs:=by
 refine⟨⟨h.1.1,?_⟩,kaj h.2.1 c.size,h.2.2⟩;rcases h.1.2 with a|⟨g,e,f,a,i,d,j⟩
 ·exact .inl a
 exact .inr ⟨g,e,f,a,i,(c.block g (ltA d)).trans d,j⟩
theorem qjW(g:Nat):qdC g []=[]:=by cases g<;>rfl
def KpU(W V:World):Prop:=∀(k:Nat) (cs:Array Value) (t:TypeId) (fr:Nat×Nat),W.heap[k]?=some (.cells cs t fr)->t≠5->V.heap[k]?=some (.cells cs t fr)
theorem KpU.refl(W:World):KpU W W:=by intro k cs t a h _;exact h
theorem KpU.trans{A:World}(h:KpU A B)(g:KpU B C):KpU A C:=by intro k cs t a c b;exact g k cs t a (h k cs t a c b) b
theorem qeI(W:World)(o:Obj):KpU W (W.alloc o):=by intro k cs t b a _;exact(kae _ _ _ (ltA a)).trans a
theorem qeW{xs:List Value}(j:W.ownsRow base 5 1 v n xs)(i:W.grownBy V v.ownBlock):KpU W V:=by
 intro k cs t m d h;refine(i.block k (ltA d) (λe=>?_)).trans d;rcases j.2 with⟨b,_⟩|⟨g,l,c,b,_,a,_⟩
 ·rw[b]at e;cases e
 rw[b]at e;injection e with e;have f:k=g:=e;rw[<-f,d]at a;injection a with a;injection a with _ a _;exact h a
structure qip(base:Nat)(W:World)(N:Nat)(s:ByteArray)(i:Nat)(v:Value)(cur:List UInt8)(V:World):Prop where
 own:Own V base v cur
 it:V.heap[N]?=some (.stringIter s i)
 below:Below base W V
 lo:base<=N
 kp:KpU W V
theorem qip.ne(h:qip base W N s i v cur V):some N≠v.ownBlock:=by
 intro e;rcases h.own.1.2 with⟨a,_⟩|⟨g,f,c,a,_,b,_⟩
 ·rw[a]at e;cases e
 rw[a]at e;injection e with e;have d:N=g:=e;rw[<-d,h.it]at b;cases b
theorem qip.app{o:Obj}(h:qip base W N s i v cur V)(d:V'.ownsRow base 5 1 v' (cur.length+l.length) (cur.map qax++l.map qax))(a:(V.alloc o).grownBy V' v.ownBlock):qip base W N s i v' (cur++l) V':=by
 have b:=qa4 ((kam base V).alloc h.own.2.1 _) (h.own.1.alloc _) a (by have:=h.own.2.1;simp;omega);have f:=ltA h.it;refine⟨⟨by rw[kaa,kaW];exact d,kaj h.own.2.1 b.size,?_⟩,(a.block N (by simp;omega) h.ne).trans ((kae _ _ _ f).trans h.it),h.below.trans b,h.lo,h.kp.trans ((qeI V o).trans (qeW (h.own.1.alloc o) a))⟩;rcases d.2 with⟨e,_⟩|⟨g,j,c,e,_⟩
 ·exact⟨none,0,0,e⟩
 exact⟨_,_,_,e⟩
theorem qip.appS(h:qip base W N s i v cur V)(d:V'.ownsRow base 5 1 v' (cur.length+(⟨l.toArray⟩:ByteArray).size) (cur.map qax++strCells ⟨l.toArray⟩))(a:V.grownBy V' v.ownBlock):qip base W N s i v' (cur++l) V':=by
 obtain⟨b,c⟩:=qaQ h.own d a;exact⟨b,(a.block N (ltA h.it) h.ne).trans h.it,h.below.trans c,h.lo,h.kp.trans (qeW h.own.1 a)⟩
theorem qip.next(h:qip base W N s i v cur V)(j:Nat):qip base W N s j v cur (V.putObj N (.stringIter s j)):=by
 have o:=ltA h.it;have q:=h.ne;refine⟨⟨⟨h.own.1.1,?_⟩,by simpa[World.putObj]using h.own.2.1,h.own.2.2⟩,by simp[World.putObj,o],qb8 h.below h.lo _,h.lo,?hkp⟩
 case hkp =>
  intro k cs t l r u;have b:=h.kp k cs t l r u;refine((grownBy_putObj' V N (.stringIter s j)).block k (ltA b) (λe=>?_)).trans b;injection e with e;rw[e,h.it]at b;cases b
 rcases h.own.1.2 with a|⟨g,f,c,a,m,d,n⟩
 ·exact .inl a
 refine .inr ⟨g,f,c,a,m,?_,n⟩;have p:g≠N:=by
  rintro rfl;exact q (by rw[a];rfl)
 exact((grownBy_putObj' V N (.stringIter s j)).block g (ltA d) (by simpa using p)).trans d
theorem qip.drew(h:qip base W N s i v cur V):qip base W N s i v cur V.drew:=⟨h.own,h.it,h.below.drew,h.lo,h.kp⟩
theorem quL(x:Nat)(a:x<16)(V:World):(Instr.index 9 (.string ⟨#[48,49,50,51,52,53,54,55,56,57,97,98,99,100,101,102]⟩) (.int .i32 x)).run prog V=.ok (qax (qeY x)) V:=by
 have h:x=0\/x=1\/x=2\/x=3\/x=4\/x=5\/x=6\/x=7\/x=8\/x=9\/x=10\/x=11\/x=12\/x=13\/x=14\/x=15:=by omega
 rcases h with rfl|rfl|rfl|rfl|rfl|rfl|rfl|rfl|rfl|rfl|rfl|rfl|rfl|rfl|rfl|rfl<;>(show _=_;kernel_rfl)
theorem qvK(r:Nat)(a:r<32):bits .and .i32 (r:Int) 15=((r%16:Nat):Int):=by
 have h:r=0\/r=1\/r=2\/r=3\/r=4\/r=5\/r=6\/r=7\/r=8\/r=9\/r=10\/r=11\/r=12\/r=13\/r=14\/r=15\/r=16\/r=17\/r=18\/r=19\/r=20\/r=21\/r=22\/r=23\/r=24\/r=25\/r=26\/r=27\/r=28\/r=29\/r=30\/r=31:=by omega
 rcases h with rfl|rfl|rfl|rfl|rfl|rfl|rfl|rfl|rfl|rfl|rfl|rfl|rfl|rfl|rfl|rfl|rfl|rfl|rfl|rfl|rfl|rfl|rfl|rfl|rfl|rfl|rfl|rfl|rfl|rfl|rfl|rfl<;>(show _=_;kernel_rfl)
theorem qmO(a:TypeId)(x y:Operand)(b:o.op=.index a x y){X Y:Value}(c:ev x=X)(d:ev y=Y)(h:(Instr.index a X Y).run P W=.ok v W):(execOp ev o).run P W=.ok (.value v) W:=by
 unfold execOp;simp only[b,c,d,kbb,h,kaJ];rfl
theorem qp6(a b:UInt8)(V:World):(Instr.buildSlice 27 2 #[(0,qax a),(1,qax b)]).run prog V=.ok (.slice (some ⟨V.heap.size,0,none⟩) 2 2) (V.alloc (.cells #[qax a,qax b] 5)):=by kernel_rfl
theorem qmv(x y:Operand)(b:o.op=.buildSlice 27 2 #[(0,x),(1,y)])(p q:UInt8)(c:a.eval x=qax p)(d:a.eval y=qax q)(h:K (a.put o.dst (.slice (some ⟨w.heap.size,0,none⟩) 2 2)) (w.alloc (.cells #[qax p,qax q] 5))):o.wp prog a w K Q:=by
 have e:(#[(0,x),(1,y)].map λ(i,y)=>(i,a.eval y))=#[((0:Nat),qax p),(1,qax q)]:=by simp[c,d]
 unfold Oper.wp execOp;simp only[b,kbb,e,qp6,kaJ];exact h

theorem qxy(W:World)(f:W.cell? ⟨8,15,none⟩=some (.int .u8 4)):Calls prog 159 #[.int .u64 16] W λe a=>e=.returned (.int .i64 4)/\a=W:=by
 have b:IntKind.u64.wrap (-16)=18446744073709551600:=by kernel_rfl
 have c:bits .and .u64 16 18446744073709551600=16:=by kernel_rfl
 have d:IntKind.u64.wrap (16*285870213051353865)=4573923408821661840:=by kernel_rfl
 go_enter func159,ntmps159;go_wp2;go_ret;exact⟨rfl,rfl⟩
theorem qpX(W:World)(b:W.cell? ⟨8,15,none⟩=some (.int .u8 4)):Calls prog 143 #[.int .u64 16] W λe a=>e=.returned (.int .i64 4)/\a=W:=by
 have c:=qxy W b;go_enter func143,ntmps143
 go_wp2_with(first|(go_at_call 159;refine c.mono ?_;rintro e d ⟨rfl,rfl⟩))
 go_ret;exact⟨rfl,rfl⟩
theorem qtl(W:World):Calls prog 142 #[.int .i64 16] W λe a=>e=.returned (.bool true)/\a=W:=by
 have b:bits .and .i64 16 15=0:=by kernel_rfl
 go_enter func142,ntmps142;go_wp2;go_ret;exact⟨rfl,rfl⟩
def hxL(u:Nat):List UInt8:=if u<16 then[qeY u]else hxL (u/16)++[qeY (u%16)]
theorem qpl(h:u<16):hxL u=[qeY u]:=by rw[hxL,kag h]
theorem quH(h:¬u<16):hxL u=hxL (u/16)++[qeY (u%16)]:=by rw[hxL,kac h]
theorem qmA:∀(k u:Nat),u<16^(k+1)->(hxL u).length<=k+1
 |0,u,h=>by rw[qpl (by simpa using h)];simp
 |k+1,u,h=>by
  by_cases a:u<16
  ·rw[qpl a];simp
  rw[quH a,kaa];have b:u/16<16^(k+1):=by
   rw[kd5 (by omega)];rw[kce]at h;exact h
  have:=qmA k (u/16) b;simp;omega
structure qse(W:World)(tl:List UInt8)(V:World):Prop where
 below:Below W.heap.size W V
 arr:V.heap[W.heap.size]?=some (.cells ((List.replicate (65-tl.length) (0:UInt8)++tl).map qax).toArray 255)
 le:tl.length<=65

end
section
open Go.RowKit
theorem Own.mono{b b':Nat}(h:Own W b v bs)(l:b'<=b):Own W b' v bs:=by
 obtain⟨⟨f,a⟩,k,i⟩:=h;refine⟨⟨f,?_⟩,by omega,i⟩;rcases a with a|⟨g,c,d,e,m,j⟩
 ·exact .inl a
 exact .inr ⟨g,c,d,e,by omega,j⟩
structure qoS(V:World)(p:Nat)(fin d l:Int)(bv:Value):Prop where
 b0:Boxed V p 3 (.int .i64 fin)
 b1:Boxed V (p+1) 3 (.int .i64 d)
 b2:Boxed V (p+2) 3 (.int .i64 l)
 b3:Boxed V (p+3) 27 bv
def trW(W:World)(fin d l:Int)(bv:Value):World:=(((W.alloc (.cells #[.int .i64 fin] 3)).alloc (.cells #[.int .i64 d] 3)).alloc (.cells #[.int .i64 l] 3)).alloc (.cells #[bv] 27)
theorem qwR(W:World)(a d l:Int)(b:Value):qoS (trW W a d l b) W.heap.size a d l b:=by
 unfold trW;refine⟨(((Boxed.new W _ _).alloc _).alloc _).alloc _,?_,?_,?_⟩
 ·have:=Boxed.new (W.alloc (.cells #[.int .i64 a] 3)) 3 (.int .i64 d);simp only[kad]at this;exact(this.alloc _).alloc _
 ·have:=Boxed.new ((W.alloc (.cells #[.int .i64 a] 3)).alloc (.cells #[.int .i64 d] 3)) 3 (.int .i64 l);simp only[kad]at this;exact this.alloc _
 have:=Boxed.new (((W.alloc (.cells #[.int .i64 a] 3)).alloc (.cells #[.int .i64 d] 3)).alloc (.cells #[.int .i64 l] 3)) 27 b;simp only[kad]at this;exact this
theorem qrz(W:World)(b d l:Int)(a:Value):Below W.heap.size W (trW W b d l a):=by
 unfold trW;exact(((bwA).alloc (by simp) _).alloc (by simp;omega) _).alloc (by simp;omega) _
theorem qoS.below{p:Nat}{fin d l:Int}{bv:Value}(h:qoS V p fin d l bv)(a:Below V.heap.size V V'):qoS V' p fin d l bv :=
 ⟨(a.block _ h.b0.lt).trans h.b0,(a.block _ h.b1.lt).trans h.b1,(a.block _ h.b2.lt).trans h.b2,(a.block _ h.b3.lt).trans h.b3⟩
theorem qrE(V:World)(c:Int)(t:TypeId)(y:Value)(d:List UInt8)(l:(c==1)=false)(f:Calls prog 34 #[.int .i64 c,.iface t y] V λe a=>∃b,e=.returned b/\Own a V.heap.size b d/\Below V.heap.size V a):Calls prog 14 #[.int .i64 c,.iface t y] V λe a=>∃b,e=.returned (.tuple #[b,.int .i64 0])/\Own a V.heap.size b d/\Below V.heap.size V a:=by
 go_enter func14,ntmps14
 go_wp2_with(first
  |(go_at_call 34;refine f.mono ?_;rintro e p ⟨o,rfl,g,j⟩;obtain⟨h,i,k,n,m,rfl⟩:=g))
 go_ret2
 exact⟨_,rfl,⟨h,i,_,_,_,rfl⟩,j⟩
theorem qol(V:World)(t:TypeId)(y:Value)(d:List UInt8)(g:Calls prog 33 #[.iface t y] V λe f=>e=.returned (.bool false)/\Below V.heap.size V f)(h:∀U,Below V.heap.size V U->Calls prog 34 #[.int .i64 1,.iface t y] U λe a=>∃b,e=.returned b/\Own a V.heap.size b d/\Below V.heap.size U a):Calls prog 14 #[.int .i64 1,.iface t y] V λe a=>∃b,e=.returned (.tuple #[b,.int .i64 0])/\Own a V.heap.size b d/\Below V.heap.size V a:=by
 go_enter func14,ntmps14
 go_wp2_with(first
  |(go_at_call 33;refine g.mono ?_;rintro e n ⟨rfl,c⟩;have i:=h n c)
  |(go_at_call 34;refine i.mono ?_;rintro e s ⟨r,rfl,j,m⟩;obtain⟨k,l,o,q,p,rfl⟩:=j))
 go_ret2
 exact⟨_,rfl,⟨k,l,_,_,_,rfl⟩,c.trans m⟩
theorem qnS(V:World)(t:TypeId)(y:Value)(c:Calls prog 33 #[.iface t y] V λe b=>e=.returned (.bool true)/\Below V.heap.size V b):Calls prog 14 #[.int .i64 1,.iface t y] V λe a=>e=.returned (.tuple #[.slice none 0 0,.int .i64 13])/\Below V.heap.size V a:=by
 go_enter func14,ntmps14
 go_wp2_with(first
  |(go_at_call 33;refine c.mono ?_;rintro e f ⟨rfl,d⟩))
 go_ret2
 exact⟨rfl,d⟩

theorem qee(w:World)(g o:Nat)(a:TypeId)(O:Array Value)(d:TypeDesc)(h:∀(j:Nat) (u:Value),O[j]?=some u->w.cell? ⟨g,o+j,none⟩=some u)(l:P.underlying a=some d)(n:(match d with|.struct _|.array _ _=>true|_=>false)=true)(hi:(P.info? a).map (·.size)=some O.size):(loadVar a ⟨g,o,none⟩).run P w=.ok (.agg O) w:=by
 have c:(loadCells ⟨g,o,none⟩ O.toList.length).run P w=.ok O.toList.toArray w :=
  run_loadCells_list (P:=P) w ⟨g,o,none⟩ O.toList (λj u m=>by
   have e:(⟨g,o,none⟩:Addr).add j=⟨g,o+j,none⟩:=by unfold Addr.add;split<;>simp_all
   rw[e];exact h j u (by simpa using m))
 cases b:P.info? a with
 |none=>simp[b]at hi
 |some i =>
  have k:i.size=O.size:=by simpa[b]using hi
  have f:(isAgg a).run P w=.ok true w:=by
   unfold isAgg;rw[kbb,kc3 l w];cases d<;>simp_all
  simp only[ka8,kdA]at c;simp[loadVar,kbb,f,sizeOf,typeInfo,b,k,c]
theorem qi4(b:TypeId)(x:Operand)(f:o.op=.load b x)(g k:Nat)(l:a.eval x=.pointer (some ⟨g,k,none⟩))(O:Array Value)(d:TypeDesc)(c:∀(j:Nat) (u:Value),O[j]?=some u->w.cell? ⟨g,k+j,none⟩=some u)(i:P.underlying b=some d)(e:(match d with|.struct _|.array _ _=>true|_=>false)=true)(hi:(P.info? b).map (·.size)=some O.size)(h:K (a.put o.dst (.agg O)) w):o.wp P a w K Q:=by
 unfold Oper.wp execOp;simp only[f,l,Instr.loadAt,Instr.sureAddr,kbb,kby,kaJ,qee w g k b O d c i e hi];exact h
theorem qeg{rest:List Oper}(b:TypeId)(x:Operand)(l:o.op=.load b x)(i:Region.wanted o (yielded ops a.tmps)=true)(g k:Nat)(n:a.eval x=.pointer (some ⟨g,k,none⟩))(O:Array Value)(d:TypeDesc)(e:∀(j:Nat) (u:Value),O[j]?=some u->w.cell? ⟨g,k+j,none⟩=some u)(m:P.underlying b=some d)(f:(match d with|.struct _|.array _ _=>true|_=>false)=true)(hi:(P.info? b).map (·.size)=some O.size)(h:wpList P ops Q rest (a.put o.dst (.agg O)) w):wpList P ops Q (o::rest) a w :=
 wpList_step λK c=>by rw[kag i];exact qi4 b x l g k n O d e m f hi (c _ _ h)
theorem qxG(a:TypeId)(x:Operand)(e:o.op=.load a x)(g k:Nat)(h:ev x=.pointer (some ⟨g,k,none⟩))(O:Array Value)(d:TypeDesc)(b:∀(j:Nat) (u:Value),O[j]?=some u->W.cell? ⟨g,k+j,none⟩=some u)(f:P.underlying a=some d)(c:(match d with|.struct _|.array _ _=>true|_=>false)=true)(hi:(P.info? a).map (·.size)=some O.size):(execOp ev o).run P W=.ok (.value (.agg O)) W:=by
 unfold execOp;simp only[e,h,Instr.loadAt,Instr.sureAddr,kbb,kby,kaJ,qee W g k a O d b f c hi]
theorem qu6(x:(Nat->Nat)×Int×Int):stC x=(stA x.1 x.2).toList:=by simp[stC,stA]
theorem qgx(Y:Nat->Nat)(x:Int×Int):(stA Y x).size=18:=by simp[stA,qcc]
theorem qwa(Y:Nat->Nat)(x:Int×Int):(stA Y x).all (·.oneCell')=true:=by rw[<-Array.all_toList,ka3];exact qpM Y x
theorem qvI(a:List ((Nat->Nat)×Int×Int)):∀(i j:Nat) (x:(Nat->Nat)×Int×Int),a[i]?=some x->j<18->(a.flatMap stC)[i*18+j]?=(stA x.1 x.2)[j]?:=by
 induction a with
 |nil=>intro i j x h;simp at h
 |cons y f d =>
  intro i j x h b;have c:(stC y).length=18:=by rw[qu6,ka8,qgx]
  rw[kaZ]
  cases i with
  |zero =>
   have e:y=x:=by simpa using h
   subst e;rw[kau (by omega),qu6];simp
  |succ i =>
   rw[kas (by omega),c,show(i+1)*18+j-18=i*18+j by omega];exact d i j x (by simpa using h) b
theorem qcy.state_at(h:qcy W0 A q sts sv nf mn mf W){x:(Nat->Nat)×Int×Int}(f:sts[i]?=some x):∃g a,sv=.slice (some ⟨g,0,none⟩) sts.length a/\g<W.heap.size/\g≠A/\∀(j:Nat) (u:Value),(stA x.1 x.2)[j]?=some u->W.cell? ⟨g,i*18+j,none⟩=some u:=by
 have p:=ltL f;rcases h.states.2 with⟨_,n⟩|⟨g,a,k,d,o,b,s,r,t,m⟩
 ·omega
 refine⟨g,a,d,(ltA b),(h.own g (by rw[d];rfl)).1,λj u c=>?_⟩;have l:j<18:=by rw[<-qgx x.1 x.2];exact ltA c
 rw[kbg W g (i*18+j) k _ _ b];have e:=qvI sts i j x f l;rw[c,<-m,kbF (by omega)]at e;simpa using e
theorem qqG(Y:Nat->Nat)(x:Int×Int):(prog.info? 189).map (·.size)=some (stA Y x).size:=by rw[qgx];kernel_rfl
theorem qmF(j:World)(A:Nat)(q:Aut)(a:List ((Nat->Nat)×Int×Int))(p:Value)(o:Lit->Option Nat)(n:Nat)(m:Lit->Option Nat)(W:World)(h:qcy j A q a p o n m W)(i:Nat)(x:(Nat->Nat)×Int×Int)(b:a[i]?=some x):Calls prog 103 #[.pointer (some ⟨A,0,none⟩),.int .i64 i] W λe f=>e=.returned (.tuple #[.int .i64 x.2.1,.int .i64 x.2.2])/\Below W.heap.size W f:=by
 have s:=ltA h.row;obtain⟨g,k,rfl,u,t,l⟩:=h.state_at b;have r:W.cell? ⟨A,20,none⟩=some (.slice (some ⟨g,0,none⟩) a.length k):=qaa h.row 20;have v:(i:Int)<(a.length:Int):=by have:=ltL b;omega
 have d:=qab l;go_enter func103,ntmps103
 go_wp2_with(first
  |(refine qeg 189 (.tmp 12) rfl (by simp[go_sem]) g (i*18) rfl (stA x.1 x.2) _ d.out underlying189 rfl (qqG x.1 x.2) ?_)
  |(refine kan rfl 189 _ _ rfl W.heap.size (stA x.1 x.2) rfl rfl 189 #[.int .u16 0,.int .u16 0,.int .u16 0,.int .u16 0,.int .u16 0,.int .u16 0,.int .u16 0,.int .u16 0,.int .u16 0,.int .u16 0,.int .u16 0,.int .u16 0,.int .u16 0,.int .u16 0,.int .u16 0,.int .u16 0,.int .i64 0,.int .i64 0] (qac W _) (qqG x.1 x.2) (by rw[qgx];rfl) (qwa x.1 x.2) ?_;rw[kaB]))
 have c:Hid (Below W.heap.size W (W.alloc (.cells (stA x.1 x.2) 189))):=bwA;have w:(W.alloc (.cells (stA x.1 x.2) 189)).cell? ⟨W.heap.size,16,none⟩=some (.int .i64 x.2.1):=qaa (qac W _) 16;have y:(W.alloc (.cells (stA x.1 x.2) 189)).cell? ⟨W.heap.size,17,none⟩=some (.int .i64 x.2.2):=qaa (qac W _) 17;generalize W.alloc (.cells (stA x.1 x.2) 189)=V at *
 go_quiet (fail)
 go_wp2;refine kaw (kbY results103 _ _ _) rfl ⟨rfl,c.out.trans ⟨rfl,rfl,rfl,kaf _,λ_ _=>rfl⟩⟩

theorem q0u(x:Nat)(h:x<1000000000):(Lit.int .i64 (x:Int)).wf=true:=by
 have a:IntKind.i64.min = -9223372036854775808:=by kernel_rfl
 have b:IntKind.i64.max=9223372036854775807:=by kernel_rfl
 simp[Lit.wf,a,b];omega
def mvA(f x:Nat):Array Value:=#[.int .i64 f,.int .i64 x]
theorem qyk(f x:Nat)(k:f<1000000000)(o:x<1000000000):∃l,keyOf prog 267 (.agg (mvA f x))=some l:=by
 obtain⟨d,j⟩:∃d,prog.types.size+1=d+2:=⟨prog.types.size-1,by have:1<=prog.types.size:=kcf (by kernel_rfl);omega⟩
 have h:prog.keyType 267=true:=by kernel_rfl
 have a:prog.cellsOf 267=2:=by kernel_rfl
 have i:prog.cellsOf 3=1:=by kernel_rfl
 have m:(Value.agg (mvA f x)).formed prog 267=true:=by
  simp only[Value.formed,underlying267];rw[a];rfl
 have b:∀y:Nat,y<1000000000->prog.keyLits (d+1) 3 [.int .i64 y]=some [.int .i64 y]:=by
  intro y p;unfold Program.keyLits;simp only[underlying3];rw[kag ⟨trivial,q0u _ p⟩]
 have n:prog.keyLits (d+2) 267 (mvA f x).toList=some [.int .i64 f,.int .i64 x]:=by
  unfold Program.keyLits;simp only[underlying267];rw[kag ⟨by rw[a];rfl,by kernel_rfl⟩];simp only[List.mapM_cons,List.mapM_nil,i,mvA];have c:=b f k;have g:=b x o;simp[c,g]
 refine⟨.string (keyBytes [.int .i64 f,.int .i64 x]),?_⟩;unfold keyOf;simp only[underlying267];have e:(Value.agg (mvA f x)).cells=mvA f x:=rfl;rw[h,m,j,kag (by rfl),e,n,kc9]
def qwh(q:Aut)(sts:List ((Nat->Nat)×Int×Int))(mf:Lit->Option Nat):Prop :=
 ∀(f x:Nat) (l:Lit) (k:Nat),keyOf prog 267 (.agg (mvA f x))=some l->mf l=some k->∃s t Y,sts[f]?=some s/\sts[k]?=some t/\WdY q.rs.length q.st (qj0 q.st (q.tk x) s.1 q.rs.length) Y/\∀r,r<16->t.1 r=Y r
theorem qot(m:World)(A:Nat)(q:Aut)(o:List ((Nat->Nat)×Int×Int))(p:Value)(n:Lit->Option Nat)(g:Nat)(c:Lit->Option Nat)(W:World)(h:qcy m A q o p n g c W)(f:Nat)(d:List UInt8)(k:Bool)(D:d.length<=maxLen)(x:Nat)(F:qn0 q.lf d k=x)(l:Lit)(E:keyOf prog 267 (.agg (mvA f x))=some l)(i:Nat)(hi:c l=some i):Calls prog 135 #[.pointer (some ⟨A,0,none⟩),.int .i64 f,.agg #[.string ⟨d.toArray⟩,.bool k]] W λe C=>e=.returned (.int .i64 i)/\Below W.heap.size W C:=by
 have r:Hid (qcy m A q o p n g c (W.alloc (.cells #[.string ⟨d.toArray⟩,.bool k] 247))):=h.next bwA
 have t:Hid (Below W.heap.size W (W.alloc (.cells #[.string ⟨d.toArray⟩,.bool k] 247))):=bwA;have v:=qfL m A q o p n g c _ r.out d k D;rw[F]at v;go_enter func135,ntmps135
 go_wp2_with(first
  |(go_at_call 150;refine v.mono ?_;rintro e b ⟨rfl,w⟩;have y:=qab (r.out.next w);have u:=qab (t.out.trans (w.mono t.out.size))))
 have s:Hid (qcy m A q o p n g c (b.alloc (.cells (mvA f x) 267))):=y.out.next bwA
 have B:Hid (Below W.heap.size W (b.alloc (.cells (mvA f x) 267))):=u.out.alloc u.out.size _;have z:Hid ((b.alloc (.cells (mvA f x) 267)).heap[b.heap.size]?=some (.cells (mvA f x) 267)):=qac _ _;have a:(λZ:World=>Z.cell? ⟨A,22,none⟩=some (.map (some q.mb))/\Z.heap[b.heap.size]?=some (.cells (mvA f x) 267)/\qdo Z 267 q.mb g c) { (b.alloc (.cells (mvA f x) 267))with drawn:=(b.alloc (.cells (mvA f x) 267)).drawn+1}:=⟨qaa s.out.row 22,z.out,s.out.moves⟩
 refine kaM (S:=λZ=>Z.cell? ⟨A,22,none⟩=some (.map (some q.mb))/\Z.heap[b.heap.size]?=some (.cells (mvA f x) 267)/\qdo Z 267 q.mb g c) (by kernel_rfl) ?_;refine tkp 0 16 (.pointer (some ⟨A,0,none⟩)) a ?_;refine tkp 1 17 (.pointer (some ⟨A,0,none⟩)) a ?_;refine tkp 2 18 (.pointer (some ⟨A,22,none⟩)) a ?_;refine tkq 3 19 (.map (some q.mb)) rfl (λZ j=>?y3) a ?_
 case y3=>(have H:=j.1;go_simp)
 refine tkq 4 20 (.agg (mvA f x)) rfl (λZ j=>?y4) a ?_
 case y4=>exact qjp 267 (.tmp 7) rfl b.heap.size rfl _ _ _ _ j.2.1 underlying267 rfl (by kernel_rfl)
 refine tkq 5 21 (.tuple #[.int .i64 i,.bool true]) rfl (λZ j=>?y5) a ?_
 case y5=>(have G:=qdQ j.2.2 mvK underlying132 E;rw[hi]at G;go_simp)
 refine tkp 6 15 (.tuple #[.int .i64 i,.bool true]) a ?_;refine tkp 7 22 (.int .i64 i) a ?_;refine tkp 8 23 (.bool true) a ?_;refine tkp 9 8 (.int .i64 i) a ?_;refine tkp 10 9 (.bool true) a ?_;refine wdn ?_;go_simp;go_wp2;go_ret;exact⟨rfl,B.out.drew⟩

theorem qcy.auR(h:qcy W0 A q sts sv nf mn mf W):AuR W A q.ra q.rc q.rs.length q.st :=
 ⟨(ltA h.row),qaa h.row 0,λr a=>by
  rw[kbg W A (3+r) _ _ _ h.row]
  match r,a with
  |0,_|1,_|2,_|3,_|4,_|5,_|6,_|7,_|8,_|9,_|10,_|11,_|12,_|13,_|14,_|15,_=>rfl
  |n+16,a=>exact absurd a (by omega)⟩
theorem qcy.auT(h:qcy W0 A q sts sv nf mn mf W):AuT W A q.tb q.L q.tc q.tk:=by
 obtain⟨e,a,d⟩:=h.takes;exact⟨(ltA h.row),(ltA a),qaa h.row 19,λx r c b=>(kbg W q.tb (x*16+r) _ _ _ a).trans (d x r c b)⟩
theorem qcy.moved{mn':Nat}{mf':Lit->Option Nat}(h:qcy W0 A q sts sv nf mn mf W)(a:W.grownBy W' (some q.mb))(m:qdo W' 267 q.mb mn' mf'):qcy W0 A q sts sv nf mn' mf' W':=by
 obtain⟨o,p,r,f,s,t,j,u,k,d⟩:=h.apart;obtain⟨v,w,x,y,z⟩:=h.high;obtain⟨l,c,n⟩:=h.takes;exact{h with
  row:=(a.block A (ltA h.row) (by simpa using f)).trans h.row
  below:=⟨a.os.trans h.below.os,a.tape.trans h.below.tape,a.output.trans h.below.output,kaj h.below.size a.size,λi b=>(a.block i (kai b h.below.size) (by simp;omega)).trans (h.below.block i b)⟩
  letters:=h.letters.kept a (by simpa using j)
  takes:=⟨l,(a.block _ (ltA c) (by simpa using k)).trans c,n⟩
  states:=qd1 h.states λg e=>a.block g (qjY h.states e) (by simpa using(h.own g e).2.2.2.2)
  numbers:=h.numbers.kept a (by simpa using d)
  moves:=m}

def fnL(ks:List (List UInt8)):Lit->Option Nat
 |.string b=>if b∈ks then some (2+ks.idxOf b)else none
 |_=>none
theorem qeR(h:b∈ks):fnL ks (.string b)=some (2+ks.idxOf b):=kag h
theorem qeo(h:b∉ks):fnL ks (.string b)=none:=kac h
theorem qvr(h:b∉ks):fnL (ks++[b]) (.string b)=some (2+ks.length):=by
 rw[qeR (by simp),keg,kac h];simp
theorem qvJ(_h:b∉ks)(l:Lit)(f:l≠.string b):fnL (ks++[b]) l=fnL ks l:=by
 cases l with
 |string c =>
  have d:c≠b:=λe=>f (by rw[e]);by_cases a:c∈ks
  ·rw[qeR a,qeR (by simp[a]),keg,kag a]
  rw[qeo a,qeo (by simp[a,d])]
 |_=>rfl
def ImK(W:World)(m:Nat)(ks:List (List UInt8)):Prop :=
 ∃D:DataW Unit,W.ownsMap prog 9 (plainElem prog 3) m ks.length D/\(∀l,Maps.has D l=(fnL ks l).isSome/\∀v:Nat,fnL ks l=some v->D.atKey l (.lit (.int .i64 0))=.lit (.int .i64 v))/\Maps.size D=ks.length
theorem ImK.im(h:ImK W m ks):qdo W 9 m ks.length (fnL ks):=by
 obtain⟨D,a,b,_⟩:=h;exact⟨D,a,b⟩
theorem ImK.kept{row:Option Nat}(h:ImK W m ks)(c:W.grownBy W' row)(d:some m≠row):ImK W' m ks:=by
 obtain⟨D,a,b⟩:=h;exact⟨D,a.kept c d,b⟩
theorem qjb(W:World):ImK (W.alloc (.map #[] 0)) W.heap.size [] :=
 ⟨_,kcC W prog _ _,λl=>⟨by cases l<;>simp[Maps.has,fnL],λv h=>by cases l<;>simp[fnL]at h⟩,rfl⟩
theorem ImK.len(h:ImK W m ks)(d:prog.underlying t=some (.map 9 3))(a:TypeId):(Builtin.len_ #[t] a #[.map (some m)]).run prog W=.ok (.int .i64 ks.length) W:=by
 obtain⟨D,b,_,c⟩:=h;rw[b.len d a,c]
theorem qrM(h:ImK W m ks)(r:prog.underlying t=some (.map 9 3))(v:ks.length<100000)(n:b.length<=1000000000)(g:b∉ks):∃a,(Instr.mapUpdate t (.map (some m)) (.string ⟨b.toArray⟩) (.int .i64 ((2+ks.length:Nat):Int))).run prog W=.ok () a/\ImK a m (ks++[b])/\W.grownBy a (some m):=by
 obtain⟨D,c,d,j⟩:=h;have f:=qne b n;obtain⟨a,q,p,k⟩:=c.store stK r (by unfold maxLen;omega) f (kdS underlying3 (q0u (2+ks.length) (by omega)));have o:Maps.has D (.string b)=false:=by rw[(d _).1,qeo g];rfl
 refine⟨a,q,⟨_,by rw[kaa];exact p,λl=>?_,?_⟩,k.grown⟩
 ·by_cases e:l=.string b
  ·subst e;rw[qvr g];refine⟨kdk c.isMap (stK.key f) _,λu i=>?_⟩;have s:=kaE i;rw[<-s];exact kdK c.isMap (stK.key f) _ _
  rw[qvJ g l e];exact⟨(kdg e _).trans (d l).1,λu i=>(kdB e _ _).trans ((d l).2 u i)⟩
 rw[Maps.size_put (c.tidy stK),o,j,kaa];rfl
def qhZ(ks:List (List UInt8))(s:Nat×List UInt8):List (List UInt8):=if s.1=3/\s.2∉ks then ks++[s.2]else ks
def qup(ks:List (List UInt8))(r:List (Nat×List UInt8)×Int×Int):List (List UInt8):=r.1.foldl qhZ ks
def qc0(rs:List (List (Nat×List UInt8)×Int×Int)):List (List UInt8):=rs.foldl qup []
theorem qwr(ks:List (List UInt8))(s:Nat×List UInt8):(qhZ ks s).length<=ks.length+1:=by
 unfold qhZ;split<;>simp
theorem qmZ:∀(ss:List (Nat×List UInt8)) (ks:List (List UInt8)),(ss.foldl qhZ ks).length<=ks.length+ss.length
 |[],ks=>by simp
 |s::ss,ks=>by
  have a:=qmZ ss (qhZ ks s);have b:=qwr ks s;simp only[kbT,kah];omega

theorem tkU{md:Region.Mode}{S:World->Prop}{oi:Oper}{listed:Array Bool}(i d:Nat)(hi:ops[i]?=some oi)(b:(Region.noSelect ops&&Region.free md ops listed i&&(Region.ready md ops listed).contains i&&oi.dst==some d && !Region.wanted oi (yielded ops a.tmps))=true)(e:∀c a w,Q (.panic c) (a.put (some d) undef) w->Q (.panic c) a w)(f:S w)(h:wpAnyH P md ops Q S fuel (listed.setIfInBounds i true) (a.put (some d) undef) w):wpAnyH P md ops Q S (fuel+1) listed a w:=by
 simp only[ka2]at b;have g:oi.dst=some d:=by simpa using b.1.2
 rw[<-g]at e h;exact kaD hi b.1.1.1.1 b.1.1.1.2 b.1.1.2 e (.inr ⟨by simpa using b.2,rfl⟩) f h
structure Bt(b:Nat)(W W':World):Prop where
 os:W'.os=W.os
 tape:W'.tape=W.tape
 output:W'.output=W.output
 size:W.heap.size<=W'.heap.size
 block:∀k,k<W.heap.size->k≠b->W'.heap[k]?=W.heap[k]?
theorem Bt.refl(b:Nat)(W:World):Bt b W W:=⟨rfl,rfl,rfl,kaf _,λ_ _ _=>rfl⟩
theorem Bt.trans{b:Nat}{A:World}(h:Bt b A B)(k:Bt b B C):Bt b A C :=
 ⟨k.os.trans h.os,k.tape.trans h.tape,k.output.trans h.output,kaj h.size k.size,λi a c=>(k.block i (kai a h.size) c).trans (h.block i a c)⟩
theorem Bt.of_below{b:Nat}(h:Below W.heap.size W W'):Bt b W W':=⟨h.os,h.tape,h.output,h.size,λk a _=>h.block k a⟩
structure qsf(W:World)(lm:Nat)(ks:List (List UInt8))(V:World):Prop where
 but:Bt lm W V
 names:ImK V lm ks
theorem qsf.next(h:qsf W lm ks V)(a:Below V.heap.size V V'):qsf W lm ks V' :=
 ⟨h.but.trans (Bt.of_below a),h.names.kept (row:=none) ⟨a.os,a.tape,a.output,a.size,λi b _=>a.block i b⟩ (by simp)⟩
theorem Bt.low(h:Bt lm W V)(a:Below W0.heap.size W0 W)(c:W0.heap.size<=lm):Below W0.heap.size W0 V :=
 ⟨h.os.trans a.os,h.tape.trans a.tape,h.output.trans a.output,kaj a.size h.size,λi b=>(h.block i (kai b a.size) (by omega)).trans (a.block i b)⟩
theorem Bt.cellA{j:Nat}{u:Value}(h:Bt lm W V)(b:A<W.heap.size)(c:A≠lm)(a:W.cell? ⟨A,j,none⟩=some u):V.cell? ⟨A,j,none⟩=some u:=by
 have e:=h.block A b c;unfold World.cell? at a ⊢;rw[e];exact a
theorem wr2(n:Nat)(h:n<=128):wrap64 (2+(n:Int))=((2+n:Nat):Int):=by
 unfold wrap64;omega
theorem qhp(E W:World)(A l:Nat)(ra:Option Addr)(rc:Nat)(rs:List (List (Nat×List UInt8)×Int×Int))(au:Below E.heap.size E W)(U:A<W.heap.size)(X:A≠l)(b:E.heap.size<=l)(hn:rs.length<=16)(h8:∀i (h:i<rs.length),rs[i].1.length<=8)(aw:∀i (h:i<rs.length) j (h2:j<rs[i].1.length),rs[i].1[j].2.length<=1000000000)(c0:W.cell? ⟨A,0,none⟩=some (.slice ra rs.length rc))(c2:W.cell? ⟨A,2,none⟩=some (.map (some l)))(hr:qep E ra rs)(hm:ImK W l []):Calls prog 56 #[.pointer (some ⟨A,0,none⟩)] W λaq W'=>aq=.returned (.tuple #[])/\qsf W l (qc0 rs) W':=by
 have HR:=qab hr;have R:=qab au;have HM:=qab hm;go_enter func56,ntmps56;go_wp2
 go_loopg[12] rs.length (λg z wr=>∃(k:Nat) (m:List (List UInt8)),z=.int .i64 k/\Hid (k+g=rs.length)/\Hid (qsf W l m wr)/\Hid (qc0 rs=(rs.drop k).foldl qup m)/\Hid (m.length<=8*k))
 case atStart=>exact⟨0,[],rfl,by show _=_;omega,⟨Bt.refl _ _,HM.out⟩,rfl,by show _<=_;simp⟩
 case round =>
  obtain⟨k,m,rfl,B,J,HK,Q⟩:=hrel
  cases gk with
  |zero =>
   have ax:¬(k:Int)<(rs.length:Int):=by have:=B.out;omega
   have N:Hid (qc0 rs=m):=by
    have h:=HK.out;rw[kbA (by have:=B.out;omega)]at h;exact h
   go_wp2;go_end0;rw[N.out];exact⟨rfl,J.out⟩
  |succ g =>
   have G:k<rs.length:=by have:=B.out;omega
   have ax:(k:Int)<(rs.length:Int):=by omega
   obtain⟨ap,off,V,pc,rfl,hb,e0,e1,e2,a6⟩:=(HR.out.below (J.out.but.low R.out b)).at_ k G;have al:Hid (qlT E V rs[k].1):=by
    obtain⟨b',a8,ba,bb,Y,av,f0,f1,f2,a0⟩:=HR.out.at_ k G;injection Y with Y;injection Y with hab1 hab2;subst hab1;subst hab2;have y:=((J.out.but.low R.out b).cell (p:=⟨ap,off+k*3,none⟩) av).trans f0;rw[e0]at y;injection y with y;injection y with y _ _;subst y;exact a0
   have a4:=h8 k G;have aj:=qab (aw k G);have ai:Hid (qc0 rs=(rs.drop (k+1)).foldl qup (rs[k].1.foldl qhZ m)):=by
    have h:=HK.out;rw[ka6 G]at h;exact h
   have ak:Hid (qsf W l m (wr.alloc (.cells #[.slice V rs[k].1.length pc,.int .i64 rs[k].2.1,.int .i64 rs[k].2.2] 178))):=J.out.next bwA
   go_wp2;generalize wr.alloc (.cells #[.slice V rs[k].1.length pc,.int .i64 rs[k].2.1,.int .i64 rs[k].2.2] 178)=V0 at *;generalize hss:rs[k].1=ss at *
   go_loopg[19] ss.length (λF z ao=>∃(j:Nat) (c:List (List UInt8)),z=.int .i64 j/\Hid (j+F=ss.length)/\Hid (qsf W l c ao)/\Hid (ss.foldl qhZ m=(ss.drop j).foldl qhZ c)/\Hid (c.length<=m.length+j))
   case atStart=>exact⟨0,m,rfl,by show _=_;omega,ak,rfl,kaf _⟩
   case round =>
    obtain⟨j,c,rfl,n,D,aa,u⟩:=hrel
    cases gk with
    |zero =>
     have ay:¬(j:Int)<(ss.length:Int):=by have:=n.out;omega
     have N:Hid (ss.foldl qhZ m=c):=by
      have h:=aa.out;rw[kbA (by have:=n.out;omega)]at h;exact h
     go_wp2;go_roundg g
     case measure=>omega
     case rel=>exact⟨k+1,c,by go_num,by show _=_;have:=B.out;omega,D,by have h:=ai.out;rw[N.out]at h;exact h,by show _<=_;have:=Q.out;have:=u.out;have:=n.out;omega⟩
    |succ F =>
     have K:j<ss.length:=by have:=n.out;omega
     have ay:(j:Int)<(ss.length:Int):=by omega
     obtain⟨b2,a9,rfl,a2,s0,s1⟩:=(al.out.below (D.out.but.low R.out b)).at_ j K;have O:Hid (ss.foldl qhZ m=(ss.drop (j+1)).foldl qhZ (qhZ c ss[j])):=by
      have h:=aa.out;rw[ka6 K]at h;exact h
     have P:=qab (aj.out j K);generalize ss[j]=sg at *;have w:Hid (qsf W l c (wr.alloc (.cells #[.int .i64 sg.1,.string ⟨sg.2.toArray⟩] 183))):=D.out.next bwA
     obtain⟨q,f⟩:=sg;have L:Hid ((wr.alloc (.cells #[.int .i64 q,.string ⟨f.toArray⟩] 183)).heap[wr.heap.size]?=some (.cells #[.int .i64 q,.string ⟨f.toArray⟩] 183)):=qac _ _;have ah:=qab D.out.names.im.lt;clear D;go_wp2;generalize wr.alloc (.cells #[.int .i64 q,.string ⟨f.toArray⟩] 183)=V1 at *;generalize wr.heap.size=M at *;refine rgn (S:=λZ=>Z.cell? ⟨A,2,none⟩=some (.map (some l))/\Z.heap[M]?=some (.cells #[.int .i64 q,.string ⟨f.toArray⟩] 183)/\ImK Z l c) (⟨w.out.but.cellA U X c2,L.out,w.out.names⟩) (by kernel_rfl) ?_;intro a;by_cases ae:q=3
     ·subst ae;by_cases H:f∈c
      ·obtain⟨x,hx⟩:∃x,x=2+c.idxOf f:=⟨_,rfl⟩
       have T:Hid ((fnL c (.string f)).getD 0=x):=by show _=_;rw[qeR H,hx];rfl
       have a7:((x:Int)==0)=false:=by simp;omega
       have C:Hid (qhZ c (3,f)=c):=kac (λh=>h.2 H);clear hx;refine tkp 0 23 (.pointer (some ⟨M,0,none⟩)) a ?_;refine tkq 1 24 (.int .i64 3) rfl (λZ d=>?y1) a ?_
       case y1=>(have r:=qaa d.2.1 0;go_simp)
       refine tkp 2 25 (.bool true) a ?_;refine tkp 3 26 (.bool true) a ?_;refine tkp 4 27 (.pointer (some ⟨A,0,none⟩)) a ?_;refine tkp 5 28 (.pointer (some ⟨A,0,none⟩)) a ?_;refine tkp 6 29 (.pointer (some ⟨A,2,none⟩)) a ?_;refine tkq 7 30 (.map (some l)) rfl (λZ d=>?y7) a ?_
       case y7=>(have r:=d.1;go_simp)
       refine tkp 8 31 (.pointer (some ⟨M,1,none⟩)) a ?_;refine tkq 9 32 (.string ⟨f.toArray⟩) rfl (λZ d=>?y9) a ?_
       case y9=>(have r:=qaa d.2.1 1;go_simp)
       refine tkq 10 33 (.int .i64 x) rfl (λZ d=>?y10) a ?_
       case y10=>(have z3:=qgK d.2.2.im stK underlying130 (qne f P.out);rw[T.out]at z3;go_simp)
       refine tkq 11 34 (.bool false) rfl (λZ d=>?y11) a ?_
       case y11=>(go_simp)
       refine tkp 12 35 (.bool false) a ?_;refine wdn ?_;go_simp;have o:=qab (w.out.next (kam _ _).drew);go_wp2;go_roundg F
       case measure=>omega
       case rel=>exact⟨j+1,c,by go_num,by show _=_;have:=n.out;omega,o,by have h:=O.out;rw[C.out]at h;exact h,by show _<=_;have:=u.out;omega⟩
      have T:Hid ((fnL c (.string f)).getD 0=0):=by show _=_;rw[qeo H];rfl
      have C:Hid (qhZ c (3,f)=c++[f]):=kag ⟨rfl,H⟩;refine tkp 0 23 (.pointer (some ⟨M,0,none⟩)) a ?_;refine tkq 1 24 (.int .i64 3) rfl (λZ d=>?y1) a ?_
      case y1=>(have r:=qaa d.2.1 0;go_simp)
      refine tkp 2 25 (.bool true) a ?_;refine tkp 3 26 (.bool true) a ?_;refine tkp 4 27 (.pointer (some ⟨A,0,none⟩)) a ?_;refine tkp 5 28 (.pointer (some ⟨A,0,none⟩)) a ?_;refine tkp 6 29 (.pointer (some ⟨A,2,none⟩)) a ?_;refine tkq 7 30 (.map (some l)) rfl (λZ d=>?y7) a ?_
      case y7=>(have r:=d.1;go_simp)
      refine tkp 8 31 (.pointer (some ⟨M,1,none⟩)) a ?_;refine tkq 9 32 (.string ⟨f.toArray⟩) rfl (λZ d=>?y9) a ?_
      case y9=>(have r:=qaa d.2.1 1;go_simp)
      refine tkq 10 33 (.int .i64 0) rfl (λZ d=>?y10) a ?_
      case y10=>(have z3:=qgK d.2.2.im stK underlying130 (qne f P.out);rw[T.out]at z3;go_simp)
      refine tkp 11 34 (.bool true) a ?_;refine tkp 12 35 (.bool true) a ?_;refine wdn ?_;go_simp;have o:=qab (w.out.next (kam _ _).drew);have I:Hid ((World.drew V1).heap[M]?=some (.cells #[.int .i64 3,.string ⟨f.toArray⟩] 183)):=L.out;clear a w L;generalize World.drew V1=V2 at *;have d2:=o.out.but.cellA U X c2;have a5:=o.out.names.len underlying130;have af:c.length<=8*16:=by have:=Q.out;have:=u.out;have:=B.out;have:=n.out;omega
      obtain⟨v,e⟩:∃v,v=2+c.length:=⟨_,rfl⟩
      have an:Hid (wrap64 (2+(c.length:Int))=(v:Int)):=by show _=_;rw[e];exact wr2 _ af
      have am:=qab e;clear e af;go_wp2;rw[an.out];have ab:=qab (o.out.next (kam _ _).drew);obtain⟨w7,ag,ad,t⟩:=qrM ab.out.names underlying130 (by have:=Q.out;have:=u.out;have:=B.out;have:=n.out;omega) P.out H;rw[<-am.out]at ag;have ac:Hid (qsf W l (c++[f]) w7):=⟨ab.out.but.trans ⟨t.os,t.tape,t.output,t.size,λi hi az=>t.block i hi (by simpa using az)⟩,ad⟩
      have s:(λZ:World=>Z.cell? ⟨A,2,none⟩=some (.map (some l))/\Z.heap[M]?=some (.cells #[.int .i64 3,.string ⟨f.toArray⟩] 183)) {V2 with drawn:=V2.drawn+1}:=⟨d2,I.out⟩
      have ar:(λZ:World=>Z.cell? ⟨A,2,none⟩=some (.map (some l))/\Z.heap[M]?=some (.cells #[.int .i64 3,.string ⟨f.toArray⟩] 183)) w7:=⟨ac.out.but.cellA U X c2,(t.block M (ltA I.out) (by have:=ah.out;simp;omega)).trans I.out⟩
      clear ad t o I;refine kaM (S:=λZ=>Z.cell? ⟨A,2,none⟩=some (.map (some l))/\Z.heap[M]?=some (.cells #[.int .i64 3,.string ⟨f.toArray⟩] 183)) (by kernel_rfl) ?_;refine tkp 0 42 (.pointer (some ⟨A,0,none⟩)) s ?_;refine tkp 1 43 (.pointer (some ⟨A,0,none⟩)) s ?_;refine tkp 2 44 (.pointer (some ⟨A,2,none⟩)) s ?_;refine tkq 3 45 (.map (some l)) rfl (λZ d=>?y3) s ?_
      case y3=>(have r:=d.1;go_simp)
      refine tkp 4 46 (.pointer (some ⟨M,1,none⟩)) s ?_;refine tkq 5 47 (.string ⟨f.toArray⟩) rfl (λZ d=>?y5) s ?_
      case y5=>(have r:=qaa d.2 1;go_simp)
      refine tkp 6 48 (.int .i64 v) s ?_;refine rdq 7 (λa1 hK=>?_);go_simp;refine hK.out _ _ ar (λ_=>?_);clear hK;refine wdn ?_;go_simp;clear ag;go_wp2;go_roundg F
      case measure=>omega
      case rel=>exact⟨j+1,c++[f],by go_num,by show _=_;have:=n.out;omega,ac,by have h:=O.out;rw[C.out]at h;exact h,by show _<=_;have:=u.out;simp;omega⟩
     have a3:((q:Int)==3)=false:=by simp;omega
     have C:Hid (qhZ c (q,f)=c):=kac (λh=>ae h.1);refine tkp 0 23 (.pointer (some ⟨M,0,none⟩)) a ?_;refine tkq 1 24 (.int .i64 q) rfl (λZ d=>?y1) a ?_
     case y1=>(have r:=qaa d.2.1 0;go_simp)
     refine tkq 2 25 (.bool false) rfl (λZ d=>?y2) a ?_
     case y2=>(go_simp)
     refine tkp 3 26 (.bool false) a ?_;refine tkU 4 27 rfl (by kernel_rfl) (λ_ _ _ h=>h) a ?_;refine tkU 5 28 rfl (by kernel_rfl) (λ_ _ _ h=>h) a ?_;refine tkU 6 29 rfl (by kernel_rfl) (λ_ _ _ h=>h) a ?_;refine tkU 7 30 rfl (by kernel_rfl) (λ_ _ _ h=>h) a ?_;refine tkU 8 31 rfl (by kernel_rfl) (λ_ _ _ h=>h) a ?_;refine tkU 9 32 rfl (by kernel_rfl) (λ_ _ _ h=>h) a ?_;refine tkU 10 33 rfl (by kernel_rfl) (λ_ _ _ h=>h) a ?_;refine tkU 11 34 rfl (by kernel_rfl) (λ_ _ _ h=>h) a ?_;refine tkp 12 35 (.bool false) a ?_;refine wdn ?_;go_simp;have o:=qab (w.out.next (kam _ _).drew);go_wp2;go_roundg F
     case measure=>omega
     case rel=>exact⟨j+1,c,by go_num,by show _=_;have:=n.out;omega,o,by have h:=O.out;rw[C.out]at h;exact h,by show _<=_;have:=u.out;omega⟩

end
section
open Go.RowKit Go.Lib
def qcu{α:Type}(T:α->List UInt8):List α->List UInt8
 |[]=>[]
 |d::ds=>T d++ds.flatMap λe=>44::T e
theorem qin{α:Type}(T:α->List UInt8)(l:List α)(d:α)(b:l[0]?=some d):qcu T (l.take 1)=T d:=by
 cases l with
 |nil=>simp at b
 |cons a l=>simp at b;subst b;simp[qcu]
theorem qks{α:Type}(T:α->List UInt8)(l:List α)(k:Nat)(c:0<k)(d:α)(b:l[k]?=some d):qcu T (l.take (k+1))=(qcu T (l.take k)++[44])++T d:=by
 cases l with
 |nil=>simp at b
 |cons a l =>
  cases k with
  |zero=>omega
  |succ k =>
   rw[kdt]at b;rw[kdc,kdc];unfold qcu;rw[kb7,b];simp
theorem qgt{α:Type}(T:α->List UInt8)(l:List α)(k:Nat):(qcu T (l.take k)).length<=(qcu T l).length:=by
 cases l with
 |nil=>simp
 |cons a l =>
  cases k with
  |zero=>simp[qcu]
  |succ k =>
   rw[kdc];unfold qcu;rw[kaa,kaa];have b:(l.flatMap λe=>44::T e).length=((l.take k).flatMap λe=>44::T e).length+((l.drop k).flatMap λe=>44::T e).length:=by
    rw[<-kaa,<-kbP,kbu]
   omega
def qeN(W:World)(base:Nat)(x:Value)(ys:List UInt8):Prop:=∀(V:World) (v:Value) (bs:List UInt8),Below base W V->Own V base v bs->bs.length+ys.length<=999999999->Calls prog 50 #[v,x] V λe W'=>∃v',e=.returned v'/\Own W' base v' (bs++ys)/\Below base V W'

end
section
open Go.RowKit Go.Shelf
theorem qpU(i o d b:Int):(qe3 i o d b=false/\qeD i=false)\/(qe3 i o d b=false/\qeD i=true/\qeD o=false)\/(qe3 i o d b=false/\qeD i=true/\qeD o=true/\d<1)\/(qe3 i o d b=false/\qeD i=true/\qeD o=true/\1<=d/\16<d) \/
  (qe3 i o d b=false/\qeD i=true/\qeD o=true/\1<=d/\d<=16/\b<1)\/(qe3 i o d b=false/\qeD i=true/\qeD o=true/\1<=d/\d<=16/\1<=b/\4096<b)\/(qe3 i o d b=true/\qeD i=true/\qeD o=true/\1<=d/\d<=16/\1<=b/\b<=4096):=by
 unfold qe3;cases qeD i<;>cases qeD o<;>simp;by_cases a:d<1
 ·simp[a];omega
 by_cases c:16<d
 ·simp[c];omega
 by_cases e:b<1
 ·simp[e];omega
 by_cases f:4096<b
 ·simp[f];omega
 omega
theorem qf6:q0j 9 qb4 qen:=by
 intro c w x hg;have y:Hid (qia w c):=x;have U:Hid (c.B.length<=maxLen):=by have:=x.bb;show _<=_;unfold maxLen;omega
 have D:Hid (c.arr.size=11):=c.size;have b:Hid (qgQ w c (w.alloc (.cells c.arr 25))):=qeV w c;have s:=qsI c _ (b.out.cfg x);clear x hg;cases o:qbC c.labels c.L
 focus
  have d:qga c=false:=by unfold qga;rw[o];rfl
  have f:Hid (qb4 c=1):=by show _=_;unfold qb4;simp[d]
  have i:Hid (qen c=0):=by show _=_;unfold qen;rw[f.out];rfl
  rw[o]at s;clear o d
 rotate_left
 rw[o]at s;obtain⟨A,H⟩:=qek o;have C:Hid (qiT c.arr c.labels.toNat c.L c.ea c.ecap):=H;have Y:Hid (c.labels=(c.labels.toNat:Nat)):=A.symm;have X:Hid (c.arr[0]?=some (.int .i64 (c.labels.toNat:Nat))):=by show _=_;rw[A];rfl
 have G:=λa W=>qcP c.arr c.labels.toNat X.out a W;have d:qga c=(qbM c.labels.toNat c.dflt&&qbM c.labels.toNat c.clr):=by unfold qga;rw[o];rfl
 clear o A H;cases j:qbM c.labels.toNat c.dflt
 focus
  have f:Hid (qb4 c=1):=by show _=_;unfold qb4;simp[d,j]
  have i:Hid (qen c=0):=by show _=_;unfold qen;rw[f.out];rfl
  clear d
 rotate_left
 cases k:qbM c.labels.toNat c.clr
 focus
  have f:Hid (qb4 c=1):=by show _=_;unfold qb4;simp[d,j,k]
  have i:Hid (qen c=0):=by show _=_;unfold qen;rw[f.out];rfl
  clear d
 rotate_left
 cases l:qbx c.labels.toNat (qbe c.labels.toNat c.L)
 focus
  have f:Hid (qb4 c=2):=by show _=_;unfold qb4;simp[d,j,k,l]
  have i:Hid (qen c=0):=by show _=_;unfold qen;rw[f.out];rfl
  clear d
 rotate_left
 cases m:qb1 c.labels.toNat (qbe c.labels.toNat c.L)
 focus
  have f:Hid (qb4 c=3):=by show _=_;unfold qb4;simp[d,j,k,l,m]
  have i:Hid (qen c=0):=by show _=_;unfold qen;rw[f.out];rfl
  clear d
 rotate_left
 rcases qpU c.inn c.out c.depth c.bytes with⟨g,p⟩|⟨g,p,q⟩|⟨g,p,q,t⟩|⟨g,p,q,t,z⟩|⟨g,p,q,t,z,F⟩|⟨g,p,q,t,z,F,b2⟩|⟨g,p,q,t,z,F,b2⟩
 focus
  have f:Hid (qb4 c=4):=by show _=_;unfold qb4;simp[d,j,k,l,m,g]
  have i:Hid (qen c=0):=by show _=_;unfold qen;rw[f.out];rfl
  clear d g
 rotate_left
 focus
  have f:Hid (qb4 c=4):=by show _=_;unfold qb4;simp[d,j,k,l,m,g]
  have i:Hid (qen c=0):=by show _=_;unfold qen;rw[f.out];rfl
  clear d g
 rotate_left
 focus
  have f:Hid (qb4 c=4):=by show _=_;unfold qb4;simp[d,j,k,l,m,g]
  have i:Hid (qen c=0):=by show _=_;unfold qen;rw[f.out];rfl
  clear d g
 rotate_left
 focus
  have f:Hid (qb4 c=4):=by show _=_;unfold qb4;simp[d,j,k,l,m,g]
  have i:Hid (qen c=0):=by show _=_;unfold qen;rw[f.out];rfl
  clear d g
 rotate_left
 focus
  have f:Hid (qb4 c=4):=by show _=_;unfold qb4;simp[d,j,k,l,m,g]
  have i:Hid (qen c=0):=by show _=_;unfold qen;rw[f.out];rfl
  clear d g
 rotate_left
 focus
  have f:Hid (qb4 c=4):=by show _=_;unfold qb4;simp[d,j,k,l,m,g]
  have i:Hid (qen c=0):=by show _=_;unfold qen;rw[f.out];rfl
  clear d g
 rotate_left
 cases u:qaG c.B
 focus
  have f:Hid (qb4 c=5):=by show _=_;unfold qb4;simp[d,j,k,l,m,g,u]
  have i:Hid (qen c=0):=by show _=_;unfold qen;rw[f.out];rfl
  clear d
 rotate_left
 by_cases v:0<=qa2 c.labels.toNat c.pol.data.toList
 focus
  have f:Hid (qb4 c=6):=by show _=_;unfold qb4;simp[d,j,k,l,m,g,u,v]
  obtain⟨V,n⟩:∃V,qa2 c.labels.toNat c.pol.data.toList=V:=⟨_,rfl⟩
  have E:Hid (qa2 c.labels.toNat c.pol.data.toList=V):=n;have i:Hid (qen c=V):=by show _=_;unfold qen;rw[f.out,kag rfl];exact n
  rw[n]at v;clear d g n
 rotate_left
 have f:Hid (qb4 c=0):=by show _=_;unfold qb4;simp[d,j,k,l,m,g,u,v]
 obtain⟨V,n⟩:∃V,qa2 c.labels.toNat c.pol.data.toList=V:=⟨_,rfl⟩
 have E:Hid (qa2 c.labels.toNat c.pol.data.toList=V):=n;have i:Hid (qen c=0):=by show _=_;unfold qen;rw[f.out];rfl
 rw[n]at v;clear d g n
 all_goals
  go_enter func9,ntmps9;have Z:True:=trivial;have T2:True:=trivial;have T3:True:=trivial;have T4:True:=trivial
  go_wp2_with(first
   |(refine kak rfl 25 _ rfl _ rfl _ _ _ _ b.out.box underlying25 rfl (qaD D.out) ?_)
   |(refine qaf 25 _ rfl ?hw _ rfl _ _ _ _ b.out.box underlying25 rfl (qaD D.out) ?_;case hw=>simp[go_sem];done)
   |(go_at_call 24;refine s.mono ?_;clear s;rintro e w2 ⟨rfl,O⟩;have h:=qab (b.out.step O);clear b;have b:=h;clear h O;have k2:w2.cell? ⟨w.heap.size,2,none⟩=some (.int .i64 c.dflt):=b.out.cell 2)
   |(go_at_call 25;clear Z;refine(G c.dflt _).mono ?_;clear k2;rintro e w3 ⟨rfl,P⟩;rw[j];have h:=qab (b.out.step P);clear b;have b:=h;clear h P;have k4:w3.cell? ⟨w.heap.size,4,none⟩=some (.int .i64 c.clr):=b.out.cell 4)
   |(go_at_call 25;clear T2;refine(G c.clr _).mono ?_;clear k4;rintro e w4 ⟨rfl,Q⟩;rw[k];have h:=qab (b.out.step Q);clear b;have b:=h;clear h Q;have J:=ql1 c.arr c.labels.toNat c.L c.ea c.ecap C.out w4 (b.out.cfg y.out).edges)
   |(go_at_call 26;refine J.mono ?_;clear J;rintro e w5 ⟨rfl,R⟩;rw[l];have h:=qab (b.out.step R);clear b;have b:=h;clear h R;have K:=qlL c.arr c.labels.toNat c.L c.ea c.ecap C.out w5 (b.out.cfg y.out).edges)
   |(go_at_call 27;refine K.mono ?_;clear K;rintro e r ⟨rfl,S⟩;rw[m];have h:=qab (b.out.step S);clear b;have b:=h;clear h S;have k6:r.cell? ⟨w.heap.size,6,none⟩=some (.int .i64 c.inn):=b.out.cell 6;have k7:r.cell? ⟨w.heap.size,7,none⟩=some (.int .i64 c.out):=b.out.cell 7;have k8:r.cell? ⟨w.heap.size,8,none⟩=some (.int .i64 c.depth):=b.out.cell 8;have k9:r.cell? ⟨w.heap.size,9,none⟩=some (.int .i64 c.bytes):=b.out.cell 9;have aa:r.cell? ⟨w.heap.size,10,none⟩=some (.slice c.ba c.B.length c.bcap):=b.out.cell 10;have I:=qhP c.ba c.bcap c.B U.out r (b.out.cfg y.out).ints)
   |(go_at_call 28;clear T3;refine(qiw c.inn _).mono ?_;rintro e w7 ⟨rfl,rfl⟩;rw[p])
   |(go_at_call 28;clear T4;refine(qiw c.out _).mono ?_;rintro e w8 ⟨rfl,rfl⟩;rw[q])
   |(go_at_call 29;refine I.mono ?_;clear I k6 k7 k8 k9 aa;rintro e w9 ⟨rfl,T⟩;rw[u];have h:=qab (b.out.step T);clear b;have b:=h;clear h T;have M:=qr2 c c.labels.toNat Y.out w9)
   |(go_at_call 30;refine M.mono ?_;clear M;rintro e ab ⟨ua,um,uc,rfl,N⟩;rw[E.out];have h:=qab (b.out.step N);clear b;have b:=h;clear h N))
  go_ret2
  exact⟨by rw[f.out,i.out];rfl,b.out.below⟩

end
end Go.Proofs.YtmajcjammmjimaaGreatDoor
