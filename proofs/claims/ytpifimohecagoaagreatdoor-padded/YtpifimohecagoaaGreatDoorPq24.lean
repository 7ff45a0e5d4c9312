import Derived.Lib.MakeNoZero
import Derived.Laws.CopyOwn
import Derived.Test.YtpifimohecagoaaGreatDoorPq23
import Derived.Test.YtpifimohecagoaaGreatDoorPq22
set_option maxRecDepth 100000
set_option maxHeartbeats 8000000
namespace Go.Proofs.YtpifimohecagoaaGreatDoor
open Go.Proofs.Tryz
variable{P:Program}{V W:World}{o:Oper}{v:Value}{N n:Nat}{b:UInt8}{cur:List Value}
section
open Go.RowKit
def qcq(fm:Int):Nat:=if fm=1 then 32 else 0
theorem qoy(a:Int)(W:World):Calls prog 33 #[.int .i64 a] W λe c=>e=.returned (.int .u8 (qcq a))/\c=W:=by
 by_cases h:a=1
 ·have d:(a==1)=true:=by simpa using h
  have b:qcq a=32:=by unfold qcq;rw[if_pos h]
  rw[b];clear h b;go_enter func33,ntmps33;go_wp2;go_ret;exact⟨rfl,rfl⟩
 have d:(a==1)=false:=by simpa using h
 have b:qcq a=0:=by unfold qcq;rw[if_neg h]
 rw[b];clear h b;go_enter func33,ntmps33;go_wp2;go_ret;exact⟨rfl,rfl⟩
theorem q09(W:World)(a:Int)(l:Option Addr)(bs:List UInt8)(s:Nat)(h:qav W l bs):Calls prog 16 #[.int .i64 a,.slice l bs.length s] W λe r=>e=.returned (.bool (bs.all (λc=>c.toNat==qcq a)))/\r=W:=by
 have p:Hid (qav W l bs):=h;have m:=qoy a W;obtain⟨R,b⟩:∃R,Hid (bs.all (λc=>c.toNat==qcq a)=R):=⟨_,show _=_ from rfl⟩
 rw[b.out];have w:=h.len;unfold maxLen at w;clear h;go_enter func16,ntmps16
 go_wp2_with(first
  |(go_at_call 33;refine m.mono ?_;clear m;rintro e A ⟨rfl,rfl⟩))
 go_loopg[12] bs.length (λg z wr=>∃k:Nat,z=.int .i64 k/\Hid (k+g=bs.length)/\wr=A/\Hid ((bs.drop k).all (λc=>c.toNat==qcq a)=R))
 case atStart=>exact⟨0,rfl,by show _=_;omega,rfl,b⟩
 case round =>
  clear b;obtain⟨k,rfl,i,rfl,b⟩:=hrel
  cases gk with
  |zero =>
   have v:¬(k:Int)<bs.length:=by have:=i.out;omega
   have j:Hid (R=true):=by
    show _=_;rw[<-b.out,List.drop_of_length_le (by have:=i.out;omega)];rfl
   clear b i;go_wp2;go_ret;rw[j.out];exact⟨rfl,rfl⟩
  |succ g =>
   have o:k<bs.length:=by have:=i.out;omega
   have v:(k:Int)<bs.length:=by omega
   obtain⟨B,off,t,C,u⟩:=p.out.at_ k o;subst t;have f:=b.out;rw[List.drop_eq_getElem_cons o,List.all_cons]at f;obtain⟨c,n⟩:∃c,bs[k]=c:=⟨_,rfl⟩
   rw[n]at u f;clear b n;cases d:(c.toNat==qcq a)
   ·rw[d,Bool.false_and]at f;have x:((c.toNat:Int) != (qcq a:Int))=true:=by
     have:=beq_eq_false_iff_ne.1 d;simp;omega
    have y:((c.toNat:Int)==(qcq a:Int))=false:=by
     have:=beq_eq_false_iff_ne.1 d;simp;omega
    have j:Hid (R=false):=f.symm;clear f d;go_wp2;go_ret;rw[j.out];exact⟨rfl,rfl⟩
   rw[d,Bool.true_and]at f;have x:((c.toNat:Int) != (qcq a:Int))=false:=by
    have:=beq_iff_eq.1 d;simp;omega
   have y:((c.toNat:Int)==(qcq a:Int))=true:=by
    have:=beq_iff_eq.1 d;simp;omega
   have q:Hid ((bs.drop (k+1)).all (λc=>c.toNat==qcq a)=R):=f;clear f d;go_wp2;go_roundg g
   case measure=>omega
   case rel=>exact⟨k+1,by go_num,by show _=_;have:=i.out;omega,rfl,q⟩

end
section
open Go.RowKit Go.Lib
structure qwV(W:World)(N:Nat)(b:UInt8)(n bp:Nat)(cur:List Value)(V:World):Prop where
 below:Below W.heap.size W V
 row:V.heap[N]?=some (.cells cur.toArray 5 (0,0))
 lo:W.heap.size<=N
 fit:n<=cur.length
 same:∀j,j<bp->cur[j]?=some (.int .u8 b.toNat)
theorem qyE(W:World)(n:Nat)(d:n<=65536):∃cs:Array Value,(callFunc 89 #[.int .i64 n]).run prog W=.ok (.value (.slice (some ⟨W.heap.size,0,none⟩) n cs.size)) (W.drew.drew.alloc (.cells cs 5))/\n<=cs.size/\cs.size<=maxLen:=by
 obtain⟨cs,c,a,b⟩:=Lib.run_makeNoZero (P:=prog) W #[3] 35 5 underlying35 n (by omega);refine⟨cs,?_,a,b (by unfold maxLen;omega)⟩;rw[run_callFunc_extern func89 (by kernel_rfl) (by kernel_rfl) (by kernel_rfl) (e:=Extern.BytealgMakeNoZero.makeNoZero #[3] #[35]) (by kernel_rfl),c];rfl
theorem qqm(b:UInt8):∀v∈[Value.int .u8 (b.toNat:Int)],v.oneCell'=true:=λv a=>by simp at a;subst a;rfl
theorem qzK(V:World)(N a n:Nat)(h:a<n):(Instr.sliceAt 35 (.slice (some ⟨N,0,none⟩) n n) (some (.int .i64 a)) none none).run prog V=.ok (.slice (some ⟨N,a,none⟩) (n-a) (n-a)) V:=by
 have e:(⟨N,0,none⟩:Addr).add a=⟨N,a,none⟩:=by by_cases h:a=0<;>simp[Addr.add,h]
 have b:¬n=a:=by omega
 have c:(a:Int)<=n:=by omega
 have d:(sizeOf (prog.elem 35)).run prog V=.ok 1 V:=by kernel_rfl
 rw[run_sliceAt_slice (P:=prog) V 35 _ _ _ _ (by kernel_rfl)];simp[Instr.slice,run_underlying underlying35,Instr.sliceBounds,run_sliceBound,c];rw[if_neg b,e]
theorem qzP(V:World)(N a n:Nat)(h:a<=n):(Instr.sliceAt 35 (.slice (some ⟨N,0,none⟩) n n) none (some (.int .i64 a)) none).run prog V=.ok (.slice (some ⟨N,0,none⟩) a n) V:=by
 have e:(⟨N,0,none⟩:Addr).add 0=⟨N,0,none⟩:=by simp[Addr.add]
 have b:(a:Int)<=n:=by omega
 rw[run_sliceAt_slice (P:=prog) V 35 _ _ _ _ (by kernel_rfl)];simp[Instr.slice,run_underlying underlying35,Instr.sliceBounds,run_sliceBound,b,e]
theorem qfb{ev:Operand->Value}(a:TypeId)(x:Operand)(lo hi:Option Operand)(d:o.op=.slice a x lo hi none){X:Value}{L H:Option Value}(e:ev x=X)(c:lo.map ev=L)(b:hi.map ev=H)(h:(Instr.sliceAt a X L H none).run P W=.ok v W):(execOp ev o).run P W=.ok (.value v) W:=by
 unfold execOp;simp only[d,e,c,b,Option.map_none,Sem.run_bind,h,Result.andThen_ok];rfl
theorem qt7(h:qwV W N b n n cur V)(d:n<=65536):qav V (some ⟨N,0,none⟩) (List.replicate n b):=by
 refine⟨λi a=>⟨N,0,rfl,(ltA h.row),?_⟩,by rw[List.length_replicate];unfold maxLen;omega⟩;have c:i<n:=by simpa using a
 rw[Nat.zero_add,qaa h.row i];have:=h.same i c;simpa using this
theorem qwV.copy{V':World}{bp m:Nat}(h:qwV W N b n bp cur V)(c:Below W.heap.size W V')(i:bp+m<=n)(e:V'.heap[N]?=some (.cells (splice cur bp (List.replicate m (.int .u8 b.toNat))).toArray 5 (0,0))):qwV W N b n (bp+m) (splice cur bp (List.replicate m (.int .u8 b.toNat))) V':=by
 have d:bp+(List.replicate m (Value.int .u8 (b.toNat:Int))).length<=cur.length:=by have:=h.fit;simp;omega
 refine⟨c,e,h.lo,by rw[length_splice _ _ _ d];exact h.fit,λj g=>?_⟩;unfold splice;have f:=h.fit;by_cases a:j<bp
 ·rw[List.getElem?_append_left (by simp;omega),List.getElem?_take_of_lt a];exact h.same j a
 rw[List.getElem?_append_right (by simp;omega),List.getElem?_append_left (by simp;omega),List.getElem?_replicate_of_lt (by simp;omega)]
theorem qos(W:World)(M:Nat)(b:UInt8)(n:Nat)(h1:1<=n)(hn:n<=65536)(P:W.cell? ⟨M,0,none⟩=some (.int .u8 b.toNat))(ac:M<W.heap.size):Calls prog 70 #[.slice (some ⟨M,0,none⟩) 1 1,.int .i64 n] W λe z=>∃g,e=.returned (.slice (some ⟨g,0,none⟩) n n)/\qav z (some ⟨g,0,none⟩) (List.replicate n b)/\Below W.heap.size W z:=by
 have A:=λV=>Tryz.bits_Mul 1 n (by omega) (by omega) V;have N:1*n/18446744073709551616=0:=by omega
 have O:1*n%18446744073709551616=n:=by omega
 simp only[N,O]at A;have ag:((n:Int)==0)=false:=by simp;omega
 obtain⟨cs,ae,ab,af⟩:=qyE W n hn;have D:Hid ((W.drew.drew.alloc (.cells cs 5)).heap[W.heap.size]?=some (.cells cs.toList.toArray 5 (0,0))):=by
  show _=_;rw[Array.toArray_toList];exact qac W.drew.drew _
 have t:Hid (Below W.heap.size W (W.drew.drew.alloc (.cells cs 5))):=((Below.refl _ _).drew.drew).alloc (Nat.le_refl _) _;have E:=qab ((t.out.cell ac).trans P);have J:Hid (∀(j:Nat) (v:Value),[Value.int .u8 b.toNat][j]?=some v->(W.drew.drew.alloc (.cells cs 5)).cell? ((⟨M,0,none⟩:Addr).add j)=some v):=λj v f=>by
  cases j with
  |zero=>simp at f;subst f;exact E.out
  |succ j=>simp at f
 have F:Hid ([Value.int .u8 (b.toNat:Int)].length=Nat.min 1 n):=(Nat.min_eq_left h1).symm;have x:Hid (0+[Value.int .u8 (b.toNat:Int)].length<=cs.toList.length):=by show _<=_;simp;omega
 by_cases h8:n<=8192
 all_goals
  go_enter func70,ntmps70
  go_upto_region 17 with(first
   |(go_at_call 88;refine(A _).mono ?_;rintro e c ⟨rfl,rfl⟩))
  refine wp_region_list ?_;refine wpList_plain rfl λK o=>?_;go_simp;refine o _ _ ?_;refine wpList_plain rfl λK o=>?_;go_simp;refine o _ _ ?_;refine wpList_copy_splice rfl (.tmp 58) (.tmp 59) 35 35 rfl 5 underlying35 (by kernel_rfl) (some ⟨c.heap.size,0,none⟩) (some ⟨M,0,none⟩) n n 1 1 rfl rfl c.heap.size 0 cs.toList 5 D.out [.int .u8 b.toNat] F.out (λ_=>⟨rfl,⟨M,0,none⟩,rfl,J.out⟩) x.out (qqm b) c.heap.size c t.out (Nat.le_refl _) ?_;intro w4 y Q;refine wpList_plain rfl λK o=>?_;go_simp;refine o _ _ ?_
  go_wp2_with fail
  have G:Hid (qwV c c.heap.size b n 1 (splice cs.toList 0 [.int .u8 b.toNat]) w4):=⟨Q,y.out,Nat.le_refl _,by rw[length_splice _ _ _ x.out];simpa using ab,λj B=>by
   obtain rfl:j=0:=by omega
   simp[splice]⟩
  go_loopg[10] n (λg ad wr=>∃(a:Nat) (s:List Value),ad=.int .i64 a/\Hid (1<=a)/\Hid (a<=n)/\Hid (n<=a+g)/\Hid (qwV c c.heap.size b n a s wr))
  case atStart=>exact⟨1,_,rfl,Nat.le_refl _,h1,by show _<=_;omega,G⟩
  case round =>
   obtain⟨a,s,rfl,u,C,w,l⟩:=hrel;by_cases U:a<n
   ·have hl:(a:Int)<n:=by omega
    first|(have h9:n<=8192:=(by omega);obtain⟨d,q⟩:∃d,Hid (min a n=d):=⟨_,rfl⟩;have Y:(min (a:Int) (n:Int))=d:=(by have:=q.out;omega))|(obtain⟨d,q⟩:∃d,Hid (min a 8192=d):=⟨_,rfl⟩;have Y:(min (a:Int) 8192)=d:=by have:=q.out;omega)
    go_wp2_with fail
    obtain⟨m,k⟩:∃m,Hid (min d (n-a)=m):=⟨_,rfl⟩
    have r:Hid (qwV c c.heap.size b n a s {wr with drawn:=wr.drawn+1}):=⟨l.out.below.drew,l.out.row,l.out.lo,l.out.fit,l.out.same⟩
    refine rgn (S:=λ_=>True) (trivial) (by kernel_rfl) ?_;intro p;generalize({wr with drawn:=wr.drawn+1}:World)=w5 at *;refine tkH 0 67 (.int .i64 a) rfl (by kernel_rfl) (λ_ _ _ h=>h) (λZ i=>by kernel_rfl) p ?_;refine tkH 1 68 (.slice (some ⟨c.heap.size,0,none⟩) n n) rfl (by kernel_rfl) (λ_ _ _ h=>h) (λZ i=>by kernel_rfl) p ?_;refine tkH 2 69 (.int .i64 a) rfl (by kernel_rfl) (λ_ _ _ h=>h) (λZ i=>by kernel_rfl) p ?_;refine tkH 3 70 (.slice (some ⟨c.heap.size,a,none⟩) (n-a) (n-a)) rfl (by kernel_rfl) (λ_ _ _ h=>h) (λZ i=>qfb 35 (.tmp 68) (some (.tmp 69)) none rfl (X:=.slice (some ⟨c.heap.size,0,none⟩) n n) (L:=some (.int .i64 a)) (H:=none) (by kernel_rfl) (by kernel_rfl) (by kernel_rfl) (qzK Z c.heap.size a n U)) p ?_;refine tkH 4 71 (.slice (some ⟨c.heap.size,0,none⟩) n n) rfl (by kernel_rfl) (λ_ _ _ h=>h) (λZ i=>by kernel_rfl) p ?_;refine tkH 5 72 (.int .i64 d) rfl (by kernel_rfl) (λ_ _ _ h=>h) (λZ i=>by kernel_rfl) p ?_;refine tkH 6 73 (.slice (some ⟨c.heap.size,0,none⟩) d n) rfl (by kernel_rfl) (λ_ _ _ h=>h) (λZ i=>qfb 35 (.tmp 71) none (some (.tmp 72)) rfl (X:=.slice (some ⟨c.heap.size,0,none⟩) n n) (L:=none) (H:=some (.int .i64 d)) (by kernel_rfl) (by kernel_rfl) (by kernel_rfl) (qzP Z c.heap.size d n (by have:=q.out;omega))) p ?_;refine rdS 7 rfl (by kernel_rfl) (λK o=>?_);refine step_copy_splice rfl (.tmp 70) (.tmp 73) 35 35 rfl 5 underlying35 (by kernel_rfl) (some ⟨c.heap.size,a,none⟩) (some ⟨c.heap.size,0,none⟩) (n-a) (n-a) d n (by kernel_rfl) (by kernel_rfl) c.heap.size a s 5 r.out.row (List.replicate m (.int .u8 b.toNat)) ?hn (λ_=>⟨rfl,⟨c.heap.size,0,none⟩,rfl,?hs⟩) ?hf ?h1 c.heap.size c r.out.below (Nat.le_refl _) ?_
    case hn=>rw[List.length_replicate];exact k.out.symm
    case hf=>rw[List.length_replicate];have:=r.out.fit;have:=k.out;omega
    case h1=>intro v f;rw[(List.mem_replicate.1 f).2];rfl
    case hs =>
     intro j v f;have B:j<m:=by have:=ltL f;simpa using this
     rw[List.getElem?_replicate_of_lt B]at f;have e:(⟨c.heap.size,0,none⟩:Addr).add j=⟨c.heap.size,j,none⟩:=by by_cases h:j=0<;>simp[Addr.add,h]
     rw[e,qaa r.out.row j,<-f];have:=r.out.same j (by have:=k.out;have:=q.out;omega);simpa using this
    intro w6 aa R;rw[List.length_replicate];have I:=qab (r.out.copy R (by have:=k.out;omega) aa.out);refine o.out _ _ trivial (λ_=>?_);refine tkH 8 75 (.int .i64 ((a+m:Nat):Int)) rfl (by kernel_rfl) (λ_ _ _ h=>h) (λZ i=>?y8) trivial ?_
    case y8 =>
     go_simp;exact(IntKind.wrap_i64 _).trans (by have:=k.out;omega)
    refine tkH 9 10 (.int .i64 ((a+m:Nat):Int)) rfl (by kernel_rfl) (λ_ _ _ h=>h) (λZ i=>by kernel_rfl) trivial ?_;refine wpAnyH_done (by kernel_rfl) ?_ _;go_simp
    go_wp2_with fail
    cases gk with
    |zero=>have:=w.out;omega
    |succ g =>
     go_roundg g
     case measure=>omega
     case rel=>exact⟨a+m,_,by go_num,by show _<=_;have:=u.out;omega,by show _<=_;have:=k.out;omega,by show _<=_;have h1:=k.out;have h2:=q.out;have h3:=u.out;have h4:=w.out;omega,I⟩
   have hl:¬(a:Int)<n:=by omega
   have T:a=n:=by have:=C.out;omega
   subst T
   go_wp2_with fail
   go_ret;exact⟨_,rfl,qt7 l.out hn,l.out.below⟩

theorem qnQ(W:World)(a:Option Addr)(l c:Nat):Calls prog 70 #[.slice a l c,.int .i64 0] W λe b=>∃g d,e=.returned (.slice (some ⟨g,0,none⟩) 0 d)/\Below W.heap.size W b:=by
 go_enter func70,ntmps70;go_wp2;go_ret;exact⟨_,_,rfl,bwA⟩
theorem qoG(W:World)(M:Nat)(b:UInt8)(n:Nat)(m:n<=65536)(f:W.cell? ⟨M,0,none⟩=some (.int .u8 b.toNat))(l:M<W.heap.size):Calls prog 70 #[.slice (some ⟨M,0,none⟩) 1 1,.int .i64 n] W λe a=>∃g c,e=.returned (.slice (some ⟨g,0,none⟩) n c)/\qav a (some ⟨g,0,none⟩) (List.replicate n b)/\Below W.heap.size W a:=by
 by_cases h:n=0
 ·subst h;refine(qnQ W _ 1 1).mono ?_;rintro e a ⟨g,c,rfl,d⟩;exact⟨g,c,rfl,⟨λi k=>by simp at k,by simp⟩,d⟩
 refine(qos W M b n (by omega) m f l).mono ?_;rintro e a ⟨g,rfl,j,d⟩;exact⟨g,n,rfl,j,d⟩
def qh1(fm:Int)(bs:List UInt8):List Int->Option (List UInt8)
 |[]=>none
 |x::B=>if(bs.length:Int)<=x then some (bs++List.replicate (x.toNat-bs.length) (UInt8.ofNat (qcq fm)))else qh1 fm bs B
def qfN(fm:Int)(bs:List UInt8)(B:List Int):Option (List UInt8):=if B.length=0 then some bs else qh1 fm bs B
theorem qrc(a:Int):(UInt8.ofNat (qcq a)).toNat=qcq a:=by
 unfold qcq;split<;>rfl
theorem qve{g:Nat}(h:qav W (some ⟨g,0,none⟩) (List.replicate n b)):∀(j:Nat) (u:Value),((List.replicate n b).map qax)[j]?=some u->W.cell? ((⟨g,0,none⟩:Addr).add j)=some u:=by
 intro j u f;have d:j<(List.replicate n b).length:=by have:=ltL f;simpa using this
 obtain⟨i,off,a,_,c⟩:=h.at_ j d;injection a with a;injection a with a e2 _;subst a;subst e2;have e:(⟨g,0,none⟩:Addr).add j=⟨g,j,none⟩:=by by_cases h:j=0<;>simp[Addr.add,h]
 rw[e];rw[Nat.zero_add]at c;rw[c,<-f,List.getElem?_map,List.getElem?_eq_getElem d];rfl
theorem qxK(n:Nat)(b:UInt8):((List.replicate n b).map qax).length=n*1:=by simp
theorem qxQ(n:Nat)(b:UInt8):∀u∈(List.replicate n b).map qax,u.oneCell'=true:=λu a=>by
 obtain⟨c,_,rfl⟩:=List.mem_map.1 a;rfl
theorem qvJ{W':World}{base:Nat}{v':Value}{bs:List UInt8}(h:Own W base v bs)(c:W'.ownsRow base 5 1 v' (bs.length+n) (bs.map qax++(List.replicate n b).map qax))(a:W.grownBy W' v.ownBlock):Own W' base v' (bs++List.replicate n b)/\Below base W W':=by
 refine⟨⟨by rw[List.length_append,List.map_append,List.length_replicate];exact c,Nat.le_trans h.2.1 a.size,?_⟩,qa3 (Below.refl base W) h.1 a h.2.1⟩;rcases c.2 with⟨e,_⟩|⟨g,d,f,e,_⟩
 ·exact⟨none,0,0,e⟩
 exact⟨_,_,_,e⟩
def qzl(W:World)(base:Nat)(r:Option (List UInt8))(e:Ending)(W':World):Prop :=
 (∃v',e=.returned (.tuple #[v',.bool r.isSome])/\(r=none->v'=.slice none 0 0)/\∀l,r=some l->Own W' base v' l)/\Below base W W'
theorem qtK(W:World)(u:Nat)(c:Int)(v:Value)(bs:List UInt8)(ba:Option Addr)(Z:Nat)(B:List Int)(h:Own W u v bs)(J:qcR W ba B)(aj:B.length<=8)(K:∀i (h:i<B.length),B[i]<=65536)(hl:bs.length<=999999999):Calls prog 52 #[.int .i64 c,v,.slice ba B.length Z] W (qzl W u (qfN c bs B)):=by
 obtain⟨i0,hi,ad,ae,af⟩:=info_parts Tryz.infoU8;obtain⟨ia,j,rfl,aa⟩:=qcK h;have E:=qab h;have P:=qab h.2.1;have R:=qab J;have Y:=qab K;have w:=λV=>qoy c V;obtain⟨a,D⟩:∃a:UInt8,Hid (UInt8.ofNat (qcq c)=a):=⟨_,rfl⟩
 have Q:Hid ((qcq c:Int)=(a.toNat:Int)):=by show _=_;rw[<-D.out,qrc]
 rw[Q.out]at w;clear h J K aa;by_cases A:B.length=0
 ·have f:Hid (qfN c bs B=some bs):=by show _=_;unfold qfN;rw[if_pos A]
  rw[A];go_enter func52,ntmps52;go_wp2;refine bodyPost_ret (results_tmp2 results52 _ _ _) rfl ?_;rw[f.out];exact⟨⟨_,rfl,λh=>by simp at h,λl h=>by have y:=Option.some.inj h;rw[<-y];exact E.out⟩,Below.refl _ _⟩
 obtain⟨r,d⟩:∃r,Hid (qh1 c bs B=r):=⟨_,rfl⟩
 have f:Hid (qfN c bs B=r):=by show _=_;unfold qfN;rw[if_neg A];exact d.out
 rw[f.out];have ah:((B.length:Int)==0)=false:=by rw[beq_eq_false_iff_ne];omega
 go_enter func52,ntmps52
 go_wp2_with fail
 go_loopg[17] B.length (λg ag wr=>∃k:Nat,ag=.int .i64 k/\Hid (k+g=B.length)/\W=wr/\Hid (qh1 c bs (B.drop k)=r))
 case atStart=>exact⟨0,rfl,by show _=_;omega,rfl,d⟩
 case round =>
  clear d f;obtain⟨k,rfl,m,rfl,d⟩:=hrel
  cases gk with
  |zero =>
   have ab:¬(k:Int)<B.length:=by have:=m.out;omega
   have b:r=none:=by
    have:=d.out;rw[List.drop_of_length_le (by have:=m.out;omega)]at this;exact this.symm
   subst b;go_wp2;refine bodyPost_ret (results_tmp2 results52 _ _ _) rfl ?_;exact⟨⟨_,rfl,λ_=>rfl,λl h=>by cases h⟩,Below.refl _ _⟩
  |succ g =>
   have o:k<B.length:=by have:=m.out;omega
   have ab:(k:Int)<B.length:=by omega
   obtain⟨b0,off,rfl,ai,L⟩:=R.out.at_ k o;have hc:=L k o;have hx:=Y.out k o;have b:=d.out;rw[List.drop_eq_getElem_cons o,qh1]at b;clear L;generalize B[k]=x at *;by_cases C:(bs.length:Int)<=x
   ·rw[if_pos C,D.out]at b;obtain⟨n,hn⟩:∃n:Nat,x=(bs.length:Int)+n:=⟨(x-bs.length).toNat,by omega⟩
    subst hn;have I:((bs.length:Int)+n).toNat-bs.length=n:=by omega
    rw[I]at b;have X:=qab b.symm;clear b I;have p:Hid (Below W.heap.size W (W.alloc (.cells #[.int .u8 (a.toNat:Int)] 5))):=bwA;have H:=qoG (W.alloc (.cells #[.int .u8 (a.toNat:Int)] 5)) W.heap.size a n (by omega) (qaa (qac W _) 0) (by simp);have G:Calls prog 70 #[.slice (some ⟨W.heap.size,0,none⟩) 1 1,.int .i64 ((bs.length:Int)+n-bs.length)] (W.alloc (.cells #[.int .u8 (a.toNat:Int)] 5)) λe t=>∃g j,e=.returned (.slice (some ⟨g,0,none⟩) n j)/\Hid (qav t (some ⟨g,0,none⟩) (List.replicate n a))/\Hid (Below W.heap.size W t):=by
     rw[show(bs.length:Int)+n-bs.length=n by omega];refine H.mono ?_;rintro e t ⟨g,j,rfl,h1,h2⟩;exact⟨g,j,rfl,h1,p.out.trans (h2.mono p.out.size)⟩
    clear H p;have al:bs.length+n<=65536:=by omega
    go_wp2_with(first
     |(go_at_call 33;refine(w _).mono ?_;clear w;rintro e w2 ⟨rfl,rfl⟩)
     |(go_at_call 70;refine G.mono ?_;clear G;rintro e w3 ⟨g3,z,rfl,O,F⟩;have s:=qab (qgx E.out F.out);have U:=qab (qve O.out);have S:=qab (qxK n a))
     |(at_builtin;refine wpList_append_own _ rfl _ _ 35 rfl u 5 i0 (.int .u8 0) 1 1 underlying35 hi ad ae af rfl (by decide) _ _ _ rfl s.out.1 ⟨g3,0,none⟩ n z ((List.replicate n a).map qax) rfl S.out U.out (qxQ n a) (by unfold maxLen;omega) (by omega) s.out.2.1 ?_;intro v' w5 N M ac;clear ac;have q:=qab (qvJ s.out N M);clear N M;obtain⟨a5,n5,c5,rfl⟩:=q.out.1.2.2))
    refine bodyPost_ret (results_tmp2 results52 _ _ _) rfl ?_;rw[X.out];exact⟨⟨_,rfl,λh=>by simp at h,λl h=>by have y:=Option.some.inj h;rw[<-y];exact q.out.1⟩,(F.out.mono P.out).trans q.out.2⟩
   rw[if_neg C]at b;have T:=qab b;have ak:=C;clear b d
   go_wp2_with fail
   go_roundg g
   case measure=>omega
   case rel=>exact⟨k+1,by go_num,by show _=_;have:=m.out;omega,rfl,T⟩

structure Gt where
 inF:Int
 out:Int
 depth:Int
 bytes:Nat
 rc:Array Value
 bk:Value
def qaz(g:Gt)(fed:Value)(cl:Bool):Array Value:=#[.int .i64 g.inF,.int .i64 g.out,.int .i64 g.depth,.int .i64 g.bytes]++g.rc++#[g.bk,fed,.bool cl]
theorem qfa{g:Gt}(b:Value)(a:Bool)(j:Nat)(h:j<4):(qaz g b a)[j]?=#[Value.int .i64 g.inF,.int .i64 g.out,.int .i64 g.depth,.int .i64 g.bytes][j]?:=by
 unfold qaz;rw[Array.append_assoc,Array.getElem?_append_left (by simpa using h)]
theorem qc8{g:Gt}(c:g.rc.size=40)(b:Value)(a:Bool)(j:Nat):(qaz g b a)[44+j]?=#[g.bk,b,.bool a][j]?:=by
 unfold qaz;rw[Array.getElem?_append_right (by simp[c])];simp[c]
theorem qt6{g:Gt}(d:g.rc.size=40)(c b:Value)(a:Bool):(qaz g c a).setIfInBounds 45 b=qaz g b a:=by
 unfold qaz;apply Array.ext';have e:(#[Value.int .i64 g.inF,.int .i64 g.out,.int .i64 g.depth,.int .i64 g.bytes]++g.rc).toList.length=44:=by simp[d]
 simp only[Array.toList_setIfInBounds];rw[Array.toList_append,List.set_append_right _ _ (by omega),e];simp
theorem qp0(W:World)(f:Nat)(v:Value)(d:List UInt8)(k:Option Addr)(c:Nat)(b:List UInt8)(h:Own W f v d)(r:qav W k b)(E:k=none->c=0)(L:d.length+b.length<=999999999):∃l m,(Builtin.append_ #[35,35] 35 #[v,.slice k b.length c]).run prog W=.ok l m/\Own m f l (d++b)/\W.grownBy m v.ownBlock:=by
 obtain⟨y,s,F,G,H⟩:=info_parts Tryz.infoU8
 cases k with
 |none =>
  have C:b=[]:=by
   cases b with
   |nil=>rfl
   |cons a t =>
    obtain⟨g,off,e,_⟩:=r.at_ 0 (by simp);cases e
  subst C;rw[E rfl];have n:=run_append_owned_none (P:=prog) (w:=W) f 35 35 5 y 1 underlying35 s v d.length _ h.1;refine⟨v,W,n,by simpa using h,⟨rfl,rfl,rfl,Nat.le_refl _,λ_ _ _=>rfl⟩⟩
 |some o =>
  have D:∀j u,(b.map qax)[j]?=some u->W.cell? (o.add j)=some u:=by
   intro j u i;have x:j<b.length:=by have:=ltL i;simpa using this
   obtain⟨g,off,z,_,B⟩:=r.at_ j x;have A:=Option.some.inj z;subst A;have e:(⟨g,off,none⟩:Addr).add j=⟨g,off+j,none⟩:=by by_cases h:j=0<;>simp[Addr.add,h]
   rw[e,B,<-i,List.getElem?_map,List.getElem?_eq_getElem x];rfl
  obtain⟨l,I,n,p,q,_⟩:=run_append_own (P:=prog) W f 35 35 5 y (.int .u8 0) 1 1 underlying35 s F G H rfl (by decide) v d.length _ h.1 o b.length c (b.map qax) (by simp) D (λu i=>by obtain⟨c,_,rfl⟩:=List.mem_map.1 i;rfl) (by unfold maxLen;omega) (by omega) h.2.1;refine⟨l,I,n,⟨by rw[List.length_append,List.map_append];exact p,Nat.le_trans h.2.1 q.size,?_⟩,q⟩;rcases p.2 with⟨e,_⟩|⟨g,J,K,e,_⟩
  ·exact⟨none,0,0,e⟩
  exact⟨_,_,_,e⟩
theorem qyB(V:World)(c:Option Addr)(n m b:Nat)(h:m<=b):(Instr.sliceAt 35 (.slice c n b) none (some (.int .i64 m)) none).run prog V=.ok (.slice c m b) V:=by
 have e:∀a:Addr,a.add 0=a:=λa=>by simp[Addr.add]
 have d:(m:Int)<=b:=by omega
 rw[run_sliceAt_slice (P:=prog) V 35 _ _ _ _ (by kernel_rfl)];cases c<;>simp[Instr.slice,run_underlying underlying35,Instr.sliceBounds,run_sliceBound,d,e]
theorem q0x{c:Prop}[Decidable c]{A B:Prop}(h:c)(a:A):if c then A else B:=by rw[if_pos h];exact a
theorem qjb{w w':World}{a:Act}{K:Act->World->Prop}{Q:Exit->Act->World->Prop}(s x:Operand)(t:TypeId)(c:o.op=.call {callee:=.builtin .append,args:=#[s,x],argTypes:=#[t,t]})(v u b:Value)(e:a.eval s=v)(f:a.eval x=u)(d:(Builtin.append_ #[t,t] o.type #[v,u]).run P w=.ok b w')(h:K (a.put o.dst b) w'):o.wp P a w K Q:=by
 unfold Oper.wp execOp;simp only[c,resolve,invoke,builtin,Sem.run_bind,Sem.run_pure,Result.andThen_ok,List.map_toArray,List.map_cons,List.map_nil,e,f,d];exact h
def qy9(W:World)(L base:Nat)(g:Gt)(fed:Value)(l:List UInt8)(e:Ending)(W':World):Prop :=
 ∃fa fn fc,e=.returned (.tuple #[])/\Own W' base (.slice fa fn fc) l/\W'.heap[L]?=some (.cells (qaz g (.slice fa fn fc) false) 79)/\(W'.os=W.os/\W'.tape=W.tape/\W'.output=W.output)/\W.heap.size<=W'.heap.size/\∀k,k<W.heap.size->k≠L->some k≠fed.ownBlock->W'.heap[k]?=W.heap[k]?
theorem qsL(W:World)(L r:Nat)(g:Gt)(U:g.rc.size=40)(E:Value)(c:List UInt8)(f:Option Addr)(n:Nat)(bs:List UInt8)(F:W.heap[L]?=some (.cells (qaz g E false) 79))(o:Own W r E c)(hL:L<r)(Q:qav W f bs)(ak:f=none->n=0)(au:bs.length<=n)(ar:g.bytes<=4096)(ao:c.length<=g.bytes+1):Calls prog 28 #[.pointer (some ⟨L,0,none⟩),.slice f bs.length n] W (qy9 W L r g E (c++bs.take (g.bytes+1-c.length))):=by
 obtain⟨j,l,rfl,av⟩:=qcK o;have HG:=qab F;have HO:=qab o;have c3:W.cell? ⟨L,3,none⟩=some (.int .i64 g.bytes):=(qaa F 3).trans (qfa _ _ 3 (by decide));have ad:W.cell? ⟨L,45,none⟩=some (.slice j c.length l):=(qaa F 45).trans (qc8 U _ _ 1);obtain⟨d,B⟩:∃d,Hid (c.length+d=g.bytes+1):=⟨g.bytes+1-c.length,by show _=_;omega⟩
 have al:g.bytes+1-c.length=d:=by have:=B.out;omega
 rw[al];obtain⟨m,u⟩:∃m,Hid (min bs.length d=m):=⟨_,rfl⟩
 have J:Hid ((bs.take d).length=m):=by show _=_;rw[List.length_take];have:=u.out;omega
 have aq:=Q.len;have aa:Hid (qav W f (bs.take d)):=⟨λi hi=>by
  have ai:i<bs.length:=by rw[List.length_take]at hi;omega
  obtain⟨g0,off,v,w,D⟩:=Q.at_ i ai;exact⟨g0,off,v,w,by rw[List.getElem_take];exact D⟩,by rw[List.length_take];omega⟩
 have G:=qab hL;have A:=qab U;have ab:=qab ak;have aw:m<=bs.length:=by have:=u.out;omega
 have ay:d<=4097:=by have:=B.out;omega
 have ap:c.length<=4097:=by omega
 have b:(λZ:World=>Z.cell? ⟨L,3,none⟩=some (.int .i64 g.bytes)/\Z.cell? ⟨L,45,none⟩=some (.slice j c.length l)) {W with drawn:=W.drawn+1}:=⟨c3,ad⟩
 go_enter func28,ntmps28
 go_wp2_with fail
 refine wp_region_held (S:=λZ=>Z.cell? ⟨L,3,none⟩=some (.int .i64 g.bytes)/\Z.cell? ⟨L,45,none⟩=some (.slice j c.length l)) (by kernel_rfl) ?_;refine tkH 0 5 (.pointer (some ⟨L,0,none⟩)) rfl (by kernel_rfl) (λ_ _ _ h=>h) (λZ a=>by kernel_rfl) b ?_;refine tkH 1 6 (.pointer (some ⟨L,0,none⟩)) rfl (by kernel_rfl) (λ_ _ _ h=>h) (λZ a=>by kernel_rfl) b ?_;refine tkH 2 7 (.pointer (some ⟨L,2,none⟩)) rfl (by kernel_rfl) (λ_ _ _ h=>h) (λZ a=>by kernel_rfl) b ?_;refine tkH 3 8 (.pointer (some ⟨L,3,none⟩)) rfl (by kernel_rfl) (λ_ _ _ h=>h) (λZ a=>by kernel_rfl) b ?_;refine tkH 4 9 (.int .i64 g.bytes) rfl (by kernel_rfl) (λ_ _ _ h=>h) (λZ a=>?y4) b ?_
 case y4=>(have z1:=a.1;go_simp)
 refine tkH 5 10 (.int .i64 ((g.bytes:Int)+1)) rfl (by kernel_rfl) (λ_ _ _ h=>h) (λZ a=>?y5) b ?_
 case y5=>(go_simp;exact(IntKind.wrap_i64 _).trans (by omega))
 refine tkH 6 11 (.pointer (some ⟨L,0,none⟩)) rfl (by kernel_rfl) (λ_ _ _ h=>h) (λZ a=>by kernel_rfl) b ?_;refine tkH 7 12 (.pointer (some ⟨L,0,none⟩)) rfl (by kernel_rfl) (λ_ _ _ h=>h) (λZ a=>by kernel_rfl) b ?_;refine tkH 8 13 (.pointer (some ⟨L,45,none⟩)) rfl (by kernel_rfl) (λ_ _ _ h=>h) (λZ a=>by kernel_rfl) b ?_;refine tkH 9 14 (.slice j c.length l) rfl (by kernel_rfl) (λ_ _ _ h=>h) (λZ a=>?y9) b ?_
 case y9=>(have z1:=a.2;go_simp)
 refine tkH 10 15 (.int .i64 c.length) rfl (by kernel_rfl) (λ_ _ _ h=>h) (λZ a=>by kernel_rfl) b ?_;refine tkH 11 16 (.int .i64 d) rfl (by kernel_rfl) (λ_ _ _ h=>h) (λZ a=>?y11) b ?_
 case y11=>(go_simp;exact(IntKind.wrap_i64 _).trans (by have:=B.out;omega))
 refine tkH 12 4 (.int .i64 d) rfl (by kernel_rfl) (λ_ _ _ h=>h) (λZ a=>by kernel_rfl) b ?_;refine wpAnyH_done (by kernel_rfl) ?_ _;go_simp
 go_wp2_with fail
 refine wp_region_held (S:=λ_=>True) (by kernel_rfl) ?_;have z:Hid (({World.drew W with drawn:=(World.drew W).drawn+1}:World).heap[L]?=some (.cells (qaz g (.slice j c.length l) false) 79)):=HG;have I:Hid (Own {World.drew W with drawn:=(World.drew W).drawn+1} r (.slice j c.length l) c):=HO;have Y:Hid (qav {World.drew W with drawn:=(World.drew W).drawn+1} f (bs.take d)):=aa.out.below (Below.refl _ _).drew.drew;have q:Hid (Below W.heap.size W {World.drew W with drawn:=(World.drew W).drawn+1}):=(Below.refl _ _).drew.drew;generalize({World.drew W with drawn:=(World.drew W).drawn+1}:World)=W2 at *;have b:(λ_:World=>True) W2:=trivial;have a0:W2.cell? ⟨L,45,none⟩=some (.slice j c.length l):=(qaa z.out 45).trans (qc8 A.out _ _ 1);obtain⟨v',C,T,P,ah⟩:=qp0 W2 r (.slice j c.length l) c f n (bs.take d) I.out Y.out ab.out (by rw[J.out];have:=u.out;omega);rw[J.out]at T;have ac:=qab P;have p:=qab ah;obtain⟨M,V,N,rfl⟩:=P.2.2;have ag:some L≠(Value.slice j c.length l).ownBlock:=λe=>by have x:=qbE I.out.1 e.symm;have y:=G.out;omega
 have t:=qab ((p.out.block L (ltA z.out) ag).trans z.out);have az:C.cell? ⟨L,45,none⟩=some (.slice j c.length l):=(qaa t.out 45).trans (qc8 A.out _ _ 1);have am:=frozen_of_row C L 45 _ _ t.out;refine tkH 0 17 (.pointer (some ⟨L,0,none⟩)) rfl (by kernel_rfl) (λ_ _ _ h=>h) (λZ a=>by kernel_rfl) b ?_;refine tkH 1 18 (.pointer (some ⟨L,0,none⟩)) rfl (by kernel_rfl) (λ_ _ _ h=>h) (λZ a=>by kernel_rfl) b ?_;refine tkH 2 19 (.pointer (some ⟨L,0,none⟩)) rfl (by kernel_rfl) (λ_ _ _ h=>h) (λZ a=>by kernel_rfl) b ?_;refine tkH 3 20 (.pointer (some ⟨L,45,none⟩)) rfl (by kernel_rfl) (λ_ _ _ h=>h) (λZ a=>by kernel_rfl) b ?_;refine tkH 5 22 (.slice f bs.length n) rfl (by kernel_rfl) (λ_ _ _ h=>h) (λZ a=>by kernel_rfl) b ?_;refine tkH 6 23 (.slice f bs.length n) rfl (by kernel_rfl) (λ_ _ _ h=>h) (λZ a=>by kernel_rfl) b ?_;refine tkH 7 24 (.int .i64 bs.length) rfl (by kernel_rfl) (λ_ _ _ h=>h) (λZ a=>by kernel_rfl) b ?_;refine tkH 8 25 (.int .i64 d) rfl (by kernel_rfl) (λ_ _ _ h=>h) (λZ a=>by kernel_rfl) b ?_;refine tkH 9 26 (.int .i64 m) rfl (by kernel_rfl) (λ_ _ _ h=>h) (λZ a=>?y9) b ?_
 case y9 =>
  have ax:min (bs.length:Int) (d:Int)=m:=by have:=u.out;omega
  go_simp
 refine tkH 10 27 (.slice f m n) rfl (by kernel_rfl) (λ_ _ _ h=>h) (λZ a=>qfb 35 (.tmp 22) none (some (.tmp 26)) rfl (X:=.slice f bs.length n) (L:=none) (H:=some (.int .i64 m)) (by kernel_rfl) (by kernel_rfl) (by kernel_rfl) (qyB Z f bs.length m n (by omega))) b ?_;refine rdS 4 rfl (by kernel_rfl) (λK s=>?_);go_simp;refine s.out _ _ trivial (λ_=>?_);refine rdS 11 rfl (by kernel_rfl) (λK s=>?_);refine q0x (by kernel_rfl) ?_;refine qjb (.tmp 21) (.tmp 27) 35 rfl (.slice j c.length l) (.slice f m n) _ (by kernel_rfl) (by kernel_rfl) T ?_;refine s.out _ _ trivial (λ_=>?_);refine tkH 12 29 (.pointer (some ⟨L,0,none⟩)) rfl (by kernel_rfl) (λ_ _ _ h=>h) (λZ a=>by kernel_rfl) trivial ?_;refine tkH 13 30 (.pointer (some ⟨L,45,none⟩)) rfl (by kernel_rfl) (λ_ _ _ h=>h) (λZ a=>by kernel_rfl) trivial ?_;refine rdS 14 rfl (by kernel_rfl) (λK s=>?_);go_simp;refine s.out _ _ trivial (λ_=>?_);refine wpAnyH_done (by kernel_rfl) ?_ _;go_simp
 go_wp2_with fail
 go_end0;have an:=ltA t.out;refine⟨M,V,N,rfl,?_,?_,⟨p.out.os.trans q.out.os,p.out.tape.trans q.out.tape,p.out.output.trans q.out.output⟩,?_,λk R x y=>?_⟩
 ·have o:=ac.out;have aj:∀g,(Value.slice M V N).ownBlock=some g->g≠L:=λg e w=>by have x:=qbE o.1 e;have y:=G.out;omega
  refine⟨⟨o.1.1,?_⟩,by have:=o.2.1;simpa[World.setCell]using this,o.2.2⟩;rcases o.1.2 with h|⟨O,ae,af,v,w,D,e4⟩
  ·exact .inl h
  exact .inr ⟨O,ae,af,v,w,(heap_setCell_other _ _ _ _ (by simpa using aj O (by rw[v];rfl))).trans D,e4⟩
 ·rw[heap_setCell_same C _ _ _ _ _ t.out,qt6 A.out]
 ·have x:=p.out.size;have y:=q.out.size;simp[World.setCell];omega
 exact(heap_setCell_other _ _ _ _ (by simpa using x)).trans ((p.out.block k (Nat.lt_of_lt_of_le R q.out.size) y).trans (q.out.block k R))

theorem qy5{g:Gt}{L:Nat}{fed:Value}{cl:Bool}(b:V.heap[L]?=some (.cells (qaz g fed cl) 79)):∀(j:Nat) (u:Value),#[Value.int .i64 g.depth,.int .i64 g.bytes][j]?=some u->V.cell? ⟨L,2+j,none⟩=some u:=by
 intro j u a;have c:j<2:=ltA a;refine(qaa b (2+j)).trans ((qfa fed cl (2+j) (by omega)).trans ?_)
 match j,c,a with
 |0,_,a=>exact a
 |1,_,a=>exact a
theorem qqG(k:Nat)(V:World)(p L:Nat)(g:Gt)(J:g.rc.size=40)(f:Option Addr)(l i:Nat)(C:Bool)(r:Except (Int×Int) (DataW Unit))(H:V.heap[p]?=some (.cells #[.pointer (some ⟨L,0,none⟩)] 43))(n:V.heap[L]?=some (.cells (qaz g (.slice f l i) C) 79))(B:∀U,Below V.heap.size V U->Calls prog 49 #[.int .i64 g.inF,.agg #[.int .i64 g.depth,.int .i64 g.bytes],.slice f l i] U (qgW k U r)):Calls prog 48 #[.pointer (some ⟨p,0,none⟩)] V (qgW k V r):=by
 have O:=qab n;have a:(λZ:World=>Z.cell? ⟨p,0,none⟩=some (.pointer (some ⟨L,0,none⟩))/\Z.cell? ⟨L,0,none⟩=some (.int .i64 g.inF)/\(∀(j:Nat) (u:Value),#[Value.int .i64 g.depth,.int .i64 g.bytes][j]?=some u->Z.cell? ⟨L,2+j,none⟩=some u)/\Z.cell? ⟨L,45,none⟩=some (.slice f l i)) {V with drawn:=V.drawn+1}:=⟨qaa H 0,(qaa n 0).trans (qfa _ _ 0 (by decide)),qy5 n,(qaa n 45).trans (qc8 J _ _ 1)⟩
 have x:=qab B;have G:(prog.info? 54).map (·.size)=some (#[Value.int .i64 g.depth,.int .i64 g.bytes]).size:=by kernel_rfl
 go_enter func48,ntmps48
 go_wp2_with fail
 refine wp_region_held (S:=λZ=>Z.cell? ⟨p,0,none⟩=some (.pointer (some ⟨L,0,none⟩))/\Z.cell? ⟨L,0,none⟩=some (.int .i64 g.inF)/\(∀(j:Nat) (u:Value),#[Value.int .i64 g.depth,.int .i64 g.bytes][j]?=some u->Z.cell? ⟨L,2+j,none⟩=some u)/\Z.cell? ⟨L,45,none⟩=some (.slice f l i)) (by kernel_rfl) ?_;have c:Hid (Below V.heap.size V {V with drawn:=V.drawn+1}):=(Below.refl _ _).drew;generalize({V with drawn:=V.drawn+1}:World)=V1 at *;refine tkH 0 2 (.pointer (some ⟨L,0,none⟩)) rfl (by kernel_rfl) (λ_ _ _ h=>h) (λZ b=>?y0) a ?_
 case y0=>(have o:=b.1;go_simp)
 refine tkH 1 3 (.pointer (some ⟨L,0,none⟩)) rfl (by kernel_rfl) (λ_ _ _ h=>h) (λZ b=>by kernel_rfl) a ?_;refine tkH 2 4 (.pointer (some ⟨L,0,none⟩)) rfl (by kernel_rfl) (λ_ _ _ h=>h) (λZ b=>by kernel_rfl) a ?_;refine tkH 3 5 (.int .i64 g.inF) rfl (by kernel_rfl) (λ_ _ _ h=>h) (λZ b=>?y3) a ?_
 case y3=>(have o:=b.2.1;go_simp)
 refine tkH 4 6 (.pointer (some ⟨L,0,none⟩)) rfl (by kernel_rfl) (λ_ _ _ h=>h) (λZ b=>?y4) a ?_
 case y4=>(have o:=b.1;go_simp)
 refine tkH 5 7 (.pointer (some ⟨L,0,none⟩)) rfl (by kernel_rfl) (λ_ _ _ h=>h) (λZ b=>by kernel_rfl) a ?_;refine tkH 6 8 (.pointer (some ⟨L,2,none⟩)) rfl (by kernel_rfl) (λ_ _ _ h=>h) (λZ b=>by kernel_rfl) a ?_;refine tkH 7 9 (.agg #[.int .i64 g.depth,.int .i64 g.bytes]) rfl (by kernel_rfl) (λ_ _ _ h=>h) (λZ b=>?y7) a ?_
 case y7=>exact qy2 54 (.tmp 8) rfl L 2 rfl _ _ b.2.2.1 underlying54 rfl G
 refine tkH 8 10 (.pointer (some ⟨L,0,none⟩)) rfl (by kernel_rfl) (λ_ _ _ h=>h) (λZ b=>?y8) a ?_
 case y8=>(have o:=b.1;go_simp)
 refine tkH 9 11 (.pointer (some ⟨L,0,none⟩)) rfl (by kernel_rfl) (λ_ _ _ h=>h) (λZ b=>by kernel_rfl) a ?_;refine tkH 10 12 (.pointer (some ⟨L,45,none⟩)) rfl (by kernel_rfl) (λ_ _ _ h=>h) (λZ b=>by kernel_rfl) a ?_;refine tkH 11 13 (.slice f l i) rfl (by kernel_rfl) (λ_ _ _ h=>h) (λZ b=>?y11) a ?_
 case y11=>(have o:=b.2.2.2;go_simp)
 refine rdS 12 rfl (by kernel_rfl) (λK E=>?_);go_simp;refine(x.out V1 c.out).mono ?_;rintro e s ⟨m,hF⟩;rcases r with⟨D,N⟩|d
 ·obtain rfl:=(show qan D N e from hF)
  exact⟨rfl,c.out.trans (m.mono c.out.size),rfl⟩
 obtain⟨t,y,rfl,F⟩:=hF;simp only[];have I:p<V1.heap.size:=block_lt_of_cell a.1;have q:L<V1.heap.size:=block_lt_of_cell a.2.1;have v:(λZ:World=>Z.cell? ⟨p,0,none⟩=some (.pointer (some ⟨L,0,none⟩))/\Z.cell? ⟨L,0,none⟩=some (.int .i64 g.inF)/\(∀(j:Nat) (u:Value),#[Value.int .i64 g.depth,.int .i64 g.bytes][j]?=some u->Z.cell? ⟨L,2+j,none⟩=some u)/\Z.cell? ⟨L,45,none⟩=some (.slice f l i)) s:=⟨(m.cell (p:=⟨p,0,none⟩) I).trans a.1,(m.cell (p:=⟨L,0,none⟩) q).trans a.2.1,λj u M=>(m.cell (p:=⟨L,2+j,none⟩) q).trans (a.2.2.1 j u M),(m.cell (p:=⟨L,45,none⟩) q).trans a.2.2.2⟩
 have z:=qab (c.out.trans (m.mono c.out.size));have A:Hid (qai k s (λj=>V.heap.size<=j/\j<s.heap.size) (.iface t y) d):=F.same (λj w=>⟨Nat.le_trans c.out.size w.1,w.2⟩) (λ_ _=>rfl);refine E.out _ _ v (λ_=>?_);refine tkH 13 1 (.iface t y) rfl (by kernel_rfl) (λ_ _ _ h=>h) (λZ b=>by kernel_rfl) v ?_;refine wpAnyH_done (by kernel_rfl) ?_ _;go_simp
 go_wp2_with fail
 go_ret;exact⟨z.out,t,y,rfl,A.out⟩
theorem qmZ(k:Nat)(W:World)(L:Nat)(g:Gt)(C:g.rc.size=40)(h:Option Addr)(b i:Nat)(p:Bool)(r:Except (Int×Int) (DataW Unit))(q:W.heap[L]?=some (.cells (qaz g (.slice h b i) p) 79))(x:∀U,Below W.heap.size W U->Calls prog 49 #[.int .i64 g.inF,.agg #[.int .i64 g.depth,.int .i64 g.bytes],.slice h b i] U (qgW k U r)):Calls prog 29 #[.pointer (some ⟨L,0,none⟩)] W (qzd k W r):=by
 have a:Hid (Below W.heap.size W (W.alloc (.cells #[.pointer (some ⟨L,0,none⟩)] 43))):=bwA;have E:∀(b:Fn) (first o:Array Value) (w:World),(Instr.makeFunc b first o).run prog w=.ok (.func b first o) w:=λ_ _ _ _=>rfl;have v:=qkO k (W.alloc (.cells #[.pointer (some ⟨L,0,none⟩)] 43)) #[.pointer (some ⟨W.heap.size,0,none⟩)] r (by
  have f:Below (W.heap.size+1) (W.alloc (.cells #[.pointer (some ⟨L,0,none⟩)] 43)) (((W.alloc (.cells #[.pointer (some ⟨L,0,none⟩)] 43)).alloc (.cells #[.int .i64 0] 29)).alloc (.cells #[.int .i64 0] 3)):=((Below.refl _ _).alloc (by simp) _).alloc (by simp) _;have z:=ltA q;refine qqG k _ W.heap.size L g C h b i p r ((f.block _ (by omega)).trans (qac W _)) ((f.block L (by omega)).trans ((a.out.block L z).trans q)) (λU A=>x U ?_);exact(a.out.trans (f.mono (by omega))).trans (A.mono (by simp;omega)))
 have n:=v;rcases r with⟨D,F⟩|d
 ·go_enter func29,ntmps29
  go_wp2_with(first
   |(go_at_call 47;refine n.mono ?_;rintro e m ⟨l,hF⟩;obtain rfl:=hF;have c:=qab (a.out.trans (l.mono a.out.size))))
  go_ret3
  exact⟨c.out,rfl⟩
 go_enter func29,ntmps29
 go_wp2_with(first
  |(go_at_call 47;refine n.mono ?_;rintro e m ⟨l,hF⟩;obtain⟨t,y,rfl,B⟩:=hF;have c:=qab (a.out.trans (l.mono a.out.size));have u:Hid (qai k m (λj=>W.heap.size<=j/\j<m.heap.size) (.iface t y) d):=B.same (λj s=>⟨Nat.le_trans a.out.size s.1,s.2⟩) (λ_ _=>rfl)))
 go_ret3
 exact⟨c.out,t,y,rfl,u.out⟩

def qyF(r:Except (Int×Int) (DataW Unit))(n:Nat):Int:=match r with
 |.ok _=>0
 |.error (en,pl)=>if pl=n then 0 else en
def qhx(W:World)(L base:Nat)(g:Gt)(fed:Value)(l:List UInt8)(en:Int)(e:Ending)(W':World):Prop :=
 ∃fa fn fc,e=.returned (.int .i64 en)/\Own W' base (.slice fa fn fc) l/\W'.heap[L]?=some (.cells (qaz g (.slice fa fn fc) false) 79)/\(W'.os=W.os/\W'.tape=W.tape/\W'.output=W.output)/\W.heap.size<=W'.heap.size/\∀k,k<W.heap.size->k≠L->some k≠fed.ownBlock->W'.heap[k]?=W.heap[k]?
theorem qsy(k:Nat)(W:World)(L n:Nat)(g:Gt)(I:g.rc.size=40)(o:Value)(D:List UInt8)(J:Option Addr)(F:Nat)(bs l:List UInt8)(c:l=D++bs.take (g.bytes+1-D.length))(O:W.heap[L]?=some (.cells (qaz g o false) 79))(S:Own W n o D)(hL:L<n)(y:qav W J bs)(aa:J=none->F=0)(ak:bs.length<=F)(aj:g.bytes<=4096)(ag:D.length<=g.bytes+1)(r:Except (Int×Int) (DataW Unit))(ah:∀f u,r=.error (f,u)->f≠0)(X:∀U h i,(∀j,j<L->U.heap[j]?=W.heap[j]?)->qav U h l->Calls prog 49 #[.int .i64 g.inF,.agg #[.int .i64 g.depth,.int .i64 g.bytes],.slice h l.length i] U (qgW k U r)):Calls prog 10 #[.pointer (some ⟨L,0,none⟩),.slice J bs.length F] W (qhx W L n g o l (qyF r l.length)):=by
 have Q:=qsL W L n g I o D J F bs O S hL y aa ak aj ag;rw[<-c]at Q;have V:W.cell? ⟨L,46,none⟩=some (.bool false):=(qaa O 46).trans (qc8 I _ _ 2);have HD:=qab X;have ab:Hid (∀j,j<L->some j≠o.ownBlock):=λj b e=>by have:=qbE S.1 e.symm;omega
 have an:=ltA O;have T:=qab I;have E:Calls prog 28 #[.pointer (some ⟨L,0,none⟩),.slice J bs.length F] W λe s=>∃h i,e=.returned (.tuple #[])/\Hid (qhx W L n g o l 0 (.returned (.int .i64 0)) s)/\Hid (s.heap[L]?=some (.cells (qaz g (.slice h l.length i) false) 79))/\Hid (Own s n (.slice h l.length i) l)/\Calls prog 29 #[.pointer (some ⟨L,0,none⟩)] s (qzd k s r):=Q.mono (by
  rintro e s ⟨h,fn,i,rfl,G,x,H,M,N⟩;obtain⟨al,am,K,ai⟩:=qcK G;injection K with K Y Z;subst K;subst Y;subst Z;refine⟨h,i,rfl,⟨h,_,i,rfl,G,x,H,M,N⟩,x,G,qmZ k s L g I h l.length i false r x (λU t=>HD.out U h i (λj b=>?_) (ai.below t))⟩;exact(t.block j (by omega)).trans (N j (by omega) (by omega) (ab.out j b)))
 clear Q X O S y aa I c;have R:∀{v p:World} {h:Option Addr} {i:Nat} {f:Int},qhx W L n g o l 0 (.returned (.int .i64 0)) v->v.heap[L]?=some (.cells (qaz g (.slice h l.length i) false) 79)->Own v n (.slice h l.length i) l->Below v.heap.size v p->qhx W L n g o l f (.returned (.int .i64 f)) p:=by
  rintro v p h i f ⟨_,_,_,_,_,_,H,M,N⟩ x G m;exact⟨h,_,i,rfl,qgx G m,(m.block L (ltA x)).trans x,⟨m.os.trans H.1,m.tape.trans H.2.1,m.output.trans H.2.2⟩,Nat.le_trans M m.size,λj a ac ad=>(m.block j (Nat.lt_of_lt_of_le a M)).trans (N j a ac ad)⟩
 rcases r with⟨f,u⟩|af
 ·have d:=ah f u rfl;have K:(f==0)=false:=by simpa using d
  have Y:(f != 0)=true:=by simpa using d
  by_cases P:u=l.length
  ·have B:Hid (qyF (.error (f,u)) l.length=0):=by show(if _ then _ else _)=_;rw[if_pos P]
   rw[B.out];subst P;go_enter func10,ntmps10
   go_wp2_with(first
    |(go_at_call 28;refine E.mono ?_;clear E V;rintro e w3 ⟨h,i,rfl,z,q,A,w⟩)
    |(go_at_call 29;refine w.mono ?_;clear w;rintro e p ⟨m,hF⟩;obtain rfl:=hF;have C:Hid (∀f,qhx W L n g o l f (.returned (.int .i64 f)) p):=λf=>R z.out q.out A.out m;have ae:p.cell? ⟨L,45,none⟩=some (.slice h l.length i):=(qaa ((m.block L (ltA q.out)).trans q.out) 45).trans (qc8 T.out _ _ 1);clear m))
   go_ret;exact C.out 0
  have B:Hid (qyF (.error (f,u)) l.length=f):=by show(if _ then _ else _)=_;rw[if_neg P]
  rw[B.out];have Z:(u==(l.length:Int))=false:=by simpa using P
  go_enter func10,ntmps10
  go_wp2_with(first
   |(go_at_call 28;refine E.mono ?_;clear E V;rintro e w3 ⟨h,i,rfl,z,q,A,w⟩)
   |(go_at_call 29;refine w.mono ?_;rintro e p ⟨m,hF⟩;obtain rfl:=hF;have C:Hid (∀f,qhx W L n g o l f (.returned (.int .i64 f)) p):=λf=>R z.out q.out A.out m;have ae:p.cell? ⟨L,45,none⟩=some (.slice h l.length i):=(qaa ((m.block L (ltA q.out)).trans q.out) 45).trans (qc8 T.out _ _ 1)))
  go_ret;exact C.out f
 have B:Hid (qyF (.ok af) l.length=0):=rfl;rw[B.out];go_enter func10,ntmps10
 go_wp2_with(first
  |(go_at_call 28;refine E.mono ?_;rintro e w3 ⟨h,i,rfl,z,q,A,w⟩)
  |(go_at_call 29;refine w.mono ?_;rintro e p ⟨m,hF⟩;obtain⟨ao,ap,rfl,_⟩:=hF;have C:Hid (∀f,qhx W L n g o l f (.returned (.int .i64 f)) p):=λf=>R z.out q.out A.out m))
 go_ret;exact C.out 0

theorem qfD{fn:Func}{p u u2 u3:Tmp}{ty:TypeId}(h:fn.results=#[.tmp u,.cell p ty,.tmp u2,.tmp u3])(b:Array Value)(w:World)(g:Nat)(t:TypeId)(cs:Array Value)(c:Nat×Nat)(d:TypeDesc)(l:b.getD p undef=.pointer (some ⟨g,0,none⟩))(k:w.heap[g]?=some (.cells cs t c))(m:P.underlying ty=some d)(j:(match d with|.struct _|.array _ _=>true|_=>false)=true)(hi:(P.info? ty).map (·.size)=some cs.size)(v f i:Value)(n:b.getD u undef=v)(o:b.getD u2 undef=f)(q:b.getD u3 undef=i):(results fn b).run P w=.ok (.tuple #[v,.agg cs,f,i]) w:=by
 have e:(results fn b).run P w=((asAddr (b.getD p undef)).run P w).andThen λa r=>((loadVar ty a).run P r).andThen λv s=>.ok (.tuple #[b.getD u undef,v,b.getD u2 undef,b.getD u3 undef]) s:=by
  simp only[results,h];simp[Sem.run_bind,Result.andThen]
 subst n;subst o;subst q;rw[e,l];simp only[asAddr,Sem.run_pure,Result.andThen_ok,run_loadVar_row w g t ty cs c d k m j hi]
theorem qfr:(prog.info? 28).map (·.size)=some (#[Value.int .i64 0,.int .i64 0,.int .i64 0,.int .i64 0]).size:=by kernel_rfl

end
end Go.Proofs.YtpifimohecagoaaGreatDoor
