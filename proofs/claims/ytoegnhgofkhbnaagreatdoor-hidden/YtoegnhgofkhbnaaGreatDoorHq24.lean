import Derived.Carry
import Derived.Deep.DeepHandedRow
import Derived.Lib.LaidTab
import Derived.Lib.MakeNoZero
import Derived.Laws.CopyOwn
import Derived.Lib.MapLaws
import Derived.Test.YtoegnhgofkhbnaaGreatDoorHq22
set_option maxRecDepth 100000
set_option maxHeartbeats 8000000
set_option linter.all false
namespace Go.Proofs.YtoegnhgofkhbnaaGreatDoor
open Go.Proofs.Tryz
open Go.Value renaming int->A7,slice->A8,pointer->A9,string->Aa,tuple->Ab,bool->Ad,iface->Ae
open Go.Obj renaming cells->Af
open Go.Ending renaming returned->Ag
open Go.IntKind renaming i64->Ah,u8->Ai
open Option renaming some->Aj,none->Ak
open Go renaming World->Al,Value->Am,Calls->An
open Go.Proofs.Tryz renaming prog->Ao
variable{cs cur:List Am}{V V' W:Al}{N last n:Nat}{u v:Am}{b:UInt8}{P:Program}{o:Oper}{bs:A2}{F:Nat->Prop}{A:A4}
section
open Go.ChangeShapes Go.WideShapes Go.ChangeAt Go.RowKit Go.Lib Go.Deep
theorem bE:(prog.globals[1]?).map (·.type)=Aj 244:=by kernel_rfl
theorem bF:(prog.globals[2]?).map (·.type)=Aj 245:=by kernel_rfl
theorem UY:prog.cellsOf 240=1:=by kernel_rfl
theorem bG:prog.cellsOf 244=8:=by kernel_rfl
theorem UZ:prog.cellsOf 243=3:=by kernel_rfl
theorem V8:prog.cellsOf 241=1:=by kernel_rfl
theorem bH:prog.cellsOf 3=1:=by kernel_rfl
theorem bI:(Rows.laid_redact_reading_cborSorts:A3)=tabData Ah [4,6,7,8,9,10,0,0]:=by kernel_rfl
theorem bJ:(Rows.laid_redact_reading_packHeads:A3)=.agg (Kb.map λx=>.agg [.lit (.int Ah x.1),.lit (.int Ah x.2),.lit (.int .u64 0)]):=by kernel_rfl
theorem bK{l:List Am}(h:l.length=3):∃a b c,l=[a,b,c]:=by
 match l,h with
 |[a,b,c],_=>exact⟨a,b,c,rfl⟩
theorem bL{α:Type}{l:List α}(h:l.length=3):∃a b c,l=[a,b,c]:=by
 match l,h with
 |[a,b,c],_=>exact⟨a,b,c,rfl⟩
theorem bM{sp:Nat->Bool}{held:Bool}{fuel:Nat}{x y z:Int}{p:List MemPlace}(h:DataW.trod (λ_=>()) Ao W 0 sp held fuel 243 cs=Aj (.agg [.lit (.int Ah x),.lit (.int Ah y),.lit (.int .u64 z)],p)):cs=[A7 Ah x,A7 Ah y,A7 .u64 z]:=by
 obtain⟨u,n,_,j,i,o,a⟩:=OC underlying243 h;rw[UZ]at i;have q:u.length=3:=o;obtain⟨b,c,d,rfl⟩:=bK i;obtain⟨v,w,A,rfl⟩:=bL q;have k:DataW.trod (λ_=>()) Ao W 0 sp held n 240 (([b,c,d].drop 0).take (prog.cellsOf 240))=Aj v:=a 0 _ rfl;have l:DataW.trod (λ_=>()) Ao W 0 sp held n 3 (([b,c,d].drop 1).take (prog.cellsOf 3))=Aj w:=a 1 _ rfl;have m:DataW.trod (λ_=>()) Ao W 0 sp held n 241 (([b,c,d].drop 2).take (prog.cellsOf 241))=Aj A:=a 2 _ rfl;rw[UY]at k;rw[bH]at l;rw[V8]at m;obtain⟨B,e,r⟩:=G0 underlying240 k;obtain⟨C,f,s⟩:=G0 underlying3 l;obtain⟨D,g,t⟩:=G0 underlying241 m;simp at e f g;subst e f g;obtain⟨rfl,_⟩:=r;obtain⟨rfl,_⟩:=s;obtain⟨rfl,_⟩:=t;simp only[CT,GJ,N7,DataW.agg.injEq,List.cons.injEq,DataW.lit.injEq,Lit.int.injEq,and_true,true_and]at j;obtain⟨⟨rfl,rfl,rfl⟩,_⟩:=j;simp
theorem bN{u:Nat}{a b c:Am}(h:(cs.drop (u*3)).take 3=[a,b,c]):cs[u*3]?=Aj a/\cs[u*3+1]?=Aj b/\cs[u*3+2]?=Aj c:=by
 have d:=congrArg (λl=>l[0]?) h;have e:=congrArg (λl=>l[1]?) h;have f:=congrArg (λl=>l[2]?) h;simp[KD]at d e f;exact⟨d,e,f⟩
theorem bO(i:laidMet Ao Rows.hiddenRow.laid W):GP W:=by
 refine⟨?_,?_⟩
 ·obtain⟨g,t,cs,n,p,a,f,c,b⟩:=laidMet.reads i (d:=Rows.laid_redact_reading_cborSorts) (.tail _ (.tail _ (.tail _ (.tail _ (.head _)))));obtain rfl:g=1:=CX (a.symm.trans (by kernel_rfl));obtain rfl:=CX (bE.symm.trans f);rw[bI]at b;have r:=cells_of_tab underlying244 underlying240 UY bG b;intro u h;have q:=MZ a c u;rw[q,<-Iw,r];have:∀v:Fin 8,([4,6,7,8,9,10,0,0]:List Int)[v.val]?=Aj ((Nl v.val:Nat):Int):=by decide
  rw[GH,this ⟨u,h⟩];rfl
 obtain⟨g,t,cs,n,p,a,f,c,b⟩:=laidMet.reads i (d:=Rows.laid_redact_reading_packHeads) (.tail _ (.tail _ (.tail _ (.tail _ (.tail _ (.head _))))));obtain rfl:g=2:=CX (a.symm.trans (by kernel_rfl));obtain rfl:=CX (bF.symm.trans f);rw[bJ]at b;intro u h;obtain⟨w,s,q0,j,o⟩:=array_elem underlying245 b u h;have x:Kb.length=32:=rfl;rw[GH,AY (by omega)]at j;cases j;have k:=bM o;rw[UZ]at k;obtain⟨l,m,c2⟩:=bN k;have e:Kb.getD u (0,0)=Kb[u]'(by omega):=by rw[KC,AY (by omega)];rfl
 rw[e];refine⟨?_,?_,?_⟩
 ·rw[MZ a c,<-Iw];exact l
 ·rw[MZ a c,<-Iw];exact m
 rw[MZ a c,<-Iw];exact c2
end
section
open Go.RowKit
def Ih(fm:Int):Nat:=if fm=1 then 32 else 0
theorem gU(fm:Int)(W:Al):An Ao 86 #[A7 Ah fm] W λe b=>e=Ag (A7 Ai (Ih fm))/\b=W:=by
 by_cases h:fm=1
 ·have c:(fm==1)=true:=by simpa using h
  have a:Ih fm=32:=by unfold Ih;rw[As h]
  rw[a];clear h a;go_enter func86,ntmps86;go_wp2;go_ret;exact⟨rfl,rfl⟩
 have c:(fm==1)=false:=by simpa using h
 have a:Ih fm=0:=by unfold Ih;rw[Aq h]
 rw[a];clear h a;go_enter func86,ntmps86;go_wp2;go_ret;exact⟨rfl,rfl⟩
end
section
open Go.RowKit Go.Lib
structure L3(W:World)(N:Nat)(b:UInt8)(n bp:Nat)(cur:List Value)(V:World):Prop where
 below:A1 W V
 row:V.heap[N]?=some (.cells cur.toArray 5 (0,0))
 lo:W.heap.size<=N
 fit:n<=cur.length
 same:∀j,j<bp->cur[j]?=some (.int .u8 b.toNat)
theorem i9(W:Al)(n:Nat)(d:n<=65536):∃cs:A4,(callFunc 115 #[A7 Ah n]).run Ao W=.ok (.value (A8 (Aj ⟨W.heap.size,0,Ak⟩) n cs.size)) (W.drew.drew.alloc (Af cs 5))/\n<=cs.size/\cs.size<=maxLen:=by
 obtain⟨cs,c,a,b⟩:=Lib.run_makeNoZero (P:=Ao) W #[3] 49 5 underlying49 n (by omega);refine⟨cs,?_,a,b (by unfold maxLen;omega)⟩;rw[run_callFunc_extern func115 (by kernel_rfl) (by kernel_rfl) (by kernel_rfl) (e:=Extern.BytealgMakeNoZero.makeNoZero #[3] #[49]) (by kernel_rfl),c];rfl
theorem ib(b:UInt8):∀v∈[Value.int Ai (b.toNat:Int)],v.oneCell'=true:=λv a=>by simp at a;subst a;rfl
theorem ic(V:Al)(N a n:Nat)(h:a<n):(Instr.sliceAt 49 (A8 (Aj ⟨N,0,Ak⟩) n n) (Aj (A7 Ah a)) Ak Ak).run Ao V=.ok (A8 (Aj ⟨N,a,Ak⟩) (n-a) (n-a)) V:=by
 have e:(⟨N,0,Ak⟩:Addr).add a=⟨N,a,Ak⟩:=by by_cases h:a=0<;>simp[Addr.add,h]
 have b:¬n=a:=by omega
 have c:(a:Int)<=n:=by omega
 have d:(sizeOf (prog.elem 49)).run Ao V=.ok 1 V:=by kernel_rfl
 rw[QL (P:=Ao) V 49 _ _ _ _ (by kernel_rfl)];simp[Instr.slice,LG underlying49,Instr.sliceBounds,QT,c];rw[Aq b,e]
theorem ie(V:Al)(N a n:Nat)(h:a<=n):(Instr.sliceAt 49 (A8 (Aj ⟨N,0,Ak⟩) n n) Ak (Aj (A7 Ah a)) Ak).run Ao V=.ok (A8 (Aj ⟨N,0,Ak⟩) a n) V:=by
 have e:(⟨N,0,Ak⟩:Addr).add 0=⟨N,0,Ak⟩:=by simp[Addr.add]
 have b:(a:Int)<=n:=by omega
 rw[QL (P:=Ao) V 49 _ _ _ _ (by kernel_rfl)];simp[Instr.slice,LG underlying49,Instr.sliceBounds,QT,b,e]
theorem S6{ev:Operand->Am}(a:TypeId)(x:Operand)(lo hi:Option Operand)(d:o.op=.slice a x lo hi Ak){X:Am}{L H:Option Am}(e:ev x=X)(c:lo.map ev=L)(b:hi.map ev=H)(h:(Instr.sliceAt a X L H Ak).run P W=.ok v W):(execOp ev o).run P W=.ok (.value v) W:=by
 unfold execOp;simp only[d,e,c,b,Option.map_none,D8,h,Dl];rfl
theorem ig(h:L3 W N b n n cur V)(d:n<=65536):Dv V (Aj ⟨N,0,Ak⟩) (List.replicate n b):=by
 refine⟨λi a=>⟨N,0,rfl,(At h.row),?_⟩,by rw[MQ];unfold maxLen;omega⟩;have c:i<n:=by simpa using a
 rw[Df,Ar h.row i];have:=h.same i c;simpa using this
theorem L3.copy{bp m:Nat}(h:L3 W N b n bp cur V)(c:A1 W V')(i:bp+m<=n)(e:V'.heap[N]?=Aj (Af (splice cur bp (List.replicate m (A7 Ai b.toNat))).toArray 5 (0,0))):L3 W N b n (bp+m) (splice cur bp (List.replicate m (A7 Ai b.toNat))) V':=by
 have d:bp+(List.replicate m (Value.int Ai (b.toNat:Int))).length<=cur.length:=by have:=h.fit;simp;omega
 refine⟨c,e,h.lo,by rw[length_splice _ _ _ d];exact h.fit,λj g=>?_⟩;unfold splice;have f:=h.fit;by_cases a:j<bp
 ·rw[E3 (by simp;omega),Iv a];exact h.same j a
 rw[E2 (by simp;omega),E3 (by simp;omega),U2 (by simp;omega)]
theorem ii(W:Al)(M:Nat)(b:UInt8)(n:Nat)(h1:1<=n)(hn:n<=65536)(P:W.cell? ⟨M,0,Ak⟩=Aj (A7 Ai b.toNat))(ac:M<W.heap.size):An Ao 85 #[A8 (Aj ⟨M,0,Ak⟩) 1 1,A7 Ah n] W λe z=>∃g,e=Ag (A8 (Aj ⟨g,0,Ak⟩) n n)/\Dv z (Aj ⟨g,0,Ak⟩) (List.replicate n b)/\A1 W z:=by
 have A:=λV=>Tryz.bits_Mul 1 n (by omega) (by omega) V;have N:1*n/18446744073709551616=0:=by omega
 have O:1*n%18446744073709551616=n:=by omega
 simp only[N,O]at A;have ag:((n:Int)==0)=false:=by simp;omega
 obtain⟨cs,ae,ab,af⟩:=i9 W n hn;have D:Hid ((W.drew.drew.alloc (Af cs 5)).heap[W.heap.size]?=Aj (Af cs.toList.toArray 5 (0,0))):=by
  show _=_;rw[Uh];exact Ay W.drew.drew _
 have t:Hid (A1 W (W.drew.drew.alloc (Af cs 5))):=((AT _ _).drew.drew).alloc (AB _) _;have E:=Ap ((t.cell ac).trans P);have J:Hid (∀(j:Nat) (v:Am),[Value.int Ai b.toNat][j]?=Aj v->(W.drew.drew.alloc (Af cs 5)).cell? ((⟨M,0,Ak⟩:Addr).add j)=Aj v):=λj v f=>by
  cases j with
  |zero=>simp at f;subst f;exact E
  |succ j=>simp at f
 have F:Hid ([Value.int Ai (b.toNat:Int)].length=Nat.min 1 n):=(Nat.min_eq_left h1).symm;have x:Hid (0+[Value.int Ai (b.toNat:Int)].length<=cs.toList.length):=by show _<=_;simp;omega
 by_cases h8:n<=8192
 all_goals
  go_enter func85,ntmps85
  go_upto_region 17 with(first
   |(go_at_call 114;refine(A _).mono ?_;rintro e c ⟨rfl,rfl⟩))
  refine wp_region_list ?_;refine LK rfl λK o=>?_;go_simp;refine o _ _ ?_;refine LK rfl λK o=>?_;go_simp;refine o _ _ ?_;refine wpList_copy_splice rfl (.tmp 58) (.tmp 59) 49 49 rfl 5 underlying49 (by kernel_rfl) (Aj ⟨c.heap.size,0,Ak⟩) (Aj ⟨M,0,Ak⟩) n n 1 1 rfl rfl c.heap.size 0 cs.toList 5 D [A7 Ai b.toNat] F (λ_=>⟨rfl,⟨M,0,Ak⟩,rfl,J⟩) x (ib b) c.heap.size c t (AB _) ?_;intro w4 y Q;refine LK rfl λK o=>?_;go_simp;refine o _ _ ?_
  go_wp2_with fail
  have G:Hid (L3 c c.heap.size b n 1 (splice cs.toList 0 [A7 Ai b.toNat]) w4):=⟨Q,y.out,AB _,by rw[length_splice _ _ _ x.out];simpa using ab,λj B=>by
   obtain rfl:j=0:=by omega
   simp[splice]⟩
  go_loopg[10] n (λg ad wr=>∃(a:Nat) (s:List Am),ad=A7 Ah a/\Hid (1<=a)/\Hid (a<=n)/\Hid (n<=a+g)/\Hid (L3 c c.heap.size b n a s wr))
  case atStart=>exact⟨1,_,rfl,AB _,h1,by show _<=_;omega,G⟩
  case round =>
   obtain⟨a,s,rfl,u,C,w,l⟩:=hrel;by_cases U:a<n
   ·have hl:(a:Int)<n:=by omega
    first|(have h9:n<=8192:=(by omega);obtain⟨d,q⟩:∃d,Hid (min a n=d):=⟨_,rfl⟩;have Y:(min (a:Int) (n:Int))=d:=(by have:=q.out;omega))|(obtain⟨d,q⟩:∃d,Hid (min a 8192=d):=⟨_,rfl⟩;have Y:(min (a:Int) 8192)=d:=by have:=q.out;omega)
    go_wp2_with fail
    obtain⟨m,k⟩:∃m,Hid (min d (n-a)=m):=⟨_,rfl⟩
    have r:Hid (L3 c c.heap.size b n a s {wr with drawn:=wr.drawn+1}):=⟨l.below.drew,l.row,l.lo,l.fit,l.same⟩
    refine Cp (S:=λ_=>True) (trivial) (by kernel_rfl) ?_;intro p;generalize({wr with drawn:=wr.drawn+1}:Al)=w5 at *;refine B6 0 67 (A7 Ah a) rfl (by kernel_rfl) (λ_ _ _ h=>h) (λZ i=>by kernel_rfl) p ?_;refine B6 1 68 (A8 (Aj ⟨c.heap.size,0,Ak⟩) n n) rfl (by kernel_rfl) (λ_ _ _ h=>h) (λZ i=>by kernel_rfl) p ?_;refine B6 2 69 (A7 Ah a) rfl (by kernel_rfl) (λ_ _ _ h=>h) (λZ i=>by kernel_rfl) p ?_;refine B6 3 70 (A8 (Aj ⟨c.heap.size,a,Ak⟩) (n-a) (n-a)) rfl (by kernel_rfl) (λ_ _ _ h=>h) (λZ i=>S6 49 (.tmp 68) (Aj (.tmp 69)) Ak rfl (X:=A8 (Aj ⟨c.heap.size,0,Ak⟩) n n) (L:=Aj (A7 Ah a)) (H:=Ak) (by kernel_rfl) (by kernel_rfl) (by kernel_rfl) (ic Z c.heap.size a n U)) p ?_;refine B6 4 71 (A8 (Aj ⟨c.heap.size,0,Ak⟩) n n) rfl (by kernel_rfl) (λ_ _ _ h=>h) (λZ i=>by kernel_rfl) p ?_;refine B6 5 72 (A7 Ah d) rfl (by kernel_rfl) (λ_ _ _ h=>h) (λZ i=>by kernel_rfl) p ?_;refine B6 6 73 (A8 (Aj ⟨c.heap.size,0,Ak⟩) d n) rfl (by kernel_rfl) (λ_ _ _ h=>h) (λZ i=>S6 49 (.tmp 71) Ak (Aj (.tmp 72)) rfl (X:=A8 (Aj ⟨c.heap.size,0,Ak⟩) n n) (L:=Ak) (H:=Aj (A7 Ah d)) (by kernel_rfl) (by kernel_rfl) (by kernel_rfl) (ie Z c.heap.size d n (by have:=q.out;omega))) p ?_;refine Jw 7 rfl (by kernel_rfl) (λK o=>?_);refine step_copy_splice rfl (.tmp 70) (.tmp 73) 49 49 rfl 5 underlying49 (by kernel_rfl) (Aj ⟨c.heap.size,a,Ak⟩) (Aj ⟨c.heap.size,0,Ak⟩) (n-a) (n-a) d n (by kernel_rfl) (by kernel_rfl) c.heap.size a s 5 r.row (List.replicate m (A7 Ai b.toNat)) ?hn (λ_=>⟨rfl,⟨c.heap.size,0,Ak⟩,rfl,?hs⟩) ?hf ?h1 c.heap.size c r.below (AB _) ?_
    case hn=>rw[MQ];exact k.symm
    case hf=>rw[MQ];have:=r.fit;have:=k.out;omega
    case h1=>intro v f;rw[(List.mem_replicate.1 f).2];rfl
    case hs =>
     intro j v f;have B:j<m:=by have:=B9 f;simpa using this
     rw[U2 B]at f;have e:(⟨c.heap.size,0,Ak⟩:Addr).add j=⟨c.heap.size,j,Ak⟩:=by by_cases h:j=0<;>simp[Addr.add,h]
     rw[e,Ar r.row j,<-f];have:=r.same j (by have:=k.out;have:=q.out;omega);simpa using this
    intro w6 aa R;rw[MQ];have I:=Ap (r.copy R (by have:=k.out;omega) aa.out);refine o.out _ _ trivial (λ_=>?_);refine B6 8 75 (A7 Ah ((a+m:Nat):Int)) rfl (by kernel_rfl) (λ_ _ _ h=>h) (λZ i=>?y8) trivial ?_
    case y8 =>
     go_simp;exact(MW _).trans (by have:=k.out;omega)
    refine B6 9 10 (A7 Ah ((a+m:Nat):Int)) rfl (by kernel_rfl) (λ_ _ _ h=>h) (λZ i=>by kernel_rfl) trivial ?_;refine KK (by kernel_rfl) ?_ _;go_simp
    go_wp2_with fail
    cases gk with
    |zero=>have:=w.out;omega
    |succ g =>
     go_roundg g
     case measure=>omega
     case rel=>exact⟨a+m,_,by go_num,by show _<=_;have:=u.out;omega,by show _<=_;have:=k.out;omega,by show _<=_;have h1:=k.out;have h2:=q.out;have h3:=u.out;have h4:=w.out;omega,I⟩
   have hl:¬(a:Int)<n:=by omega
   have T:a=n:=by have:=C.out;omega
   subst T
   go_wp2_with fail
   go_ret;exact⟨_,rfl,ig l hn,l.below⟩
theorem ij(W:Al)(a:A5)(l c:Nat):An Ao 85 #[A8 a l c,A7 Ah 0] W λe b=>∃g d,e=Ag (A8 (Aj ⟨g,0,Ak⟩) 0 d)/\A1 W b:=by
 go_enter func85,ntmps85;go_wp2;go_ret;exact⟨_,_,rfl,AH⟩
theorem ik(W:Al)(M:Nat)(b:UInt8)(n:Nat)(m:n<=65536)(f:W.cell? ⟨M,0,Ak⟩=Aj (A7 Ai b.toNat))(l:M<W.heap.size):An Ao 85 #[A8 (Aj ⟨M,0,Ak⟩) 1 1,A7 Ah n] W λe a=>∃g c,e=Ag (A8 (Aj ⟨g,0,Ak⟩) n c)/\Dv a (Aj ⟨g,0,Ak⟩) (List.replicate n b)/\A1 W a:=by
 by_cases h:n=0
 ·subst h;refine(ij W _ 1 1).mono ?_;rintro e a ⟨g,c,rfl,d⟩;exact⟨g,c,rfl,⟨λi k=>by simp at k,by simp⟩,d⟩
 refine(ii W M b n (by omega) m f l).mono ?_;rintro e a ⟨g,rfl,j,d⟩;exact⟨g,n,rfl,j,d⟩
def NC(fm:Int)(bs:A2):List Int->Option A2
 |[]=>Ak
 |x::B=>if(bs.length:Int)<=x then Aj (bs++List.replicate (x.toNat-bs.length) (UInt8.ofNat (Ih fm)))else NC fm bs B
def IQ(fm:Int)(bs:A2)(B:List Int):Option A2:=if B.length=0 then Aj bs else NC fm bs B
theorem io(fm:Int):(UInt8.ofNat (Ih fm)).toNat=Ih fm:=by
 unfold Ih;split<;>rfl
theorem ip{g:Nat}(h:Dv W (Aj ⟨g,0,Ak⟩) (List.replicate n b)):∀(j:Nat) (u:Am),((List.replicate n b).map B0)[j]?=Aj u->W.cell? ((⟨g,0,Ak⟩:Addr).add j)=Aj u:=by
 intro j u f;have d:j<(List.replicate n b).length:=by have:=B9 f;simpa using this
 obtain⟨i,off,a,_,c⟩:=h.at_ j d;injection a with a;injection a with a e2 _;subst a;subst e2;have e:(⟨g,0,Ak⟩:Addr).add j=⟨g,j,Ak⟩:=by by_cases h:j=0<;>simp[Addr.add,h]
 rw[e];rw[Df]at c;rw[c,<-f,GH,AY d];rfl
theorem iq(n:Nat)(b:UInt8):((List.replicate n b).map B0).length=n*1:=by simp
theorem ir(n:Nat)(b:UInt8):∀u∈(List.replicate n b).map B0,u.oneCell'=true:=λu a=>by
 obtain⟨c,_,rfl⟩:=KJ.1 a;rfl
theorem iu{W':Al}{base:Nat}{v':Am}(h:Av W base v bs)(c:W'.ownsRow base 5 1 v' (bs.length+n) (bs.map B0++(List.replicate n b).map B0))(a:W.grownBy W' v.ownBlock):Av W' base v' (bs++List.replicate n b)/\Below base W W':=by
 refine⟨⟨by rw[AC,Eg,MQ];exact c,AW h.2.1 a.size,?_⟩,G3 (AT base W) h.1 a h.2.1⟩;rcases c.2 with⟨e,_⟩|⟨g,d,f,e,_⟩
 ·exact⟨Ak,0,0,e⟩
 exact⟨_,_,_,e⟩
def iv(W:Al)(base:Nat)(r:Option A2)(e:Ending)(W':Al):Prop :=
 (∃v',e=Ag (Ab #[v',Ad r.isSome])/\(r=Ak->v'=A8 Ak 0 0)/\∀l,r=Aj l->Av W' base v' l)/\Below base W W'
theorem iw(W:Al)(t:Nat)(fm:Int)(v:Am)(bs:A2)(ba:A5)(Y:Nat)(B:List Int)(h:Av W t v bs)(I:GL W ba B)(ai:B.length<=8)(J:∀i (h:i<B.length),B[i]<=65536)(hl:bs.length<=999999999):An Ao 54 #[A7 Ah fm,v,A8 ba B.length Y] W (iv W t (IQ fm bs B)):=by
 obtain⟨i0,hi,ac,ad,ae⟩:=BH Tryz.infoU8;obtain⟨ia,f,rfl,z⟩:=M8 h;have D:=Ap h;have O:=Ap h.2.1;have Q:=Ap I;have X:=Ap J;have u:=λV=>gU fm V;obtain⟨a,C⟩:∃a:UInt8,Hid (UInt8.ofNat (Ih fm)=a):=⟨_,rfl⟩
 have P:Hid ((Ih fm:Int)=(a.toNat:Int)):=by show _=_;rw[<-C.out,io]
 rw[P.out]at u;clear h I J z;by_cases y:B.length=0
 ·have d:Hid (IQ fm bs B=Aj bs):=by show _=_;unfold IQ;rw[As y]
  rw[y];go_enter func54,ntmps54;go_wp2;refine Bd (Hl results54 _ _ _) rfl ?_;rw[d.out];exact⟨⟨_,rfl,λh=>by simp at h,λl h=>by have w:=CX h;rw[<-w];exact D⟩,AT _ _⟩
 obtain⟨r,c⟩:∃r,Hid (NC fm bs B=r):=⟨_,rfl⟩
 have d:Hid (IQ fm bs B=r):=by show _=_;unfold IQ;rw[Aq y];exact c
 rw[d.out];have ag:((B.length:Int)==0)=false:=by rw[Dq];omega
 go_enter func54,ntmps54
 go_wp2_with fail
 go_loopg[17] B.length (λg af wr=>∃k:Nat,af=A7 Ah k/\Hid (k+g=B.length)/\W=wr/\Hid (NC fm bs (B.drop k)=r))
 case atStart=>exact⟨0,rfl,by show _=_;omega,rfl,c⟩
 case round =>
  clear c d;obtain⟨k,rfl,j,rfl,c⟩:=hrel
  cases gk with
  |zero =>
   have aa:¬(k:Int)<B.length:=by have:=j.out;omega
   have b:r=Ak:=by
    have:=c.out;rw[U9 (by have:=j.out;omega)]at this;exact this.symm
   subst b;go_wp2;refine Bd (Hl results54 _ _ _) rfl ?_;exact⟨⟨_,rfl,λ_=>rfl,λl h=>by cases h⟩,AT _ _⟩
  |succ g =>
   have m:k<B.length:=by have:=j.out;omega
   have aa:(k:Int)<B.length:=by omega
   obtain⟨b0,off,rfl,ah,K⟩:=Q.at_ k m;have hc:=K k m;have hx:=X.out k m;have b:=c.out;rw[F5 m,NC]at b;clear K;generalize B[k]=x at *;by_cases A:(bs.length:Int)<=x
   ·rw[As A,C.out]at b;obtain⟨n,hn⟩:∃n:Nat,x=(bs.length:Int)+n:=⟨(x-bs.length).toNat,by omega⟩
    subst hn;have H:((bs.length:Int)+n).toNat-bs.length=n:=by omega
    rw[H]at b;have U:=Ap b.symm;clear b H;have o:Hid (A1 W (W.alloc (Af #[A7 Ai (a.toNat:Int)] 5))):=AH;have G:=ik (W.alloc (Af #[A7 Ai (a.toNat:Int)] 5)) W.heap.size a n (by omega) (Ar (Ay W _) 0) (by simp);have F:An Ao 85 #[A8 (Aj ⟨W.heap.size,0,Ak⟩) 1 1,A7 Ah ((bs.length:Int)+n-bs.length)] (W.alloc (Af #[A7 Ai (a.toNat:Int)] 5)) λe s=>∃g f,e=Ag (A8 (Aj ⟨g,0,Ak⟩) n f)/\Hid (Dv s (Aj ⟨g,0,Ak⟩) (List.replicate n a))/\Hid (A1 W s):=by
     rw[show(bs.length:Int)+n-bs.length=n by omega];refine G.mono ?_;rintro e s ⟨g,f,rfl,h1,h2⟩;exact⟨g,f,rfl,h1,o.trans (h2.mono o.size)⟩
    clear G o;have ak:bs.length+n<=65536:=by omega
    go_wp2_with(first
     |(go_at_call 86;refine(u _).mono ?_;clear u;rintro e w2 ⟨rfl,rfl⟩)
     |(go_at_call 85;refine F.mono ?_;clear F;rintro e w3 ⟨g3,Z,rfl,N,E⟩;have q:=Ap (KT D E);have T:=Ap (ip N);have R:=Ap (iq n a))
     |(at_builtin;refine Bz _ rfl _ _ 49 rfl t 5 i0 (A7 Ai 0) 1 1 underlying49 hi ac ad ae rfl (by decide) _ _ _ rfl q.1 ⟨g3,0,Ak⟩ n Z ((List.replicate n a).map B0) rfl R T (ir n a) (by unfold maxLen;omega) (by omega) q.2.1 ?_;intro v' w5 M L ab;clear ab;have p:=Ap (iu q M L);clear M L;obtain⟨a5,n5,c5,rfl⟩:=p.1.2.2))
    refine Bd (Hl results54 _ _ _) rfl ?_;rw[U.out];exact⟨⟨_,rfl,λh=>by simp at h,λl h=>by have w:=CX h;rw[<-w];exact p.1⟩,(E.mono O).trans p.2⟩
   rw[Aq A]at b;have S:=Ap b;have aj:=A;clear b c
   go_wp2_with fail
   go_roundg g
   case measure=>omega
   case rel=>exact⟨k+1,by go_num,by show _=_;have:=j.out;omega,rfl,S⟩
structure Gt where
 inF:Int
 out:Int
 depth:Int
 bytes:Nat
 rc:A4
 bk:Value
def Be(g:Gt)(fed:Am)(cl:Bool):A4:=#[A7 Ah g.inF,A7 Ah g.out,A7 Ah g.depth,A7 Ah g.bytes]++g.rc++#[g.bk,fed,Ad cl]
theorem Mh{g:Gt}(b:Am)(a:Bool)(j:Nat)(h:j<4):(Be g b a)[j]?=#[Value.int Ah g.inF,A7 Ah g.out,A7 Ah g.depth,A7 Ah g.bytes][j]?:=by
 unfold Be;rw[Array.append_assoc,MN (by simpa using h)]
theorem IR{g:Gt}(c:g.rc.size=40)(b:Am)(a:Bool)(j:Nat):(Be g b a)[44+j]?=#[g.bk,b,Ad a][j]?:=by
 unfold Be;rw[Ls (by simp[c])];simp[c]
theorem iy{g:Gt}(d:g.rc.size=40)(c b:Am)(a:Bool):(Be g c a).setIfInBounds 45 b=Be g b a:=by
 unfold Be;apply KL;have e:(#[Value.int Ah g.inF,A7 Ah g.out,A7 Ah g.depth,A7 Ah g.bytes]++g.rc).toList.length=44:=by simp[d]
 simp only[MM];rw[QD,Ou _ _ (by omega),e];simp
theorem iz(W:Al)(f:Nat)(v:Am)(d:A2)(k:A5)(c:Nat)(b:A2)(h:Av W f v d)(r:Dv W k b)(E:k=Ak->c=0)(L:d.length+b.length<=999999999):∃l m,(Builtin.append_ #[49,49] 49 #[v,A8 k b.length c]).run Ao W=.ok l m/\Av m f l (d++b)/\W.grownBy m v.ownBlock:=by
 obtain⟨y,s,F,G,H⟩:=BH Tryz.infoU8
 cases k with
 |none =>
  have C:b=[]:=by
   cases b with
   |nil=>rfl
   |cons a t =>
    obtain⟨g,off,e,_⟩:=r.at_ 0 (by simp);cases e
  subst C;rw[E rfl];have n:=Uc (P:=Ao) (w:=W) f 49 49 5 y 1 underlying49 s v d.length _ h.1;refine⟨v,W,n,by simpa using h,⟨rfl,rfl,rfl,AB _,λ_ _ _=>rfl⟩⟩
 |some o =>
  have D:∀j u,(b.map B0)[j]?=Aj u->W.cell? (o.add j)=Aj u:=by
   intro j u i;have x:j<b.length:=by have:=B9 i;simpa using this
   obtain⟨g,off,z,_,B⟩:=r.at_ j x;have A:=CX z;subst A;have e:(⟨g,off,Ak⟩:Addr).add j=⟨g,off+j,Ak⟩:=by by_cases h:j=0<;>simp[Addr.add,h]
   rw[e,B,<-i,GH,AY x];rfl
  obtain⟨l,I,n,p,q,_⟩:=N2 (P:=Ao) W f 49 49 5 y (A7 Ai 0) 1 1 underlying49 s F G H rfl (by decide) v d.length _ h.1 o b.length c (b.map B0) (by simp) D (λu i=>by obtain⟨c,_,rfl⟩:=KJ.1 i;rfl) (by unfold maxLen;omega) (by omega) h.2.1;refine⟨l,I,n,⟨by rw[AC,Eg];exact p,AW h.2.1 q.size,?_⟩,q⟩;rcases p.2 with⟨e,_⟩|⟨g,J,K,e,_⟩
  ·exact⟨Ak,0,0,e⟩
  exact⟨_,_,_,e⟩
theorem iA(V:Al)(c:A5)(n m b:Nat)(h:m<=b):(Instr.sliceAt 49 (A8 c n b) Ak (Aj (A7 Ah m)) Ak).run Ao V=.ok (A8 c m b) V:=by
 have e:∀a:Addr,a.add 0=a:=λa=>by simp[Addr.add]
 have d:(m:Int)<=b:=by omega
 rw[QL (P:=Ao) V 49 _ _ _ _ (by kernel_rfl)];cases c<;>simp[Instr.slice,LG underlying49,Instr.sliceBounds,QT,d,e]
theorem iB{c:Prop}[Decidable c]{A B:Prop}(h:c)(a:A):if c then A else B:=by rw[As h];exact a
theorem iC{w w':Al}{a:Act}{K:Act->Al->Prop}{Q:Exit->Act->Al->Prop}(s x:Operand)(t:TypeId)(c:o.op=.call {callee:=.builtin .append,args:=#[s,x],argTypes:=#[t,t]})(v u b:Am)(e:a.eval s=v)(f:a.eval x=u)(d:(Builtin.append_ #[t,t] o.type #[v,u]).run P w=.ok b w')(h:K (a.put o.dst b) w'):o.wp P a w K Q:=by
 unfold Oper.wp execOp;simp only[c,resolve,invoke,builtin,D8,E4,Dl,LC,CT,GJ,e,f,d];exact h
def iD(W:Al)(L base:Nat)(g:Gt)(fed:Am)(l:A2)(e:Ending)(W':Al):Prop :=
 ∃fa fn fc,e=Ag (Ab #[])/\Av W' base (A8 fa fn fc) l/\W'.heap[L]?=Aj (Af (Be g (A8 fa fn fc) false) 86)/\(W'.os=W.os/\W'.tape=W.tape/\W'.output=W.output)/\W.heap.size<=W'.heap.size/\∀k,k<W.heap.size->k≠L->Aj k≠fed.ownBlock->W'.heap[k]?=W.heap[k]?
theorem iE(W:Al)(L r:Nat)(g:Gt)(U:g.rc.size=40)(E:Am)(c:A2)(f:A5)(n:Nat)(bs:A2)(F:W.heap[L]?=Aj (Af (Be g E false) 86))(o:Av W r E c)(hL:L<r)(Q:Dv W f bs)(ak:f=Ak->n=0)(au:bs.length<=n)(ar:g.bytes<=4096)(ao:c.length<=g.bytes+1):An Ao 27 #[A9 (Aj ⟨L,0,Ak⟩),A8 f bs.length n] W (iD W L r g E (c++bs.take (g.bytes+1-c.length))):=by
 obtain⟨j,l,rfl,av⟩:=M8 o;have HG:=Ap F;have HO:=Ap o;have c3:W.cell? ⟨L,3,Ak⟩=Aj (A7 Ah g.bytes):=(Ar F 3).trans (Mh _ _ 3 (by decide));have ad:W.cell? ⟨L,45,Ak⟩=Aj (A8 j c.length l):=(Ar F 45).trans (IR U _ _ 1);obtain⟨d,B⟩:∃d,Hid (c.length+d=g.bytes+1):=⟨g.bytes+1-c.length,by show _=_;omega⟩
 have al:g.bytes+1-c.length=d:=by have:=B.out;omega
 rw[al];obtain⟨m,u⟩:∃m,Hid (min bs.length d=m):=⟨_,rfl⟩
 have J:Hid ((bs.take d).length=m):=by show _=_;rw[Hj];have:=u.out;omega
 have aq:=Q.len;have aa:Hid (Dv W f (bs.take d)):=⟨λi hi=>by
  have ai:i<bs.length:=by rw[Hj]at hi;omega
  obtain⟨g0,off,v,w,D⟩:=Q.at_ i ai;exact⟨g0,off,v,w,by rw[Uw];exact D⟩,by rw[Hj];omega⟩
 have G:=Ap hL;have A:=Ap U;have ab:=Ap ak;have aw:m<=bs.length:=by have:=u.out;omega
 have ay:d<=4097:=by have:=B.out;omega
 have ap:c.length<=4097:=by omega
 have b:(λZ:Al=>Z.cell? ⟨L,3,Ak⟩=Aj (A7 Ah g.bytes)/\Z.cell? ⟨L,45,Ak⟩=Aj (A8 j c.length l)) {W with drawn:=W.drawn+1}:=⟨c3,ad⟩
 go_enter func27,ntmps27
 go_wp2_with fail
 refine Dr (S:=λZ=>Z.cell? ⟨L,3,Ak⟩=Aj (A7 Ah g.bytes)/\Z.cell? ⟨L,45,Ak⟩=Aj (A8 j c.length l)) (by kernel_rfl) ?_;refine B6 0 5 (A9 (Aj ⟨L,0,Ak⟩)) rfl (by kernel_rfl) (λ_ _ _ h=>h) (λZ a=>by kernel_rfl) b ?_;refine B6 1 6 (A9 (Aj ⟨L,0,Ak⟩)) rfl (by kernel_rfl) (λ_ _ _ h=>h) (λZ a=>by kernel_rfl) b ?_;refine B6 2 7 (A9 (Aj ⟨L,2,Ak⟩)) rfl (by kernel_rfl) (λ_ _ _ h=>h) (λZ a=>by kernel_rfl) b ?_;refine B6 3 8 (A9 (Aj ⟨L,3,Ak⟩)) rfl (by kernel_rfl) (λ_ _ _ h=>h) (λZ a=>by kernel_rfl) b ?_;refine B6 4 9 (A7 Ah g.bytes) rfl (by kernel_rfl) (λ_ _ _ h=>h) (λZ a=>?y4) b ?_
 case y4=>(have z1:=a.1;go_simp)
 refine B6 5 10 (A7 Ah ((g.bytes:Int)+1)) rfl (by kernel_rfl) (λ_ _ _ h=>h) (λZ a=>?y5) b ?_
 case y5=>(go_simp;exact(MW _).trans (by omega))
 refine B6 6 11 (A9 (Aj ⟨L,0,Ak⟩)) rfl (by kernel_rfl) (λ_ _ _ h=>h) (λZ a=>by kernel_rfl) b ?_;refine B6 7 12 (A9 (Aj ⟨L,0,Ak⟩)) rfl (by kernel_rfl) (λ_ _ _ h=>h) (λZ a=>by kernel_rfl) b ?_;refine B6 8 13 (A9 (Aj ⟨L,45,Ak⟩)) rfl (by kernel_rfl) (λ_ _ _ h=>h) (λZ a=>by kernel_rfl) b ?_;refine B6 9 14 (A8 j c.length l) rfl (by kernel_rfl) (λ_ _ _ h=>h) (λZ a=>?y9) b ?_
 case y9=>(have z1:=a.2;go_simp)
 refine B6 10 15 (A7 Ah c.length) rfl (by kernel_rfl) (λ_ _ _ h=>h) (λZ a=>by kernel_rfl) b ?_;refine B6 11 16 (A7 Ah d) rfl (by kernel_rfl) (λ_ _ _ h=>h) (λZ a=>?y11) b ?_
 case y11=>(go_simp;exact(MW _).trans (by have:=B.out;omega))
 refine B6 12 4 (A7 Ah d) rfl (by kernel_rfl) (λ_ _ _ h=>h) (λZ a=>by kernel_rfl) b ?_;refine KK (by kernel_rfl) ?_ _;go_simp
 go_wp2_with fail
 refine Dr (S:=λ_=>True) (by kernel_rfl) ?_;have z:Hid (({World.drew W with drawn:=(World.drew W).drawn+1}:Al).heap[L]?=Aj (Af (Be g (A8 j c.length l) false) 86)):=HG;have I:Hid (Av {World.drew W with drawn:=(World.drew W).drawn+1} r (A8 j c.length l) c):=HO;have Y:Hid (Dv {World.drew W with drawn:=(World.drew W).drawn+1} f (bs.take d)):=aa.below (AT _ _).drew.drew;have q:Hid (A1 W {World.drew W with drawn:=(World.drew W).drawn+1}):=(AT _ _).drew.drew;generalize({World.drew W with drawn:=(World.drew W).drawn+1}:Al)=W2 at *;have b:(λ_:Al=>True) W2:=trivial;have a0:W2.cell? ⟨L,45,Ak⟩=Aj (A8 j c.length l):=(Ar z 45).trans (IR A _ _ 1);obtain⟨v',C,T,P,ah⟩:=iz W2 r (A8 j c.length l) c f n (bs.take d) I Y ab (by rw[J.out];have:=u.out;omega);rw[J.out]at T;have ac:=Ap P;have p:=Ap ah;obtain⟨M,V,N,rfl⟩:=P.2.2;have ag:Aj L≠(Value.slice j c.length l).ownBlock:=λe=>by have x:=E7 I.1 e.symm;have y:=G.out;omega
 have t:=Ap ((p.block L (At z) ag).trans z);have az:C.cell? ⟨L,45,Ak⟩=Aj (A8 j c.length l):=(Ar t 45).trans (IR A _ _ 1);have am:=Cx C L 45 _ _ t;refine B6 0 17 (A9 (Aj ⟨L,0,Ak⟩)) rfl (by kernel_rfl) (λ_ _ _ h=>h) (λZ a=>by kernel_rfl) b ?_;refine B6 1 18 (A9 (Aj ⟨L,0,Ak⟩)) rfl (by kernel_rfl) (λ_ _ _ h=>h) (λZ a=>by kernel_rfl) b ?_;refine B6 2 19 (A9 (Aj ⟨L,0,Ak⟩)) rfl (by kernel_rfl) (λ_ _ _ h=>h) (λZ a=>by kernel_rfl) b ?_;refine B6 3 20 (A9 (Aj ⟨L,45,Ak⟩)) rfl (by kernel_rfl) (λ_ _ _ h=>h) (λZ a=>by kernel_rfl) b ?_;refine B6 5 22 (A8 f bs.length n) rfl (by kernel_rfl) (λ_ _ _ h=>h) (λZ a=>by kernel_rfl) b ?_;refine B6 6 23 (A8 f bs.length n) rfl (by kernel_rfl) (λ_ _ _ h=>h) (λZ a=>by kernel_rfl) b ?_;refine B6 7 24 (A7 Ah bs.length) rfl (by kernel_rfl) (λ_ _ _ h=>h) (λZ a=>by kernel_rfl) b ?_;refine B6 8 25 (A7 Ah d) rfl (by kernel_rfl) (λ_ _ _ h=>h) (λZ a=>by kernel_rfl) b ?_;refine B6 9 26 (A7 Ah m) rfl (by kernel_rfl) (λ_ _ _ h=>h) (λZ a=>?y9) b ?_
 case y9 =>
  have ax:min (bs.length:Int) (d:Int)=m:=by have:=u.out;omega
  go_simp
 refine B6 10 27 (A8 f m n) rfl (by kernel_rfl) (λ_ _ _ h=>h) (λZ a=>S6 49 (.tmp 22) Ak (Aj (.tmp 26)) rfl (X:=A8 f bs.length n) (L:=Ak) (H:=Aj (A7 Ah m)) (by kernel_rfl) (by kernel_rfl) (by kernel_rfl) (iA Z f bs.length m n (by omega))) b ?_;refine Jw 4 rfl (by kernel_rfl) (λK s=>?_);go_simp;refine s.out _ _ trivial (λ_=>?_);refine Jw 11 rfl (by kernel_rfl) (λK s=>?_);refine iB (by kernel_rfl) ?_;refine iC (.tmp 21) (.tmp 27) 49 rfl (A8 j c.length l) (A8 f m n) _ (by kernel_rfl) (by kernel_rfl) T ?_;refine s.out _ _ trivial (λ_=>?_);refine B6 12 29 (A9 (Aj ⟨L,0,Ak⟩)) rfl (by kernel_rfl) (λ_ _ _ h=>h) (λZ a=>by kernel_rfl) trivial ?_;refine B6 13 30 (A9 (Aj ⟨L,45,Ak⟩)) rfl (by kernel_rfl) (λ_ _ _ h=>h) (λZ a=>by kernel_rfl) trivial ?_;refine Jw 14 rfl (by kernel_rfl) (λK s=>?_);go_simp;refine s.out _ _ trivial (λ_=>?_);refine KK (by kernel_rfl) ?_ _;go_simp
 go_wp2_with fail
 go_end0;have an:=At t;refine⟨M,V,N,rfl,?_,?_,⟨p.os.trans q.os,p.tape.trans q.tape,p.output.trans q.output⟩,?_,λk R x y=>?_⟩
 ·have o:=ac.out;have aj:∀g,(Value.slice M V N).ownBlock=Aj g->g≠L:=λg e w=>by have x:=E7 o.1 e;have y:=G.out;omega
  refine⟨⟨o.1.1,?_⟩,by have:=o.2.1;simpa[World.setCell]using this,o.2.2⟩;rcases o.1.2 with h|⟨O,ae,af,v,w,D,e4⟩
  ·exact .inl h
  exact .inr ⟨O,ae,af,v,w,(BV _ _ _ _ (by simpa using aj O (by rw[v];rfl))).trans D,e4⟩
 ·rw[DJ C _ _ _ _ _ t,iy A.out]
 ·have x:=p.size;have y:=q.size;simp[World.setCell];omega
 exact(BV _ _ _ _ (by simpa using x)).trans ((p.block k (Br R q.size) y).trans (q.block k R))
theorem jB{g:Gt}{L:Nat}{fed:Am}{cl:Bool}(b:V.heap[L]?=Aj (Af (Be g fed cl) 86)):∀(j:Nat) (u:Am),#[Value.int Ah g.depth,A7 Ah g.bytes][j]?=Aj u->V.cell? ⟨L,2+j,Ak⟩=Aj u:=by
 intro j u a;have c:j<2:=At a;refine(Ar b (2+j)).trans ((Mh fed cl (2+j) (by omega)).trans ?_)
 match j,c,a with
 |0,_,a=>exact a
 |1,_,a=>exact a
theorem jC(k:Nat)(V:Al)(p L:Nat)(g:Gt)(J:g.rc.size=40)(f:A5)(l i:Nat)(C:Bool)(r:Except (Int×Int) (DataW Unit))(H:V.heap[p]?=Aj (Af #[A9 (Aj ⟨L,0,Ak⟩)] 45))(n:V.heap[L]?=Aj (Af (Be g (A8 f l i) C) 86))(B:∀U,A1 V U->An Ao 51 #[A7 Ah g.inF,.agg #[A7 Ah g.depth,A7 Ah g.bytes],A8 f l i] U (IP k U r)):An Ao 50 #[A9 (Aj ⟨p,0,Ak⟩)] V (IP k V r):=by
 have O:=Ap n;have a:(λZ:Al=>Z.cell? ⟨p,0,Ak⟩=Aj (A9 (Aj ⟨L,0,Ak⟩))/\Z.cell? ⟨L,0,Ak⟩=Aj (A7 Ah g.inF)/\(∀(j:Nat) (u:Am),#[Value.int Ah g.depth,A7 Ah g.bytes][j]?=Aj u->Z.cell? ⟨L,2+j,Ak⟩=Aj u)/\Z.cell? ⟨L,45,Ak⟩=Aj (A8 f l i)) {V with drawn:=V.drawn+1}:=⟨Ar H 0,(Ar n 0).trans (Mh _ _ 0 (by decide)),jB n,(Ar n 45).trans (IR J _ _ 1)⟩
 have x:=Ap B;have G:(prog.info? 79).map (·.size)=Aj (#[Value.int Ah g.depth,A7 Ah g.bytes]).size:=by kernel_rfl
 go_enter func50,ntmps50
 go_wp2_with fail
 refine Dr (S:=λZ=>Z.cell? ⟨p,0,Ak⟩=Aj (A9 (Aj ⟨L,0,Ak⟩))/\Z.cell? ⟨L,0,Ak⟩=Aj (A7 Ah g.inF)/\(∀(j:Nat) (u:Am),#[Value.int Ah g.depth,A7 Ah g.bytes][j]?=Aj u->Z.cell? ⟨L,2+j,Ak⟩=Aj u)/\Z.cell? ⟨L,45,Ak⟩=Aj (A8 f l i)) (by kernel_rfl) ?_;have c:Hid (A1 V {V with drawn:=V.drawn+1}):=(AT _ _).drew;generalize({V with drawn:=V.drawn+1}:Al)=V1 at *;refine B6 0 2 (A9 (Aj ⟨L,0,Ak⟩)) rfl (by kernel_rfl) (λ_ _ _ h=>h) (λZ b=>?y0) a ?_
 case y0=>(have o:=b.1;go_simp)
 refine B6 1 3 (A9 (Aj ⟨L,0,Ak⟩)) rfl (by kernel_rfl) (λ_ _ _ h=>h) (λZ b=>by kernel_rfl) a ?_;refine B6 2 4 (A9 (Aj ⟨L,0,Ak⟩)) rfl (by kernel_rfl) (λ_ _ _ h=>h) (λZ b=>by kernel_rfl) a ?_;refine B6 3 5 (A7 Ah g.inF) rfl (by kernel_rfl) (λ_ _ _ h=>h) (λZ b=>?y3) a ?_
 case y3=>(have o:=b.2.1;go_simp)
 refine B6 4 6 (A9 (Aj ⟨L,0,Ak⟩)) rfl (by kernel_rfl) (λ_ _ _ h=>h) (λZ b=>?y4) a ?_
 case y4=>(have o:=b.1;go_simp)
 refine B6 5 7 (A9 (Aj ⟨L,0,Ak⟩)) rfl (by kernel_rfl) (λ_ _ _ h=>h) (λZ b=>by kernel_rfl) a ?_;refine B6 6 8 (A9 (Aj ⟨L,2,Ak⟩)) rfl (by kernel_rfl) (λ_ _ _ h=>h) (λZ b=>by kernel_rfl) a ?_;refine B6 7 9 (.agg #[A7 Ah g.depth,A7 Ah g.bytes]) rfl (by kernel_rfl) (λ_ _ _ h=>h) (λZ b=>?y7) a ?_
 case y7=>exact NM 79 (.tmp 8) rfl L 2 rfl _ _ b.2.2.1 underlying79 rfl G
 refine B6 8 10 (A9 (Aj ⟨L,0,Ak⟩)) rfl (by kernel_rfl) (λ_ _ _ h=>h) (λZ b=>?y8) a ?_
 case y8=>(have o:=b.1;go_simp)
 refine B6 9 11 (A9 (Aj ⟨L,0,Ak⟩)) rfl (by kernel_rfl) (λ_ _ _ h=>h) (λZ b=>by kernel_rfl) a ?_;refine B6 10 12 (A9 (Aj ⟨L,45,Ak⟩)) rfl (by kernel_rfl) (λ_ _ _ h=>h) (λZ b=>by kernel_rfl) a ?_;refine B6 11 13 (A8 f l i) rfl (by kernel_rfl) (λ_ _ _ h=>h) (λZ b=>?y11) a ?_
 case y11=>(have o:=b.2.2.2;go_simp)
 refine Jw 12 rfl (by kernel_rfl) (λK E=>?_);go_simp;refine(x V1 c).mono ?_;rintro e s ⟨m,hF⟩;rcases r with⟨D,N⟩|d
 ·obtain rfl:=(show B7 D N e from hF)
  exact⟨rfl,c.trans (m.mono c.size),rfl⟩
 obtain⟨t,y,rfl,F⟩:=hF;simp only[];have I:p<V1.heap.size:=F8 a.1;have q:L<V1.heap.size:=F8 a.2.1;have v:(λZ:Al=>Z.cell? ⟨p,0,Ak⟩=Aj (A9 (Aj ⟨L,0,Ak⟩))/\Z.cell? ⟨L,0,Ak⟩=Aj (A7 Ah g.inF)/\(∀(j:Nat) (u:Am),#[Value.int Ah g.depth,A7 Ah g.bytes][j]?=Aj u->Z.cell? ⟨L,2+j,Ak⟩=Aj u)/\Z.cell? ⟨L,45,Ak⟩=Aj (A8 f l i)) s:=⟨(m.cell (p:=⟨p,0,Ak⟩) I).trans a.1,(m.cell (p:=⟨L,0,Ak⟩) q).trans a.2.1,λj u M=>(m.cell (p:=⟨L,2+j,Ak⟩) q).trans (a.2.2.1 j u M),(m.cell (p:=⟨L,45,Ak⟩) q).trans a.2.2.2⟩
 have z:=Ap (c.trans (m.mono c.size));have A:Hid (AJ k s (λj=>V.heap.size<=j/\j<s.heap.size) (Ae t y) d):=F.same (λj w=>⟨AW c.size w.1,w.2⟩) (λ_ _=>rfl);refine E.out _ _ v (λ_=>?_);refine B6 13 1 (Ae t y) rfl (by kernel_rfl) (λ_ _ _ h=>h) (λZ b=>by kernel_rfl) v ?_;refine KK (by kernel_rfl) ?_ _;go_simp
 go_wp2_with fail
 go_ret;exact⟨z,t,y,rfl,A⟩
theorem Xe(k:Nat)(W:Al)(L:Nat)(g:Gt)(C:g.rc.size=40)(h:A5)(b i:Nat)(p:Bool)(r:Except (Int×Int) (DataW Unit))(q:W.heap[L]?=Aj (Af (Be g (A8 h b i) p) 86))(x:∀U,A1 W U->An Ao 51 #[A7 Ah g.inF,.agg #[A7 Ah g.depth,A7 Ah g.bytes],A8 h b i] U (IP k U r)):An Ao 28 #[A9 (Aj ⟨L,0,Ak⟩)] W (Nz k W r):=by
 have a:Hid (A1 W (W.alloc (Af #[A9 (Aj ⟨L,0,Ak⟩)] 45))):=AH;have E:∀(b:Fn) (first o:A4) (w:Al),(Instr.makeFunc b first o).run Ao w=.ok (.func b first o) w:=λ_ _ _ _=>rfl;have v:=gT k (W.alloc (Af #[A9 (Aj ⟨L,0,Ak⟩)] 45)) #[A9 (Aj ⟨W.heap.size,0,Ak⟩)] r (by
  have f:Below (W.heap.size+1) (W.alloc (Af #[A9 (Aj ⟨L,0,Ak⟩)] 45)) (((W.alloc (Af #[A9 (Aj ⟨L,0,Ak⟩)] 45)).alloc (Af #[A7 Ah 0] 32)).alloc (Af #[A7 Ah 0] 3)):=((AT _ _).alloc (by simp) _).alloc (by simp) _;have z:=At q;refine jC k _ W.heap.size L g C h b i p r ((f.block _ (by omega)).trans (Ay W _)) ((f.block L (by omega)).trans ((a.block L z).trans q)) (λU A=>x U ?_);exact(a.trans (f.mono (by omega))).trans (A.mono (by simp;omega)))
 have n:=v;rcases r with⟨D,F⟩|d
 ·go_enter func28,ntmps28
  go_wp2_with(first
   |(go_at_call 49;refine n.mono ?_;rintro e m ⟨l,hF⟩;obtain rfl:=hF;have c:=Ap (a.trans (l.mono a.size))))
  go_ret3
  exact⟨c,rfl⟩
 go_enter func28,ntmps28
 go_wp2_with(first
  |(go_at_call 49;refine n.mono ?_;rintro e m ⟨l,hF⟩;obtain⟨t,y,rfl,B⟩:=hF;have c:=Ap (a.trans (l.mono a.size));have u:Hid (AJ k m (λj=>W.heap.size<=j/\j<m.heap.size) (Ae t y) d):=B.same (λj s=>⟨AW a.size s.1,s.2⟩) (λ_ _=>rfl)))
 go_ret3
 exact⟨c,t,y,rfl,u⟩
def NN(r:Except (Int×Int) (DataW Unit))(n:Nat):Int:=match r with
 |.ok _=>0
 |.error (en,pl)=>if pl=n then 0 else en
def L9(W:Al)(L base:Nat)(g:Gt)(fed:Am)(l:A2)(en:Int)(e:Ending)(W':Al):Prop :=
 ∃fa fn fc,e=Ag (A7 Ah en)/\Av W' base (A8 fa fn fc) l/\W'.heap[L]?=Aj (Af (Be g (A8 fa fn fc) false) 86)/\(W'.os=W.os/\W'.tape=W.tape/\W'.output=W.output)/\W.heap.size<=W'.heap.size/\∀k,k<W.heap.size->k≠L->Aj k≠fed.ownBlock->W'.heap[k]?=W.heap[k]?
theorem jD(k:Nat)(W:Al)(L n:Nat)(g:Gt)(I:g.rc.size=40)(o:Am)(D:A2)(J:A5)(F:Nat)(bs l:A2)(b:l=D++bs.take (g.bytes+1-D.length))(O:W.heap[L]?=Aj (Af (Be g o false) 86))(R:Av W n o D)(hL:L<n)(t:Dv W J bs)(d:J=Ak->F=0)(aj:bs.length<=F)(ai:g.bytes<=4096)(af:D.length<=g.bytes+1)(r:Except (Int×Int) (DataW Unit))(ag:∀f u,r=.error (f,u)->f≠0)(V:∀U h i,(∀j,j<L->U.heap[j]?=W.heap[j]?)->Dv U h l->An Ao 51 #[A7 Ah g.inF,.agg #[A7 Ah g.depth,A7 Ah g.bytes],A8 h l.length i] U (IP k U r)):An Ao 13 #[A9 (Aj ⟨L,0,Ak⟩),A8 J bs.length F] W (L9 W L n g o l (NN r l.length)):=by
 have Q:=iE W L n g I o D J F bs O R hL t d aj ai af;rw[<-b]at Q;have T:W.cell? ⟨L,46,Ak⟩=Aj (Ad false):=(Ar O 46).trans (IR I _ _ 2);have HD:=Ap V;have aa:Hid (∀j,j<L->Aj j≠o.ownBlock):=λj y e=>by have:=E7 R.1 e.symm;omega
 have am:=At O;have S:=Ap I;have E:An Ao 27 #[A9 (Aj ⟨L,0,Ak⟩),A8 J bs.length F] W λe s=>∃h i,e=Ag (Ab #[])/\Hid (L9 W L n g o l 0 (Ag (A7 Ah 0)) s)/\Hid (s.heap[L]?=Aj (Af (Be g (A8 h l.length i) false) 86))/\Hid (Av s n (A8 h l.length i) l)/\An Ao 28 #[A9 (Aj ⟨L,0,Ak⟩)] s (Nz k s r):=Q.mono (by
  rintro e s ⟨h,fn,i,rfl,G,w,H,M,N⟩;obtain⟨ak,al,K,ah⟩:=M8 G;injection K with K X Y;subst K;subst X;subst Y;refine⟨h,i,rfl,⟨h,_,i,rfl,G,w,H,M,N⟩,w,G,Xe k s L g I h l.length i false r w (λU Z=>HD.out U h i (λj y=>?_) (ah.below Z))⟩;exact(Z.block j (by omega)).trans (N j (by omega) (by omega) (aa j y)))
 clear Q V O R t d I b;have fin:∀{C p:Al} {h:A5} {i:Nat} {f:Int},L9 W L n g o l 0 (Ag (A7 Ah 0)) C->C.heap[L]?=Aj (Af (Be g (A8 h l.length i) false) 86)->Av C n (A8 h l.length i) l->A1 C p->L9 W L n g o l f (Ag (A7 Ah f)) p:=by
  rintro C p h i f ⟨_,_,_,_,_,_,H,M,N⟩ w G m;exact⟨h,_,i,rfl,KT G m,(m.block L (At w)).trans w,⟨m.os.trans H.1,m.tape.trans H.2.1,m.output.trans H.2.2⟩,AW M m.size,λj a ab ac=>(m.block j (Br a M)).trans (N j a ab ac)⟩
 rcases r with⟨f,u⟩|ae
 ·have c:=ag f u rfl;have K:(f==0)=false:=by simpa using c
  have X:(f != 0)=true:=by simpa using c
  by_cases P:u=l.length
  ·have A:Hid (NN (.error (f,u)) l.length=0):=by show(if _ then _ else _)=_;rw[As P]
   rw[A.out];subst P;go_enter func13,ntmps13
   go_wp2_with(first
    |(go_at_call 27;refine E.mono ?_;clear E T;rintro e w3 ⟨h,i,rfl,x,q,z,v⟩)
    |(go_at_call 28;refine v.mono ?_;clear v;rintro e p ⟨m,hF⟩;obtain rfl:=hF;have B:Hid (∀f,L9 W L n g o l f (Ag (A7 Ah f)) p):=λf=>fin x q z m;have ad:p.cell? ⟨L,45,Ak⟩=Aj (A8 h l.length i):=(Ar ((m.block L (At q)).trans q) 45).trans (IR S _ _ 1);clear m))
   go_ret;exact B 0
  have A:Hid (NN (.error (f,u)) l.length=f):=by show(if _ then _ else _)=_;rw[Aq P]
  rw[A.out];have Y:(u==(l.length:Int))=false:=by simpa using P
  go_enter func13,ntmps13
  go_wp2_with(first
   |(go_at_call 27;refine E.mono ?_;clear E T;rintro e w3 ⟨h,i,rfl,x,q,z,v⟩)
   |(go_at_call 28;refine v.mono ?_;rintro e p ⟨m,hF⟩;obtain rfl:=hF;have B:Hid (∀f,L9 W L n g o l f (Ag (A7 Ah f)) p):=λf=>fin x q z m;have ad:p.cell? ⟨L,45,Ak⟩=Aj (A8 h l.length i):=(Ar ((m.block L (At q)).trans q) 45).trans (IR S _ _ 1)))
  go_ret;exact B f
 have A:Hid (NN (.ok ae) l.length=0):=rfl;rw[A.out];go_enter func13,ntmps13
 go_wp2_with(first
  |(go_at_call 27;refine E.mono ?_;rintro e w3 ⟨h,i,rfl,x,q,z,v⟩)
  |(go_at_call 28;refine v.mono ?_;rintro e p ⟨m,hF⟩;obtain⟨an,ao,rfl,_⟩:=hF;have B:Hid (∀f,L9 W L n g o l f (Ag (A7 Ah f)) p):=λf=>fin x q z m))
 go_ret;exact B 0
theorem Xf{fn:Func}{p u u2 u3:Tmp}{ty:TypeId}(h:fn.results=#[.tmp u,.cell p ty,.tmp u2,.tmp u3])(b:A4)(w:Al)(g:Nat)(t:TypeId)(cs:A4)(c:Nat×Nat)(d:TypeDesc)(l:b.getD p undef=A9 (Aj ⟨g,0,Ak⟩))(k:w.heap[g]?=Aj (Af cs t c))(m:P.underlying ty=Aj d)(j:(match d with|.struct _|.array _ _=>true|_=>false)=true)(hi:(P.info? ty).map (·.size)=Aj cs.size)(v f i:Am)(n:b.getD u undef=v)(o:b.getD u2 undef=f)(q:b.getD u3 undef=i):(results fn b).run P w=.ok (Ab #[v,.agg cs,f,i]) w:=by
 have e:(results fn b).run P w=((asAddr (b.getD p undef)).run P w).andThen λa r=>((loadVar ty a).run P r).andThen λv s=>.ok (Ab #[b.getD u undef,v,b.getD u2 undef,b.getD u3 undef]) s:=by
  simp only[results,h];simp[D8,Result.andThen]
 subst n;subst o;subst q;rw[e,l];simp only[asAddr,E4,Dl,FZ w g t ty cs c d k m j hi]
theorem Mj:(prog.info? 31).map (·.size)=Aj (#[Value.int Ah 0,A7 Ah 0,A7 Ah 0,A7 Ah 0]).size:=by kernel_rfl
end
section
open Go.RowKit
theorem mU(k:Nat)(V:Al)(b:Int)(t:TypeId)(y:Am)(d:A3)(f:A2)(p:AJ k V (λj=>j<V.heap.size) (Ae t y) d)(r:¬(b=1/\Dw k d=true))(l:∀U,A1 V U->An Ao 84 #[A7 Ah b,Ae t y] U λe c=>∃a,e=Ag a/\Av c U.heap.size a f/\A1 U c):An Ao 53 #[A7 Ah b,Ae t y] V λe c=>∃a,e=Ag (Ab #[a,A7 Ah 0])/\Av c V.heap.size a f/\A1 V c:=by
 cases m:(b==1)
 ·exact gQ V b t y f m (l V Bb)
 obtain rfl:b=1:=by simpa using m
 have q:Dw k d=false:=by cases s:Dw k d with|false=>rfl|true=>exact absurd ⟨rfl,s⟩ r
 have i:=RH k V (λj=>j<V.heap.size) (Ae t y) d (λ_ h=>h) p;rw[q]at i;refine gR V t y f i (λU g=>(l U g).mono ?_);rintro e u ⟨a,rfl,n,o⟩;exact⟨a,rfl,Av.mono n g.size,o.mono g.size⟩
theorem mV(k:Nat)(V:Al)(t:TypeId)(y:Am)(a:A3)(d:AJ k V (λj=>j<V.heap.size) (Ae t y) a)(f:Dw k a=true):An Ao 53 #[A7 Ah 1,Ae t y] V λe c=>e=Ag (Ab #[A8 Ak 0 0,A7 Ah 13])/\A1 V c:=by
 have b:=RH k V (λj=>j<V.heap.size) (Ae t y) a (λ_ h=>h) d;rw[f]at b;exact gS V t y b
end
section
open Go.RowKit Go.Lib
theorem Yc{α:Type}(f:α->A2)(l:List α)(h:∀a,a∈l->1<=(f a).length):l.length<=(C9 f l).length:=by
 cases l with
 |nil=>simp
 |cons a l =>
  have c:=h a (Gg ..);have d:=M1 (λe=>44::f e) l λb _=>by simp
  unfold C9;rw[AC,Bq];omega
theorem nd(n:Nat):1<=(decDigits n).length:=by
 unfold decDigits;split<;>simp
theorem ng(z:Int):1<=(Lib.itoa z).length:=by
 unfold itoa;split
 ·simp
 exact nd _
theorem nh:∀{k:Nat} {v:Am} {d:A3},AJ k V F v d->1<=(Cq k d).length
 |0,_,_,h=>h.elim
 |k+1,v,d,h=>by
  unfold AJ at h;split at h
  ·simp[Cq]
  ·rename_i b
   cases b<;>simp[Cq]
  ·exact ng _
  ·exact SO _
  ·simp[Cq]
  ·simp[Cq]
  ·simp[Cq]
  exact h.elim
theorem Yd:∀(k:Nat) (W:Al) (a:Nat) (F:Nat->Prop) (x:Am) (d:A3),(∀j,F j->j<a)->Hu a W->AJ k W F x d->PR W a x (Cq k d)
 |0,_,_,_,_,_,_,_,h=>h.elim
 |k+1,W0,a,F,x,d,hF,hT0,h0=>by
  intro W v m K s S;have h:=h0.same (λ_ h=>h) (λj R=>K.block j (hF j R));have J:Hu a W:=Lib.TabBelow.on hT0 K;have C:m.length<=999999999:=by omega
  have M:∀y f,AJ k W F y f->PR W a y (Cq k f):=λy f T=>Yd k W a F y f hF J T;unfold AJ at h;split at h
  ·subst h;exact dU W a v m C s
  ·rename_i b
   subst h;cases b
   ·exact dW W a v m C s
   exact dV W a v m C s
  ·obtain⟨rfl,p,w⟩:=h;exact n8 W a v m _ p w C s J
  ·rename_i l
   subst h;exact n9 W a v m l S s
  ·rename_i l
   obtain⟨u,rfl,z⟩:=h;obtain⟨q,n,c,rfl⟩:∃q n c,u=A8 q n c:=by
    rcases z.2 with⟨e,r⟩|⟨g,o,H,e,_⟩
    ·exact⟨_,_,_,e⟩
    exact⟨_,_,_,e⟩
   exact mZ W a v q n c m C s
  ·rename_i ds
   obtain⟨u,D,rfl,z,E⟩:=h;have V:D.length=ds.length:=by have:=z.1;omega
   have at_:∀i,i<ds.length->∃x f,D[i]?=Aj x/\ds[i]?=Aj f/\AJ k W F x f:=λi B =>
    ⟨_,_,AY (by omega),AY B,E i _ _ (AY (by omega)) (AY B)⟩
   have Q:=Yc (Cq k) ds λf P=>by
    obtain⟨i,B,rfl⟩:=Iy P;obtain⟨x,U,p,w,G⟩:=at_ i B;rw[AY B]at w;injection w with w;rw[w];exact nh G
   have e:(Cq (k+1) (.agg ds)).length=1+(C9 (Cq k) ds).length+1:=by simp[Cq];omega
   obtain⟨q,o,rfl⟩:∃q o,u=A8 q ds.length o:=by
    rcases z.2 with⟨e,r⟩|⟨g,o,H,e,_⟩
    ·exact⟨Ak,0,by rw[e,r]⟩
    exact⟨_,_,e⟩
   have A:=mX (Cq k) W a v q o F hF m ds D (by omega) (by omega) z (λi x f p w=>M x f (E i x f p w)) (λi x L=>by
    obtain⟨X,f,p,w,G⟩:=at_ i (by have:=B9 L;omega);rw[L]at p;injection p with p;rw[p];exact G.iface) s
   have r:((m++[91])++C9 (Cq k) ds)++[93]=m++Cq (k+1) (.agg ds):=by simp[Cq]
   rw[r]at A;exact na W a v q ds.length o _ s.2.2 A
  ·rename_i es
   obtain⟨u,D,rfl,z,E⟩:=h;have Q:=Yc (DG (Cq k)) es λf _=>by simp[DG];omega
   have e:(Cq (k+1) (.map es)).length=1+(C9 (DG (Cq k)) es).length+1:=by simp[Cq];omega
   obtain⟨q,o,rfl⟩:∃q o,u=A8 q es.length o:=by
    rcases z.2 with⟨e,r⟩|⟨g,o,H,e,_⟩
    ·exact⟨Ak,0,by rw[e,r]⟩
    exact⟨_,_,e⟩
   have A:=mY (Cq k) W a v q o F hF m es D (by omega) (by omega) z (λi key f p=>by
    obtain⟨l,x,N,r,O,I⟩:=E i key f p;obtain⟨t,y,rfl⟩:=I.iface;exact⟨l,t,y,N,r,O,M _ f I⟩) s
   have r:((m++[123])++C9 (DG (Cq k)) es)++[125]=m++Cq (k+1) (.map es):=by simp[Cq]
   rw[r]at A;exact nc W a v q es.length o _ s.2.2 A
  exact h.elim
theorem ni(k:Nat)(W:Al)(F:Nat->Prop)(x:Am)(d:A3)(hF:∀j,F j->j<W.heap.size)(n:Hu W.heap.size W)(h:AJ k W F x d)(m:(Cq k d).length<=999999999):An Ao 84 #[A7 Ah 1,x] W λe a=>∃b,e=Ag b/\Av a W.heap.size b (Cq k d)/\A1 W a:=by
 have c:=Yd k W W.heap.size F x d hF n h W _ [] Bb (P4 W) (by simpa using m);obtain⟨t,y,rfl⟩:=h.iface;go_enter func84,ntmps84
 go_wp2_with(first
  |(go_at_call 111;refine c.mono ?_;rintro e s ⟨r,rfl,f,l⟩;obtain⟨g,i,o,q,p,rfl⟩:=f))
 go_ret;exact⟨_,rfl,⟨g,i,_,_,_,rfl⟩,l⟩
end
section
theorem Yv{dflt:Int}(a:∃l:Nat,dflt=l/\l<n):∀(rs:List (List (Nat×A2)×Int×Int)),(∀x∈rs,∃l:Nat,x.2.1=l/\l<n)->∀p,∃l:Nat,(CC dflt rs p).1=l/\l<n
 |[],_,_=>a
 |x::rs,hr,p=>by
  rw[CC];split
  ·exact hr x (Gg ..)
  exact Yv a rs (λy b=>hr y (GG _ b)) p
end
section
open Go.RowKit Go.Lib
theorem Tu{α:Type}{lim:Int}{itF:α->Nat->A6 α}{P:α->Prop}(H:∀a p b q,P a->itF a p=.ok (b,q)->P b):∀(g p:Nat) (a b:α) (q:Nat),P a->C8 bs lim itF last g p a=.ok (b,q)->P b
 |0,_,_,_,_,_,h=>by cases h
 |g+1,p,a,b,q,ha,h=>by
  rw[C8]at h;split at h
  ·cases h
  split at h
  ·cases h
  next a2 p2 hi =>
  have c:=H _ _ _ _ ha hi;split at h
  ·cases h
  split at h
  ·cases h
  split at h
  ·cases h
  split at h
  ·cases h;exact c
  split at h
  ·exact Tu H g _ _ _ _ c h
  cases h
theorem YU{α:Type}{lim:Int}{itF:α->Nat->A6 α}{p:Nat}{a a':α}{q:Nat}{P:α->Prop}(H:∀a p a' q,P a->itF a p=.ok (a',q)->P a')(b:P a)(h:BW bs lim itF last p a=.ok (a',q)):P a':=by
 unfold BW at h;split at h
 ·cases h
 split at h
 ·exact Tu H _ _ _ _ _ b h
 split at h
 ·cases h
 split at h
 ·cases h;exact b
 exact Tu H _ _ _ _ _ b h
theorem ZP(w:Al)(v:Int)(b:UInt8)(a:v=b.toNat):(convert 49 9 (A8 (Aj ⟨w.heap.size,0,Ak⟩) 1 1)).run Ao (w.alloc (Af #[A7 Ai v] 5))=.ok (Aa ⟨#[b]⟩) (w.alloc (Af #[A7 Ai v] 5)):=by
 subst a;exact ZL _ _ b (Ar (Ay w _) 0)
theorem rR(s n:Nat)(h:¬n<24):AO s n=UInt8.ofNat (32*s+24+I4 n)::AX n (2^I4 n):=by
 unfold AO I4;rw[Aq h];by_cases a:n<256
 ·rw[As (by omega),As a]
 rw[Aq (by omega),Aq a];by_cases b:n<65536
 ·rw[As (by omega),As b]
 rw[Aq (by omega),Aq b];by_cases c:n<4294967296
 ·rw[As (by omega),As c]
 rw[Aq (by omega),Aq c]
theorem MK(W:World)(s n:Nat)(N:s<=7)(H:n<=9223372036854775807):Calls prog 63 #[.int .i64 s,.int .i64 n] W λe A=>e=.returned (BU (AO s n))/\Below W.heap.size W A:=by
 by_cases r:n<24
 ·obtain⟨u,f⟩:∃u,UInt8.ofNat (32*s+n)=u:=⟨_,rfl⟩
  have k:Hid (AO s n=[u]):=by show _=_;unfold AO;rw[As r,f]
  rw[k.out];have M:=ZP W ((s:Int)*32+n) u (by rw[<-f,TY _ (by omega)];omega);have F:(n:Int)<24:=by omega
  go_enter func63,ntmps63;go_wp2;go_ret;exact⟨rfl,AH⟩
 obtain⟨m,p⟩:∃m,I4 n=m:=⟨_,rfl⟩
 have t:=p▸rP n;obtain⟨u,f⟩:∃u,UInt8.ofNat (32*s+24+m)=u:=⟨_,rfl⟩
 have v:Hid ((u.toNat:Int)=(s:Int)*32+(24+m:Nat)):=by show _=_;rw[<-f,TY _ (by omega)];omega
 have k:Hid (AO s n=[u]++AX n (2^m)):=by show _=_;rw[rR s n r,p,f];rfl
 rw[k.out];have o:=λV=>rQ V (n:Int);rw[Gh,p]at o;have q:=λV=>ZO (2^m) n V H (TZ (AB m) t).2;have E:¬(1+(AX n (2^m)).length>9223372036854775807):=by rw[Qp];have:=(TZ (AB m) t).2;omega
 obtain⟨c,l⟩:∃c:Nat,Hid (2^m=c):=⟨_,show _=_ from rfl⟩
 rw[l.out]at o q E ⊢;have F:¬(n:Int)<24:=by omega
 go_enter func63,ntmps63
 go_wp2_with(first|(go_at_call 66;refine(o _).mono ?_;rintro e I ⟨rfl,C⟩))
 go_loopg[6,7] m (λg J K wr=>∃j d:Nat,J=.int .i64 ((24+j:Nat):Int)/\K=.int .i64 d/\wr=I/\Hid (j+g=m)/\Hid (d=2^j))
 case atStart=>exact⟨0,1,rfl,rfl,rfl,by show _=_;omega,rfl⟩
 case round =>
  obtain⟨j,d,rfl,rfl,rfl,h,i⟩:=hrel;have D:j<=3:=by have:=h.out;omega
  have L:d<=8:=by rw[i.out];exact(TZ (AB j) D).2
  cases gk with
  |zero =>
   obtain rfl:j=m:=h.out;have G:¬(d:Int)<(c:Int):=by
    have:=i.out;have:=l.out;omega
   have w:Hid (IntKind.i64.wrap ((s:Int)*32)=(s:Int)*32):=Qo _ (by omega);have x:Hid (IntKind.i64.wrap ((s:Int)*32+(24+j:Nat))=u.toNat):=by show _=_;rw[v.out];exact Qo _ (by omega)
   have z:Hid (IntKind.u8.wrap (u.toNat:Int)=u.toNat):=w8 _ (by have:=u.toNat_lt;omega)
   go_wp2_with fail
   refine Cp (S:=λ_=>True) trivial (by kernel_rfl) ?_;intro b;refine Au 0 26 (.int .i64 s) b ?_;refine AD 1 27 (.int .i64 ((s:Int)*32)) rfl (λZ _=>?y1) b ?_
   case y1=>(go_simp<;>exact w.out)
   refine Au 2 28 (.int .i64 ((24+j:Nat):Int)) b ?_;refine AD 3 29 (.int .i64 u.toNat) rfl (λZ _=>?y2) b ?_
   case y2=>(go_simp<;>exact x.out)
   refine AD 4 30 (.int .u8 u.toNat) rfl (λZ _=>?y3) b ?_
   case y3=>(go_simp<;>exact z.out)
   refine Au 7 33 (.int .i64 n) b ?_;refine Au 8 34 (.int .i64 c) b ?_;refine ZM 9 5 6 35 31 32 68 (BU (AX n c)) u ⟨rfl,rfl,rfl⟩ rfl (by kernel_rfl) (λ_ _ _=>⟨by kernel_rfl,by kernel_rfl,by kernel_rfl⟩) (λ_=>⟨by kernel_rfl,by kernel_rfl⟩) q (λ_ _=>trivial) (λV y B=>?_);refine AD 10 36 (BU ([u]++AX n c)) rfl (λZ _=>?y5) b ?_
   case y5=>(unfold BU;go_simp;exact KB [u] _)
   refine Au 11 4 (BU ([u]++AX n c)) b ?_;refine Bw ?_;go_simp;go_wp2;go_ret;exact⟨rfl,rO C B⟩
  |succ g =>
   have G:(d:Int)<(c:Int):=by
    have e:=h.out;have:=Nat.pow_lt_pow_right (a:=2) (by decide) (show j<m by omega);rw[l.out,<-i.out]at this;omega
   go_wp2;go_roundg g
   case measure=>omega
   case rel=>exact⟨j+1,d*2,by go_num,by go_num,rfl,by show _=_;have:=h.out;omega,by show _=_;rw[i.out,LL]⟩
structure Ft(W:World)(A:A4)(V:World):Prop where
 box:V.heap[W.heap.size]?=some (.cells A 62)
 below:A1 W V
theorem Ft.next(h:Ft W A V)(a:A1 V V'):Ft W A V' :=
 ⟨(a.block _ (At h.box)).trans h.box,h.below.trans (a.mono h.below.size)⟩
theorem Ft.drew(h:Ft W A V):Ft W A V.drew:=⟨h.box,h.below.drew⟩
theorem Ok(W:Al)(A:A4):Ft W A (W.alloc (Af A 62)):=⟨Ay _ _,AH⟩
theorem ZQ{xs:List Am}(h:C7 V 62 5 F u n xs):n<=9223372036854775807/\∃a c,u=A8 a n c/\∀(i:Nat) (A:A4),i<n->FH xs i A->∃g,a=Aj ⟨g,0,Ak⟩/\F g/\∀b:Al,b.heap[g]?=V.heap[g]?->∀j,j<5->b.cell? ⟨g,i*5+j,Ak⟩=A[j]?:=by
 obtain⟨s,f⟩:=h;rcases f with⟨rfl,rfl⟩|⟨g,c,r,rfl,hF,p,k,l,t,m⟩
 ·exact⟨by omega,_,_,rfl,λi A d=>absurd d (by omega)⟩
 refine⟨AW k (AW l (by decide)),_,_,rfl,λi A d e=>⟨g,rfl,hF,λb o j q=>?_⟩⟩;rw[Ar (o.trans p)];unfold FH at e;rw[<-Iw,<-Iw,<-e,Iv q,KD,<-m,Iv (by omega),Gk]
theorem rS{es:List (Lit×DataW Unit)}(h:C7 V 9 1 F u es.length (es.map Qi)):∃a e,u=A8 a es.length e/\∀(i:Nat) (l:A2) (d:A3),es[i]?=Aj (.string l,d)->∃g,a=Aj ⟨g,0,Ak⟩/\F g/\∀c:Al,c.heap[g]?=V.heap[g]?->c.cell? ⟨g,i,Ak⟩=Aj (Aa ⟨l.toArray⟩):=by
 obtain⟨q,k⟩:=h;rcases k with⟨rfl,j⟩|⟨g,e,f,rfl,hF,p,r,s,t,m⟩
 ·exact⟨Ak,0,by rw[j],λi l d b=>by have:=B9 b;omega⟩
 refine⟨_,_,rfl,λi l d b=>⟨g,rfl,hF,λc o=>?_⟩⟩;have v:=B9 b;rw[Ar (o.trans p),<-Iw];have n:(f.toList.take (es.length*1))[i]?=Aj (Aa ⟨l.toArray⟩):=by rw[m,GH,b];rfl
 rwa[Iv (by omega)]at n
theorem Qq{α:Type}(f:α->A2)(l:List α)(i:Nat)(d:α)(h:l[i]?=Aj d):(l.take (i+1)).flatMap f=(l.take i).flatMap f++f d:=by
 rw[Hi,h];simp
theorem Qr{α:Type}(f:α->A2)(l:List α)(i:Nat):((l.take i).flatMap f).length<=(l.flatMap f).length:=by
 conv=>rhs;rw[<-Jb i l]
 rw[JW,AC];omega
def FX(l:A2)(W:Al)(e:Ending)(W':Al):Prop:=e=Ag (BU l)/\A1 W W'
def sD(w:A2):Prop:=∃u c,w=u++[c]/\Kd u=true/\BC u c=2
end
end Go.Proofs.YtoegnhgofkhbnaaGreatDoor
