import Derived.Defers
import Derived.Recover
import Derived.RangeFuncBox
import Derived.Maps.OwnSet
import Derived.Test.YtpifimohecagoaaGreatDoorPq02
import Derived.Test.YtpifimohecagoaaGreatDoorPq05
import Derived.Test.YtpifimohecagoaaGreatDoorPq01
set_option maxRecDepth 100000
set_option maxHeartbeats 8000000
namespace Go.Proofs.YtpifimohecagoaaGreatDoor
open Go.Proofs.Tryz
variable{V V' W W':World}{X st:Nat->Nat}{A m n rc:Nat}{ra:Option Addr}{f:Lit->Option Nat}{key:Value}{kl:Lit}
section
open Go.RowKit
theorem qnW(p q:Addr)(w:World):CallsD prog 66 #[.pointer (some p),.pointer (some q)] .returning w λe c d=>e=.returned (.tuple #[])/\c=.returning/\d=w:=by
 refine callsD_of_wpS func66 rfl λa cs b=>?_;simp only[ntmps66,List.size_toArray,List.length_cons,List.length_nil,Nat.reduceAdd,Nat.reduceSub,Array.replicate_succ,Array.replicate_zero,List.push_toArray,List.append_toArray,List.nil_append,List.cons_append];apply wpS_seq;apply wpS_region;simp[wpOpsS,go_sem,recoverD,b,Exit.thenS];refine wpS_of_wp ?_;go_wp2;cases a
 simp_all[bodyPostS,results,results66]
theorem qoi(p q:Nat)(a b x y:Int)(w:World)(c:w.cell? ⟨p,0,none⟩=some (.int .i64 x))(d:w.cell? ⟨q,0,none⟩=some (.int .i64 y))(o:w.frozen? ⟨p,0,none⟩=false)(r:w.frozen? ⟨q,0,none⟩=false)(j:p≠q):CallsD prog 66 #[.pointer (some ⟨p,0,none⟩),.pointer (some ⟨q,0,none⟩)] (.panicking [{v:=qd5 a b,recovered:=false}]) w λe D g=>e=.returned (.tuple #[])/\D=.panicking [{v:=qd5 a b,recovered:=true}] /\
   (g.cell? ⟨p,0,none⟩=some (.int .i64 a)/\g.cell? ⟨q,0,none⟩=some (.int .i64 b)/\∀B,B<=p->B<=q->B<=w.heap.size->Below B w g):=by
 refine callsD_of_wpS func66 rfl λG cs u=>?_;simp only[ntmps66,List.size_toArray,List.length_cons,List.length_nil,Nat.reduceAdd,Nat.reduceSub,Array.replicate_succ,Array.replicate_zero,List.push_toArray,List.append_toArray,List.nil_append,List.cons_append];apply wpS_seq;apply wpS_region;simp[wpOpsS,go_sem,recoverD,u,Exit.thenS,qd5];refine wpS_of_wp ?_;have N:∀w:World,(Instr.typeAssert (.iface 88 (.agg #[.int .i64 a,.int .i64 b])) 20 88 true).run prog w=.ok (.tuple #[.agg #[.int .i64 a,.int .i64 b],.bool true]) w:=λw=>by kernel_rfl
 go_wp2;have i:w.heap.size≠p/\w.heap.size≠q:=⟨by have h:p<w.heap.size:=block_lt_of_cell c;omega,by have h:q<w.heap.size:=block_lt_of_cell d;omega⟩
 have m:(w.alloc (.cells #[.int .i64 a,.int .i64 b] 88)).cell? ⟨p,0,none⟩=some (.int .i64 x):=(World.cell?_alloc_some w _ _ (by rw[c];rfl)).trans c;have n:(w.alloc (.cells #[.int .i64 a,.int .i64 b] 88)).cell? ⟨q,0,none⟩=some (.int .i64 y):=(World.cell?_alloc_some w _ _ (by rw[d];rfl)).trans d;have f:Below w.heap.size w (w.alloc (.cells #[.int .i64 a,.int .i64 b] 88)):=bwA;have H:=(f.frozen (p:=⟨p,0,none⟩) (block_lt_of_cell c)).trans o;have I:=(f.frozen (p:=⟨q,0,none⟩) (block_lt_of_cell d)).trans r;have E:(w.alloc (.cells #[.int .i64 a,.int .i64 b] 88)).cell? ⟨w.heap.size,0,none⟩=some (.int .i64 a):=qaa (qac _ _) 0;have F:(w.alloc (.cells #[.int .i64 a,.int .i64 b] 88)).cell? ⟨w.heap.size,1,none⟩=some (.int .i64 b):=qaa (qac _ _) 1;have l:=qab f;have L:=i.1;have M:=i.2;have t:q≠p:=λe=>j e.symm;generalize w.alloc (.cells #[.int .i64 a,.int .i64 b] 88)=V at *
 go_region
 have z:((V.setCell ⟨p,0,none⟩ (.int .i64 a)).setCell ⟨q,0,none⟩ (.int .i64 b)).drew.cell? ⟨p,0,none⟩=some (.int .i64 a):=by
  show((V.setCell ⟨p,0,none⟩ (.int .i64 a)).setCell ⟨q,0,none⟩ (.int .i64 b)).cell? ⟨p,0,none⟩=_;rw[World.cell?_of_block (w:=V.setCell ⟨p,0,none⟩ (.int .i64 a)) (heap_setCell_other _ _ _ _ (by simpa using j))];exact World.cell?_setCell_same' _ _ _ (by rw[m];rfl)
 have A:((V.setCell ⟨p,0,none⟩ (.int .i64 a)).setCell ⟨q,0,none⟩ (.int .i64 b)).drew.cell? ⟨q,0,none⟩=some (.int .i64 b):=by
  show((V.setCell ⟨p,0,none⟩ (.int .i64 a)).setCell ⟨q,0,none⟩ (.int .i64 b)).cell? ⟨q,0,none⟩=_;refine World.cell?_setCell_same' _ _ _ ?_;rw[World.cell?_of_block (w:=V) (heap_setCell_other _ _ _ _ (by simpa using t)),n];rfl
 have C:∀B,B<=p->B<=q->B<=w.heap.size->Below B w ((V.setCell ⟨p,0,none⟩ (.int .i64 a)).setCell ⟨q,0,none⟩ (.int .i64 b)).drew:=λB h J s =>
  (l.out.mono s).trans ⟨rfl,rfl,rfl,by simp[World.setCell,World.drew],λk K=>(heap_setCell_other _ _ _ _ (by simp;omega)).trans (heap_setCell_other V _ _ _ (by simp;omega))⟩
 generalize((V.setCell ⟨p,0,none⟩ (.int .i64 a)).setCell ⟨q,0,none⟩ (.int .i64 b)).drew=X at *;exact⟨rfl,_,rfl,_,results_none rfl _ _ _,rfl,rfl,z,A,C⟩

def zPl:Nat->Nat:=λ_=>0
structure qiR(W:World)(X:Nat->Nat)(V:World):Prop where
 box:V.heap[W.heap.size]?=some (.cells (plA X) 112)
 ret:V.heap[W.heap.size+1]?=some (.cells (plA zPl) 112)
 below:Below W.heap.size W V
theorem qiR.next(h:qiR W X V)(a:Below V.heap.size V V'):qiR W X V' :=
 ⟨(a.block _ (ltA h.box)).trans h.box,(a.block _ (ltA h.ret)).trans h.ret,h.below.trans (a.mono h.below.size)⟩
theorem qwy(W:World)(X:Nat->Nat):qiR W X ((W.alloc (.cells (plA X) 112)).alloc (.cells (plA zPl) 112)) :=
 ⟨(Below.heap_alloc _ _ _ (by simp)).trans (qac _ _),by have:=qac (W.alloc (.cells (plA X) 112)) (.cells (plA zPl) 112);simpa using this,(bwA).alloc (by simp) _⟩
theorem qg3(X:Nat->Nat):(plA X).all (·.oneCell')=true:=by
 rw[Array.all_eq_true];intro i h;simp[plA,Value.oneCell']
theorem qlf(X Y:Nat->Nat):(plA X).size=(plA Y).size:=by rw[qcf,qcf]
theorem qiR.set(h:qiR W X V)(g:Nat)(a:W.heap.size+1<g)(cs:Array Value):qiR W X (V.setRow g cs) :=
 ⟨sx (by omega) h.box,sx (by omega) h.ret,qah h.below (by omega) _⟩
theorem qiR.cell(h:qiR W X V)(g j:Nat)(a:W.heap.size+1<g)(v:Value):qiR W X (V.setCell ⟨g,j,none⟩ v) :=
 ⟨(Below.heap_setCell _ _ _ _ (by simp;omega)).trans h.box,(Below.heap_setCell _ _ _ _ (by simp;omega)).trans h.ret,h.below.setCell (by simp;omega) _⟩
theorem qiR.drew(h:qiR W X V):qiR W X V.drew:=⟨h.box,h.ret,h.below.drew⟩
theorem qss(st X:Nat->Nat)(k:Nat):(λi=>if i=k then w1 (st k) (X k)else wSt st X k i)=wSt st X (k+1):=by
 funext r;unfold wSt;by_cases h:r=k
 ·subst h;rw[if_pos rfl,if_pos (by omega)]
 rw[if_neg h];by_cases a:r<k
 ·rw[if_pos a,if_pos (by omega)]
 rw[if_neg a,if_neg (by omega)]
theorem qze(y:Nat)(h:y<256):IntKind.u16.wrap ((y:Int)*2)=((y<<<1:Nat):Int):=by
 have:=w16 (y*2) (by omega);rw[Nat.shiftLeft_eq];rw[show((y:Int)*2)=((y*2:Nat):Int) by simp,this]
theorem qte(st X:Nat->Nat):wSt st X 0=X:=by
 funext r;unfold wSt;rw[if_neg (by omega)]
theorem ql3(W:World)(A:Nat)(ra:Option Addr)(rc n:Nat)(st:Nat->Nat)(P:Nat->Nat)(C:∀r,P r<512)(u:∀r,st r<256)(hn:n<=16)(m:A<W.heap.size)(x:W.cell? ⟨A,0,none⟩=some (.slice ra n rc))(cs:∀r,r<16->W.cell? ⟨A,3+r,none⟩=some (.int .u16 (st r))):Calls prog 65 #[.pointer (some ⟨A,0,none⟩),.agg (plA P)] W λe R=>(∃Y,e=.returned (.agg (plA Y))/\(∀r,r<n->∀k,(Y r).testBit k=wdB (st r) (P r) k)/\(∀r,n<=r->Y r=P r)/\∀r,Y r<512)/\Below W.heap.size W R:=by
 have L:Hid (qiR W P ((W.alloc (.cells (plA P) 112)).alloc (.cells #[.int .u16 0,.int .u16 0,.int .u16 0,.int .u16 0,.int .u16 0,.int .u16 0,.int .u16 0,.int .u16 0,.int .u16 0,.int .u16 0,.int .u16 0,.int .u16 0,.int .u16 0,.int .u16 0,.int .u16 0,.int .u16 0] 112))):=qwy W P;have H:=qab (qxM P st n C);go_enter func65,ntmps65;go_wp2
 go_loopg[] (8192-qnn P 16) (λg wr=>∃X,Hid (qiR W X wr)/\Hid (Mid P st n X)/\Hid (qnn X 16+g=8192))
 case atStart=>exact⟨P,L,H,by show _=_;have:=qi8 C 16;omega⟩
 case round =>
  obtain⟨X,l,d,G⟩:=hrel;have T:=(l.out.below.cell (p:=⟨A,_,none⟩) m).trans x
  go_wp2_with(first
   |(refine wpList_load_row rfl 112 (.tmp 3) rfl W.heap.size rfl _ _ _ _ l.out.box underlying112 rfl (qbt X) ?_)
   |(refine wpList_store_row rfl 112 (.tmp 5) (.tmp 7) rfl wr.heap.size (plA X) rfl rfl 112 (plA zPl) (qac wr _) (qbt X) (qlf _ _) (qg3 X) ?_;have v:=qab (ltA l.out.ret);have w:Hid (qiR W X ((wr.alloc (.cells #[.int .u16 0,.int .u16 0,.int .u16 0,.int .u16 0,.int .u16 0,.int .u16 0,.int .u16 0,.int .u16 0,.int .u16 0,.int .u16 0,.int .u16 0,.int .u16 0,.int .u16 0,.int .u16 0,.int .u16 0,.int .u16 0] 112)).setRow wr.heap.size (plA X))):=(l.out.next bwA).set _ v.out _;have O:Hid (((wr.alloc (.cells #[.int .u16 0,.int .u16 0,.int .u16 0,.int .u16 0,.int .u16 0,.int .u16 0,.int .u16 0,.int .u16 0,.int .u16 0,.int .u16 0,.int .u16 0,.int .u16 0,.int .u16 0,.int .u16 0,.int .u16 0,.int .u16 0] 112)).setRow wr.heap.size (plA X)).heap[wr.heap.size]?=some (.cells (plA (wSt st X 0)) 112)):=(by rw[qte];exact setRow_heap _ _ _ _ _ _ (qac wr _));generalize(wr.alloc (.cells #[.int .u16 0,.int .u16 0,.int .u16 0,.int .u16 0,.int .u16 0,.int .u16 0,.int .u16 0,.int .u16 0,.int .u16 0,.int .u16 0,.int .u16 0,.int .u16 0,.int .u16 0,.int .u16 0,.int .u16 0,.int .u16 0] 112)).setRow wr.heap.size (plA X)=V1 at *;generalize wr.heap.size=M at *;have T:=(w.out.below.cell (p:=⟨A,_,none⟩) m).trans x))
  go_loopg[13] n (λg ai V=>∃k:Nat,ai=.int .i64 k/\Hid (k+g=n)/\Hid (qiR W X V)/\Hid (V.heap[M]?=some (.cells (plA (wSt st X k)) 112)))
  case atStart=>exact⟨0,rfl,by show _=_;omega,w,O⟩
  case round =>
   obtain⟨k,rfl,o,b,i⟩:=hrel
   cases gk with
   |zero =>
    have af:¬(k:Int)<(n:Int):=by have:=o.out;omega
    have ae:k=n:=by have:=o.out;omega
    subst ae;have z:∀r,X r<65536:=λr=>by have:=d.out.lt r;omega
    have ab:∀r,wSt st X k r<65536:=λr=>by have:=(d.out.step u).lt r;omega
    have E:=qyh (wSt st X k) X ab z wr
    cases j:qxp (wSt st X k) X with
    |true =>
     rw[j]at E;have he:∀r,r<k->w1 (st r) (X r)=X r:=λr f=>by
      have h:=qlh j r (by omega);unfold wSt at h;rwa[if_pos f]at h
     have F:=qab (d.out.done he)
     go_wp2_with(first
      |(refine wpList_load_row rfl 112 (.tmp 5) rfl M rfl _ _ _ _ i.out underlying112 rfl (qbt _) ?_)
      |(refine wpList_load_row rfl 112 (.tmp 3) rfl W.heap.size rfl _ _ _ _ b.out.box underlying112 rfl (qbt X) ?_)
      |(refine wpList_store_row rfl 112 (.tmp 4) (.tmp 36) rfl (W.heap.size+1) (plA X) rfl rfl 112 (plA zPl) b.out.ret (qbt X) (qlf _ _) (qg3 X) ?_))
     refine bodyPost_ret (results_cell_row results65 _ _ (W.heap.size+1) 112 (plA X) (0,0) _ rfl (setRow_heap _ _ _ _ _ _ b.out.ret) underlying112 rfl (qbt X)) rfl ⟨⟨X,rfl,F.out,d.out.off,d.out.lt⟩,qah b.out.below (by omega) _⟩
    |false =>
     rw[j]at E;have I:Hid (qnn X 16<qnn (wSt st X k) 16):=by
      show _<_;have D:∀r,X r<=wSt st X k r:=λr=>by
       unfold wSt;by_cases f:r<k
       ·rw[if_pos f];exact qzS _ _
       rw[if_neg f];exact Nat.le_refl _
      have ad:∃r,r<16/\X r<wSt st X k r:=by
       refine Classical.byContradiction λhh=>?_;have:qxp (wSt st X k) X=true:=qqE λr f=>by
        have y:=D r;have B:¬X r<wSt st X k r:=λh=>hh ⟨r,f,h⟩;omega
       rw[this]at j;cases j
      obtain⟨r,y,B⟩:=ad;exact qrH D 16 r y B
     have q:=qab (d.out.step u)
     go_wp2_with(first
      |(refine wpList_load_row rfl 112 (.tmp 5) rfl M rfl _ _ _ _ i.out underlying112 rfl (qbt _) ?_)
      |(refine wpList_load_row rfl 112 (.tmp 3) rfl W.heap.size rfl _ _ _ _ b.out.box underlying112 rfl (qbt X) ?_)
      |(refine wpList_store_row rfl 112 (.tmp 3) (.tmp 37) rfl W.heap.size (plA (wSt st X k)) rfl rfl 112 (plA X) b.out.box (qbt _) (qlf _ _) (qg3 _) ?_))
     have N:Hid (qiR W (wSt st X k) (wr.setRow W.heap.size (plA (wSt st X k)))):=⟨setRow_heap _ _ _ _ _ _ b.out.box,sx (by omega) b.out.ret,qah b.out.below (Nat.le_refl _) _⟩
     go_roundg (8192-qnn (wSt st X k) 16)
     case measure=>have:=G.out;have:=I.out;have:=qi8 q.out.lt 16;omega
     case rel=>exact⟨wSt st X k,N,q,by show _=_;have:=qi8 q.out.lt 16;omega⟩
   |succ g =>
    have am:k<n:=by have:=o.out;omega
    have af:(k:Int)<(n:Int):=by omega
    have al:(k:Int)<16:=by omega
    have aa:=d.out.lt k;have ah:=u k;have ha:=qsJ (X k) (st k) (by omega) (by omega);have ac:X k&&&st k<256:=Nat.and_lt_two_pow (n:=8) _ (by omega);have an:=qze (X k&&&st k) ac;have ao:=qyC ah aa;have ag:bits .or .u16 (X k:Int) (((X k&&&st k)<<<1:Nat):Int)=((w1 (st k) (X k):Nat):Int):=qzU _ _ (by omega) (by rw[Nat.shiftLeft_eq];omega);have aj:wr.cell? ⟨M,k,none⟩=some (.int .u16 (X k)):=by
     have h:=qaa i.out k;rw[qdl _ k (by omega)]at h;rw[h];unfold wSt;rw[if_neg (by omega)]
    have ak:=frozen_of_row wr M k _ _ i.out;have J:Hid (wr.cell? ⟨W.heap.size,k,none⟩=some (.int .u16 (X k))/\wr.cell? ⟨A,3+k,none⟩=some (.int .u16 (st k))):=⟨by have h:=qaa b.out.box k;rwa[qdl _ k (by omega)]at h,(b.out.below.cell (p:=⟨A,_,none⟩) m).trans (cs k (by omega))⟩
    have s:Hid (qiR W X (wr.drew.setCell ⟨M,k,none⟩ (.int .u16 ((w1 (st k) (X k):Nat):Int)))):=b.out.drew.cell _ _ v.out _;have Q:Hid ((wr.drew.setCell ⟨M,k,none⟩ (.int .u16 ((w1 (st k) (X k):Nat):Int))).heap[M]?=some (.cells (plA (wSt st X (k+1))) 112)):=by
     have h:=heap_setCell_same wr.drew M k _ _ (.int .u16 ((w1 (st k) (X k):Nat):Int)) i.out;rw[qjp,qss]at h;exact h
    go_wp2;have a:(λZ:World=>Z.cell? ⟨W.heap.size,k,none⟩=some (.int .u16 (X k))/\Z.cell? ⟨A,3+k,none⟩=some (.int .u16 (st k))) {wr with drawn:=wr.drawn+1}:=J.out;have U:(λZ:World=>Z.cell? ⟨W.heap.size,k,none⟩=some (.int .u16 (X k))/\Z.cell? ⟨A,3+k,none⟩=some (.int .u16 (st k))) (wr.drew.setCell ⟨M,k,none⟩ (.int .u16 ((w1 (st k) (X k):Nat):Int))):=⟨by have h:=qaa s.out.box k;rwa[qdl _ k (by omega)]at h,(s.out.below.cell (p:=⟨A,_,none⟩) m).trans (cs k (by omega))⟩
    refine wp_region_held (S:=λZ=>Z.cell? ⟨W.heap.size,k,none⟩=some (.int .u16 (X k))/\Z.cell? ⟨A,3+k,none⟩=some (.int .u16 (st k))) (by kernel_rfl) ?_;refine tkp 0 16 (.int .i64 k) a ?_;refine tkq 1 17 (.pointer (some ⟨M,k,none⟩)) rfl (λZ c=>?y1) a ?_
    case y1=>go_simp
    refine tkp 3 19 (.int .i64 k) a ?_;refine tkq 4 20 (.pointer (some ⟨W.heap.size,k,none⟩)) rfl (λZ c=>?y4) a ?_
    case y4=>go_simp
    refine tkq 5 21 (.int .u16 (X k)) rfl (λZ c=>?y5) a ?_
    case y5=>(have z1:=c.1;go_simp)
    refine tkp 6 22 (.pointer (some ⟨A,0,none⟩)) a ?_;refine tkp 7 23 (.int .i64 k) a ?_;refine tkp 8 24 (.pointer (some ⟨A,0,none⟩)) a ?_;refine tkp 9 25 (.pointer (some ⟨A,3,none⟩)) a ?_;refine tkq 10 26 (.pointer (some ⟨A,3+k,none⟩)) rfl (λZ c=>?y10) a ?_
    case y10=>go_simp
    refine tkq 11 27 (.int .u16 (st k)) rfl (λZ c=>?y11) a ?_
    case y11=>(have z2:=c.2;go_simp)
    refine tkq 12 28 (.int .u16 ((X k&&&st k:Nat):Int)) rfl (λZ c=>?y12) a ?_
    case y12=>go_simp
    refine tkq 13 29 (.int .u16 (((X k&&&st k)<<<1:Nat):Int)) rfl (λZ c=>?y13) a ?_
    case y13=>go_simp
    refine rdq 2 (λK t=>?_);go_simp;refine t.out _ _ a (λ_=>?_);refine tkq 14 30 (.int .u16 ((w1 (st k) (X k):Nat):Int)) rfl (λZ c=>?y14) a ?_
    case y14=>(go_simp;exact ag)
    refine tkq 15 31 (.pointer (some ⟨M,k,none⟩)) rfl (λZ c=>?y15) a ?_
    case y15=>go_simp
    refine rdq 16 (λK t=>?_);go_simp;refine t.out _ _ U (λ_=>?_);refine wdn ?_;go_simp;go_wp2;go_roundg g
    case measure=>omega
    case rel=>exact⟨k+1,by go_num,by show _=_;have:=o.out;omega,s,Q⟩

structure AuR(W:World)(A:Nat)(ra:Option Addr)(rc n:Nat)(st:Nat->Nat):Prop where
 lt:A<W.heap.size
 rules:W.cell? ⟨A,0,none⟩=some (.slice ra n rc)
 stays:∀r,r<16->W.cell? ⟨A,3+r,none⟩=some (.int .u16 (st r))
theorem AuR.below(h:AuR W A ra rc n st)(a:Below W.heap.size W W'):AuR W' A ra rc n st :=
 ⟨Nat.lt_of_lt_of_le h.lt a.size,(a.cell (p:=⟨A,_,none⟩) h.lt).trans h.rules,λr b=>(a.cell (p:=⟨A,_,none⟩) h.lt).trans (h.stays r b)⟩
def WdY(n:Nat)(st P Y:Nat->Nat):Prop:=(∀r,r<n->∀k,(Y r).testBit k=wdB (st r) (P r) k)/\(∀r,n<=r->Y r=P r)/\∀r,Y r<512
def qrf(n:Nat)(st P:Nat->Nat)(e:Ending):Prop:=∃Y,e=.returned (.agg (plA Y))/\WdY n st P Y
theorem qyg(h:AuR W A ra rc n st)(P:Nat->Nat)(b:∀r,P r<512)(d:∀r,st r<256)(c:n<=16):Calls prog 65 #[.pointer (some ⟨A,0,none⟩),.agg (plA P)] W λe a=>qrf n st P e/\Below W.heap.size W a :=
 ql3 W A ra rc n st P b d c h.lt h.rules h.stays
def one(k:Nat):Nat->Nat:=λr=>if r<k then 1 else 0
theorem qtJ:one 0=zPl:=by funext r;rfl
theorem qto(k:Nat):(λi=>if i=k then(one k k|||2^0:Nat)else one k i)=one (k+1):=by
 funext r;unfold one;by_cases h:r=k
 ·subst h;rw[if_pos rfl,if_neg (by omega),if_pos (by omega)];rfl
 rw[if_neg h];by_cases a:r<k
 ·rw[if_pos a,if_pos (by omega)]
 rw[if_neg a,if_neg (by omega)]
theorem qup(k r:Nat):one k r<512:=by unfold one;split<;>omega
structure qw9(W:World)(X:Nat->Nat)(V:World):Prop where
 ret:V.heap[W.heap.size]?=some (.cells (plA zPl) 112)
 p:V.heap[W.heap.size+1]?=some (.cells (plA X) 112)
 below:Below W.heap.size W V
theorem qw9.next(h:qw9 W X V)(a:Below V.heap.size V V'):qw9 W X V' :=
 ⟨(a.block _ (ltA h.ret)).trans h.ret,(a.block _ (ltA h.p)).trans h.p,h.below.trans (a.mono h.below.size)⟩
theorem qw2(W:World):qw9 W zPl ((W.alloc (.cells (plA zPl) 112)).alloc (.cells (plA zPl) 112)) :=
 ⟨(Below.heap_alloc _ _ _ (by simp)).trans (qac _ _),by have:=qac (W.alloc (.cells (plA zPl) 112)) (.cells (plA zPl) 112);simpa using this,(bwA).alloc (by simp) _⟩
theorem qq2(W:World)(A:Nat)(B:Option Addr)(C n:Nat)(st:Nat->Nat)(y:∀r,st r<256)(x:n<=16)(h:AuR W A B C n st):Calls prog 46 #[.pointer (some ⟨A,0,none⟩)] W λe W'=>qrf n st (one n) e/\Below W.heap.size W W':=by
 have d:=qab h;have i:Hid (qw9 W zPl ((W.alloc (.cells #[.int .u16 0,.int .u16 0,.int .u16 0,.int .u16 0,.int .u16 0,.int .u16 0,.int .u16 0,.int .u16 0,.int .u16 0,.int .u16 0,.int .u16 0,.int .u16 0,.int .u16 0,.int .u16 0,.int .u16 0,.int .u16 0] 112)).alloc (.cells #[.int .u16 0,.int .u16 0,.int .u16 0,.int .u16 0,.int .u16 0,.int .u16 0,.int .u16 0,.int .u16 0,.int .u16 0,.int .u16 0,.int .u16 0,.int .u16 0,.int .u16 0,.int .u16 0,.int .u16 0,.int .u16 0] 112))):=qw2 W;have E:=h.rules;have G:=h.lt;go_enter func46,ntmps46;go_wp2
 go_loopg[10] n (λg z V=>∃k:Nat,z=.int .i64 k/\Hid (k+g=n)/\Hid (qw9 W (one k) V))
 case atStart=>exact⟨0,rfl,by show _=_;omega,by rw[qtJ];exact i⟩
 case round =>
  obtain⟨k,rfl,b,a⟩:=hrel
  cases gk with
  |zero =>
   have w:¬(k:Int)<(n:Int):=by have:=b.out;omega
   have v:k=n:=by have:=b.out;omega
   subst v;have m:=λV s=>qyg (d.out.below (W':=V) s) (one k) (qup k) y x
   go_wp2_with(first
    |(go_at_call 65;refine(m _ a.out.below).mono ?_;rintro e D ⟨⟨Y,rfl,q⟩,o⟩;have c:=qab (a.out.next o);have j:=qab q)
    |(refine wpList_load_row rfl 112 (.tmp 3) rfl (W.heap.size+1) rfl _ _ _ _ a.out.p underlying112 rfl (qbt _) ?_)
    |(refine wpList_store_row rfl 112 (.tmp 2) (.tmp 18) rfl W.heap.size (plA Y) rfl rfl 112 (plA zPl) c.out.ret (qbt Y) (qlf _ _) (qg3 Y) ?_))
   refine bodyPost_ret (results_cell_row results46 _ _ W.heap.size 112 (plA Y) (0,0) _ rfl (setRow_heap _ _ _ _ _ _ c.out.ret) underlying112 rfl (qbt Y)) rfl ⟨⟨Y,rfl,j.out⟩,qah c.out.below (Nat.le_refl _) _⟩
  |succ g =>
   have F:k<n:=by have:=b.out;omega
   have w:(k:Int)<(n:Int):=by omega
   have t:wr.cell? ⟨W.heap.size+1,0+k,none⟩=some (.int .u16 (one k k)):=by
    have h:=qaa a.out.p (0+k);rw[qdl _ (0+k) (by omega)]at h;rw[h,Nat.zero_add]
   have u:=frozen_of_row wr (W.heap.size+1) (0+k) _ _ a.out.p;have l:=qdt wr (W.heap.size+1) 0 (one k k) k 0 (by omega) (by omega) (by have:=qup k k;omega) t u;have f:Hid (qw9 W (one (k+1)) (wr.setCell ⟨W.heap.size+1,k,none⟩ (.int .u16 ((one k k|||1:Nat):Int))).drew):=by
    refine⟨(Below.heap_setCell wr _ _ _ (by simp)).trans a.out.ret,?_,(a.out.below.setCell (by simp) _).drew⟩;have h:=heap_setCell_same wr (W.heap.size+1) k _ _ (.int .u16 ((one k k|||1:Nat):Int)) a.out.p;rw[qjp,show(1:Nat)=2^0 from rfl,qto]at h;exact h
   go_wp2_with(first
    |(go_at_call 63;refine l.mono ?_;rintro e D ⟨rfl,rfl⟩))
   go_roundg g
   case measure=>omega
   case rel=>exact⟨k+1,by go_num,by show _=_;have:=b.out;omega,f⟩

structure AuT(W:World)(A tb L tc:Nat)(tk:Nat->Nat->Nat):Prop where
 lt:A<W.heap.size
 tlt:tb<W.heap.size
 takes:W.cell? ⟨A,19,none⟩=some (.slice (some ⟨tb,0,none⟩) L tc)
 at_:∀x r,x<L->r<16->W.cell? ⟨tb,x*16+r,none⟩=some (.int .u16 (tk x r))
theorem AuT.below{tb L tc:Nat}{tk:Nat->Nat->Nat}(h:AuT W A tb L tc tk)(a:Below W.heap.size W W'):AuT W' A tb L tc tk :=
 ⟨Nat.lt_of_lt_of_le h.lt a.size,Nat.lt_of_lt_of_le h.tlt a.size,(a.cell (p:=⟨A,_,none⟩) h.lt).trans h.takes,λx r c b=>(a.cell (p:=⟨tb,_,none⟩) h.tlt).trans (h.at_ x r c b)⟩
def gon(st tk x:Nat):Nat:=(x&&&st)|||((x&&&tk)<<<1)
def qiD(st tk P:Nat->Nat)(k:Nat):Nat->Nat:=λr=>if r<k then gon (st r) (tk r) (P r)else 0
theorem qys{st tk x:Nat}(d:st<256)(e:tk<256):gon st tk x<512:=by
 have b:x&&&st<2^8:=Nat.and_lt_two_pow _ (by omega);have c:x&&&tk<2^8:=Nat.and_lt_two_pow _ (by omega);have a:(x&&&tk)<<<1<2^9:=by rw[Nat.shiftLeft_eq];omega
 exact Nat.or_lt_two_pow (n:=9) (by omega) a
theorem qr0(st tk P:Nat->Nat):qiD st tk P 0=zPl:=by funext r;unfold qiD zPl;rw[if_neg (by omega)]
theorem qq1(st tk P:Nat->Nat)(k:Nat):(λi=>if i=k then gon (st k) (tk k) (P k)else qiD st tk P k i)=qiD st tk P (k+1):=by
 funext r;unfold qiD;by_cases h:r=k
 ·subst h;rw[if_pos rfl,if_pos (by omega)]
 rw[if_neg h];by_cases a:r<k
 ·rw[if_pos a,if_pos (by omega)]
 rw[if_neg a,if_neg (by omega)]
theorem qv9{tk:Nat->Nat}(a:∀r,st r<256)(b:∀r,tk r<256)(P:Nat->Nat)(k r:Nat):qiD st tk P k r<512:=by
 unfold qiD;split
 ·exact qys (a r) (b r)
 omega
structure qtR(W:World)(P X:Nat->Nat)(V:World):Prop where
 box:V.heap[W.heap.size]?=some (.cells (plA P) 112)
 ret:V.heap[W.heap.size+1]?=some (.cells (plA zPl) 112)
 nx:V.heap[W.heap.size+2]?=some (.cells (plA X) 112)
 below:Below W.heap.size W V
theorem qtR.next{P:Nat->Nat}(h:qtR W P X V)(a:Below V.heap.size V V'):qtR W P X V' :=
 ⟨(a.block _ (ltA h.box)).trans h.box,(a.block _ (ltA h.ret)).trans h.ret,(a.block _ (ltA h.nx)).trans h.nx,h.below.trans (a.mono h.below.size)⟩
theorem qvs(W:World)(P:Nat->Nat):qtR W P zPl (((W.alloc (.cells (plA P) 112)).alloc (.cells (plA zPl) 112)).alloc (.cells (plA zPl) 112)) :=
 ⟨((Below.heap_alloc _ _ _ (by simp;omega)).trans (Below.heap_alloc _ _ _ (by simp))).trans (qac _ _),(Below.heap_alloc _ _ _ (by simp)).trans (by have:=qac (W.alloc (.cells (plA P) 112)) (.cells (plA zPl) 112);simpa using this),by have:=qac ((W.alloc (.cells (plA P) 112)).alloc (.cells (plA zPl) 112)) (.cells (plA zPl) 112);simpa using this,((bwA).alloc (by simp) _).alloc (by simp;omega) _⟩
theorem qqH(W:World)(A:Nat)(R:Option Addr)(T n:Nat)(st:Nat->Nat)(c L i:Nat)(tk:Nat->Nat->Nat)(o:∀r,st r<256)(u:∀x r,tk x r<256)(N:n<=16)(h:AuR W A R T n st)(B:AuT W A c L i tk)(P:Nat->Nat)(E:∀r,P r<512)(x:Nat)(Q:x<L):Calls prog 138 #[.pointer (some ⟨A,0,none⟩),.agg (plA P),.int .i64 x] W λe W'=>qrf n st (qiD st (tk x) P n) e/\Below W.heap.size W W':=by
 have p:=qab h;have t:=qab B;have l:Hid (qtR W P zPl (((W.alloc (.cells (plA P) 112)).alloc (.cells #[.int .u16 0,.int .u16 0,.int .u16 0,.int .u16 0,.int .u16 0,.int .u16 0,.int .u16 0,.int .u16 0,.int .u16 0,.int .u16 0,.int .u16 0,.int .u16 0,.int .u16 0,.int .u16 0,.int .u16 0,.int .u16 0] 112)).alloc (.cells #[.int .u16 0,.int .u16 0,.int .u16 0,.int .u16 0,.int .u16 0,.int .u16 0,.int .u16 0,.int .u16 0,.int .u16 0,.int .u16 0,.int .u16 0,.int .u16 0,.int .u16 0,.int .u16 0,.int .u16 0,.int .u16 0] 112))):=qvs W P;have X:=h.rules;have ah:=h.lt;have ai:A<W.heap.size+1:=by omega
 have aj:A<W.heap.size+1+1:=by omega
 go_enter func138,ntmps138;go_wp2
 go_loopg[14] n (λg z V=>∃k:Nat,z=.int .i64 k/\Hid (k+g=n)/\Hid (qtR W P (qiD st (tk x) P k) V))
 case atStart=>exact⟨0,rfl,by show _=_;omega,by rw[qr0];exact l⟩
 case round =>
  obtain⟨k,rfl,j,d⟩:=hrel
  cases gk with
  |zero =>
   have M:¬(k:Int)<(n:Int):=by have:=j.out;omega
   have J:k=n:=by have:=j.out;omega
   subst J;have y:=λV f=>qyg (p.out.below (W':=V) f) (qiD st (tk x) P k) (qv9 o (u x) P k) o N
   go_wp2_with(first
    |(go_at_call 65;refine(y _ d.out.below).mono ?_;rintro e w2 ⟨⟨Y,rfl,H⟩,C⟩;have m:=qab (d.out.next C);have w:=qab H)
    |(refine wpList_load_row rfl 112 (.tmp 7) rfl (W.heap.size+1+1) rfl _ _ _ _ d.out.nx underlying112 rfl (qbt _) ?_)
    |(refine wpList_store_row rfl 112 (.tmp 6) (.tmp 47) rfl (W.heap.size+1) (plA Y) rfl rfl 112 (plA zPl) m.out.ret (qbt Y) (qlf _ _) (qg3 Y) ?_))
   refine bodyPost_ret (results_cell_row results138 _ _ (W.heap.size+1) 112 (plA Y) (0,0) _ rfl (setRow_heap _ _ _ _ _ _ m.out.ret) underlying112 rfl (qbt Y)) rfl ⟨⟨Y,rfl,w.out⟩,qah m.out.below (by omega) _⟩
  |succ g =>
   have ag:k<n:=by have:=j.out;omega
   have M:(k:Int)<(n:Int):=by omega
   have af:(k:Int)<16:=by omega
   have hxL:(x:Int)<(L:Int):=by omega
   have aa:=E k;have al:=o k;have am:=u x k;have ha:=qsJ (P k) (st k) (by omega) (by omega);have ac:=qsJ (P k) (tk x k) (by omega) (by omega);have ab:P k&&&st k<256:=Nat.and_lt_two_pow (n:=8) _ (by omega);have I:P k&&&tk x k<256:=Nat.and_lt_two_pow (n:=8) _ (by omega);have ak:=qze (P k&&&tk x k) I;have O:bits .or .u16 ((P k&&&st k:Nat):Int) (((P k&&&tk x k)<<<1:Nat):Int)=((gon (st k) (tk x k) (P k):Nat):Int):=qzU _ _ (by omega) (by rw[Nat.shiftLeft_eq];omega);have ad:wr.cell? ⟨W.heap.size+1+1,k,none⟩=some (.int .u16 (qiD st (tk x) P k k)):=by
    have h:=qaa d.out.nx k;rwa[qdl _ k (by omega)]at h
   have ae:=frozen_of_row wr (W.heap.size+1+1) k _ _ d.out.nx;have s:Hid (qtR W P (qiD st (tk x) P (k+1)) (wr.drew.setCell ⟨W.heap.size+1+1,k,none⟩ (.int .u16 ((gon (st k) (tk x k) (P k):Nat):Int)))):=by
    refine⟨(Below.heap_setCell wr.drew _ _ _ (by simp;omega)).trans d.out.box,(Below.heap_setCell wr.drew _ _ _ (by simp)).trans d.out.ret,?_,d.out.below.drew.setCell (by simp;omega) _⟩;have h:=heap_setCell_same wr.drew (W.heap.size+1+1) k _ _ (.int .u16 ((gon (st k) (tk x k) (P k):Nat):Int)) d.out.nx;rw[qjp,qq1]at h;exact h
   have q:∀V,qtR W P (qiD st (tk x) P k) V\/qtR W P (qiD st (tk x) P (k+1)) V->V.cell? ⟨W.heap.size,k,none⟩=some (.int .u16 (P k))/\V.cell? ⟨A,3+k,none⟩=some (.int .u16 (st k))/\V.cell? ⟨A,19,none⟩=some (.slice (some ⟨c,0,none⟩) L i)/\V.cell? ⟨c,x*16+k,none⟩=some (.int .u16 (tk x k)):=by
    intro V G;have f:V.heap[W.heap.size]?=some (.cells (plA P) 112)/\Below W.heap.size W V:=by rcases G with h|h<;>exact⟨h.box,h.below⟩
    exact⟨by have h:=qaa f.1 k;rwa[qdl _ k (by omega)]at h,(p.out.below f.2).stays k (by omega),(t.out.below f.2).takes,(t.out.below f.2).at_ x k Q (by omega)⟩
   have l:Hid (_):=q wr (.inl d.out);have v:Hid (_):=q _ (.inr s.out);go_wp2;have a:(λZ:World=>Z.cell? ⟨W.heap.size,k,none⟩=some (.int .u16 (P k))/\Z.cell? ⟨A,3+k,none⟩=some (.int .u16 (st k))/\Z.cell? ⟨A,19,none⟩=some (.slice (some ⟨c,0,none⟩) L i)/\Z.cell? ⟨c,x*16+k,none⟩=some (.int .u16 (tk x k))) {wr with drawn:=wr.drawn+1}:=l.out;have F:(λZ:World=>Z.cell? ⟨W.heap.size,k,none⟩=some (.int .u16 (P k))/\Z.cell? ⟨A,3+k,none⟩=some (.int .u16 (st k))/\Z.cell? ⟨A,19,none⟩=some (.slice (some ⟨c,0,none⟩) L i)/\Z.cell? ⟨c,x*16+k,none⟩=some (.int .u16 (tk x k))) (wr.drew.setCell ⟨W.heap.size+1+1,k,none⟩ (.int .u16 ((gon (st k) (tk x k) (P k):Nat):Int))):=v.out;refine wp_region_held (S:=λZ=>Z.cell? ⟨W.heap.size,k,none⟩=some (.int .u16 (P k))/\Z.cell? ⟨A,3+k,none⟩=some (.int .u16 (st k))/\Z.cell? ⟨A,19,none⟩=some (.slice (some ⟨c,0,none⟩) L i)/\Z.cell? ⟨c,x*16+k,none⟩=some (.int .u16 (tk x k))) (by kernel_rfl) ?_;refine tkp 0 17 (.int .i64 k) a ?_;refine tkp 1 18 (.int .i64 k) a ?_;refine tkq 2 19 (.pointer (some ⟨W.heap.size,k,none⟩)) rfl (λZ b=>?y2) a ?_
   case y2=>go_simp
   refine tkq 3 20 (.int .u16 (P k)) rfl (λZ b=>?y3) a ?_
   case y3=>(have U:=b.1;go_simp)
   refine tkp 4 21 (.pointer (some ⟨A,0,none⟩)) a ?_;refine tkp 5 22 (.int .i64 k) a ?_;refine tkp 6 23 (.pointer (some ⟨A,0,none⟩)) a ?_;refine tkp 7 24 (.pointer (some ⟨A,3,none⟩)) a ?_;refine tkq 8 25 (.pointer (some ⟨A,3+k,none⟩)) rfl (λZ b=>?y8) a ?_
   case y8=>go_simp
   refine tkq 9 26 (.int .u16 (st k)) rfl (λZ b=>?y9) a ?_
   case y9=>(have z2:=b.2.1;go_simp)
   refine tkq 10 27 (.int .u16 ((P k&&&st k:Nat):Int)) rfl (λZ b=>?y10) a ?_
   case y10=>go_simp
   refine tkp 11 28 (.int .i64 k) a ?_;refine tkq 12 29 (.pointer (some ⟨W.heap.size,k,none⟩)) rfl (λZ b=>?y12) a ?_
   case y12=>go_simp
   refine tkq 13 30 (.int .u16 (P k)) rfl (λZ b=>?y13) a ?_
   case y13=>(have U:=b.1;go_simp)
   refine tkp 14 31 (.pointer (some ⟨A,0,none⟩)) a ?_;refine tkp 15 32 (.pointer (some ⟨A,0,none⟩)) a ?_;refine tkp 16 33 (.pointer (some ⟨A,19,none⟩)) a ?_;refine tkq 17 34 (.slice (some ⟨c,0,none⟩) L i) rfl (λZ b=>?y17) a ?_
   case y17=>(have z3:=b.2.2.1;go_simp)
   refine tkp 18 35 (.int .i64 x) a ?_;refine tkp 19 36 (.int .i64 k) a ?_;refine tkq 20 37 (.pointer (some ⟨c,x*16,none⟩)) rfl (λZ b=>?y20) a ?_
   case y20=>go_simp
   refine tkq 21 38 (.pointer (some ⟨c,x*16+k,none⟩)) rfl (λZ b=>?y21) a ?_
   case y21=>go_simp
   refine tkq 22 39 (.int .u16 (tk x k)) rfl (λZ b=>?y22) a ?_
   case y22=>(have z4:=b.2.2.2;go_simp)
   refine tkq 23 40 (.int .u16 ((P k&&&tk x k:Nat):Int)) rfl (λZ b=>?y23) a ?_
   case y23=>go_simp
   refine tkq 24 41 (.int .u16 (((P k&&&tk x k)<<<1:Nat):Int)) rfl (λZ b=>?y24) a ?_
   case y24=>go_simp
   refine tkq 25 42 (.int .u16 ((gon (st k) (tk x k) (P k):Nat):Int)) rfl (λZ b=>?y25) a ?_
   case y25=>(go_simp;exact O)
   refine tkq 26 43 (.pointer (some ⟨W.heap.size+1+1,k,none⟩)) rfl (λZ b=>?y26) a ?_
   case y26=>go_simp
   refine rdq 27 (λK D=>?_);go_simp;refine D.out _ _ F (λ_=>?_);refine wdn ?_;go_simp;go_wp2;go_roundg g
   case measure=>omega
   case rel=>exact⟨k+1,by go_num,by show _=_;have:=j.out;omega,s⟩

def qdm(W:World)(kt:TypeId)(m n:Nat)(f:Lit->Option Nat):Prop :=
 ∃D:DataW Unit,W.ownsMap prog kt (plainElem prog 3) m n D/\∀l,Maps.has D l=(f l).isSome/\∀v:Nat,f l=some v->D.atKey l (.lit (.int .i64 0))=.lit (.int .i64 v)
theorem qdm.kept{kt:TypeId}{row:Option Nat}(h:qdm W kt m n f)(c:W.grownBy W' row)(d:some m≠row):qdm W' kt m n f:=by
 obtain⟨D,a,b⟩:=h;exact⟨D,a.kept c d,b⟩
theorem qdm.lt{kt:TypeId}(h:qdm W kt m n f):m<W.heap.size:=by
 obtain⟨D,a,_⟩:=h;exact a.lt
theorem qm6(W:World)(a:TypeId):qdm (W.alloc (.map #[] 0)) a W.heap.size 0 (λ_=>none) :=
 ⟨_,World.ownsMap_made W prog a _,λl=>⟨by simp[Maps.has],λv h=>by cases h⟩⟩
theorem q0i(W:World):(zeroValue 3).run prog W=.ok (.int .i64 0) W:=by kernel_rfl
theorem quv{kt:TypeId}{D:DataW Unit}(_h1:W.ownsMap prog kt (plainElem prog 3) m n D)(b:∀l,Maps.has D l=(f l).isSome/\∀v:Nat,f l=some v->D.atKey l (.lit (.int .i64 0))=.lit (.int .i64 v))(a:Lit):D.atKey a (.lit (.int .i64 0))=.lit (.int .i64 (((f a).getD 0:Nat):Int)):=by
 cases c:f a with
 |some v=>exact(b a).2 v c
 |none =>
  have:=(b a).1;rw[c]at this;exact Maps.atKey_of_not_has this _
theorem qgN{kt t:TypeId}(h:qdm W kt m n f)(K:Maps.Keyed prog kt)(j:prog.underlying t=some (.map kt 3))(g:keyOf prog kt key=some kl):(Instr.lookup t (.map (some m)) key false).run prog W=.ok (.int .i64 (((f kl).getD 0:Nat):Int)) W:=by
 obtain⟨D,a,d⟩:=h;obtain⟨c,i,b,_⟩:=a.lookup_int K j underlying3 (q0i W) g;rw[quv a d kl]at b;have e:(((f kl).getD 0:Nat):Int)=c:=by simpa using b
 rw[i,e]
theorem qdI{kt t:TypeId}(h:qdm W kt m n f)(K:Maps.Keyed prog kt)(k:prog.underlying t=some (.map kt 3))(i:keyOf prog kt key=some kl):(Instr.lookup t (.map (some m)) key true).run prog W=.ok (.tuple #[.int .i64 (((f kl).getD 0:Nat):Int),.bool (f kl).isSome]) W:=by
 obtain⟨D,a,b⟩:=h;obtain⟨v,l,j,d⟩:=a.look_ok K k (q0i W) (plainElem_int underlying3 (by decide)) i;rw[quv a b kl]at d;obtain⟨c,rfl,g,_⟩:=plainElem_int_inv underlying3 d;have e:(((f kl).getD 0:Nat):Int)=c:=by
  have:=congrArg Prod.fst g;simpa using this
 rw[j,(b kl).1,e]
theorem qmN{kt t:TypeId}(h:qdm W kt m n f)(K:Maps.Keyed prog kt)(r:prog.underlying t=some (.map kt 3))(x:n<1000000000)(i:keyOf prog kt key=some kl)(v:Nat)(y:v<1000000000):∃a,(Instr.mapUpdate t (.map (some m)) key (.int .i64 v)).run prog W=.ok () a/\(∀c:Lit->Option Nat,c kl=some v->(∀l,l≠kl->c l=f l)->qdm a kt m (n+1) c)/\W.grownBy a (some m):=by
 obtain⟨D,g,k⟩:=h;have w:(Lit.int .i64 (v:Int)).wf=true:=by
  have b:IntKind.i64.min = -9223372036854775808:=by kernel_rfl
  have d:IntKind.i64.max=9223372036854775807:=by kernel_rfl
  simp[Lit.wf,b,d];omega
 obtain⟨a,q,p,o⟩:=g.store K r (by unfold maxLen;omega) i (plainElem_int underlying3 w);refine⟨a,q,λc b d=>⟨_,p,λl=>?_⟩,o.grown⟩;by_cases e:l=kl
 ·subst e;refine⟨(Maps.has_put_same g.isMap (K.key i) _).trans (by rw[b];rfl),λu j=>?_⟩;have s:=Option.some.inj (b.symm.trans j);rw[<-s];exact Maps.atKey_put_same g.isMap (K.key i) _ _
 rw[d l e];exact⟨(Maps.has_put_other e _).trans (k l).1,λu j=>(Maps.atKey_put_other e _ _).trans ((k l).2 u j)⟩
theorem plK:Maps.Keyed prog 112:=Maps.Keyed.of_law qp8
theorem mvK:Maps.Keyed prog 255:=Maps.Keyed.of_law qux

structure Aut where
 ra:Option Addr
 rc:Nat
 rs:List (List (Nat×List UInt8)×Int×Int)
 dflt:Int
 lm:Nat
 ln:Nat
 lf:Lit->Option Nat
 st:Nat->Nat
 tb:Nat
 L:Nat
 tc:Nat
 tk:Nat->Nat->Nat
 nb:Nat
 mb:Nat
def qyp(q:Aut)(sv:Value):Array Value:=#[.slice q.ra q.rs.length q.rc,.int .i64 q.dflt,.map (some q.lm),.int .u16 (q.st 0),.int .u16 (q.st 1),.int .u16 (q.st 2),.int .u16 (q.st 3),.int .u16 (q.st 4),.int .u16 (q.st 5),.int .u16 (q.st 6),.int .u16 (q.st 7),.int .u16 (q.st 8),.int .u16 (q.st 9),.int .u16 (q.st 10),.int .u16 (q.st 11),.int .u16 (q.st 12),.int .u16 (q.st 13),.int .u16 (q.st 14),.int .u16 (q.st 15),.slice (some ⟨q.tb,0,none⟩) q.L q.tc,sv,.map (some q.nb),.map (some q.mb)]
def stC(x:(Nat->Nat)×Int×Int):List Value:=(plA x.1).toList++[.int .i64 x.2.1,.int .i64 x.2.2]
structure qcx(W0:World)(A:Nat)(q:Aut)(sts:List ((Nat->Nat)×Int×Int))(sv:Value)(nf:Lit->Option Nat)(mn:Nat)(mf:Lit->Option Nat)(W:World):Prop where
 row:W.heap[A]?=some (.cells (qyp q sv) 116)
 rules:qe0 W0 q.ra q.rs
 few:q.rs.length<=16/\∀i (h:i<q.rs.length),q.rs[i].1.length<=8
 below:Below W0.heap.size W0 W
 letters:qdm W 9 q.lm q.ln q.lf
 takes:∃cur,W.heap[q.tb]?=some (.cells cur 112)/\∀(x r:Nat),x<q.L->r<16->cur[x*16+r]?=some (.int .u16 (q.tk x r))
 states:W.ownsRow W0.heap.size 157 18 sv sts.length (sts.flatMap stC)
 numbers:qdm W 112 q.nb sts.length nf
 moves:qdm W 255 q.mb mn mf
 high:W0.heap.size<=A/\W0.heap.size<=q.lm/\W0.heap.size<=q.tb/\W0.heap.size<=q.nb/\W0.heap.size<=q.mb
 apart:A≠q.lm/\A≠q.tb/\A≠q.nb/\A≠q.mb/\q.lm≠q.tb/\q.lm≠q.nb/\q.lm≠q.mb/\q.tb≠q.nb/\q.tb≠q.mb/\q.nb≠q.mb
 own:∀g,sv.ownBlock=some g->g≠A/\g≠q.lm/\g≠q.tb/\g≠q.nb/\g≠q.mb
 bits:(∀r,q.st r<256)/\∀x r,q.tk x r<256
 here:∀(i:Nat) (x:(Nat->Nat)×Int×Int),sts[i]?=some x->x.2=jdg q.dflt q.rs x.1 0/\∀r,x.1 r<512
 num:∀(i:Nat) (x:(Nat->Nat)×Int×Int),sts[i]?=some x->∀l,keyOf prog 112 (.agg (plA x.1))=some l->nf l=some i
 num':∀(l:Lit) (i:Nat),nf l=some i->∃x,sts[i]?=some x/\keyOf prog 112 (.agg (plA x.1))=some l
theorem qja{P:Program}{ev:Operand->Value}{o:Oper}(a:TypeId)(x:Operand)(f:o.op=.load a x)(g:Nat)(i:ev x=.pointer (some ⟨g,0,none⟩))(t:TypeId)(cs:Array Value)(b:Nat×Nat)(d:TypeDesc)(e:W.heap[g]?=some (.cells cs t b))(h:P.underlying a=some d)(c:(match d with|.struct _|.array _ _=>true|_=>false)=true)(hi:(P.info? a).map (·.size)=some cs.size):(execOp ev o).run P W=.ok (.value (.agg cs)) W:=by
 unfold execOp;simp only[f,i,Instr.loadAt,Instr.sureAddr,Sem.run_bind,Sem.run_pure,Result.andThen_ok,run_loadVar_row W g t a cs b d e h c hi]
theorem qk9(k:World)(A:Nat)(q:Aut)(d:List ((Nat->Nat)×Int×Int))(t:Value)(c:Lit->Option Nat)(s:Nat)(r:Lit->Option Nat)(W:World)(h:qcx k A q d t c s r W)(Y:Nat->Nat)(l:Lit)(o:keyOf prog 112 (.agg (plA Y))=some l)(i:Nat)(hi:c l=some i):Calls prog 45 #[.pointer (some ⟨A,0,none⟩),.agg (plA Y)] W λe j=>e=.returned (.int .i64 i)/\Below W.heap.size W j:=by
 have f:Hid ((W.alloc (.cells (plA Y) 112)).heap[W.heap.size]?=some (.cells (plA Y) 112)):=qac _ _;have n:=ltA h.row;have m:W.cell? ⟨A,21,none⟩=some (.map (some q.nb)):=qaa h.row 21;have g:=qab (h.numbers.kept (World.grownBy_alloc W (.cells (plA Y) 112) none) (by simp));go_enter func45,ntmps45;go_wp2;have a:(λZ:World=>Z.cell? ⟨A,21,none⟩=some (.map (some q.nb))/\Z.heap[W.heap.size]?=some (.cells (plA Y) 112)/\qdm Z 112 q.nb d.length c) {W.alloc (.cells (plA Y) 112)with drawn:=(W.alloc (.cells (plA Y) 112)).drawn+1}:=⟨((((Below.refl W.heap.size W).alloc (Nat.le_refl _) (.cells (plA Y) 112)).cell (p:=⟨A,21,none⟩) n).trans m :),f.out,g.out⟩
 refine wp_region_held (S:=λZ=>Z.cell? ⟨A,21,none⟩=some (.map (some q.nb))/\Z.heap[W.heap.size]?=some (.cells (plA Y) 112)/\qdm Z 112 q.nb d.length c) (by kernel_rfl) ?_;refine tkp 0 10 (.pointer (some ⟨A,0,none⟩)) a ?_;refine tkp 1 11 (.pointer (some ⟨A,0,none⟩)) a ?_;refine tkp 2 12 (.pointer (some ⟨A,21,none⟩)) a ?_;refine tkq 3 13 (.map (some q.nb)) rfl (λZ b=>?y3) a ?_
 case y3=>(have v:=b.1;go_simp)
 refine tkq 4 14 (.agg (plA Y)) rfl (λZ b=>?y4) a ?_
 case y4=>exact qja 112 (.tmp 3) rfl W.heap.size rfl _ _ _ _ b.2.1 underlying112 rfl (qbt Y)
 refine tkq 5 15 (.tuple #[.int .i64 i,.bool true]) rfl (λZ b=>?y5) a ?_
 case y5=>(have u:=qdI b.2.2 plK underlying108 o;rw[hi]at u;go_simp)
 refine tkp 6 9 (.tuple #[.int .i64 i,.bool true]) a ?_;refine tkp 7 16 (.int .i64 i) a ?_;refine tkp 8 17 (.bool true) a ?_;refine tkp 9 5 (.int .i64 i) a ?_;refine tkp 10 6 (.bool true) a ?_;refine wdn ?_;go_simp;go_wp2;go_ret;exact⟨rfl,(bwA).drew⟩

end
end Go.Proofs.YtpifimohecagoaaGreatDoor
