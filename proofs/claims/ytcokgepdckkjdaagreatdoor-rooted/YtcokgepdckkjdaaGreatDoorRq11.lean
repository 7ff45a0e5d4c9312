import Derived.Test.YtcokgepdckkjdaaGreatDoorRq06
set_option maxRecDepth 100000
set_option maxHeartbeats 8000000
namespace Go.Proofs.YtcokgepdckkjdaaGreatDoor
open Go.Proofs.Tryz
variable {V V' W W':World}{X st:Nat->Nat}{A n rc:Nat}{ra:Option Addr}
section
open Go.RowKit
def zPl:Nat->Nat:=fun _=>0
structure qi8 (W:World)(X:Nat->Nat)(V:World):Prop where
 box:V.heap[W.heap.size]? = some (.cells (plA X) 129)
 ret:V.heap[W.heap.size+1]? = some (.cells (plA zPl) 129)
 below:Below W.heap.size W V
theorem qi8.next (h:qi8 W X V)(a:Below V.heap.size V V'):qi8 W X V' :=
 ⟨(a.block _ (ltA h.box)).trans h.box,(a.block _ (ltA h.ret)).trans h.ret,h.below.trans (a.mono h.below.size)⟩
theorem quE (W:World)(X:Nat->Nat):qi8 W X ((W.alloc (.cells (plA X) 129)).alloc (.cells (plA zPl) 129)) :=
 ⟨(Below.heap_alloc _ _ _ (by simp)).trans (qac _ _),by have:=qac (W.alloc (.cells (plA X) 129)) (.cells (plA zPl) 129);simpa using this,(bwA).alloc (by simp) _⟩
theorem qgk (X:Nat->Nat):(plA X).all (·.oneCell')=true:=by
 rw[Array.all_eq_true];intro i h;simp[plA,Value.oneCell']
theorem qjJ (X Y:Nat->Nat):(plA X).size=(plA Y).size:=by rw[qbR,qbR]
theorem qi8.set (h:qi8 W X V)(g:Nat)(a:W.heap.size+1<g)(cs:Array Value):qi8 W X (V.setRow g cs) :=
 ⟨sx (by omega) h.box,sx (by omega) h.ret,qah h.below (by omega) _⟩
theorem qi8.cell (h:qi8 W X V)(g j:Nat)(a:W.heap.size+1<g)(v:Value):qi8 W X (V.setCell ⟨g,j,none⟩ v) :=
 ⟨(Below.heap_setCell _ _ _ _ (by simp;omega)).trans h.box,(Below.heap_setCell _ _ _ _ (by simp;omega)).trans h.ret,h.below.setCell (by simp;omega) _⟩
theorem qi8.drew (h:qi8 W X V):qi8 W X V.drew:=⟨h.box,h.ret,h.below.drew⟩
theorem qrW (st X:Nat->Nat)(k:Nat):(fun i=>if i=k then w1 (st k) (X k) else wSt st X k i)=wSt st X (k+1):=by
 funext r;unfold wSt;by_cases h:r=k
 ·subst h;rw[if_pos rfl,if_pos (by omega)]
 rw[if_neg h];by_cases a:r<k
 ·rw[if_pos a,if_pos (by omega)]
 rw[if_neg a,if_neg (by omega)]
theorem qwt (y:Nat)(h:y<256):IntKind.u16.wrap ((y:Int)*2)=((y <<< 1:Nat):Int):=by
 have:=w16 (y*2) (by omega);rw[Nat.shiftLeft_eq];rw[show((y:Int)*2)=((y*2:Nat):Int) by simp,this]
theorem qq7 (st X:Nat->Nat):wSt st X 0=X:=by
 funext r;unfold wSt;rw[if_neg (by omega)]
theorem qk1 (W:World)(A:Nat)(ra:Option Addr)(rc n:Nat)(st:Nat->Nat)(P:Nat->Nat)(C:∀r,P r<512)(u:∀r,st r<256)(hn:n<=16)(m:A<W.heap.size)(x:W.cell? ⟨A,0,none⟩=some (.slice ra n rc))(cs:∀r,r<16->W.cell? ⟨A,3+r,none⟩=some (.int .u16 (st r))):Calls prog 88 #[.pointer (some ⟨A,0,none⟩),.agg (plA P)] W fun e R=>(∃Y,e=.returned (.agg (plA Y))/\(∀r,r<n->∀k,(Y r).testBit k=wdB (st r) (P r) k)/\(∀r,n<=r->Y r=P r)/\∀r,Y r<512)/\Below W.heap.size W R:=by
 have L:Hid (qi8 W P ((W.alloc (.cells (plA P) 129)).alloc (.cells #[.int .u16 0,.int .u16 0,.int .u16 0,.int .u16 0,.int .u16 0,.int .u16 0,.int .u16 0,.int .u16 0,.int .u16 0,.int .u16 0,.int .u16 0,.int .u16 0,.int .u16 0,.int .u16 0,.int .u16 0,.int .u16 0] 129))):=quE W P;have H:=qaa (qv4 P st n C);go_enter func88,ntmps88;go_wp2
 go_loopg [] (8192-qlR P 16) (fun g wr=>∃X,Hid (qi8 W X wr)/\Hid (Mid P st n X)/\Hid (qlR X 16+g=8192))
 case atStart=>exact⟨P,L,H,by show _=_;have:=qi6 C 16;omega⟩
 case round =>
  obtain⟨X,l,d,G⟩:=hrel;have T:=(l.out.below.cell (p:=⟨A,_,none⟩) m).trans x
  go_wp2_with (first
   |(refine wpList_load_row rfl 129 (.tmp 3) rfl W.heap.size rfl _ _ _ _ l.out.box underlying129 rfl (qbh X) ?_)
   |(refine wpList_store_row rfl 129 (.tmp 5) (.tmp 7) rfl wr.heap.size (plA X) rfl rfl 129 (plA zPl) (qac wr _) (qbh X) (qjJ _ _) (qgk X) ?_;have v:=qaa (ltA l.out.ret);have w:Hid (qi8 W X ((wr.alloc (.cells #[.int .u16 0,.int .u16 0,.int .u16 0,.int .u16 0,.int .u16 0,.int .u16 0,.int .u16 0,.int .u16 0,.int .u16 0,.int .u16 0,.int .u16 0,.int .u16 0,.int .u16 0,.int .u16 0,.int .u16 0,.int .u16 0] 129)).setRow wr.heap.size (plA X))):=(l.out.next bwA).set _ v.out _;have O:Hid (((wr.alloc (.cells #[.int .u16 0,.int .u16 0,.int .u16 0,.int .u16 0,.int .u16 0,.int .u16 0,.int .u16 0,.int .u16 0,.int .u16 0,.int .u16 0,.int .u16 0,.int .u16 0,.int .u16 0,.int .u16 0,.int .u16 0,.int .u16 0] 129)).setRow wr.heap.size (plA X)).heap[wr.heap.size]? = some (.cells (plA (wSt st X 0)) 129)):=(by rw[qq7];exact setRow_heap _ _ _ _ _ _ (qac wr _));generalize (wr.alloc (.cells #[.int .u16 0,.int .u16 0,.int .u16 0,.int .u16 0,.int .u16 0,.int .u16 0,.int .u16 0,.int .u16 0,.int .u16 0,.int .u16 0,.int .u16 0,.int .u16 0,.int .u16 0,.int .u16 0,.int .u16 0,.int .u16 0] 129)).setRow wr.heap.size (plA X)=V1 at *;generalize wr.heap.size=M at *;have T:=(w.out.below.cell (p:=⟨A,_,none⟩) m).trans x))
  go_loopg [13] n (fun g ai V=>∃k:Nat,ai=.int .i64 k/\Hid (k+g=n)/\Hid (qi8 W X V)/\Hid (V.heap[M]? = some (.cells (plA (wSt st X k)) 129)))
  case atStart=>exact⟨0,rfl,by show _=_;omega,w,O⟩
  case round =>
   obtain⟨k,rfl,o,c,i⟩:=hrel
   cases gk with
   |zero =>
    have af:¬(k:Int)<(n:Int):=by have:=o.out;omega
    have ae:k=n:=by have:=o.out;omega
    subst ae;have z:∀r,X r<65536:=fun r=>by have:=d.out.lt r;omega
    have ab:∀r,wSt st X k r<65536:=fun r=>by have:=(d.out.step u).lt r;omega
    have E:=qvw (wSt st X k) X ab z wr
    cases j:qug (wSt st X k) X with
    |true =>
     rw[j] at E;have he:∀r,r<k->w1 (st r) (X r)=X r:=fun r f=>by
      have h:=qjs j r (by omega);unfold wSt at h;rwa [if_pos f] at h
     have F:=qaa (d.out.done he)
     go_wp2_with (first
      |(refine wpList_load_row rfl 129 (.tmp 5) rfl M rfl _ _ _ _ i.out underlying129 rfl (qbh _) ?_)
      |(refine wpList_load_row rfl 129 (.tmp 3) rfl W.heap.size rfl _ _ _ _ c.out.box underlying129 rfl (qbh X) ?_)
      |(refine wpList_store_row rfl 129 (.tmp 4) (.tmp 36) rfl (W.heap.size+1) (plA X) rfl rfl 129 (plA zPl) c.out.ret (qbh X) (qjJ _ _) (qgk X) ?_))
     refine bodyPost_ret (results_cell_row results88 _ _ (W.heap.size+1) 129 (plA X) (0,0) _ rfl (setRow_heap _ _ _ _ _ _ c.out.ret) underlying129 rfl (qbh X)) rfl ⟨⟨X,rfl,F.out,d.out.off,d.out.lt⟩,qah c.out.below (by omega) _⟩
    |false =>
     rw[j] at E;have I:Hid (qlR X 16<qlR (wSt st X k) 16):=by
      show _<_;have D:∀r,X r<=wSt st X k r:=fun r=>by
       unfold wSt;by_cases f:r<k
       ·rw[if_pos f];exact qwX _ _
       rw[if_neg f];exact Nat.le_refl _
      have ad:∃r,r<16/\X r<wSt st X k r:=by
       refine Classical.byContradiction fun hh => ?_;have:qug (wSt st X k) X=true:=qpm fun r f=>by
        have y:=D r;have B:¬X r<wSt st X k r:=fun h=>hh ⟨r,f,h⟩;omega
       rw[this] at j;cases j
      obtain⟨r,y,B⟩:=ad;exact qoM D 16 r y B
     have q:=qaa (d.out.step u)
     go_wp2_with (first
      |(refine wpList_load_row rfl 129 (.tmp 5) rfl M rfl _ _ _ _ i.out underlying129 rfl (qbh _) ?_)
      |(refine wpList_load_row rfl 129 (.tmp 3) rfl W.heap.size rfl _ _ _ _ c.out.box underlying129 rfl (qbh X) ?_)
      |(refine wpList_store_row rfl 129 (.tmp 3) (.tmp 37) rfl W.heap.size (plA (wSt st X k)) rfl rfl 129 (plA X) c.out.box (qbh _) (qjJ _ _) (qgk _) ?_))
     have N:Hid (qi8 W (wSt st X k) (wr.setRow W.heap.size (plA (wSt st X k)))):=⟨setRow_heap _ _ _ _ _ _ c.out.box,sx (by omega) c.out.ret,qah c.out.below (Nat.le_refl _) _⟩
     go_roundg (8192-qlR (wSt st X k) 16)
     case measure=>have:=G.out;have:=I.out;have:=qi6 q.out.lt 16;omega
     case rel=>exact⟨wSt st X k,N,q,by show _=_;have:=qi6 q.out.lt 16;omega⟩
   |succ g =>
    have am:k<n:=by have:=o.out;omega
    have af:(k:Int)<(n:Int):=by omega
    have al:(k:Int)<16:=by omega
    have aa:=d.out.lt k;have ah:=u k;have ha:=qqL (X k) (st k) (by omega) (by omega);have ac:X k &&& st k<256:=Nat.and_lt_two_pow (n:=8) _ (by omega);have an:=qwt (X k &&& st k) ac;have ao:=qwg ah aa;have ag:bits .or .u16 (X k:Int) (((X k &&& st k) <<< 1:Nat):Int)=((w1 (st k) (X k):Nat):Int):=qxk _ _ (by omega) (by rw[Nat.shiftLeft_eq];omega);have aj:wr.cell? ⟨M,k,none⟩=some (.int .u16 (X k)):=by
     have h:=qab i.out k;rw[qcR _ k (by omega)] at h;rw[h];unfold wSt;rw[if_neg (by omega)]
    have ak:=frozen_of_row wr M k _ _ i.out;have J:Hid (wr.cell? ⟨W.heap.size,k,none⟩=some (.int .u16 (X k))/\wr.cell? ⟨A,3+k,none⟩=some (.int .u16 (st k))):=⟨by have h:=qab c.out.box k;rwa [qcR _ k (by omega)] at h,(c.out.below.cell (p:=⟨A,_,none⟩) m).trans (cs k (by omega))⟩
    have s:Hid (qi8 W X (wr.drew.setCell ⟨M,k,none⟩ (.int .u16 ((w1 (st k) (X k):Nat):Int)))):=c.out.drew.cell _ _ v.out _;have Q:Hid ((wr.drew.setCell ⟨M,k,none⟩ (.int .u16 ((w1 (st k) (X k):Nat):Int))).heap[M]? = some (.cells (plA (wSt st X (k+1))) 129)):=by
     have h:=heap_setCell_same wr.drew M k _ _ (.int .u16 ((w1 (st k) (X k):Nat):Int)) i.out;rw[qik,qrW] at h;exact h
    go_wp2;have a:(fun Z:World=>Z.cell? ⟨W.heap.size,k,none⟩=some (.int .u16 (X k))/\Z.cell? ⟨A,3+k,none⟩=some (.int .u16 (st k))) {wr with drawn:=wr.drawn+1}:=J.out;have U:(fun Z:World=>Z.cell? ⟨W.heap.size,k,none⟩=some (.int .u16 (X k))/\Z.cell? ⟨A,3+k,none⟩=some (.int .u16 (st k))) (wr.drew.setCell ⟨M,k,none⟩ (.int .u16 ((w1 (st k) (X k):Nat):Int))):=⟨by have h:=qab s.out.box k;rwa [qcR _ k (by omega)] at h,(s.out.below.cell (p:=⟨A,_,none⟩) m).trans (cs k (by omega))⟩
    refine wp_region_held (S:=fun Z=>Z.cell? ⟨W.heap.size,k,none⟩=some (.int .u16 (X k))/\Z.cell? ⟨A,3+k,none⟩=some (.int .u16 (st k))) (by kernel_rfl) ?_;refine tkH 0 16 (.int .i64 k) rfl (by kernel_rfl) (fun _ _ _ h=>h) (fun Z b=>by kernel_rfl) a ?_;refine tkH 1 17 (.pointer (some ⟨M,k,none⟩)) rfl (by kernel_rfl) (fun _ _ _ h=>h) (fun Z b => ?y1) a ?_
    case y1=>go_simp
    refine tkH 3 19 (.int .i64 k) rfl (by kernel_rfl) (fun _ _ _ h=>h) (fun Z b=>by kernel_rfl) a ?_;refine tkH 4 20 (.pointer (some ⟨W.heap.size,k,none⟩)) rfl (by kernel_rfl) (fun _ _ _ h=>h) (fun Z b => ?y4) a ?_
    case y4=>go_simp
    refine tkH 5 21 (.int .u16 (X k)) rfl (by kernel_rfl) (fun _ _ _ h=>h) (fun Z b => ?y5) a ?_
    case y5=>(have z1:=b.1;go_simp)
    refine tkH 6 22 (.pointer (some ⟨A,0,none⟩)) rfl (by kernel_rfl) (fun _ _ _ h=>h) (fun Z b=>by kernel_rfl) a ?_;refine tkH 7 23 (.int .i64 k) rfl (by kernel_rfl) (fun _ _ _ h=>h) (fun Z b=>by kernel_rfl) a ?_;refine tkH 8 24 (.pointer (some ⟨A,0,none⟩)) rfl (by kernel_rfl) (fun _ _ _ h=>h) (fun Z b=>by kernel_rfl) a ?_;refine tkH 9 25 (.pointer (some ⟨A,3,none⟩)) rfl (by kernel_rfl) (fun _ _ _ h=>h) (fun Z b=>by kernel_rfl) a ?_;refine tkH 10 26 (.pointer (some ⟨A,3+k,none⟩)) rfl (by kernel_rfl) (fun _ _ _ h=>h) (fun Z b => ?y10) a ?_
    case y10=>go_simp
    refine tkH 11 27 (.int .u16 (st k)) rfl (by kernel_rfl) (fun _ _ _ h=>h) (fun Z b => ?y11) a ?_
    case y11=>(have z2:=b.2;go_simp)
    refine tkH 12 28 (.int .u16 ((X k &&& st k:Nat):Int)) rfl (by kernel_rfl) (fun _ _ _ h=>h) (fun Z b => ?y12) a ?_
    case y12=>go_simp
    refine tkH 13 29 (.int .u16 (((X k &&& st k) <<< 1:Nat):Int)) rfl (by kernel_rfl) (fun _ _ _ h=>h) (fun Z b => ?y13) a ?_
    case y13=>go_simp
    refine rdS 2 rfl (by kernel_rfl) (fun K t => ?_);go_simp;refine t.out _ _ a (fun _ => ?_);refine tkH 14 30 (.int .u16 ((w1 (st k) (X k):Nat):Int)) rfl (by kernel_rfl) (fun _ _ _ h=>h) (fun Z b => ?y14) a ?_
    case y14=>(go_simp;exact ag)
    refine tkH 15 31 (.pointer (some ⟨M,k,none⟩)) rfl (by kernel_rfl) (fun _ _ _ h=>h) (fun Z b => ?y15) a ?_
    case y15=>go_simp
    refine rdS 16 rfl (by kernel_rfl) (fun K t => ?_);go_simp;refine t.out _ _ U (fun _ => ?_);refine wpAnyH_done (by kernel_rfl) ?_ _;go_simp;go_wp2;go_roundg g
    case measure=>omega
    case rel=>exact⟨k+1,by go_num,by show _=_;have:=o.out;omega,s,Q⟩

structure AuR (W:World)(A:Nat)(ra:Option Addr)(rc n:Nat)(st:Nat->Nat):Prop where
 lt:A<W.heap.size
 rules:W.cell? ⟨A,0,none⟩=some (.slice ra n rc)
 stays:∀r,r<16->W.cell? ⟨A,3+r,none⟩=some (.int .u16 (st r))
theorem AuR.below (h:AuR W A ra rc n st)(a:Below W.heap.size W W'):AuR W' A ra rc n st :=
 ⟨Nat.lt_of_lt_of_le h.lt a.size,(a.cell (p:=⟨A,_,none⟩) h.lt).trans h.rules,fun r b=>(a.cell (p:=⟨A,_,none⟩) h.lt).trans (h.stays r b)⟩
def WdY (n:Nat)(st P Y:Nat->Nat):Prop:=(∀r,r<n->∀k,(Y r).testBit k=wdB (st r) (P r) k)/\(∀r,n<=r->Y r=P r)/\∀r,Y r<512
def qn7 (n:Nat)(st P:Nat->Nat)(e:Ending):Prop:=∃Y,e=.returned (.agg (plA Y))/\WdY n st P Y
theorem qv9 (h:AuR W A ra rc n st)(P:Nat->Nat)(b:∀r,P r<512)(d:∀r,st r<256)(c:n<=16):Calls prog 88 #[.pointer (some ⟨A,0,none⟩),.agg (plA P)] W fun e a=>qn7 n st P e/\Below W.heap.size W a :=
 qk1 W A ra rc n st P b d c h.lt h.rules h.stays
def one (k:Nat):Nat->Nat:=fun r=>if r<k then 1 else 0
theorem qqC:one 0=zPl:=by funext r;rfl
theorem qqw (k:Nat):(fun i=>if i=k then (one k k ||| 2^0:Nat) else one k i)=one (k+1):=by
 funext r;unfold one;by_cases h:r=k
 ·subst h;rw[if_pos rfl,if_neg (by omega),if_pos (by omega)];rfl
 rw[if_neg h];by_cases a:r<k
 ·rw[if_pos a,if_pos (by omega)]
 rw[if_neg a,if_neg (by omega)]
theorem qsw (k r:Nat):one k r<512:=by unfold one;split<;>omega
structure quq (W:World)(X:Nat->Nat)(V:World):Prop where
 ret:V.heap[W.heap.size]? = some (.cells (plA zPl) 129)
 p:V.heap[W.heap.size+1]? = some (.cells (plA X) 129)
 below:Below W.heap.size W V
theorem quq.next (h:quq W X V)(a:Below V.heap.size V V'):quq W X V' :=
 ⟨(a.block _ (ltA h.ret)).trans h.ret,(a.block _ (ltA h.p)).trans h.p,h.below.trans (a.mono h.below.size)⟩
theorem qtC (W:World):quq W zPl ((W.alloc (.cells (plA zPl) 129)).alloc (.cells (plA zPl) 129)) :=
 ⟨(Below.heap_alloc _ _ _ (by simp)).trans (qac _ _),by have:=qac (W.alloc (.cells (plA zPl) 129)) (.cells (plA zPl) 129);simpa using this,(bwA).alloc (by simp) _⟩
theorem qok (W:World)(A:Nat)(B:Option Addr)(C n:Nat)(st:Nat->Nat)(y:∀r,st r<256)(x:n<=16)(h:AuR W A B C n st):Calls prog 63 #[.pointer (some ⟨A,0,none⟩)] W fun e W'=>qn7 n st (one n) e/\Below W.heap.size W W':=by
 have d:=qaa h;have i:Hid (quq W zPl ((W.alloc (.cells #[.int .u16 0,.int .u16 0,.int .u16 0,.int .u16 0,.int .u16 0,.int .u16 0,.int .u16 0,.int .u16 0,.int .u16 0,.int .u16 0,.int .u16 0,.int .u16 0,.int .u16 0,.int .u16 0,.int .u16 0,.int .u16 0] 129)).alloc (.cells #[.int .u16 0,.int .u16 0,.int .u16 0,.int .u16 0,.int .u16 0,.int .u16 0,.int .u16 0,.int .u16 0,.int .u16 0,.int .u16 0,.int .u16 0,.int .u16 0,.int .u16 0,.int .u16 0,.int .u16 0,.int .u16 0] 129))):=qtC W;have E:=h.rules;have G:=h.lt;go_enter func63,ntmps63;go_wp2
 go_loopg [10] n (fun g z V=>∃k:Nat,z=.int .i64 k/\Hid (k+g=n)/\Hid (quq W (one k) V))
 case atStart=>exact⟨0,rfl,by show _=_;omega,by rw[qqC];exact i⟩
 case round =>
  obtain⟨k,rfl,b,a⟩:=hrel
  cases gk with
  |zero =>
   have w:¬(k:Int)<(n:Int):=by have:=b.out;omega
   have v:k=n:=by have:=b.out;omega
   subst v;have m:=fun V s=>qv9 (d.out.below (W':=V) s) (one k) (qsw k) y x
   go_wp2_with (first
    |(go_at_call 88;refine(m _ a.out.below).mono ?_;rintro e D ⟨⟨Y,rfl,q⟩,o⟩;have c:=qaa (a.out.next o);have j:=qaa q)
    |(refine wpList_load_row rfl 129 (.tmp 3) rfl (W.heap.size+1) rfl _ _ _ _ a.out.p underlying129 rfl (qbh _) ?_)
    |(refine wpList_store_row rfl 129 (.tmp 2) (.tmp 18) rfl W.heap.size (plA Y) rfl rfl 129 (plA zPl) c.out.ret (qbh Y) (qjJ _ _) (qgk Y) ?_))
   refine bodyPost_ret (results_cell_row results63 _ _ W.heap.size 129 (plA Y) (0,0) _ rfl (setRow_heap _ _ _ _ _ _ c.out.ret) underlying129 rfl (qbh Y)) rfl ⟨⟨Y,rfl,j.out⟩,qah c.out.below (Nat.le_refl _) _⟩
  |succ g =>
   have F:k<n:=by have:=b.out;omega
   have w:(k:Int)<(n:Int):=by omega
   have t:wr.cell? ⟨W.heap.size+1,0+k,none⟩=some (.int .u16 (one k k)):=by
    have h:=qab a.out.p (0+k);rw[qcR _ (0+k) (by omega)] at h;rw[h,Nat.zero_add]
   have u:=frozen_of_row wr (W.heap.size+1) (0+k) _ _ a.out.p;have l:=qdf wr (W.heap.size+1) 0 (one k k) k 0 (by omega) (by omega) (by have:=qsw k k;omega) t u;have f:Hid (quq W (one (k+1)) (wr.setCell ⟨W.heap.size+1,k,none⟩ (.int .u16 ((one k k ||| 1:Nat):Int))).drew):=by
    refine⟨(Below.heap_setCell wr _ _ _ (by simp)).trans a.out.ret,?_,(a.out.below.setCell (by simp) _).drew⟩;have h:=heap_setCell_same wr (W.heap.size+1) k _ _ (.int .u16 ((one k k ||| 1:Nat):Int)) a.out.p;rw[qik,show(1:Nat)=2^0 from rfl,qqw] at h;exact h
   go_wp2_with (first
    |(go_at_call 86;refine l.mono ?_;rintro e D ⟨rfl,rfl⟩))
   go_roundg g
   case measure=>omega
   case rel=>exact⟨k+1,by go_num,by show _=_;have:=b.out;omega,f⟩

structure AuT (W:World)(A tb L tc:Nat)(tk:Nat->Nat->Nat):Prop where
 lt:A<W.heap.size
 tlt:tb<W.heap.size
 takes:W.cell? ⟨A,19,none⟩=some (.slice (some ⟨tb,0,none⟩) L tc)
 at_:∀x r,x<L->r<16->W.cell? ⟨tb,x*16+r,none⟩=some (.int .u16 (tk x r))
theorem AuT.below {tb L tc:Nat}{tk:Nat->Nat->Nat}(h:AuT W A tb L tc tk)(a:Below W.heap.size W W'):AuT W' A tb L tc tk :=
 ⟨Nat.lt_of_lt_of_le h.lt a.size,Nat.lt_of_lt_of_le h.tlt a.size,(a.cell (p:=⟨A,_,none⟩) h.lt).trans h.takes,fun x r c b=>(a.cell (p:=⟨tb,_,none⟩) h.tlt).trans (h.at_ x r c b)⟩
def gon (st tk x:Nat):Nat:=(x &&& st) ||| ((x &&& tk) <<< 1)
def qhV (st tk P:Nat->Nat)(k:Nat):Nat->Nat:=fun r=>if r<k then gon (st r) (tk r) (P r) else 0
theorem qvH {st tk x:Nat}(d:st<256)(e:tk<256):gon st tk x<512:=by
 have b:x &&& st<2^8:=Nat.and_lt_two_pow _ (by omega);have c:x &&& tk<2^8:=Nat.and_lt_two_pow _ (by omega);have a:(x &&& tk) <<< 1<2^9:=by rw[Nat.shiftLeft_eq];omega
 exact Nat.or_lt_two_pow (n:=9) (by omega) a
theorem qpb (st tk P:Nat->Nat):qhV st tk P 0=zPl:=by funext r;unfold qhV zPl;rw[if_neg (by omega)]
theorem qpG (st tk P:Nat->Nat)(k:Nat):(fun i=>if i=k then gon (st k) (tk k) (P k) else qhV st tk P k i)=qhV st tk P (k+1):=by
 funext r;unfold qhV;by_cases h:r=k
 ·subst h;rw[if_pos rfl,if_pos (by omega)]
 rw[if_neg h];by_cases a:r<k
 ·rw[if_pos a,if_pos (by omega)]
 rw[if_neg a,if_neg (by omega)]
theorem qsY {tk:Nat->Nat}(a:∀r,st r<256)(b:∀r,tk r<256)(P:Nat->Nat)(k r:Nat):qhV st tk P k r<512:=by
 unfold qhV;split
 ·exact qvH (a r) (b r)
 omega
structure qqV (W:World)(P X:Nat->Nat)(V:World):Prop where
 box:V.heap[W.heap.size]? = some (.cells (plA P) 129)
 ret:V.heap[W.heap.size+1]? = some (.cells (plA zPl) 129)
 nx:V.heap[W.heap.size+2]? = some (.cells (plA X) 129)
 below:Below W.heap.size W V
theorem qqV.next {P:Nat->Nat}(h:qqV W P X V)(a:Below V.heap.size V V'):qqV W P X V' :=
 ⟨(a.block _ (ltA h.box)).trans h.box,(a.block _ (ltA h.ret)).trans h.ret,(a.block _ (ltA h.nx)).trans h.nx,h.below.trans (a.mono h.below.size)⟩
theorem qtt (W:World)(P:Nat->Nat):qqV W P zPl (((W.alloc (.cells (plA P) 129)).alloc (.cells (plA zPl) 129)).alloc (.cells (plA zPl) 129)) :=
 ⟨((Below.heap_alloc _ _ _ (by simp;omega)).trans (Below.heap_alloc _ _ _ (by simp))).trans (qac _ _),(Below.heap_alloc _ _ _ (by simp)).trans (by have:=qac (W.alloc (.cells (plA P) 129)) (.cells (plA zPl) 129);simpa using this),by have:=qac ((W.alloc (.cells (plA P) 129)).alloc (.cells (plA zPl) 129)) (.cells (plA zPl) 129);simpa using this,((bwA).alloc (by simp) _).alloc (by simp;omega) _⟩
theorem qoX (W:World)(A:Nat)(R:Option Addr)(T n:Nat)(st:Nat->Nat)(c L i:Nat)(tk:Nat->Nat->Nat)(o:∀r,st r<256)(u:∀x r,tk x r<256)(N:n<=16)(h:AuR W A R T n st)(B:AuT W A c L i tk)(P:Nat->Nat)(E:∀r,P r<512)(x:Nat)(Q:x<L):Calls prog 177 #[.pointer (some ⟨A,0,none⟩),.agg (plA P),.int .i64 x] W fun e W'=>qn7 n st (qhV st (tk x) P n) e/\Below W.heap.size W W':=by
 have p:=qaa h;have t:=qaa B;have l:Hid (qqV W P zPl (((W.alloc (.cells (plA P) 129)).alloc (.cells #[.int .u16 0,.int .u16 0,.int .u16 0,.int .u16 0,.int .u16 0,.int .u16 0,.int .u16 0,.int .u16 0,.int .u16 0,.int .u16 0,.int .u16 0,.int .u16 0,.int .u16 0,.int .u16 0,.int .u16 0,.int .u16 0] 129)).alloc (.cells #[.int .u16 0,.int .u16 0,.int .u16 0,.int .u16 0,.int .u16 0,.int .u16 0,.int .u16 0,.int .u16 0,.int .u16 0,.int .u16 0,.int .u16 0,.int .u16 0,.int .u16 0,.int .u16 0,.int .u16 0,.int .u16 0] 129))):=qtt W P;have X:=h.rules;have ah:=h.lt;have ai:A<W.heap.size+1:=by omega
 have aj:A<W.heap.size+1+1:=by omega
 go_enter func177,ntmps177;go_wp2
 go_loopg [14] n (fun g z V=>∃k:Nat,z=.int .i64 k/\Hid (k+g=n)/\Hid (qqV W P (qhV st (tk x) P k) V))
 case atStart=>exact⟨0,rfl,by show _=_;omega,by rw[qpb];exact l⟩
 case round =>
  obtain⟨k,rfl,j,d⟩:=hrel
  cases gk with
  |zero =>
   have M:¬(k:Int)<(n:Int):=by have:=j.out;omega
   have J:k=n:=by have:=j.out;omega
   subst J;have y:=fun V f=>qv9 (p.out.below (W':=V) f) (qhV st (tk x) P k) (qsY o (u x) P k) o N
   go_wp2_with (first
    |(go_at_call 88;refine(y _ d.out.below).mono ?_;rintro e w2 ⟨⟨Y,rfl,H⟩,C⟩;have m:=qaa (d.out.next C);have w:=qaa H)
    |(refine wpList_load_row rfl 129 (.tmp 7) rfl (W.heap.size+1+1) rfl _ _ _ _ d.out.nx underlying129 rfl (qbh _) ?_)
    |(refine wpList_store_row rfl 129 (.tmp 6) (.tmp 47) rfl (W.heap.size+1) (plA Y) rfl rfl 129 (plA zPl) m.out.ret (qbh Y) (qjJ _ _) (qgk Y) ?_))
   refine bodyPost_ret (results_cell_row results177 _ _ (W.heap.size+1) 129 (plA Y) (0,0) _ rfl (setRow_heap _ _ _ _ _ _ m.out.ret) underlying129 rfl (qbh Y)) rfl ⟨⟨Y,rfl,w.out⟩,qah m.out.below (by omega) _⟩
  |succ g =>
   have ag:k<n:=by have:=j.out;omega
   have M:(k:Int)<(n:Int):=by omega
   have af:(k:Int)<16:=by omega
   have hxL:(x:Int)<(L:Int):=by omega
   have aa:=E k;have al:=o k;have am:=u x k;have ha:=qqL (P k) (st k) (by omega) (by omega);have ac:=qqL (P k) (tk x k) (by omega) (by omega);have ab:P k &&& st k<256:=Nat.and_lt_two_pow (n:=8) _ (by omega);have I:P k &&& tk x k<256:=Nat.and_lt_two_pow (n:=8) _ (by omega);have ak:=qwt (P k &&& tk x k) I;have O:bits .or .u16 ((P k &&& st k:Nat):Int) (((P k &&& tk x k) <<< 1:Nat):Int)=((gon (st k) (tk x k) (P k):Nat):Int):=qxk _ _ (by omega) (by rw[Nat.shiftLeft_eq];omega);have ad:wr.cell? ⟨W.heap.size+1+1,k,none⟩=some (.int .u16 (qhV st (tk x) P k k)):=by
    have h:=qab d.out.nx k;rwa [qcR _ k (by omega)] at h
   have ae:=frozen_of_row wr (W.heap.size+1+1) k _ _ d.out.nx;have s:Hid (qqV W P (qhV st (tk x) P (k+1)) (wr.drew.setCell ⟨W.heap.size+1+1,k,none⟩ (.int .u16 ((gon (st k) (tk x k) (P k):Nat):Int)))):=by
    refine⟨(Below.heap_setCell wr.drew _ _ _ (by simp;omega)).trans d.out.box,(Below.heap_setCell wr.drew _ _ _ (by simp)).trans d.out.ret,?_,d.out.below.drew.setCell (by simp;omega) _⟩;have h:=heap_setCell_same wr.drew (W.heap.size+1+1) k _ _ (.int .u16 ((gon (st k) (tk x k) (P k):Nat):Int)) d.out.nx;rw[qik,qpG] at h;exact h
   have q:∀V,qqV W P (qhV st (tk x) P k) V\/qqV W P (qhV st (tk x) P (k+1)) V->V.cell? ⟨W.heap.size,k,none⟩=some (.int .u16 (P k))/\V.cell? ⟨A,3+k,none⟩=some (.int .u16 (st k))/\V.cell? ⟨A,19,none⟩=some (.slice (some ⟨c,0,none⟩) L i)/\V.cell? ⟨c,x*16+k,none⟩=some (.int .u16 (tk x k)):=by
    intro V G;have f:V.heap[W.heap.size]? = some (.cells (plA P) 129)/\Below W.heap.size W V:=by rcases G with h|h<;>exact⟨h.box,h.below⟩
    exact⟨by have h:=qab f.1 k;rwa [qcR _ k (by omega)] at h,(p.out.below f.2).stays k (by omega),(t.out.below f.2).takes,(t.out.below f.2).at_ x k Q (by omega)⟩
   have l:Hid (_):=q wr (.inl d.out);have v:Hid (_):=q _ (.inr s.out);go_wp2;have b:(fun Z:World=>Z.cell? ⟨W.heap.size,k,none⟩=some (.int .u16 (P k))/\Z.cell? ⟨A,3+k,none⟩=some (.int .u16 (st k))/\Z.cell? ⟨A,19,none⟩=some (.slice (some ⟨c,0,none⟩) L i)/\Z.cell? ⟨c,x*16+k,none⟩=some (.int .u16 (tk x k))) {wr with drawn:=wr.drawn+1}:=l.out;have F:(fun Z:World=>Z.cell? ⟨W.heap.size,k,none⟩=some (.int .u16 (P k))/\Z.cell? ⟨A,3+k,none⟩=some (.int .u16 (st k))/\Z.cell? ⟨A,19,none⟩=some (.slice (some ⟨c,0,none⟩) L i)/\Z.cell? ⟨c,x*16+k,none⟩=some (.int .u16 (tk x k))) (wr.drew.setCell ⟨W.heap.size+1+1,k,none⟩ (.int .u16 ((gon (st k) (tk x k) (P k):Nat):Int))):=v.out;refine wp_region_held (S:=fun Z=>Z.cell? ⟨W.heap.size,k,none⟩=some (.int .u16 (P k))/\Z.cell? ⟨A,3+k,none⟩=some (.int .u16 (st k))/\Z.cell? ⟨A,19,none⟩=some (.slice (some ⟨c,0,none⟩) L i)/\Z.cell? ⟨c,x*16+k,none⟩=some (.int .u16 (tk x k))) (by kernel_rfl) ?_;refine tkH 0 17 (.int .i64 k) rfl (by kernel_rfl) (fun _ _ _ h=>h) (fun Z a=>by kernel_rfl) b ?_;refine tkH 1 18 (.int .i64 k) rfl (by kernel_rfl) (fun _ _ _ h=>h) (fun Z a=>by kernel_rfl) b ?_;refine tkH 2 19 (.pointer (some ⟨W.heap.size,k,none⟩)) rfl (by kernel_rfl) (fun _ _ _ h=>h) (fun Z a => ?y2) b ?_
   case y2=>go_simp
   refine tkH 3 20 (.int .u16 (P k)) rfl (by kernel_rfl) (fun _ _ _ h=>h) (fun Z a => ?y3) b ?_
   case y3=>(have U:=a.1;go_simp)
   refine tkH 4 21 (.pointer (some ⟨A,0,none⟩)) rfl (by kernel_rfl) (fun _ _ _ h=>h) (fun Z a=>by kernel_rfl) b ?_;refine tkH 5 22 (.int .i64 k) rfl (by kernel_rfl) (fun _ _ _ h=>h) (fun Z a=>by kernel_rfl) b ?_;refine tkH 6 23 (.pointer (some ⟨A,0,none⟩)) rfl (by kernel_rfl) (fun _ _ _ h=>h) (fun Z a=>by kernel_rfl) b ?_;refine tkH 7 24 (.pointer (some ⟨A,3,none⟩)) rfl (by kernel_rfl) (fun _ _ _ h=>h) (fun Z a=>by kernel_rfl) b ?_;refine tkH 8 25 (.pointer (some ⟨A,3+k,none⟩)) rfl (by kernel_rfl) (fun _ _ _ h=>h) (fun Z a => ?y8) b ?_
   case y8=>go_simp
   refine tkH 9 26 (.int .u16 (st k)) rfl (by kernel_rfl) (fun _ _ _ h=>h) (fun Z a => ?y9) b ?_
   case y9=>(have z2:=a.2.1;go_simp)
   refine tkH 10 27 (.int .u16 ((P k &&& st k:Nat):Int)) rfl (by kernel_rfl) (fun _ _ _ h=>h) (fun Z a => ?y10) b ?_
   case y10=>go_simp
   refine tkH 11 28 (.int .i64 k) rfl (by kernel_rfl) (fun _ _ _ h=>h) (fun Z a=>by kernel_rfl) b ?_;refine tkH 12 29 (.pointer (some ⟨W.heap.size,k,none⟩)) rfl (by kernel_rfl) (fun _ _ _ h=>h) (fun Z a => ?y12) b ?_
   case y12=>go_simp
   refine tkH 13 30 (.int .u16 (P k)) rfl (by kernel_rfl) (fun _ _ _ h=>h) (fun Z a => ?y13) b ?_
   case y13=>(have U:=a.1;go_simp)
   refine tkH 14 31 (.pointer (some ⟨A,0,none⟩)) rfl (by kernel_rfl) (fun _ _ _ h=>h) (fun Z a=>by kernel_rfl) b ?_;refine tkH 15 32 (.pointer (some ⟨A,0,none⟩)) rfl (by kernel_rfl) (fun _ _ _ h=>h) (fun Z a=>by kernel_rfl) b ?_;refine tkH 16 33 (.pointer (some ⟨A,19,none⟩)) rfl (by kernel_rfl) (fun _ _ _ h=>h) (fun Z a=>by kernel_rfl) b ?_;refine tkH 17 34 (.slice (some ⟨c,0,none⟩) L i) rfl (by kernel_rfl) (fun _ _ _ h=>h) (fun Z a => ?y17) b ?_
   case y17=>(have z3:=a.2.2.1;go_simp)
   refine tkH 18 35 (.int .i64 x) rfl (by kernel_rfl) (fun _ _ _ h=>h) (fun Z a=>by kernel_rfl) b ?_;refine tkH 19 36 (.int .i64 k) rfl (by kernel_rfl) (fun _ _ _ h=>h) (fun Z a=>by kernel_rfl) b ?_;refine tkH 20 37 (.pointer (some ⟨c,x*16,none⟩)) rfl (by kernel_rfl) (fun _ _ _ h=>h) (fun Z a => ?y20) b ?_
   case y20=>go_simp
   refine tkH 21 38 (.pointer (some ⟨c,x*16+k,none⟩)) rfl (by kernel_rfl) (fun _ _ _ h=>h) (fun Z a => ?y21) b ?_
   case y21=>go_simp
   refine tkH 22 39 (.int .u16 (tk x k)) rfl (by kernel_rfl) (fun _ _ _ h=>h) (fun Z a => ?y22) b ?_
   case y22=>(have z4:=a.2.2.2;go_simp)
   refine tkH 23 40 (.int .u16 ((P k &&& tk x k:Nat):Int)) rfl (by kernel_rfl) (fun _ _ _ h=>h) (fun Z a => ?y23) b ?_
   case y23=>go_simp
   refine tkH 24 41 (.int .u16 (((P k &&& tk x k) <<< 1:Nat):Int)) rfl (by kernel_rfl) (fun _ _ _ h=>h) (fun Z a => ?y24) b ?_
   case y24=>go_simp
   refine tkH 25 42 (.int .u16 ((gon (st k) (tk x k) (P k):Nat):Int)) rfl (by kernel_rfl) (fun _ _ _ h=>h) (fun Z a => ?y25) b ?_
   case y25=>(go_simp;exact O)
   refine tkH 26 43 (.pointer (some ⟨W.heap.size+1+1,k,none⟩)) rfl (by kernel_rfl) (fun _ _ _ h=>h) (fun Z a => ?y26) b ?_
   case y26=>go_simp
   refine rdS 27 rfl (by kernel_rfl) (fun K D => ?_);go_simp;refine D.out _ _ F (fun _ => ?_);refine wpAnyH_done (by kernel_rfl) ?_ _;go_simp;go_wp2;go_roundg g
   case measure=>omega
   case rel=>exact⟨k+1,by go_num,by show _=_;have:=j.out;omega,s⟩

end
end Go.Proofs.YtcokgepdckkjdaaGreatDoor
