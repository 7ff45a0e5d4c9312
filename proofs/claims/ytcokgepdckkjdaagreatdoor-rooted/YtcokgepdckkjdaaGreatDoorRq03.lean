import Derived.RangeFuncOwn
import Derived.RangeFuncFrom
import Derived.Below
import Derived.Test.YtcokgepdckkjdaaGreatDoorRq00
set_option maxRecDepth 100000
set_option maxHeartbeats 8000000
namespace Go.Proofs.YtcokgepdckkjdaaGreatDoor
open Go.Proofs.Tryz
variable {w:World}{hi lo:Nat}
section
open Go.RowKit
structure qbV (w:World)(a:Option Addr)(B:List Int):Prop where
 at_:∀i,i<B.length->∃b off,a=some ⟨b,off,none⟩/\b<w.heap.size/\∀j (h':j<B.length),w.cell? ⟨b,off+j,none⟩=some (.int .i64 B[j])
theorem qbV.below {w':World}{a:Option Addr}{B:List Int}(h:qbV w a B)(c:Below w.heap.size w w'):qbV w' a B :=
 ⟨fun i g=>by
  obtain⟨b,off,f,d,e⟩:=h.at_ i g;exact⟨b,off,f,Nat.lt_of_lt_of_le d c.size,fun j k=>(c.cell (p:=⟨b,_,none⟩) d).trans (e j k)⟩⟩
theorem qbY {B:Nat}{a:World}(h:Below B a w)(n:Nat):Below B a (w.drewN n):=h.trans ⟨rfl,rfl,rfl,Nat.le_refl _,fun _ _=>rfl⟩
def qgK (B:List Int)(i:Nat):Int:=if i=0 then 0 else B.getD (i-1) 0
def pOk (B:List Int)(i:Nat):Bool:=decide (qgK B i<B.getD i 0/\B.getD i 0<=65536)
def rOk (B:List Int)(i:Nat):Bool:=decide (1<=B.getD i 0/\B.getD i 0<=65536/\(0<i->B.getD (i-1) 0<B.getD i 0))
def qaG (B:List Int):Bool:=decide (B.length<=8)&&(List.range B.length).all (pOk B)
def qaH (B:List Int):Bool:=(List.range B.length).all (rOk B)&&decide (B.length<=8)
theorem qm8 (B:List Int):qaG B=qaH B:=by
 unfold qaG qaH;rw[Bool.and_comm];congr 1;rw[Bool.eq_iff_iff,List.all_eq_true,List.all_eq_true];constructor
 ·intro h i c;have d:∀k,k<B.length->pOk B k=true:=fun k b=>h k (List.mem_range.2 b);have j:∀k,k<B.length->1<=B.getD k 0:=by
   intro k
   induction k with
   |zero=>intro b;have:=of_decide_eq_true (d 0 b);unfold qgK at this;simp only[if_pos] at this;omega
   |succ k g =>
    intro b;have:=of_decide_eq_true (d (k+1) b);unfold qgK at this;rw[if_neg (by omega)] at this;have:=g (by omega);simp only[Nat.add_sub_cancel] at *;omega
  have e:=List.mem_range.1 c;have a:=of_decide_eq_true (d i e);have f:=j i e;refine decide_eq_true ⟨f,a.2,fun l => ?_⟩;unfold qgK at a;rw[if_neg (by omega)] at a;exact a.1
 intro h i c;have a:=of_decide_eq_true (h i c);refine decide_eq_true ⟨?_,a.2.1⟩;unfold qgK;split
 ·omega
 exact a.2.2 (by omega)
theorem qhL (a:Option Addr)(q:Nat)(B:List Int)(t:B.length<=maxLen)(w:World)(s:qbV w a B):Calls prog 58 #[.slice a B.length q] w fun e A=>e=.returned (.bool (qaG B))/\A=w:=by
 unfold maxLen at t;have n:=qaa s;by_cases m:B.length<=8
 ·have r:¬(8:Int)<B.length:=by omega
  go_enter func58,ntmps58;go_wp2
  go_loopg [11,3,5] B.length (fun g x y z wr=>∃k:Nat,Hid (k+g=B.length)/\x=.int .i64 k/\y=.int .i64 (qgK B k)/\w=wr/\Hid (∀i,i<k->pOk B i=true))
  case atStart=>exact⟨0,by show _=_;omega,rfl,rfl,rfl,fun i h=>by omega⟩
  case round =>
   obtain⟨k,d,rfl,rfl,rfl,l⟩:=hrel
   cases gk with
   |zero =>
    have v:¬(k:Int)<B.length:=by have:=d.out;omega
    have c:Hid (qaG B=true):=by
     show _=_;unfold qaG;rw[decide_eq_true m,Bool.true_and,List.all_eq_true];exact fun i h=>l.out i (by have:=List.mem_range.1 h;have:=d.out;omega)
    go_wp2;go_ret;exact⟨by rw[c.out];rfl,rfl⟩
   |succ g =>
    have v:(k:Int)<B.length:=by have:=d.out;omega
    obtain⟨b,off,rfl,E,u⟩:=n.out.at_ k (by omega);have F:=u k (by omega);have j:Hid (B.getD k 0=B[k]):=by show _=_;rw[List.getD_eq_getElem?_getD,List.getElem?_eq_getElem (by omega)];rfl
    have o:Hid (qgK B (k+1)=B[k]):=by show _=_;unfold qgK;rw[if_neg (by omega)];exact j.out
    have f:Hid (pOk B k=decide (qgK B k<B[k]/\B[k]<=65536)):=by show _=_;unfold pOk;rw[j.out]
    generalize B[k]=x at *;generalize qgK B k=p at *;by_cases C:x<=p
    ·have c:Hid (qaG B=false):=by
      show _=_;unfold qaG;rw[Bool.and_eq_false_iff];right;rw[List.all_eq_false];exact⟨k,List.mem_range.2 (by omega),by rw[f.out,decide_eq_false (by omega)];decide⟩
     go_wp2;go_ret;exact⟨by rw[c.out];rfl,rfl⟩
    by_cases D:65536<x
    ·have c:Hid (qaG B=false):=by
      show _=_;unfold qaG;rw[Bool.and_eq_false_iff];right;rw[List.all_eq_false];exact⟨k,List.mem_range.2 (by omega),by rw[f.out,decide_eq_false (by omega)];decide⟩
     go_wp2;go_ret;exact⟨by rw[c.out];rfl,rfl⟩
    go_wp2;go_roundg g
    case measure=>omega
    case rel =>
     refine⟨k+1,by show _=_;have:=d.out;omega,by go_num,by rw[o.out],rfl,fun i h => ?_⟩;by_cases e:i=k
     ·subst e;rw[f.out];exact decide_eq_true (by omega)
     exact l.out i (by omega)
 have r:(8:Int)<B.length:=by omega
 have c:Hid (qaG B=false):=by show _=_;unfold qaG;rw[decide_eq_false m];rfl
 go_enter func58,ntmps58;go_wp2;go_ret;exact⟨by rw[c.out];rfl,rfl⟩
theorem qgD (a:Option Addr)(t:Nat)(B:List Int)(D:B.length<=maxLen)(w:World)(C:qbV w a B):Calls prog 17 #[.slice a B.length t] w fun e G=>e=.returned (.bool (qaH B))/\Below w.heap.size w G:=by
 unfold maxLen at D;have s:=qaa C;go_enter func17,ntmps17;go_wp2
 go_loopg [3] B.length (fun g x wr=>∃k:Nat,Hid (k+g=B.length)/\x=.int .i64 k/\Below w.heap.size w wr/\Hid (∀i,i<k->rOk B i=true))
 case atStart=>exact⟨0,by show _=_;omega,rfl,Below.refl _ _,fun i l=>by omega⟩
 case round =>
  obtain⟨k,h,rfl,d,m⟩:=hrel
  cases gk with
  |zero =>
   have F:¬(k:Int)<B.length:=by have:=h.out;omega
   have c:Hid (qaH B=decide ((B.length:Int)<=8)):=by
    show _=_;unfold qaH;have:(List.range B.length).all (rOk B)=true:=by
     rw[List.all_eq_true];exact fun i l=>m.out i (by have:=List.mem_range.1 l;have:=h.out;omega)
    rw[this,Bool.true_and];exact decide_eq_decide.2 (by omega)
   go_wp2;go_ret;exact⟨by rw[c.out];rfl,d⟩
  |succ g =>
   have F:(k:Int)<B.length:=by have:=h.out;omega
   obtain⟨b,off,rfl,I,q⟩:=(s.out.below d).at_ k (by omega);have E:=q k (by omega);have p:Hid (B.getD k 0=B[k]):=by show _=_;rw[List.getD_eq_getElem?_getD,List.getElem?_eq_getElem (by omega)];rfl
   have L:(0:Int)<=k:=by omega
   rcases Nat.eq_zero_or_pos k with r|r
   ·subst r;rw[Nat.add_zero] at E;have f:Hid (rOk B 0=decide (1<=B[0]/\B[0]<=65536)):=by show _=_;unfold rOk;rw[p.out];exact decide_eq_decide.2 (by omega)
    generalize B[0]=x at *;have K:decide ((0:Int)<0)=false:=rfl;by_cases n:x<1
    ·have c:Hid (qaH B=false):=by
      show _=_;unfold qaH;rw[Bool.and_eq_false_iff];left;rw[List.all_eq_false];exact⟨0,List.mem_range.2 (by omega),by rw[f.out,decide_eq_false (by omega)];decide⟩
     go_wp2
     go_quiet (fail)
     go_wp2;go_ret;exact⟨by rw[c.out];rfl,qbY d _⟩
    have v:=decide_eq_false n;by_cases o:65536<x
    ·have c:Hid (qaH B=false):=by
      show _=_;unfold qaH;rw[Bool.and_eq_false_iff];left;rw[List.all_eq_false];exact⟨0,List.mem_range.2 (by omega),by rw[f.out,decide_eq_false (by omega)];decide⟩
     go_wp2
     go_quiet (fail)
     go_wp2;go_ret;exact⟨by rw[c.out];rfl,qbY d _⟩
    have z:=decide_eq_false o;go_wp2
    go_quiet (fail)
    go_wp2;go_roundg g
    case measure=>omega
    case rel =>
     refine⟨0+1,by show _=_;have:=h.out;omega,by go_num,qbY d _,fun i l => ?_⟩;by_cases e:i=0
     ·subst e;rw[f.out];exact decide_eq_true (by omega)
     exact m.out i (by omega)
   obtain⟨j,rfl⟩:∃j,k=j+1:=⟨k-1,by omega⟩
   have J:=q j (by omega);have f:Hid (rOk B (j+1)=decide (1<=B[j+1]/\B[j+1]<=65536/\B[j]<B[j+1])):=by
    show _=_;unfold rOk;rw[p.out];have u:B.getD (j+1-1) 0=B[j]:=by rw[List.getD_eq_getElem?_getD,Nat.add_sub_cancel,List.getElem?_eq_getElem (by omega)];rfl
    rw[u];exact decide_eq_decide.2 (by omega)
   generalize B[j+1]=x at *;generalize B[j]=y at *;have M:(0:Int)<((j+1:Nat):Int):=by omega
   by_cases n:x<1
   ·have c:Hid (qaH B=false):=by
     show _=_;unfold qaH;rw[Bool.and_eq_false_iff];left;rw[List.all_eq_false];exact⟨j+1,List.mem_range.2 (by omega),by rw[f.out,decide_eq_false (by omega)];decide⟩
    go_wp2
    go_quiet (fail)
    go_wp2;go_ret;exact⟨by rw[c.out];rfl,qbY d _⟩
   have v:=decide_eq_false n;by_cases o:65536<x
   ·have c:Hid (qaH B=false):=by
     show _=_;unfold qaH;rw[Bool.and_eq_false_iff];left;rw[List.all_eq_false];exact⟨j+1,List.mem_range.2 (by omega),by rw[f.out,decide_eq_false (by omega)];decide⟩
    go_wp2
    go_quiet (fail)
    go_wp2;go_ret;exact⟨by rw[c.out];rfl,qbY d _⟩
   have z:=decide_eq_false o;by_cases A:x<=y
   ·have c:Hid (qaH B=false):=by
     show _=_;unfold qaH;rw[Bool.and_eq_false_iff];left;rw[List.all_eq_false];exact⟨j+1,List.mem_range.2 (by omega),by rw[f.out,decide_eq_false (by omega)];decide⟩
    go_wp2
    go_quiet (fail)
    go_wp2;go_ret;exact⟨by rw[c.out];rfl,qbY d _⟩
   have H:=decide_eq_false A;go_wp2
   go_quiet (fail)
   go_wp2;go_roundg g
   case measure=>omega
   case rel =>
    refine⟨j+1+1,by show _=_;have:=h.out;omega,by go_num,qbY d _,fun i l => ?_⟩;by_cases e:i=j+1
    ·subst e;rw[f.out];exact decide_eq_true (by omega)
    exact m.out i (by omega)

structure qc0 (lo hi:Nat)(W W':World):Prop where
 size:W.heap.size<=W'.heap.size
 same:∀k,lo<=k->k<hi->W'.heap[k]? = W.heap[k]?
theorem qc0.refl (lo hi:Nat)(W:World):qc0 lo hi W W:=⟨Nat.le_refl _,fun _ _ _=>rfl⟩
theorem qc0.trans {A B C:World}(h:qc0 lo hi A B)(k:qc0 lo hi B C):qc0 lo hi A C :=
 ⟨Nat.le_trans h.size k.size,fun i a b=>(k.same i a b).trans (h.same i a b)⟩
theorem qc0.put (W:World)(r:Nat)(o:Obj)(h:hi<=r):qc0 lo hi W (W.putObj r o) :=
 ⟨by simp,fun k _ a=>World.putObj_heap_other (by omega)⟩
theorem qc0.below {W W':World}(h:Below hi W W'):qc0 lo hi W W':=⟨h.size,fun k _ a=>h.block k a⟩
def qiu {β:Type}(st:Nat)(I:β->World->Prop):Prop:=∀s W W',I s W->W.grownBy W' (some st)->I s W'
def qme {β:Type}(B:Nat)(I:β->World->Prop):Prop:=∀s W k (o o':Obj),I s W->B<=k->W.heap[k]? = some o->o.isCells=false->I s (W.putObj k o')
def qw1 {α:Type}(F:Fence)(n:Nat)(P:Program)(g:Nat)(lb:Array Value)(encs:α->Array Value)(lo hi st:Nat)(S Sp:List α->Prop)(w:World):Prop :=
 ∀(l:Nat) (J Jx:List α->World->Prop) (W:World),Below w.heap.size w W->qiu st J->qiu st Jx ->
  (∀pre x W1,J pre W1->YieldAt F (n-1) P l (encs x) W1 fun e W' =>
   (e=.returned (.bool true)/\J (pre++[x]) W'/\qc0 lo hi W1 W')\/(e=.returned (.bool false)/\Jx (pre++[x]) W')) ->
  J [] W ->
  CallsIn F n P g (#[.func (.yield l) #[] #[]]++lb) W fun e W'=>(∃v,e=.returned v)/\((∃xs,S xs/\J xs W')\/(∃pre,Sp pre/\Jx pre W'))
def qvA {α:Type}(lo hi:Nat)(I:List α->World->Prop)(Ix:Code->List α->World->Prop)(xs:List α)(W:World)(e:Exit)(_:Act)(W':World):Prop :=
 match e with
 |.normal=>KeepsOthers W W'/\qc0 lo hi W W'/\I xs W'
 |.ret=>KeepsOthers W W'/\Ix .ret xs W'
 |.exit id=>KeepsOthers W W'/\Ix (.exit id) xs W'
 |_=>False
variable {F:Fence} {n:Nat} {P:Program}
theorem qc6 {α:Type}{g:Operand}{ps:Array Tmp}{assign body:Code}{Q:Exit->Act->World->Prop}{a:Act}(ak:F.round=none)(h1:1<=n){gf:Nat}{lb:Array Value}(hg:a.eval g=.func (.func gf) #[] lb)(ab:F.fn gf)(eg:∀args w,(callFunc gf args).run P w=.ok (.enter gf args) w){encs:α->Array Value}{st:Nat}(aq:st<w.heap.size)(ap:hi<=w.heap.size){S Sp:List α->Prop}{w0:World}(al:qw1 F (n-1) P gf lb encs lo hi st S Sp w0)(U:Below w0.heap.size w0 w)(aj:∀x,(encs x).size=ps.size)(I:List α->World->Prop)(z:Code->List α->World->Prop)(T:qiu st I)(ac:∀c,qiu st (z c))(J:qme w.heap.size I)(L:∀c,qme w.heap.size (z c))(h0:I [] w)(O:α->Act)(ae:∀(l:Nat) (x:α) (W:World) (K:Act->World->Prop),K (O x) W ->
   assign.wpIn (F.inRound l) (n-1-1) P (Exit.then K (fun _ _ _=>False)) {tmps:=(ps.zip (encs x)).foldl (fun ao (p,v)=>ao.setIfInBounds p v) a.tmps,defers:=[]} W)(af:∀(l:Nat) (pre:List α) (x:α) (W:World),I pre W->w.heap.size<W.heap.size->body.wpIn (F.inRound l) (n-1-1) P (qvA lo hi I z (pre++[x]) W) (O x) W)(ag:∀(D:Nat) (H:List α) (W:World),w.heap.size<=D->S H->I H W->W.heap[D]? = some (.deferred (some []))->Q .normal {a with defers:={target:=.collected D,args:=#[]}::a.defers} W)(am:∀(D:Nat) (c:Code) (pre:List α) (W:World),w.heap.size<=D->Sp pre->z c pre W->W.heap[D]? = some (.deferred (some []))->c.wpIn F n P Q {a with defers:={target:=.collected D,args:=#[]}::a.defers} W):(Code.rangeFunc g ps assign body).wpIn F n P Q a w:=by
 refine wpIn_rangeFunc fun fn ah => ?_;rw[ak];generalize hD:w.heap.size=D at *;obtain⟨b,u⟩:∃b:LoopState->Option Code->Loop,b=fun s p=>{state:=s,pending:=p,fn,tmps:=a.tmps,params:=ps,assign,body,defers:=D}:=⟨_,rfl⟩
 have M:=run_enterLoop_outer (P:=P) (w:=w) fn a.tmps ps assign body;rw[hD] at M;have aa:(w.alloc (.deferred (some []))).alloc (.loop {state:=.ready,pending:=none,fn,tmps:=a.tmps,params:=ps,assign,body,defers:=D})=(w.alloc (.deferred (some []))).alloc (.loop (b .ready none)):=by rw[u]
 rw[aa] at M;have R:Below D w ((w.alloc (.deferred (some []))).alloc (.loop (b .ready none))):=by
  rw[<-hD];exact((Below.refl _ w).alloc (Nat.le_refl _) _).alloc (by simp) _
 have l1:((w.alloc (.deferred (some []))).alloc (.loop (b .ready none))).heap[D+1]? = some (.loop (b .ready none)):=by
  have:=World.alloc_heap_new (w.alloc (.deferred (some []))) (.loop (b .ready none));rwa [World.size_alloc,hD] at this
 have d1:((w.alloc (.deferred (some []))).alloc (.loop (b .ready none))).heap[D]? = some (.deferred (some [])):=by
  have:=World.alloc_heap_new w (.deferred (some []));rw[hD] at this;exact(Below.heap_alloc _ _ _ (by simp;omega)).trans this
 have i1:I [] ((w.alloc (.deferred (some []))).alloc (.loop (b .ready none))):=by
  refine T _ w _ h0 ⟨rfl,rfl,rfl,by simp;omega,fun k m _ => ?_⟩;exact R.block k (by omega)
 generalize (w.alloc (.deferred (some []))).alloc (.loop (b .ready none))=W1 at *;refine⟨D+1,[{target:=.collected D,args:=#[]}],W1,{target:=.fn (.func gf) lb,args:=#[.func (.yield (D+1)) #[] #[]]},W1,gf,#[.func (.yield (D+1)) #[] #[]]++lb,W1,M,?_,?_,?_,fun _=>h1,?_⟩
 ·simp only[resolve,hg];simp[go_sem]
 ·intro f' V;simp[Target.leads] at V;subst V;exact ab
 ·simp[invoke,go_sem,eg]
 have keep:∀{A B:World} {k:Nat} {o:Obj},D<=k->A.grownBy B (some st)->A.heap[k]? = some o->B.heap[k]? = some o:=by
  intro A B k o m q X;exact(q.block k (ltA X) (by simp;omega)).trans X
 refine(al (D+1) (fun pre W=>I pre W/\W.heap[D+1]? = some (.loop (b .ready none))/\W.heap[D]? = some (.deferred (some [])))
  (fun pre W=>∃c,z c pre W/\W.heap[D+1]? = some (.loop (b .done (some c)))/\W.heap[D]? = some (.deferred (some [])))
  W1 (U.trans (R.mono (by have:=U.size;omega))) (fun s A B h q=>⟨T s A B h.1 q,keep (by omega) q h.2.1,keep (Nat.le_refl _) q h.2.2⟩)
  (fun s A B h q=>by
   obtain⟨c,hc,f,y⟩:=h;exact⟨c,ac c s A B hc q,keep (by omega) q f,keep (Nat.le_refl _) q y⟩) ?_ ⟨i1,l1,d1⟩).mono ?_
 ·rintro pre x W ⟨E,f,y⟩;have ai:D+1<W.heap.size:=ltA f;have Y:=run_yield (P:=P) (args:=encs x) f (by rw[u];exact aj x);rw[u] at Y;refine⟨fn,_,assign,body,Y,roundIn_of_wpIn ah (ae _ x W _ ⟨_,run_beginRound f (by rw[u]),?_⟩)⟩;generalize hWb:W.putObj (D+1) (.loop {b .ready none with state:=.busy})=Wb;have Z:Wb.heap[D+1]? = some (.loop {b .ready none with state:=.busy}):=by rw[<-hWb];exact World.putObj_heap_same ai
  have t:Wb.heap[D]? = some (.deferred (some [])):=by rw[<-hWb];exact(World.putObj_heap_other (by omega)).trans y
  have an:I pre Wb:=by rw[<-hWb];exact J pre W (D+1) _ _ E (by omega) f rfl
  have kW:qc0 lo hi W Wb:=by rw[<-hWb];exact qc0.put W (D+1) _ (by omega)
  refine wpIn_mono (af _ pre x Wb an (by have:=ltA Z;omega)) ?_;have fin:∀(i:Option Code) (d:World),KeepsOthers Wb d ->
    (Instr.endRound (D+1) i).run P d=.ok (.bool i.isNone) (d.putObj (D+1) (.loop (b (if i.isNone then .ready else .done) i)))/\d.heap[D+1]? = some (.loop {b .ready none with state:=.busy}) /\
    (d.putObj (D+1) (.loop (b (if i.isNone then .ready else .done) i))).heap[D+1]? = some (.loop (b (if i.isNone then .ready else .done) i)) /\
    (d.putObj (D+1) (.loop (b (if i.isNone then .ready else .done) i))).heap[D]? = some (.deferred (some [])):=by
   intro i d m;have r:=m.same _ _ Z rfl;refine⟨?_,r,World.putObj_heap_same (ltA r),(World.putObj_heap_other (by omega)).trans (m.same _ _ t rfl)⟩;have:=run_endRound (P:=P) i r;rw[u] at this ⊢;exact this
  intro e a3 d hp
  match e,hp with
  |.normal,⟨m,hr,hi3⟩ =>
   obtain⟨j,r,G,C⟩:=fin none d m;exact⟨_,_,j,.inl ⟨rfl,⟨J _ d (D+1) _ _ hi3 (by omega) r rfl,G,C⟩,(kW.trans hr).trans (qc0.put d (D+1) _ (by omega))⟩⟩
  |.ret,⟨m,hi3⟩ =>
   obtain⟨j,r,G,C⟩:=fin (some .ret) d m;exact⟨_,_,j,.inr ⟨rfl,.ret,L _ _ d (D+1) _ _ hi3 (by omega) r rfl,G,C⟩⟩
  |.exit id,⟨m,hi3⟩ =>
   obtain⟨j,r,G,C⟩:=fin (some (.exit id)) d m;exact⟨_,_,j,.inr ⟨rfl,.exit id,L _ _ d (D+1) _ _ hi3 (by omega) r rfl,G,C⟩⟩
 rintro e N ⟨⟨v,rfl⟩,h⟩;rcases h with ⟨H,hS,E,f,y⟩|⟨pre,ad,c,E,f,y⟩
 ·have j:=run_endLoop (P:=P) f (by rw[u];simp);rw[u] at j;exact⟨none,_,j,ag D H _ (Nat.le_refl _) hS (J _ N (D+1) _ _ E (by omega) f rfl) ((World.putObj_heap_other (by omega)).trans y)⟩
 have j:=run_endLoop (P:=P) f (by rw[u];simp);rw[u] at j;exact⟨some c,_,j,am D c pre _ (Nat.le_refl _) ad (L c _ N (D+1) _ _ E (by omega) f rfl) ((World.putObj_heap_other (by omega)).trans y)⟩

end
end Go.Proofs.YtcokgepdckkjdaaGreatDoor
