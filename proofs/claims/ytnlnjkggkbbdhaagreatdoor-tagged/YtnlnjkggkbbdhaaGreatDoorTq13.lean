import Derived.Test.YtnlnjkggkbbdhaaGreatDoorTq10
set_option maxRecDepth 100000
set_option maxHeartbeats 8000000
set_option linter.all false
namespace Go.Proofs.YtnlnjkggkbbdhaaGreatDoor
open Go.Proofs.Tryz
open Go.Value renaming int->I,slice->G
open Option renaming some->U,none->Y
open Go.IntKind renaming i64->K
open Go renaming World->O
open Go.Obj renaming cells->E
open Go.Proofs.Tryz renaming prog->X
open Go.Value renaming pointer->A8,tuple->Aa,bool->Ac
open Go renaming Value->Al
variable{V W W' W0 w w' w2 w5 wr:O}{base m mn n size:Nat}{sv v v':Al}{xs ys:List Al}{A:A3}{P:Program}{o:Oper}{a:Act}{Q:Exit->Act->O->Prop}{q:Cs}{sts:List ((Nat->Nat)×Int×Int)}{f mf nf:Lit->Option Nat}{pre:List Dk}
section
open Go.RowKit
def Ic(n:Nat):List A1->Nat->Int
 |[],_=>-1
 |p::q,i=>if CG n p=true/\i<16 then Ic n q (i+1)else i
def Dc(n:Nat)(l:A1):Int:=if 2000<l.length then 0 else if l.length=0 then -1 else Ic n (Cn 10 l) 0
def Tryz.infoRule:(prog.info? 112).map (λi=>(i.zero,i.size,i.bytes))=U (U (.agg Db),3,40):=M
def Uh(w:O)(cs:A3)(t:TypeId):∀(j:Nat) (u:Al),cs.toList[j]?=U u->(w.alloc (E cs t)).cell? ((⟨w.heap.size,0,Y⟩:Addr).add j)=U u:=λj u a=>by
 rw[MA,DY,F7 _ _ _ _ _ _ (BI _ _)];simpa using a
def Ui{e:TypeId}(h:W.ownsRow base e size v n xs)(m:∀i,i<W.heap.size->W'.heap[i]?=W.heap[i]?):W'.ownsRow base e size v n xs:=by
 obtain⟨l,f⟩:=h;refine⟨l,?_⟩;rcases f with f|⟨g,j,k,a,b,c,d⟩
 ·exact Nu f
 exact Jh ⟨g,j,k,a,b,(m g (BC c)).trans c,d⟩
structure Rj(w2 wr:World)(N:Nat)(A:A3)(W:World):Prop where
 below:A0 w2 W
 same:∀i,i<wr.heap.size->W.heap[i]?=wr.heap[i]?
 row:W.heap[N]?=some (.cells A 112)
 lo:wr.heap.size<=N
def mI(h:A0 w2 wr)(a:Below wr.heap.size wr.drew w'):Rj w2 wr w'.heap.size A (w'.alloc (E A 112)):=by
 have b:=h.size;have c:wr.heap.size<=w'.heap.size:=a.size;refine⟨(h.drew.trans (a.mono b)).alloc J _,λi d=>?_,BI _ _,c⟩;rw[BT _ _ _ J];exact a.block _ d
def mJ(h:A0 w2 wr)(a:Below (wr.heap.size+1) (wr.alloc (E Db 112)).drew w'):Rj w2 wr wr.heap.size A (w'.setRow wr.heap.size A):=by
 have b:=h.size;refine⟨CF (((h.alloc b _).drew).trans (a.mono J)) b _,λi c=>?_,Ca _ _ Db _ _ _ ((a.block _ J).trans (BI _ _)),BM _⟩;rw[CQ _ _ _ _ J,a.block _ J];exact BT _ _ _ c
def mK{ev:Operand->Al}(a:TypeId)(x:Operand)(f:o.op=.load a x)(g:Nat)(i:ev x=A8 (U ⟨g,0,Y⟩))(t:TypeId)(cs:A3)(b:Nat×Nat)(d:TypeDesc)(e:W.heap[g]?=U (E cs t b))(h:P.underlying a=U d)(c:(match d with|.struct _|.array _ _=>true|_=>false)=true)(hi:(P.info? a).map (·.size)=U cs.size):(execOp ev o).run P W=.ok (.value (.agg cs)) W:=by
 unfold execOp;simp only[f,i,Instr.loadAt,Instr.sureAddr,Ei,Fq,EA,I5 W g t a cs b d e h c hi]
def mL(c:BX)(n:Nat)(hn:c.labels=n)(w:World):Calls prog 26 #[.agg c.arr] w λe A =>
   ∃ai ap j,e=.returned (.tuple #[.slice ai ap j,.int .i64 (Dc n c.pol.data.toList)])/\Below w.heap.size w A:=by
 have hl:c.pol.data.toList.length=c.pol.size:=ES;have f3:c.arr[3]?=some (.string c.pol):=rfl;have a3:Hid (c.arr[0]?=some (.int .i64 n)):=by show _=_;rw[<-hn];rfl
 obtain⟨i0,hi,a0,a1,a2⟩:=DZ Tryz.infoRule;by_cases bd:(2000:Int)<c.pol.size
 ·have L:Hid (Dc n c.pol.data.toList=0):=by show _=_;unfold Dc;rw[BA J]
  go_enter func26,ntmps26;go_wp2
  go_ret2
  first|exact⟨_,_,_,kf2,BN⟩|exact⟨⟨_,_,_,kf2⟩,BN⟩
 cases he:(c.pol.toList==[])
 ·have a9:c.pol.size≠0:=by
   intro h;have:c.pol.toList=[]:=by rw[Ga];exact J9 J
   rw[this]at he;exact absurd he Ay
  have L:Hid (Dc n c.pol.data.toList=Ic n (Cn 10 c.pol.data.toList) 0):=by show _=_;unfold Dc;rw[Bz J,Bz J]
  have ax:c.pol.size<=100000:=J
  go_enter func26,ntmps26;have T1:True:=trivial
  go_wp2_with(first
   |(go_at_call 43;clear T1;refine(Uf c.pol 10 10 Z _ ax).mono ?_;rintro e H ⟨v,u,rfl,HO,a,m⟩;obtain⟨g,j,rfl,hg,a7,aw⟩:=Re HO (Rf m)))
  have bb:w.heap.size<H.heap.size:=by have:=a.size;simp only[BU,A0]at this;omega
  have a5:Hid (H.heap[w.heap.size]?=some (.cells c.arr 25)):=(a.block _ Az).trans (BI _ _);have HX:Hid (∀ag,H.cell? ⟨w.heap.size,ag,none⟩=c.arr[ag]?):=λag=>BB ((a.block _ Az).trans (BI _ _)) ag;have ar:=T aw;have a4:Hid (Dc n c.pol.data.toList=Ic n (u.map (·.data.toList)) 0):=by show _=_;rw[L.out,m]
  have F:=T ((BN).trans (a.mono Az));have av:Hid (∀p,p∈u->p.size<=100000):=λp Q=>by
   have:=MR 10 c.pol.data.toList p.data.toList (by rw[<-m];exact SC Q);have h4:p.data.toList.length=p.size:=ES;omega
  have bf:u.length<=100001:=by
   have h1:=congrArg List.length m;have h2:=Ug 10 c.pol.data.toList;rw[Eo]at h1;omega
  have be:w.heap.size<g:=by simp only[BU,A0]at hg;omega
  clear a HO aw m L hg
  go_loopg[4,6] u.length (λgk v ac wr=>∃(k:Nat) (xs:List Value) (ao:Option Addr) (cv:Nat),Hid (k+gk=u.length)/\v=.slice ao k cv/\ac=.int .i64 k/\Hid (wr.ownsRow H.heap.size 112 3 v k xs)/\Hid (Below H.heap.size H wr)/\Hid (Dc n c.pol.data.toList=Ic n ((u.map (·.data.toList)).drop k) k))
  case atStart=>exact⟨0,[],none,0,AD,rfl,rfl,FQ _ _ _ _,C5 _ _,a4.out⟩
  case round =>
   obtain⟨k,xs,ao,cv,hk,rfl,rfl,au,P,HL⟩:=hrel;have bg:=P.out.size
   cases gk with
   |zero =>
    have a8:¬(k:Int)<u.length:=Ao hk.out
    have d:Hid (Dc n c.pol.data.toList = -1):=by
     show _=_;rw[HL.out,K9 (by rw[Eo];have:=hk.out;omega)];rfl
    go_wp2
    go_ret2
    first|exact⟨_,_,_,Bc,F.out.trans (P.out.mono J)⟩|exact⟨⟨_,_,_,Bc⟩,F.out.trans (P.out.mono J)⟩
   |succ gg =>
    have a8:(k:Int)<u.length:=Ao hk.out
    have al:k<u.length:=J
    have R:=(P.out.cell (p:=⟨g,k,none⟩) a7).trans (ar.out k al);have ad:=(P.out.block _ bb).trans a5.out;have n1:=World.new_ne wr _ R;have ab:w.heap.size<wr.heap.size:=J
    have az:g<wr.heap.size:=J
    obtain⟨p,Q⟩:∃p,p=u[k]:=⟨_,rfl⟩
    have HP:=T Q;rw[<-Q]at R;have cR:∀W,Calls prog 44 #[.agg c.arr,.string p] W λe A=>∃ai ap j ac bc,e=.returned (.tuple #[.agg (F4 ai ap j ac bc),.bool (CG n p.data.toList)])/\Below W.heap.size W A:=λW=>mH c.arr n a3.out Z p W (by rw[Q];exact av.out u[k] (Kd al));have V:Hid (Dc n c.pol.data.toList=if CG n p.data.toList=true/\k<16 then Ic n ((u.map (·.data.toList)).drop (k+1)) (k+1)else(k:Int)):=by
     show _=_;rw[HL.out,G7 (by rw[Eo];exact al),Ic,Qg,<-Q]
    clear Q hl f3 he a9 ax HX ar av HL;go_wp2;refine Ec (S:=λW=>W.heap[w.heap.size]?=some (.cells c.arr 25)/\W.cell? ⟨g,k,none⟩=some (.string p)) M ?_;have hS:(λW:World=>W.heap[w.heap.size]?=some (.cells c.arr 25)/\W.cell? ⟨g,k,none⟩=some (.string p)) {wr with drawn:=wr.drawn+1}:=⟨ad,R⟩
    refine D3 (i:=0) (v:=.agg c.arr) Z M M M (λ_ _ _ h=>h) (.inl ⟨Z,λW z=>mK 25 (.tmp 1) Z w.heap.size Z _ _ _ _ z.1 underlying25 Z (El Z)⟩) hS ?_;refine D3 (i:=1) (v:=.slice (some ⟨g,0,none⟩) u.length j) Z M M M (λ_ _ _ h=>h) (.inl ⟨Z,λW z=>rfl⟩) hS ?_;refine D3 (i:=2) (v:=.int .i64 k) Z M M M (λ_ _ _ h=>h) (.inl ⟨Z,λW z=>rfl⟩) hS ?_;refine D3 (i:=3) (v:=.pointer (some ⟨g,k,none⟩)) Z M M M (λ_ _ _ h=>h) (.inl ⟨Z,λW z=>?y3⟩) hS ?_
    case y3=>go_simp
    refine D3 (i:=4) (v:=.string p) Z M M M (λ_ _ _ h=>h) (.inl ⟨Z,λW z=>?y4⟩) hS ?_
    case y4=>(have h2:=z.2;go_simp)
    refine Hq 5 9 (λx f=>?_) (λx f=>?_)
    ·go_simp;refine(cR _).mono ?_;rintro e A ⟨l,r,o,s,t,rfl,y⟩;simp only[];refine f.out _ _ ⟨(y.block _ ab).trans ad,(y.cell (p:=⟨g,k,none⟩) az).trans R⟩ (λB=>?_);clear f;refine D3 (i:=6) Z M M M (λ_ _ _ h=>h) (.inl ⟨Z,λW z=>rfl⟩) B ?_;refine D3 (i:=7) (v:=.agg (F4 l r o s t)) Z M M M (λ_ _ _ h=>h) (.inl ⟨Z,λW z=>rfl⟩) B ?_;refine D3 (i:=8) (v:=.bool (CG n p.data.toList)) Z M M M (λ_ _ _ h=>h) (.inl ⟨Z,λW z=>rfl⟩) B ?_;have ay:=y.size;refine C9 9 (λx f=>?_);go_simp;refine f.out _ _ ⟨(BT _ _ _ (CA ab ay)).trans B.1,(Df _ _ _ (by rw[B.2];rfl)).trans B.2⟩ (λaf=>?_);clear f;refine C9 10 (λx f=>?_);rw[BA Bk];refine Hp 112 _ _ Z A.heap.size (F4 l r o s t) Z Z 112 Db (BI A _) Lg Z (MS _ _ _ _ _) ?_;rw[FP];refine f.out _ _ ⟨(BT _ _ _ (CA ab ay)).trans B.1,(Df _ _ _ (by rw[B.2];rfl)).trans B.2⟩ (λaj=>?_);clear f;refine D3 (i:=11) (v:=.bool (CG n p.data.toList)) Z M M M (λ_ _ _ h=>h) (.inl ⟨Z,λW z=>rfl⟩) aj ?_;refine Cv ?_;have b:Hid (Rj H wr A.heap.size (F4 l r o s t) (A.alloc (.cells (F4 l r o s t) 112))):=mI P.out y;generalize A.alloc (.cells (F4 l r o s t) 112)=W4 at *;generalize A.heap.size=N at *;cases e1:CG n p.data.toList
     ·have d:Hid (Dc n c.pol.data.toList=k):=by show _=_;rw[V.out,Bz (by rw[e1];simp)]
      go_wp2
      go_ret2
      first|exact⟨_,_,_,Bc,F.out.trans (b.out.below.mono J)⟩|exact⟨⟨_,_,_,Bc⟩,F.out.trans (b.out.below.mono J)⟩
     by_cases a6:(16:Int)<=k
     ·have d:Hid (Dc n c.pol.data.toList=k):=by show _=_;rw[V.out,Bz J]
      go_wp2
      go_ret2
      first|exact⟨_,_,_,Bc,F.out.trans (b.out.below.mono J)⟩|exact⟨⟨_,_,_,Bc⟩,F.out.trans (b.out.below.mono J)⟩
     have d:Hid (Dc n c.pol.data.toList=Ic n ((u.map (·.data.toList)).drop (k+1)) (k+1)):=by show _=_;rw[V.out,BA ⟨e1,J⟩]
     have q:=T (Ui au.out b.out.same);have am:=b.out.below.size;have ah:Hid (W4.heap[N]?=some (.cells #[.slice l r o,.int .i64 s,.int .i64 t] 112)):=b.out.row
     go_wp2_with(first
      |(refine C8 Z 112 _ Z _ Z _ _ _ _ ah.out underlying112 Z Lg ?_)
      |(at_builtin;refine JG _ Z _ _ 69 Z H.heap.size 112 i0 (.agg Db) 3 40 underlying69 hi a0 a1 a2 Z Ay _ _ _ Z (q.out.alloc _) ⟨W4.heap.size,0,none⟩ 1 1 [.slice l r o,.int .i64 s,.int .i64 t] Z Z (Uh _ _ _) (λac hx=>Bl) AC J Ax ?_;intro v' w5 aa ak ba))
     go_roundg gg
     case measure=>omega
     case rel =>
      obtain⟨D,C,an⟩:∃D C,v'=.slice (some ⟨D,0,none⟩) (k+1) C:=by
       rcases aa.2 with⟨_,h⟩|⟨D,C,_,h,_⟩
       ·omega
       exact⟨D,C,h⟩
      exact⟨k+1,xs++[Value.slice l r o,Value.int .i64 s,Value.int .i64 t],some ⟨D,0,none⟩,C,Ap hk.out,an,AE,keU,(b.out.below.alloc am _).grown ak Ax (λaq hq=>(q.out.lt aq hq).1),d.out⟩
    go_simp;refine f.out _ _ ⟨(BT _ _ _ ab).trans ad,(Df _ _ _ (by rw[R];rfl)).trans R⟩ (λB=>?_);clear f;refine C9 5 (λx f=>?_);go_simp;refine(cR _).mono ?_;rintro e A ⟨l,r,o,s,t,rfl,y⟩;simp only[];have ae:Below (wr.heap.size+1) (wr.alloc (.cells Db 112)).drew A:=by have:=y;simp only[BU,World.drew,A0]at this;exact this
    refine f.out _ _ ⟨(ae.block _ J).trans B.1,(ae.cell (p:=⟨g,k,none⟩) (show g<_ by omega)).trans B.2⟩ (λaf=>?_);clear f;refine D3 (i:=6) Z M M M (λ_ _ _ h=>h) (.inl ⟨Z,λW z=>rfl⟩) af ?_;refine D3 (i:=7) (v:=.agg (F4 l r o s t)) Z M M M (λ_ _ _ h=>h) (.inl ⟨Z,λW z=>rfl⟩) af ?_;refine D3 (i:=8) (v:=.bool (CG n p.data.toList)) Z M M M (λ_ _ _ h=>h) (.inl ⟨Z,λW z=>rfl⟩) af ?_;refine C9 10 (λx f=>?_);rw[BA Bk];refine Hp 112 _ _ Z wr.heap.size (F4 l r o s t) Z Z 112 Db ((ae.block _ J).trans (BI wr _)) Lg Z (MS _ _ _ _ _) ?_;have b:Hid (Rj H wr wr.heap.size (F4 l r o s t) (A.setRow wr.heap.size (F4 l r o s t))):=mJ P.out ae;refine f.out _ _ ⟨(b.out.same _ ab).trans ad,(Im (w:=wr) (b.out.same g az)).trans R⟩ (λaj=>?_);clear f;refine D3 (i:=11) (v:=.bool (CG n p.data.toList)) Z M M M (λ_ _ _ h=>h) (.inl ⟨Z,λW z=>rfl⟩) aj ?_;refine Cv ?_;generalize A.setRow wr.heap.size (F4 l r o s t)=W4 at *;cases e1:CG n p.data.toList
    ·have d:Hid (Dc n c.pol.data.toList=k):=by show _=_;rw[V.out,Bz (by rw[e1];simp)]
     go_wp2
     go_ret2
     first|exact⟨_,_,_,Bc,F.out.trans (b.out.below.mono J)⟩|exact⟨⟨_,_,_,Bc⟩,F.out.trans (b.out.below.mono J)⟩
    by_cases a6:(16:Int)<=k
    ·have d:Hid (Dc n c.pol.data.toList=k):=by show _=_;rw[V.out,Bz J]
     go_wp2
     go_ret2
     first|exact⟨_,_,_,Bc,F.out.trans (b.out.below.mono J)⟩|exact⟨⟨_,_,_,Bc⟩,F.out.trans (b.out.below.mono J)⟩
    have d:Hid (Dc n c.pol.data.toList=Ic n ((u.map (·.data.toList)).drop (k+1)) (k+1)):=by show _=_;rw[V.out,BA ⟨e1,J⟩]
    have q:=T (Ui au.out b.out.same);have am:=b.out.below.size;have ah:Hid (W4.heap[wr.heap.size]?=some (.cells #[.slice l r o,.int .i64 s,.int .i64 t] 112)):=b.out.row
    go_wp2_with(first
     |(refine C8 Z 112 _ Z _ Z _ _ _ _ ah.out underlying112 Z Lg ?_)
     |(at_builtin;refine JG _ Z _ _ 69 Z H.heap.size 112 i0 (.agg Db) 3 40 underlying69 hi a0 a1 a2 Z Ay _ _ _ Z (q.out.alloc _) ⟨W4.heap.size,0,none⟩ 1 1 [.slice l r o,.int .i64 s,.int .i64 t] Z Z (Uh _ _ _) (λac hx=>Bl) AC J Ax ?_;intro v' w5 aa ak ba))
    go_roundg gg
    case measure=>omega
    case rel =>
     obtain⟨D,C,an⟩:∃D C,v'=.slice (some ⟨D,0,none⟩) (k+1) C:=by
      rcases aa.2 with⟨_,h⟩|⟨D,C,_,h,_⟩
      ·omega
      exact⟨D,C,h⟩
     exact⟨k+1,xs++[Value.slice l r o,Value.int .i64 s,Value.int .i64 t],some ⟨D,0,none⟩,C,Ap hk.out,an,AE,keU,(b.out.below.alloc am _).grown ak Ax (λaq hq=>(q.out.lt aq hq).1),d.out⟩
 have L:Hid (Dc n c.pol.data.toList = -1):=by
  show _=_;have h0:c.pol.data.toList=[]:=by rw[<-Ga];exact Mw he
  unfold Dc;rw[h0];rfl
 go_enter func26,ntmps26;go_wp2
 go_ret2
 first|exact⟨_,_,_,kf2,BN⟩|exact⟨⟨_,_,_,kf2⟩,BN⟩
def DG(Y:Nat->Nat)(x:Int×Int):A3:=BR Y++#[.int .i64 x.1,.int .i64 x.2]
def Kw{c:Prop}[Decidable c]{A B:Prop}(h:c)(a:A):if c then A else B:=by rw[BA h];exact a
def n9(a:Nat->Nat)(x:Int×Int)(V:O):(Instr.buildSlice 134 1 #[(0,.agg (DG a x))]).run X V=.ok (G (U ⟨V.heap.size,0,Y⟩) 1 1) (V.alloc (E (DG a x) 188)):=M
def Zb{K:Act->O->Prop}(x:Operand)(c:o.op=.buildSlice 134 1 #[(0,x)])(b:Nat->Nat)(z:Int×Int)(d:a.eval x=.agg (DG b z))(h:K (a.put o.dst (G (U ⟨w.heap.size,0,Y⟩) 1 1)) (w.alloc (E (DG b z) 188))):o.wp X a w K Q:=by
 have e:(#[(0,x)].map λ(i,y)=>(i,a.eval y))=#[((0:Nat),Value.agg (DG b z))]:=by simp[d]
 unfold Oper.wp execOp;simp only[c,Ei,e,n9,EA];exact h
def Zc{K:Act->O->Prop}(s x:Operand)(t:TypeId)(L:o.op=.call {callee:=.builtin .append,args:=#[s,x],argTypes:=#[t,t]})(g:Nat)(e:TypeId)(i:TypeInfo)(z:Al)(size l:Nat)(ht:P.underlying t=U (.slice e))(hi:P.info? e=U i)(hz:i.zero=U z)(V:i.size=size)(C:i.bytes=l)(aa:z.cells.size=size)(W:0<size)(v:Al)(n:Nat)(xs:List Al)(S:a.eval s=v)(N:w.ownsRow g e size v n xs)(k:Addr)(m c:Nat)(d:List Al)(hx:a.eval x=G (U k) m c)(F:d.length=m*size)(H:∀j u,d[j]?=U u->w.cell? (k.add j)=U u)(p:∀u∈d,u.oneCell'=true)(A:n+m<=maxLen)(D:(n+m)*l<=140737488355328)(B:g<=w.heap.size)(h:∀b f,f.ownsRow g e size b (n+m) (xs++d)->w.grownBy f v.ownBlock->(b.ownBlock=v.ownBlock\/b.ownBlock=U w.heap.size)->K (a.put o.dst b) f):o.wp P a w K Q:=by
 obtain⟨b,f,R,q,r,_,y⟩:=run_append_own_at (P:=P) w g t o.type e i z size l ht hi hz V C aa W v n xs N k m c d F H p A D B;unfold Oper.wp execOp;simp only[L,resolve,invoke,builtin,Ei,Fq,EA,Nl,EU,Je,S,hx,R];exact h b f q r y
def Pj{e:TypeId}(d:W.ownsRow base e size v n xs){g:Nat}(h:v.ownBlock=U g):g<W.heap.size:=by
 rcases d.2 with⟨a,_⟩|⟨b,f,i,a,_,c,_⟩
 ·subst a;cases h
 subst a;have e:b=g:=by simpa[Value.ownBlock]using h
 subst e;exact BC c
def Tryz.infoSt:(prog.info? 188).map (λi=>(i.zero,i.size,i.bytes))=U (U (.agg (DG Da (0,0))),18,48):=M
def Zd(b:Nat->Nat)(x:Int×Int):∀u∈(DG b x).toList,u.oneCell'=true:=by
 intro u a;simp[DG,BR]at a;rcases a with⟨i,_,rfl⟩|rfl|rfl<;>rfl
def CZ.next{A:Nat}(h:CZ W0 A q sts sv nf mn mf W)(hb:A0 W W'):CZ W0 A q sts sv nf mn mf W':=by
 have a:W.grownBy W' Y:=⟨hb.os,hb.tape,hb.output,hb.size,λi b _=>hb.block i b⟩
 obtain⟨d,c,e⟩:=h.takes;exact{h with
  row:=(hb.block _ (BC h.row)).trans h.row
  below:=h.below.trans (hb.mono h.below.size)
  letters:=h.letters.kept a Az
  takes:=⟨d,(hb.block _ (BC c)).trans c,e⟩
  states:=Ui h.states (λi b=>hb.block i b)
  numbers:=h.numbers.kept a Az
  moves:=h.moves.kept a Az}
def na(c:List ((Nat->Nat)×Int×Int))(b:Nat->Nat)(a:Int×Int):(c++[(b,a)]).flatMap Ld=c.flatMap Ld++(DG b a).toList:=by
 simp[Ld,DG]
def nc(q:Cs)(b a:Al):(Ph q b).setIfInBounds 20 a=Ph q a:=rfl
def Dv.cell{kt:TypeId}(h:Dv W kt m n f)(A j:Nat)(v:Al)(c:m≠A):Dv (W.setCell ⟨A,j,Y⟩ v) kt m n f:=by
 obtain⟨D,a,b⟩:=h;exact⟨D,a.setCell Be v,b⟩
def Dv.drew{kt:TypeId}(h:Dv W kt m n f):Dv W.drew kt m n f:=h
def Pk{e:TypeId}(h:W.ownsRow base e size v n xs)(k:∀g,v.ownBlock=U g->W'.heap[g]?=W.heap[g]?):W'.ownsRow base e size v n xs:=by
 refine⟨h.1,?_⟩;rcases h.2 with a|⟨b,c,d,a,f,j,i⟩
 ·exact .inl a
 exact .inr ⟨b,c,d,a,f,(k b (by rw[a];rfl)).trans j,i⟩
structure Iy(A:Nat)(q:Cs)(sv:Value)(W W':World):Prop where
 size:W.heap.size<=W'.heap.size
 block:∀i,i<W.heap.size->some i≠sv.ownBlock->i≠A->i≠q.nb->i≠q.mb->W'.heap[i]?=W.heap[i]?
def nd{A:Nat}{X:O}(h:CZ W0 A q sts sv nf mn mf X){Y:Nat->Nat}(hY:∀ab,Y ab<512){l:Lit}(v:keyOf prog 132 (.agg (BR Y))=U l)(hi:nf l=none)(ad:sts.length<100000){w4:O}(B:w4.ownsRow W0.heap.size 188 18 v' (sts.length+1) (sts.flatMap Ld++(DG Y (DE q.dflt q.rs Y 0)).toList))(d:X.grownBy w4 sv.ownBlock)(r:v'.ownBlock=sv.ownBlock\/v'.ownBlock=U X.heap.size):∃f,(Instr.mapUpdate 128 (.map (U q.nb)) (.agg (BR Y)) (I K sts.length)).run prog (w4.setCell ⟨A,20,none⟩ v').drew=.ok () f/\(w4.setCell ⟨A,20,none⟩ v').drew.grownBy f (U q.nb)/\(∀i,i<X.heap.size->U i≠sv.ownBlock->i≠A->i≠q.nb->f.heap[i]?=X.heap[i]?)/\X.heap.size<=f.heap.size/\∃m,CZ W0 A q (sts++[(Y,DE q.dflt q.rs Y 0)]) v' m mn mf f:=by
 obtain⟨H,N,y,P,a5,Q,a7,R,a9,L⟩:=h.apart;obtain⟨u1,u2,u3,u4,u5⟩:=h.high;have nA:U A≠sv.ownBlock:=λe=>(h.own A e.symm).1 Z;have nl:U q.lm≠sv.ownBlock:=λe=>(h.own _ e.symm).2.1 Z;have nt:U q.tb≠sv.ownBlock:=λe=>(h.own _ e.symm).2.2.1 Z;have nn:U q.nb≠sv.ownBlock:=λe=>(h.own _ e.symm).2.2.2.1 Z;have nm:U q.mb≠sv.ownBlock:=λe=>(h.own _ e.symm).2.2.2.2 Z;obtain⟨S,F,t2⟩:=h.takes;have lA:=BC h.row;have lt:=BC F;have ll:=h.letters.lt;have ln:=h.numbers.lt;have lm:=h.moves.lt;have k:=((h.numbers.kept d nn).cell A 20 v' y.symm).drew;obtain⟨f,hr,hf,c⟩:=Z2 k Ua underlying128 J v sts.length J;have w:∀g,v'.ownBlock=U g->g≠A/\g≠q.lm/\g≠q.tb/\g≠q.nb/\g≠q.mb:=by
  intro g e;rcases r with j|j
  ·exact h.own g (j.symm.trans e)
  rw[j]at e;have e:X.heap.size=g:=by simpa using e
  omega
 have t:∀i,i<X.heap.size->U i≠sv.ownBlock->i≠A->i≠q.nb->f.heap[i]?=X.heap[i]?:=by
  intro i h1 p V W;have s4:=CA h1 d.size;have s:(w4.setCell ⟨A,20,none⟩ v').drew.heap.size=w4.heap.size:=Bi
  exact(c.block i (by rw[s];exact s4) (by simpa using W)).trans ((FB w4 _ _ _ (by simpa using V)).trans (d.block i h1 p))
 obtain⟨m,e1,j⟩:∃m:Lit->Option Nat,m l=U sts.length/\∀b,b≠l->m b=nf b:=by
  have:=Classical.propDecidable;exact⟨λb=>if b=l then U sts.length else nf b,BA Z,λb n=>Bz n⟩
 have D:X.heap.size<=f.heap.size:=by
  have:=d.size;have p:=c.size;have s:(w4.setCell ⟨A,20,none⟩ v').drew.heap.size=w4.heap.size:=Bi
  omega
 refine⟨f,hr,c,t,D,m,?_⟩;exact{
  row:=by
   have r4:=(d.block A lA nA).trans h.row;have C:(w4.setCell ⟨A,20,none⟩ v').drew.heap[A]?=U (E (Ph q v') 136):=by
    have:=ET w4 A 20 _ _ v' r4;rw[nc]at this;exact this
   exact(c.block A (BC C) (by simpa using y)).trans C
  rules:=h.rules
  few:=h.few
  below:=⟨by rw[c.os];exact d.os.trans h.below.os,by rw[c.tape];exact d.tape.trans h.below.tape,by rw[c.output];exact d.output.trans h.below.output,C7 h.below.size D,λi hi=>(t i (CA hi h.below.size) (λe=>Ao (Kv h.states e.symm)) J J).trans (h.below.block i hi)⟩
  letters:=(((h.letters.kept d nl).cell A 20 v' H.symm).drew).kept c (by simpa using Q)
  takes:=⟨S,(t _ lt nt N.symm R).trans F,t2⟩
  states:=by
   rw[na,BK];refine Pk B λg e=>?_;have s:(w4.setCell ⟨A,20,none⟩ v').drew.heap.size=w4.heap.size:=Bi
   exact(c.block g (by rw[s];exact Pj B e) (Au ((w g e).2.2.2.1))).trans (FB w4 _ _ _ (Au ((w g e).1)))
  numbers:=by
   rw[BK];exact hf m e1 j
  moves:=(((h.moves.kept d nm).cell A 20 v' P.symm).drew).kept c (by simpa using L.symm)
  high:=h.high
  apart:=h.apart
  own:=w
  bits:=h.bits
  here:=λi x a=>by
   by_cases u:i<sts.length
   ·rw[F6 u]at a;exact h.here i x a
   rw[Ez J]at a;obtain⟨_,rfl⟩:i-sts.length=0/\(Y,DE q.dflt q.rs Y 0)=x:=by
    cases o:i-sts.length with
    |zero=>rw[o]at a;exact⟨Z,AO⟩
    |succ aa=>rw[o]at a;simp at a
   exact⟨Z,hY⟩
  num:=λi x a b z=>by
   by_cases u:i<sts.length
   ·rw[F6 u]at a;have:=h.num i x a b z;rw[j b (λe=>by rw[e,hi]at this;cases this)];exact this
   rw[Ez J]at a;obtain⟨ac,rfl⟩:i-sts.length=0/\(Y,DE q.dflt q.rs Y 0)=x:=by
    cases o:i-sts.length with
    |zero=>rw[o]at a;exact⟨Z,AO⟩
    |succ aa=>rw[o]at a;simp at a
   have e:=EB (z.symm.trans v);rw[e,e1,show i=sts.length by omega]
  num':=λb i n=>by
   by_cases e:b=l
   ·subst e;rw[e1]at n;have e:=EB n;subst e;exact⟨(Y,DE q.dflt q.rs Y 0),Az,v⟩
   rw[j b e]at n;obtain⟨x,h1,p⟩:=h.num' b i n;exact⟨x,by rw[F6 (Cf h1)];exact h1,p⟩}
def MT(sv sv':Al)(W:World):Prop:=sv'.ownBlock=sv.ownBlock\/∃g,sv'.ownBlock=some g/\W.heap.size<=g
def MT.mono{sv':Al}(h:MT sv sv' V)(a:W.heap.size<=V.heap.size):MT sv sv' W:=h.imp id (λ⟨g,e,h⟩=>⟨g,e,C7 a h⟩)
def ng(y:O)(A:Nat)(q:Cs)(b:List ((Nat->Nat)×Int×Int))(k:A4)(m:Nat)(B:Lit->Option Nat)(L:Nat)(H:Lit->Option Nat)(W:O)(h:CZ y A q b (G k b.length m) B L H W)(a:Nat->Nat)(hY:∀ac,a ac<512)(l:Lit)(hl:keyOf X 132 (.agg (BR a))=U l)(hi:B l=Y)(a5:b.length<100000):Calls X 56 #[A8 (U ⟨A,0,Y⟩),.agg (BR a)] W λe W'=>e=.returned (I K b.length)/\Iy A q (G k b.length m) W W'/\∃ah ai ab,MT (G k b.length m) (G ah (b.length+1) ai) W/\CZ y A q (b++[(a,DE q.dflt q.rs a 0)]) (G ah (b.length+1) ai) ab L H W':=by
 have HB:Hid ((W.alloc (E (BR a) 132)).heap[W.heap.size]?=U (E (BR a) 132)):=BI _ _;have N:Hid (CZ y A q b (G k b.length m) B L H (W.alloc (E (BR a) 132))):=h.next BN
 have a9:A≠W.heap.size:=Ao (BC h.row)
 have al:=T h.numbers.lt;have am:Hid (∀r,(Value.slice k b.length m).ownBlock=U r->r<W.heap.size):=λr e=>Pj h.states e;go_enter func56,ntmps56;go_wp2;have HW:Hid (A0 W (W.alloc (E (BR a) 132))):=BN;generalize W.alloc (E (BR a) 132)=V at *;refine DA (S:=λc=>c.cell? ⟨A,21,Y⟩=U (.map (U q.nb))/\c.heap[W.heap.size]?=U (E (BR a) 132)/\Dv c 132 q.nb b.length B) (⟨BB N.row 21,HB,N.numbers⟩) M ?_;intro d;refine BE 0 10 (A8 (U ⟨A,0,Y⟩)) d ?_;refine BE 1 11 (A8 (U ⟨A,0,Y⟩)) d ?_;refine BE 2 12 (A8 (U ⟨A,21,Y⟩)) d ?_;refine BL 3 13 (.map (U q.nb)) Z (λc i=>?y3) d ?_
 case y3=>(have z1:=i.1;go_simp)
 refine BL 4 14 (.agg (BR a)) Z (λc i=>?y4) d ?_
 case y4=>exact Le 132 (.tmp 3) rfl W.heap.size rfl _ _ _ _ i.2.1 underlying132 rfl (Fi a)
 refine BL 5 15 (Aa #[I K 0,Ac false]) Z (λc i=>?y5) d ?_
 case y5=>(have z2:=Rd i.2.2 Ua underlying128 hl;rw[hi]at z2;go_simp)
 refine BE 6 9 (Aa #[I K 0,Ac false]) d ?_;refine BE 7 16 (I K 0) d ?_;refine BE 8 17 (Ac false) d ?_;refine BE 9 5 (I K 0) d ?_;refine BE 10 6 (Ac false) d ?_;refine Cv ?_;go_simp;have o:=T (N.next (C5 _ _).drew);have Q:Hid ((World.drew V).heap[W.heap.size]?=U (E (BR a) 132)):=HB.out;have ae:=T (HW.drew);generalize World.drew V=V1 at *;have ar:V1.cell? ⟨A,20,Y⟩=U (G k b.length m):=BB o.row 20;have cJ:=lP V1 A q.ra q.rc q.dflt q.rs a (λac=>Ao (hY ac)) o.few.1 o.few.2 (BC o.row) (BB o.row 0) (BB o.row 1) (o.rules.below o.below)
 go_wp2_with(first
  |(go_at_call 88;refine cJ.mono ?_;rintro e n ⟨rfl,aa⟩;have P:=T (o.next aa);have R:=T ((aa.block _ (BC Q)).trans Q);have C:=T (ae.trans (aa.mono ae.size));have ar:n.cell? ⟨A,20,Y⟩=U (G k b.length m):=BB P.row 20)
  |(refine C8 Z 132 (.tmp 3) Z W.heap.size Z _ _ _ _ Q underlying132 Z (Fi a) ?_))
 obtain⟨si,a4,a0,a1,a2⟩:=DZ Tryz.infoSt;have a8:=BC P.row;have v:Hid (CZ y A q b (G k b.length m) B L H (n.drew.alloc (E (DG a (DE q.dflt q.rs a 0)) 188))):=(P.next (C5 _ _).drew).next BN
 have z:(λc:O=>c.heap[W.heap.size]?=U (E (BR a) 132)) (n.drew.alloc (E (DG a (DE q.dflt q.rs a 0)) 188)):=(BT n.drew _ _ (BC R)).trans R;have an:Hid (∀(j:Nat) (aj:Al),(DG a (DE q.dflt q.rs a 0)).toList[j]?=U aj->(n.drew.alloc (E (DG a (DE q.dflt q.rs a 0)) 188)).cell? ((⟨n.heap.size,0,Y⟩:Addr).add j)=U aj):=Uh n.drew _ _;refine DA (S:=λc=>c.heap[W.heap.size]?=U (E (BR a) 132)) (R) M ?_;intro d;refine BE 0 31 (A8 (U ⟨A,0,Y⟩)) d ?_;refine BE 1 32 (A8 (U ⟨A,0,Y⟩)) d ?_;refine BE 2 33 (A8 (U ⟨A,0,Y⟩)) d ?_;refine BE 3 34 (A8 (U ⟨A,20,Y⟩)) d ?_;refine BL 5 36 (.agg (BR a)) Z (λc i=>?y5) d ?_
 case y5=>exact Le 132 (.tmp 3) rfl W.heap.size rfl _ _ _ _ i underlying132 rfl (Fi a)
 refine BE 6 37 (I K (DE q.dflt q.rs a 0).1) d ?_;refine BE 7 38 (I K (DE q.dflt q.rs a 0).2) d ?_;refine BL 8 39 (.agg (DG a (DE q.dflt q.rs a 0))) Z (λc i=>?y8) d ?_
 case y8=>kernel_rfl
 refine Hq 4 9 (λw f=>?_) (λw f=>?_)
 focus
  go_simp;refine f.out _ _ d (λ_=>?_);refine C9 9 (λw f=>?_);refine Kw M ?_;refine Zb (.tmp 39) Z a (DE q.dflt q.rs a 0) M ?_;refine f.out _ _ z (λ_=>?_)
 rotate_left
 focus
  refine Kw M ?_;refine Zb (.tmp 39) Z a (DE q.dflt q.rs a 0) M ?_;refine f.out _ _ z (λ_=>?_);refine C9 4 (λw f=>?_);go_simp;refine f.out _ _ z (λ_=>?_)
 all_goals
  refine C9 10 (λw f=>?_);refine Kw M ?_;refine Zc (.tmp 35) (.tmp 40) 134 Z y.heap.size 188 si _ 18 48 underlying134 a4 a0 a1 a2 Z Ay (G k b.length m) _ _ M v.states ⟨n.heap.size,0,Y⟩ 1 1 (DG a (DE q.dflt q.rs a 0)).toList M ?hln an (Zd _ _) AC J v.below.size ?_
  case hln=>simp[DG,BR]
  intro v' p af az ag;obtain⟨t,s,rfl⟩:=ownsRow_succ af;have ap:=T af;have u:=T az;have aq:=T ag;have ao:Hid (MT (G k b.length m) (G (U ⟨t,0,Y⟩) (b.length+1) s) W):=ag.imp id (λe=>⟨_,e,by have h1:=C.size;simp;omega⟩);have av:=BC v.row;have g:=T ((u.block A av (λe=>(v.own A e.symm).1 Z)).trans v.row);have D:(λc:O=>c.heap[W.heap.size]?=U (E (BR a) 132)) p:=(u.block W.heap.size (BC z) (λe=>Ao (am.out _ e.symm))).trans z;have a6:p.cell? ⟨A,20,Y⟩=U (G k b.length m):=BB g 20;have a7:=Dx p A 20 _ _ g;have F:(λc:O=>c.heap[W.heap.size]?=U (E (BR a) 132)) (p.setCell ⟨A,20,Y⟩ (G (U ⟨t,0,Y⟩) (b.length+1) s)):=(FB p _ _ _ Ax).trans D;refine f.out _ _ D (λ_=>?_);refine BE 11 42 (A8 (U ⟨A,0,Y⟩)) D ?_;refine BE 12 43 (A8 (U ⟨A,20,Y⟩)) D ?_;refine C9 13 (λw f=>?_);go_simp;refine f.out _ _ F (λ_=>?_);refine Cv ?_;go_simp;obtain⟨w6,ba,ay,ax,a3,ab,au⟩:=nd v hY hl hi a5 ap u aq;have ad:=T au;have ak:Hid (Iy A q (G k b.length m) W w6):=by
   have s3:n.heap.size<=(n.drew.alloc (E (DG a (DE q.dflt q.rs a 0)) 188)).heap.size:=by rw[BU];exact Nr _
   refine⟨C7 C.size (C7 s3 a3),λj h1 h2 h3 h4 _=>?_⟩;have hj:=CA h1 C.size;exact(ax j (CA hj s3) h2 h3 h4).trans ((BT n.drew _ _ hj).trans (C.block j h1))
  have x:(λc:O=>c.cell? ⟨A,21,Y⟩=U (.map (U q.nb))/\c.heap[W.heap.size]?=U (E (BR a) 132)) { (p.setCell ⟨A,20,Y⟩ (G (U ⟨t,0,Y⟩) (b.length+1) s))with drawn:=(p.setCell ⟨A,20,Y⟩ (G (U ⟨t,0,Y⟩) (b.length+1) s)).drawn+1}:=⟨by have h:=ET p A 20 _ _ (G (U ⟨t,0,Y⟩) (b.length+1) s) g;exact BB h 21,F⟩
  have aw:(λc:O=>c.cell? ⟨A,21,Y⟩=U (.map (U q.nb))/\c.heap[W.heap.size]?=U (E (BR a) 132)) w6:=⟨BB ad.row 21,(ay.block W.heap.size (BC F) (As al.out)).trans F⟩
  generalize p.setCell ⟨A,20,Y⟩ (G (U ⟨t,0,Y⟩) (b.length+1) s)=V5 at *;go_wp2;refine Ec (S:=λc=>c.cell? ⟨A,21,Y⟩=U (.map (U q.nb))/\c.heap[W.heap.size]?=U (E (BR a) 132)) M ?_;refine BE 0 44 (A8 (U ⟨A,0,Y⟩)) x ?_;refine BE 1 45 (A8 (U ⟨A,0,Y⟩)) x ?_;refine BE 2 46 (A8 (U ⟨A,21,Y⟩)) x ?_;refine BL 3 47 (.map (U q.nb)) Z (λc i=>?y3) x ?_
  case y3=>(have z1:=i.1;go_simp)
  refine BL 4 48 (.agg (BR a)) Z (λc i=>?y4) x ?_
  case y4=>exact Le 132 (.tmp 3) rfl W.heap.size rfl _ _ _ _ i.2 underlying132 rfl (Fi a)
  refine BE 5 49 (I K b.length) x ?_;refine C9 6 (λw f=>?_);go_simp;refine f.out _ _ aw (λ_=>?_);refine Cv ?_;go_simp;go_wp2;go_ret;exact⟨Z,ak,U ⟨t,0,Y⟩,s,ab,ao,ad⟩
end
section
open Go.RowKit Go.Shelf
section
attribute[local go_sem] Oper.semAt_some
structure Gn(w:World)(pre:List Dk)(W:World):Prop where
 below:A0 w W
 r0:Boxed W w.heap.size 175 (.slice none 0 0)
 r1:Boxed W (w.heap.size+1) 4 (.bool false)
 pat:∃ao cap xs,Boxed W (w.heap.size+2) 175 (.slice ao pre.length cap)/\W.ownsRow (w.heap.size+6) 182 2 (.slice ao pre.length cap) pre.length xs/\Hid (xs=pre.flatMap λx=>FK (Ew (C3 x)))
 le:pre.length<=8
 all:pre.all (λx=>Fj (C3 x))=true
 size:w.heap.size+6<=W.heap.size
def Gn.own{row:Nat}(h:Gn w pre W)(a:W.grownBy W' (U row))(c:row=w.heap.size+3\/(w.heap.size+6<=row/\∃o,W.heap[row]?=U o/\o.isCells=false)):Gn w pre W':=by
 obtain⟨g,j,q,n,d,p⟩:=h.pat;refine⟨h.below.trans ⟨a.os,a.tape,a.output,a.size,λi v=>a.block i B1 B7⟩,h.r0.kept a B7,h.r1.kept a B7,⟨g,j,q,n.kept a B7,d.kept a ?_,p⟩,h.le,h.all,C7 h.size a.size⟩;rcases d.2 with⟨b,_⟩|⟨k,r,s,b,u,m,_⟩
 ·left;rw[b];rfl
 right;rw[b];intro e;cases e;rcases c with c|⟨_,o,f,l⟩
 ·have t:k=w.heap.size+3:=c;omega
 rw[m]at f;cases f;cases l
def Gn.out{post:List Dk}(h:Gn w pre W)(hb:8<post.length\/post.all (λx=>Fj (C3 x))=false):Pi w post .ret ((W.setCell ⟨w.heap.size,0,Y⟩ (G Y 0 0)).setCell ⟨w.heap.size+1,0,Y⟩ (Ac false)):=by
 have a:=Tr.set w.heap.size (w.heap.size+3) W w.heap.size (G Y 0 0) (BM _) J;have b:=Tr.set w.heap.size (w.heap.size+3) (W.setCell ⟨w.heap.size,0,Y⟩ (G Y 0 0)) (w.heap.size+1) (Ac false) J J;refine⟨Z,h.below.trans (a.trans b).below,?_,?_,hb,?_⟩
 ·exact(h.r0.set _).kept (grownBy_setCell' _ _ _) AB
 ·exact Boxed.set _ (h.r1.kept (grownBy_setCell' _ _ _) AB)
 simp[World.setCell];exact h.size
def Gn.alloc(h:Gn w pre W)(o:Obj):Gn w pre (W.alloc o):=h.own (Jb W o (U (w.heap.size+3))) (.inl rfl)
def Gn.belowS(h:Gn w pre W)(hb:A0 W W'):Gn w pre W' :=
 h.own (row:=w.heap.size+3) ⟨hb.os,hb.tape,hb.output,hb.size,λi a _=>hb.block i a⟩ (.inl rfl)
def oC(w:O)(s:ByteArray)(a:O)(b:((((((w.alloc (E #[G Y 0 0] 175)).alloc (E #[Ac false] 4)).alloc (E #[G Y 0 0] 175)).alloc (E #[.string s] 9)).alloc (E #[.string ⟨#[47]⟩] 9)).alloc (E #[I K 0] 3))=a):Gn w [] a:=by
 subst b;refine⟨?_,?_,?_,⟨Y,0,[],?_,FQ _ _ _ _,Z⟩,DK _,Z,Az⟩
 ·exact(((((BN).alloc Az _).alloc Ax _).alloc Ax _).alloc Ax _).alloc Ax _
 ·exact(((((Boxed.new w _ _).alloc _).alloc _).alloc _).alloc _).alloc _
 ·have:=Boxed.new (w.alloc (E #[G Y 0 0] 175)) 4 (Ac false);rw[BU]at this;exact(((this.alloc _).alloc _).alloc _).alloc _
 have:=Boxed.new ((w.alloc (E #[G Y 0 0] 175)).alloc (E #[Ac false] 4)) 175 (G Y 0 0);rw[BU,BU]at this;exact((this.alloc _).alloc _).alloc _
def Ux{x:Dk}{i:Nat}(hi:i<3)(h:(x.1.toList==Id i)=true):FK (Ew (C3 x))=[I K (i:Nat),.string ⟨#[]⟩]:=by
 have e:C3 x=Id i:=by unfold C3;rw[<-Ga];exact Mw h
 rw[e]
 match i,hi with
 |0,_=>rfl
 |1,_=>rfl
 |2,_=>rfl
def oD{x:Dk}(h:∀i,i<3->(x.1.toList==Id i)=false):FK (Ew (C3 x))=[I K 3,.string x.1]:=by
 have e:C3 x=x.1.toList:=by unfold C3;rw[<-Ga]
 have a:=h 0 J;have b:=h 1 J;have c:=h 2 J;simp only[Id]at a b c;have d:Ew (C3 x)=(3,C3 x):=by
  unfold Ew;rw[e,a,b,c];simp
 rw[d];unfold FK C3;rw[Ri];rfl
def oE(s:ByteArray)(w:World)(e:Ending)(w':World):Prop :=
 ∃a n cap,e=.returned (Aa #[.slice a n cap,Ac (Et s.data.toList)])/\A0 w w'/\(Et s.data.toList=true->n=(GJ s.data.toList).length/\Hy w' w.heap.size 182 a (((GJ s.data.toList).map Ew).flatMap FK))
def oF{s:ByteArray}{hs:s.size<=2000}{xs:List Dk}{ao:A4}{cap D:Nat}(m:(s.toList==[46])=false)(h:xs.map C3=Cn 47 (C3 ⟨s,hs⟩))(p:W.ownsRow (w.heap.size+6) 182 2 (G ao xs.length cap) xs.length ys)(r:ys=xs.flatMap λx=>FK (Ew (C3 x)))(i:W.heap[D]?=U (.deferred (U [])))(k:∀j,w.heap.size+6<=j->V.heap[j]?=W.heap[j]?):xs.length=(GJ s.data.toList).length/\Hy (V.putObj D (.deferred Y)) w.heap.size 182 ao (((GJ s.data.toList).map Ew).flatMap FK):=by
 have q:GJ s.data.toList=xs.map C3:=by
  unfold GJ;rw[<-Ga,m,Ga];exact h.symm
 obtain⟨y,t,n,l⟩:=oy (lo:=w.heap.size+6) p (BM _);injection n with he1 _ he3;subst he1;rw[q,Eo];refine⟨Z,?_⟩;rw[OJ,List.flatMap_map];have e:ys=xs.flatMap λa=>FK ((Ew∘C3) a):=r;rw[<-e];refine l.kept λb u v f c=>⟨J,?_⟩
 have o:b≠D:=by
  rintro rfl;rw[i]at c;cases c
 have:=grownBy_putObj' V D (.deferred Y);have d:=k b f;rw[this.block b (by have g:=(d.trans c);exact BC g) keG,d];exact c
def Gn.push(x:Dk)(h:Gn w pre W)(k:Boxed W (w.heap.size+2) 175 v)(i:W.ownsRow (w.heap.size+6) 182 2 v pre.length xs)(c:w5.ownsRow (w.heap.size+6) 182 2 v' (pre.length+1) ys)(a:W.grownBy w5 v.ownBlock)(p:pre.length<8)(m:Fj (C3 x)=true)(n:Hid (xs=pre.flatMap λx=>FK (Ew (C3 x))))(o:ys=xs++FK (Ew (C3 x))):Gn w (pre++[x]) (w5.setCell ⟨w.heap.size+1+1,0,Y⟩ v')/\Tr w.heap.size (w.heap.size+3) W (w5.setCell ⟨w.heap.size+1+1,0,Y⟩ v'):=by
 have key:=λg h=>Kv i (g:=g) h;have d:Tr w.heap.size (w.heap.size+3) W w5:=Tr.grown i a h.size J J;have f:=Tr.set w.heap.size (w.heap.size+3) w5 (w.heap.size+2) v' J J;have b:=grownBy_setCell' w5 (w.heap.size+2) v';have l:=k.kept a (λe=>AN);obtain⟨g,j,rfl⟩:=ownsRow_succ c;refine⟨⟨h.below.trans (d.trans f).below,?_,?_,⟨U ⟨g,0,Y⟩,j,ys,?_,?_,?hy⟩,?_,?_,?_⟩,d.trans f⟩
 case hy =>
  show ys=_;rw[o,n.out,LD];simp
 ·exact(h.r0.kept a (λe=>AN)).kept b AB
 ·exact(h.r1.kept a (λe=>AN)).kept b AB
 ·rw[BK];exact l.set _
 ·rw[BK];refine c.kept b (.inr (λe=>?_));have:=Kv c e;omega
 ·rw[BK];simp;omega
 ·rw[No,h.all];simp[m]
 exact C7 h.size (d.trans f).below.size
def Ry{x:Dk}(h:Gn w pre V)(b:Tr w.heap.size (w.heap.size+3) W V)(g:Boxed V (w.heap.size+2) 175 v)(e:V.ownsRow (w.heap.size+6) 182 2 v pre.length xs)(f:w5.ownsRow (w.heap.size+6) 182 2 v' (pre.length+1) ys)(d:V.grownBy w5 v.ownBlock)(l:¬(pre.length:Int)=8)(i:Fj (C3 x)=true)(j:Hid (xs=pre.flatMap λx=>FK (Ew (C3 x))))(k:ys=xs++FK (Ew (C3 x))):KeepsOthers W (w5.setCell ⟨w.heap.size+1+1,0,Y⟩ v')/\FJ (w.heap.size+3) (w.heap.size+3+3) W (w5.setCell ⟨w.heap.size+1+1,0,Y⟩ v')/\Gn w (pre++[x]) (w5.setCell ⟨w.heap.size+1+1,0,Y⟩ v'):=by
 obtain⟨c,a⟩:=h.push x g e f d (Ao h.le) i j k;exact⟨(b.trans a).keep,(b.trans a).mid,c⟩
def oG(s:ByteArray)(w:World)(hs:s.size<=2000)(bk:Iq w):Calls prog 119 #[.string s] w λe w'=>oE s w e w':=by
 obtain⟨i0,hi,am,an,ap⟩:=DZ Tryz.infoSeg;cases hd:(s.toList==[46])
 ·have HG:=T bk;have HD:=T hd;refine(Jg (n:=10)).1 ?_;refine callsIn_of_wp_marks func119 Z trivial ?_ Z;simp only[ntmps119,Hm,Cu,DX,Nat.reduceAdd,Nat.reduceSub,Mj,Mk,Mo,Ml,Jd,I4]
  gi_wp2
  refine Qs.2 (WI ((Qs (n:=10)).1 ?_))
  gi_wp2_with fail
  refine wpIn_label ?_
  gi_wp2_with fail
  refine⟨trivial,(Jg.2 (Z7 s ⟨#[47]⟩ _)).mono ?_⟩;rintro e w' ⟨rfl,rfl⟩;simp only[BU,A0]
  gi_wp2
  obtain⟨c,al⟩:∃c,((((((w.alloc (.cells #[.slice none 0 0] 175)).alloc (.cells #[.bool false] 4)).alloc (.cells #[.slice none 0 0] 175)).alloc (.cells #[.string s] 9)).alloc (.cells #[.string ⟨#[47]⟩] 9)).alloc (.cells #[.int .i64 0] 3))=c:=⟨_,rfl⟩
  have bv:c.heap.size=w.heap.size+6:=by rw[<-al];simp
  have bj:=oC w s c al;have bh:=mS w s c al;rw[al];refine Z6 Z J (gf:=144) (lb:=#[.pointer (some ⟨w.heap.size+1+1+1+1,0,none⟩),.pointer (some ⟨w.heap.size+1+1+1,0,none⟩),.pointer (some ⟨w.heap.size+1+1+1+1+1,0,none⟩)]) Z trivial (enters_of func144 M Z)
   (st:=w.heap.size+3) J (lo:=w.heap.size+3) (hi:=w.heap.size+3+3) J (Z9 9 (w.heap.size+3) 47 ⟨s,hs⟩ c bh) Cm (λx=>rfl)
   (λpre W=>Gn w pre W) (λai pre W=>Pi w pre ai W)
   (λpre aa a8 h r=>h.own r (.inl rfl)) (λai pre aa a8 h r=>h.own r J)
   (λpre aa a0 o o' h hB hk hc=>h.own (grownBy_putObj' aa a0 o') (.inr ⟨J,o,hk,hc⟩)) (λai pre aa a0 o o' h hB hk hc=>h.own (grownBy_putObj' aa a0 o') J)
   bj
   (λx=>{tmps:=#[.string s,undef,.pointer (some ⟨w.heap.size,0,none⟩),.pointer (some ⟨w.heap.size+1,0,none⟩),.pointer (some ⟨w.heap.size+1+1,0,none⟩),.string x.1,undef,undef,.string s,.bool false,.string s,.func (.func 144) #[] #[.pointer (some ⟨w.heap.size+1+1+1+1,0,none⟩),.pointer (some ⟨w.heap.size+1+1+1,0,none⟩),.pointer (some ⟨w.heap.size+1+1+1+1+1,0,none⟩)],.string x.1,undef,undef,undef,undef,undef,undef,undef,undef,undef,undef,undef,undef,undef,undef,undef,undef,undef,undef,undef,undef,undef,undef,undef,undef,undef,undef,undef,undef],defers:=[]}) ?assign ?body ?done ?stop
  case assign =>
   intro ah x W d a
   gi_wp2
   exact a
  case body =>
   intro ah pre x W m bt;have f:=T m;obtain⟨q,u,N,g,ho,be⟩:=m.pat;have bs:=m.le;have y:W.cell? ⟨w.heap.size+1+1,0,none⟩=some (.slice q pre.length u):=g.cell;have c2:=m.r0.cell;have f2:=m.r0.frozen;have c3:=m.r1.cell;have f3:=m.r1.frozen;by_cases h8:(pre.length:Int)=8
   ·clear m g ho be
    gi_wp2
    exact⟨(Za w W).keep,f.out.out (.inl (by rw[BK];simp;omega))⟩
   have br:=EJ.2 h8;obtain⟨b6,fr,l⟩:=(HG.out.below m.below).signs;have s0:=BB l 0;have s1:=BB l 1;have s2:=BB l 2;have s3:=BB l 3;have s4:=BB l 4;have s5:=BB l 5
   gi_wp2
   gi_loopg[17] 4 (λaf aq wr=>∃j:Nat,Hid (j+af=4)/\((j=0/\aq=.int .i64 0)\/(j=1/\aq=.int .i64 1)\/(j=2/\aq=.int .i64 2)\/(j=3/\aq=.int .i64 3))/\Hid (Gn w pre wr)/\Hid (Tr w.heap.size (w.heap.size+3) W wr)/\Hid (∀i,i<j->(x.1.toList==Id i)=false))
   case atStart=>exact⟨0,rfl,.inl ⟨rfl,rfl⟩,f,Tr.refl _ _ _,λi hi=>J⟩
   case round =>
    obtain⟨j,hj,bl,f,t,ac⟩:=hrel;have b2:=λV=>mX V;have b3:=λV=>mY V;have b4:=λV=>mZ V;obtain⟨ad,ae,b7,a6,bm,av⟩:=f.out.pat;have k:=T a6;have v:=T bm;have y:wr.cell? ⟨w.heap.size+1+1,0,none⟩=some (.slice ad pre.length ae):=a6.cell;have bw:=f.out.size;have bq:∀o,(wr.alloc o).cell? ⟨w.heap.size+1+1,0,none⟩=some (.slice ad pre.length ae):=λo=>(Df wr _ o (by rw[y];rfl)).trans y;rcases bl with⟨rfl,rfl⟩|⟨rfl,rfl⟩|⟨rfl,rfl⟩|⟨rfl,rfl⟩
    ·cases b:(x.1.toList==[42])
     ·have ab:Hid (∀i,i<1->(x.1.toList==Id i)=false):=λi hi=>by
       rcases Ss.1 hi with h|rfl
       ·exact ac.out i h
       exact b
      gi_wp2
      gi_roundg 3
      case measure=>have:=hj.out;omega
      case rel=>exact⟨1,rfl,.inr (.inl ⟨rfl,AE⟩),f.out.alloc _,t.out.trans (Tr.alloc _ _ _ _ J J),ab⟩
     gi_wp2_with(first
      |(gi_at_builtin;refine wpListIn_append_own _ Z _ _ 175 Z (w.heap.size+6) 182 i0 (.agg #[.int .i64 0,.string ByteArray.empty]) 2 24 underlying175 hi am an ap Z Ay _ _ _ Z ((v.out.alloc _).alloc _) ⟨wr.heap.size+1,0,none⟩ 1 1 [.int .i64 0,.string ⟨#[]⟩] Z Z (Rl _ _ _ _) (λx b=>Bd) AC J Ax ?_;intro v' L C z a5;obtain⟨g5,ax,rfl⟩:=ownsRow_succ C;have F:=((k.out.alloc _).alloc _).kept z (λe=>keY);have c5:L.cell? ⟨w.heap.size+1+1,0,none⟩=some (.slice ad pre.length ae):=F.cell;have f5:L.frozen? ⟨w.heap.size+1+1,0,none⟩=false:=F.frozen))
     exact Ry ((f.out.alloc _).alloc _) ((t.out.trans (Tr.alloc _ _ _ _ J J)).trans (Tr.alloc _ _ _ _ Ax Ax)) ((k.out.alloc _).alloc _) ((v.out.alloc _).alloc _) C z h8 (Uj (i:=0) b) av (by rw[Ux (i:=0) J b];rfl)
    ·cases b:(x.1.toList==[42,42])
     ·have ab:Hid (∀i,i<2->(x.1.toList==Id i)=false):=λi hi=>by
       rcases Ss.1 hi with h|rfl
       ·exact ac.out i h
       exact b
      gi_wp2
      gi_roundg 2
      case measure=>have:=hj.out;omega
      case rel=>exact⟨2,rfl,.inr (.inr (.inl ⟨rfl,AE⟩)),f.out.alloc _,t.out.trans (Tr.alloc _ _ _ _ J J),ab⟩
     gi_wp2_with(first
      |(gi_at_builtin;refine wpListIn_append_own _ Z _ _ 175 Z (w.heap.size+6) 182 i0 (.agg #[.int .i64 0,.string ByteArray.empty]) 2 24 underlying175 hi am an ap Z Ay _ _ _ Z ((v.out.alloc _).alloc _) ⟨wr.heap.size+1,0,none⟩ 1 1 [.int .i64 1,.string ⟨#[]⟩] Z Z (Rl _ _ _ _) (λx b=>Bd) AC J Ax ?_;intro v' L C z a5;obtain⟨g5,ax,rfl⟩:=ownsRow_succ C;have F:=((k.out.alloc _).alloc _).kept z (λe=>keY);have c5:L.cell? ⟨w.heap.size+1+1,0,none⟩=some (.slice ad pre.length ae):=F.cell;have f5:L.frozen? ⟨w.heap.size+1+1,0,none⟩=false:=F.frozen))
     exact Ry ((f.out.alloc _).alloc _) ((t.out.trans (Tr.alloc _ _ _ _ J J)).trans (Tr.alloc _ _ _ _ Ax Ax)) ((k.out.alloc _).alloc _) ((v.out.alloc _).alloc _) C z h8 (Uj (i:=1) b) av (by rw[Ux (i:=1) J b];rfl)
    ·cases b:(x.1.toList==[91,93])
     ·have ab:Hid (∀i,i<3->(x.1.toList==Id i)=false):=λi hi=>by
       rcases Ss.1 hi with h|rfl
       ·exact ac.out i h
       exact b
      gi_wp2
      gi_roundg 1
      case measure=>have:=hj.out;omega
      case rel=>exact⟨3,rfl,.inr (.inr (.inr ⟨rfl,AE⟩)),f.out.alloc _,t.out.trans (Tr.alloc _ _ _ _ J J),ab⟩
     gi_wp2_with(first
      |(gi_at_builtin;refine wpListIn_append_own _ Z _ _ 175 Z (w.heap.size+6) 182 i0 (.agg #[.int .i64 0,.string ByteArray.empty]) 2 24 underlying175 hi am an ap Z Ay _ _ _ Z ((v.out.alloc _).alloc _) ⟨wr.heap.size+1,0,none⟩ 1 1 [.int .i64 2,.string ⟨#[]⟩] Z Z (Rl _ _ _ _) (λx b=>Bd) AC J Ax ?_;intro v' L C z a5;obtain⟨g5,ax,rfl⟩:=ownsRow_succ C;have F:=((k.out.alloc _).alloc _).kept z (λe=>keY);have c5:L.cell? ⟨w.heap.size+1+1,0,none⟩=some (.slice ad pre.length ae):=F.cell;have f5:L.frozen? ⟨w.heap.size+1+1,0,none⟩=false:=F.frozen))
     exact Ry ((f.out.alloc _).alloc _) ((t.out.trans (Tr.alloc _ _ _ _ J J)).trans (Tr.alloc _ _ _ _ Ax Ax)) ((k.out.alloc _).alloc _) ((v.out.alloc _).alloc _) C z h8 (Uj (i:=2) b) av (by rw[Ux (i:=2) J b];rfl)
    have cL:=jA x.1 wr x.2 (HG.out.below f.out.below)
    gi_wp2_with fail
    refine⟨trivial,((Jg.2 cL).inRound ah).mono ?_⟩;rintro e H ⟨rfl,hB⟩;simp only[];have Q:=T (f.out.belowS hB);have a3:=T (t.out.trans (Tr.below' hB J J));have bx:=Q.out.size;obtain⟨R,S,bo,a7,bn,bd⟩:=Q.out.pat;have ba:=T a7;have ar:=T bn;have y:H.cell? ⟨w.heap.size+1+1,0,none⟩=some (.slice R pre.length S):=a7.cell;have c2:=Q.out.r0.cell;have f2:=Q.out.r0.frozen;have c3:=Q.out.r1.cell;have f3:=Q.out.r1.frozen;have az:=mT ac.out;have a9:=T (oD ac.out);cases a4:Fg x.1.data.toList
    ·have HX:Hid ((pre++[x]).all (λx=>Fj (C3 x))=false):=by show _=_;rw[No];simp[az,a4]
     gi_wp2
     exact⟨(a3.out.trans (Za w H)).keep,Q.out.out (.inr HX.out)⟩
    rw[a4]at az;have bb:=T az
    gi_wp2_with fail
    refine wpIn_region_any M ?_;have HC:Hid (∀V,Calls prog 149 #[.string x.1] V λe V'=>e=.returned (.string x.1)/\Below V.heap.size V V'):=λV=>mM x.1 V (Ao x.2);have ay:w.heap.size+1+1<H.heap.size:=J
    have aw:(World.drew H).cell? ⟨w.heap.size+1+1,0,none⟩=some (.slice R pre.length S):=y;change wpAnyIn _ _ _ _ _ _ _ _ _ (World.drew H);refine n7 #[true,true,true,true,true,false,false] 2 (λV=>[(34,.slice R pre.length S),(35,.string x.1),(36,.string x.1),(37,.agg #[.int .i64 3,.string x.1]),(38,.slice (some ⟨V.heap.size,0,none⟩) 1 1)]) (λV=>Below (World.drew H).heap.size (World.drew H) V) (λV=>V.alloc (.cells #[.int .i64 3,.string x.1] 182)) (λag=>?reg) ?tail
    case tail =>
     intro V bi;have ak:Below H.heap.size H V:=(((C5 _ H).drew).trans bi)
     have a1:=T (Q.out.belowS ak);have bc:=T (a3.out.trans (Tr.below' ak J J));have bz:=a1.out.size;have bu:∀af,(Value.slice R pre.length S).ownBlock=some af->af<H.heap.size:=λaf r=>by
      rcases ar.out.2 with⟨B,_⟩|⟨g',_,_,B,_,hh,_⟩
      ·rw[B]at r;cases r
      rw[B]at r;cases r;exact BC hh
     have a2:Hid (Boxed V (w.heap.size+2) 175 (.slice R pre.length S)):=(ak.block _ J).trans ba.out;have au:Hid (V.ownsRow (w.heap.size+6) 182 2 (.slice R pre.length S) pre.length bo):=by
      refine⟨ar.out.1,?_⟩;rcases ar.out.2 with B|⟨g',cp,bg,B,h1,hh,h2⟩
      ·exact .inl B
      exact .inr ⟨g',cp,bg,B,h1,(ak.block g' (BC hh)).trans hh,h2⟩
     simp only[List.foldl];refine wpAnyIn_ready (rs:=[5]) M Az ?_;refine AllReadyIn.cons Z (λd a=>?_) AllReadyIn.nil;rw[BA Bk];refine n8 _ _ 175 Z (w.heap.size+6) 182 i0 (.agg #[.int .i64 0,.string ByteArray.empty]) 2 24 underlying175 hi am an ap Z Ay _ _ _ Z (au.out.alloc _) ⟨V.heap.size,0,none⟩ 1 1 [.int .i64 3,.string x.1] Z Z (mU _ _ _) (λx b=>Bd) AC J Ax ?_;intro v' L C z;obtain⟨g5,ax,rfl⟩:=ownsRow_succ C;have F:=(a2.out.alloc _).kept z (λe=>Ao (Kv au.out e.symm));have c5:L.cell? ⟨w.heap.size+1+1,0,none⟩=some (.slice R pre.length S):=F.cell;have f5:L.frozen? ⟨w.heap.size+1+1,0,none⟩=false:=F.frozen;refine a _ _ ?_;refine wpAnyIn_ready (rs:=[6]) M Az ?_;refine AllReadyIn.cons Z (λd a=>?_) AllReadyIn.nil;go_simp;refine a _ _ ?_;refine wpAnyIn_done M ?_ _
     gi_wp2
     exact Ry (a1.out.alloc _) (bc.out.trans (Tr.alloc _ _ _ _ J J)) (a2.out.alloc _) (au.out.alloc _) C z h8 bb.out bd (by rw[a9.out])
    case reg =>
     refine wpAnyIn_ready (rs:=[0,1]) M Az ?_;refine AllReadyIn.cons Z (λd a=>?_) (AllReadyIn.cons Z (λd a=>?_) AllReadyIn.nil)
     ·go_simp;refine a _ _ ?_;refine wpAnyIn_ready (rs:=[1]) M Az ?_;refine AllReadyIn.cons Z (λd a=>?_) AllReadyIn.nil;go_simp;refine a _ _ ?_;refine wpAnyIn_ready (rs:=[2]) M Az ?_;refine AllReadyIn.cons Z (λd a=>?_) AllReadyIn.nil;go_simp;refine⟨trivial,((Jg.2 (HC.out _)).inRound ah).mono ?_⟩;rintro e w3 ⟨rfl,P⟩;simp only[];have aj:=(P.cell (p:=⟨w.heap.size+1+1,0,none⟩) ay).trans aw;refine a _ _ ?_;refine wpAnyIn_ready (rs:=[3]) M Az ?_;refine AllReadyIn.cons Z (λd a=>?_) AllReadyIn.nil;go_simp;refine a _ _ ?_;refine wpAnyIn_ready (rs:=[4]) M Az ?_;refine AllReadyIn.cons Z (λd a=>?_) AllReadyIn.nil;go_simp;refine a _ _ ?_;exact ag _ P
     go_simp;refine a _ _ ?_;refine wpAnyIn_ready (rs:=[0,2]) M Az ?_;refine AllReadyIn.cons Z (λd a=>?_) (AllReadyIn.cons Z (λd a=>?_) AllReadyIn.nil)
     ·go_simp;refine a _ _ ?_;refine wpAnyIn_ready (rs:=[2]) M Az ?_;refine AllReadyIn.cons Z (λd a=>?_) AllReadyIn.nil;go_simp;refine⟨trivial,((Jg.2 (HC.out _)).inRound ah).mono ?_⟩;rintro e w3 ⟨rfl,P⟩;simp only[];have aj:=(P.cell (p:=⟨w.heap.size+1+1,0,none⟩) ay).trans aw;refine a _ _ ?_;refine wpAnyIn_ready (rs:=[3]) M Az ?_;refine AllReadyIn.cons Z (λd a=>?_) AllReadyIn.nil;go_simp;refine a _ _ ?_;refine wpAnyIn_ready (rs:=[4]) M Az ?_;refine AllReadyIn.cons Z (λd a=>?_) AllReadyIn.nil;go_simp;refine a _ _ ?_;exact ag _ P
     go_simp;refine⟨trivial,((Jg.2 (HC.out _)).inRound ah).mono ?_⟩;rintro e w3 ⟨rfl,P⟩;simp only[];have aj:=(P.cell (p:=⟨w.heap.size+1+1,0,none⟩) ay).trans aw;refine a _ _ ?_;refine wpAnyIn_ready (rs:=[0,3]) M Az ?_;refine AllReadyIn.cons Z (λd a=>?_) (AllReadyIn.cons Z (λd a=>?_) AllReadyIn.nil)
     ·go_simp;refine a _ _ ?_;refine wpAnyIn_ready (rs:=[3]) M Az ?_;refine AllReadyIn.cons Z (λd a=>?_) AllReadyIn.nil;go_simp;refine a _ _ ?_;refine wpAnyIn_ready (rs:=[4]) M Az ?_;refine AllReadyIn.cons Z (λd a=>?_) AllReadyIn.nil;go_simp;refine a _ _ ?_;exact ag _ P
     go_simp;refine a _ _ ?_;refine wpAnyIn_ready (rs:=[0,4]) M Az ?_;refine AllReadyIn.cons Z (λd a=>?_) (AllReadyIn.cons Z (λd a=>?_) AllReadyIn.nil)
     ·go_simp;refine a _ _ ?_;refine wpAnyIn_ready (rs:=[4]) M Az ?_;refine AllReadyIn.cons Z (λd a=>?_) AllReadyIn.nil;go_simp;refine a _ _ ?_;exact ag _ P
     go_simp;refine a _ _ ?_;refine wpAnyIn_ready (rs:=[0]) M Az ?_;refine AllReadyIn.cons Z (λd a=>?_) AllReadyIn.nil;have bp:(w3.alloc (.cells #[.int .i64 3,.string x.1] 182)).cell? ⟨w.heap.size+1+1,0,none⟩=some (.slice R pre.length S):=(Df w3 _ _ (by rw[aj];rfl)).trans aj;go_simp;refine a _ _ ?_;exact ag _ P
  case done =>
   intro D N W hD hS m a;obtain⟨q,u,ys,g,ho,bf⟩:=m.pat;have v:=T ho;have f:=T m;have HS:=T hS;have HK:=T a;have y:W.cell? ⟨w.heap.size+1+1,0,none⟩=some (.slice q N.length u):=g.cell;have c2:=m.r0.cell;have f2:=m.r0.frozen;have c3:=m.r1.cell;have f3:=m.r1.frozen
   gi_wp2
   refine NK ?_;have A:=mV HD.out HS.out f.out.le f.out.all;have t1:=Tr.set w.heap.size (w.heap.size+3) W w.heap.size (.slice q N.length u) (BM _) J;have t2:=Tr.set w.heap.size (w.heap.size+3) (W.setCell ⟨w.heap.size,0,none⟩ (.slice q N.length u)) (w.heap.size+1) (.bool true) J J;have b0:Boxed ((W.setCell ⟨w.heap.size,0,none⟩ (.slice q N.length u)).setCell ⟨w.heap.size+1,0,none⟩ (.bool true)) w.heap.size 175 (.slice q N.length u):=(f.out.r0.set _).kept (grownBy_setCell' _ _ _) AB;have b1:Boxed ((W.setCell ⟨w.heap.size,0,none⟩ (.slice q N.length u)).setCell ⟨w.heap.size+1,0,none⟩ (.bool true)) (w.heap.size+1) 4 (.bool true):=Boxed.set _ (f.out.r1.kept (grownBy_setCell' _ _ _) AB);have hb:=f.out.below.trans (t1.trans t2).below;have a:=(t1.trans t2).keep.same D _ HK.out Z;have HC:Hid (∀j,w.heap.size+6<=j->((W.setCell ⟨w.heap.size,0,none⟩ (.slice q N.length u)).setCell ⟨w.heap.size+1,0,none⟩ (.bool true)).heap[j]?=W.heap[j]?):=λj hj=>(FB _ _ _ _ Ax).trans (FB _ _ _ _ Ax);generalize(W.setCell ⟨w.heap.size,0,none⟩ (.slice q N.length u)).setCell ⟨w.heap.size+1,0,none⟩ (.bool true)=V at *;refine⟨Az,.inl ⟨D,_,Z,run_takeDeferred a,?_⟩⟩;have e0:=(b0.kept (grownBy_putObj' V D (.deferred none)) AB).cell;have e1:=(b1.kept (grownBy_putObj' V D (.deferred none)) AB).cell;refine⟨.tuple #[.slice q N.length u,.bool true],?_,⟨q,N.length,u,by rw[A],NL hb J _,λ_=>?_⟩⟩
   ·simp[results,f119,go_sem,e0,e1]
   exact oF HD.out HS.out v.out bf.out HK.out HC.out
  case stop =>
   intro D ai pre W hD hS hX a;obtain rfl:=hX.ret
   gi_wp2
   refine NK ?_;have A:Et s.data.toList=false:=by
    obtain⟨b5,hr⟩:=hS;exact mW HD.out hr hX.bad
   refine⟨Az,.inl ⟨D,_,Z,run_takeDeferred a,?_⟩⟩;have e0:=(hX.r0.kept (grownBy_putObj' W D (.deferred none)) AB).cell;have e1:=(hX.r1.kept (grownBy_putObj' W D (.deferred none)) AB).cell;refine⟨.tuple #[.slice none 0 0,.bool false],?_,⟨none,0,0,by rw[A],NL hX.below J _,λe=>by rw[A]at e;cases e⟩⟩;simp[results,f119,go_sem,e0,e1]
 have A:Et s.data.toList=true:=by unfold Et;rw[<-Ga,hd];rfl
 have HY:=T A;refine(Jg (n:=10)).1 ?_;refine callsIn_of_wp_marks func119 Z trivial ?_ Z;simp only[ntmps119,Hm,Cu,DX,Nat.reduceAdd,Nat.reduceSub,Mj,Mk,Mo,Ml,Jd,I4]
 gi_wp2
 refine Qs.2 (WI ((Qs (n:=10)).1 ?_))
 gi_wp2
 repeat(first|refine QR ?_|refine NK ?_)
 have e0:((w.alloc (.cells #[.slice none 0 0] 175)).alloc (.cells #[.bool true] 4)).cell? ⟨w.heap.size,0,none⟩=some (.slice none 0 0):=((Boxed.new w 175 (.slice none 0 0)).alloc _).cell;have e1:((w.alloc (.cells #[.slice none 0 0] 175)).alloc (.cells #[.bool true] 4)).cell? ⟨w.heap.size+1,0,none⟩=some (.bool true):=by
  have:=(Boxed.new (w.alloc (.cells #[.slice none 0 0] 175)) 4 (.bool true)).cell;rwa[BU]at this
 refine⟨.tuple #[.slice none 0 0,.bool true],?_,⟨none,0,0,by rw[HY.out],?_,λ_=>?_⟩⟩
 ·simp[results,f119,go_sem,e0,e1]
 ·exact(BN).alloc Az _
 have g:GJ s.data.toList=[]:=by unfold GJ;rw[<-Ga,hd];rfl
 rw[g];exact⟨Z,.inl Z⟩
end
end
end Go.Proofs.YtnlnjkggkbbdhaaGreatDoor
