import Derived.Test.YtnlnjkggkbbdhaaGreatDoorTq13
import Derived.Test.YtnlnjkggkbbdhaaGreatDoorTq14
set_option maxRecDepth 100000
set_option maxHeartbeats 8000000
set_option linter.all false
namespace Go.Proofs.YtnlnjkggkbbdhaaGreatDoor
open Go.Proofs.Tryz
open Go.Value renaming int->I,slice->G
open Option renaming some->U,none->Y
open Go.IntKind renaming i64->K
open Go renaming World->O
open Go.Obj renaming cells->E
open Go.Proofs.Tryz renaming prog->X
open Go.Value renaming pointer->A8,string->A9,tuple->Aa,bool->Ac
open Go.Ending renaming returned->Af
open Go renaming World->Ak,Value->Al,Calls->Am
variable{P:Program}{o:Oper}{a:Act}{V W W' W0 w:O}{Q:Exit->Act->O->Prop}{ops:Array Oper}{A lm m mn n t:Nat}{q:Cs}{sts:List ((Nat->Nat)×Int×Int)}{sv:Al}{mf nf:Lit->Option Nat}{c:BX}{s:ByteArray}{ks:List A1}{b l:A1}
section
open Go.RowKit
def EN(f:Int):Bool:=f==1||f==2||f==3
def U1(f:Int)(w:O):Am X 35 #[I K f] w λe a=>e=Af (Ac (EN f))/\a=w:=by
 go_enter func35,ntmps35;go_wp2
 all_goals go_ret
 all_goals exact⟨by simp[EN, *],rfl⟩
def R6(f:Int)(w:O):Am X 24 #[I K f] w λe a=>e=Af (Ac (EN f))/\a=w:=by
 go_enter func24,ntmps24;go_wp2
 all_goals go_ret
 all_goals exact⟨by simp[EN, *],rfl⟩
def EG(i o d b:Int):Bool:=EN i&&EN o&&decide (1<=d)&&decide (d<=16)&&decide (1<=b)&&decide (b<=4096)
def YF(i o d b:Int)(w:O):Am X 15 #[I K i,I K o,I K d,I K b] w λe j=>e=Af (Ac (EG i o d b))/\j=w:=by
 cases c:EN i
 ·have a:Hid (EG i o d b=false):=by show _=_;unfold EG;rw[c];rfl
  go_enter func15,ntmps15;have h:True:=trivial
  go_wp2_with(first
   |(go_at_call 35;clear h;refine(U1 _ _).mono ?_;rintro e g ⟨rfl,rfl⟩))
  go_ret;exact⟨Bb,Z⟩
 cases f:EN o
 ·have a:Hid (EG i o d b=false):=by show _=_;unfold EG;rw[c,f];rfl
  go_enter func15,ntmps15
  go_wp2_with(first
   |(go_at_call 35;refine(U1 _ _).mono ?_;rintro e g ⟨rfl,rfl⟩))
  go_ret;exact⟨Bb,Z⟩
 have a:Hid (EG i o d b=(decide (1<=d)&&decide (d<=16)&&decide (1<=b)&&decide (b<=4096))):=by show _=_;unfold EG;rw[c,f];rfl
 go_enter func15,ntmps15
 go_wp2_with(first
  |(go_at_call 35;refine(U1 _ _).mono ?_;rintro e g ⟨rfl,rfl⟩))
 all_goals go_ret
 all_goals refine⟨?_,rfl⟩
 all_goals rw[a.out]
 all_goals simp[*]
 all_goals(intros;omega)
def nh(W0:Ak)(A:Nat)(q:Cs)(sts:List ((Nat->Nat)×Int×Int))(sv:Al)(mn:Nat)(mf:Lit->Option Nat)(Y:Nat->Nat)(W:Ak)(e:Ending)(W':Ak):Prop :=
 ∃(i:Nat) (sts':List ((Nat->Nat)×Int×Int)) (sa':A4) (sc':Nat) (nf':Lit->Option Nat),e=Af (.int .i64 i)/\Iy A q sv W W'/\MT sv (.slice sa' sts'.length sc') W/\CZ W0 A q sts' (.slice sa' sts'.length sc') nf' mn mf W'/\(∀(j:Nat) (x:(Nat->Nat)×Int×Int),sts[j]?=some x->sts'[j]?=some x)/\sts'.length<=sts.length+1/\∃x,sts'[i]?=some x/\∀r,r<16->x.1 r=Y r
def Ze(d:O)(A:Nat)(q:Cs)(b:List ((Nat->Nat)×Int×Int))(m:A4)(n:Nat)(c:Lit->Option Nat)(k:Nat)(g:Lit->Option Nat)(W:O)(h:CZ d A q b (G m b.length n) c k g W)(a:Nat->Nat)(t:∀r,a r<512)(B:b.length<100000):Am X 56 #[A8 (U ⟨A,0,Y⟩),.agg (BR a)] W (nh d A q b (G m b.length n) k g a W):=by
 obtain⟨l,s⟩:=U6 a (λr=>Ao (t r))
 cases p:c l with
 |some i =>
  refine(mw d A q b _ c k g W h a l s i p).mono ?_;rintro e u ⟨rfl,o⟩;obtain⟨x,C,z⟩:=h.num' l i p;exact⟨i,b,m,n,c,rfl,⟨o.size,λj f _ _ _ _=>o.block j f⟩,.inl rfl,h.next o,λ_ _ y=>y,Nr _,x,C,YU (Value.agg.inj (U5.inj z s))⟩
 |none =>
  refine(ng d A q b m n c k g W h a t l s p B).mono ?_;rintro e u ⟨rfl,hF,F,H,D,w,v⟩;refine⟨b.length,b++[(a,DE q.dflt q.rs a 0)],F,H,D,Z,hF,?_,?_,λj x f=>?_,?_,(a,DE q.dflt q.rs a 0),Az,λ_ _=>rfl⟩
  ·rw[BK];exact w
  ·rw[BK];exact v
  ·rw[F6 (Cf f)];exact f
  rw[BK];exact BM _
def Li:Maps.Keyed X 9:=OB underlying9
def Ul(l:A1)(hb:l.length<=maxLen):keyOf X 9 (A9 ⟨l.toArray⟩)=U (.string l):=by
 have a:(⟨l.toArray⟩:ByteArray).size<=maxLen:=by
  show l.toArray.size<=maxLen;rw[Hm];exact hb
 simp[keyOf,mapKey,underlying9,a]
def Rn(l:A1)(hb:l.length<=1000000000):keyOf X 9 (A9 ⟨l.toArray⟩)=U (.string l):=Ul l AC
def Iz(lf:Lit->Option Nat)(key:A1)(ix:Bool):Nat:=if ix=true then 1 else(lf (.string key)).getD 0
def Zi(l:O)(A:Nat)(q:Cs)(s:List ((Nat->Nat)×Int×Int))(t:Al)(r:Lit->Option Nat)(o:Nat)(n:Lit->Option Nat)(W:O)(h:CZ l A q s t r o n W)(key:A1)(d:Bool)(hb:key.length<=maxLen):Am X 183 #[A8 (U ⟨A,0,Y⟩),.agg #[A9 ⟨key.toArray⟩,Ac d]] W λe k=>e=Af (I K (Iz q.lf key d))/\A0 W k:=by
 have m:=BC h.row;have c2:W.cell? ⟨A,2,Y⟩=U (.map (U q.lm)):=BB h.row 2;have f:Hid (Dv (W.alloc (E #[A9 ⟨key.toArray⟩,Ac d] 280)) 9 q.lm q.ln q.lf):=h.letters.kept (Jb W _ Y) Az;have v:=Pg f Li underlying127 (Ul key hb)
 cases d with
 |true =>
  go_enter func183,ntmps183;go_wp2;go_ret;exact⟨Z,BN⟩
 |false =>
  obtain⟨x,g⟩:∃x,x=(q.lf (.string key)).getD 0:=⟨_,rfl⟩
  have j:Hid (Iz q.lf key false=x):=by rw[g];rfl
  have i:=T g.symm;rw[j.out];go_enter func183,ntmps183;go_wp2;have b:(λa:O=>a.cell? ⟨A,2,Y⟩=U (.map (U q.lm))/\a.cell? ⟨W.heap.size,0,Y⟩=U (A9 ⟨key.toArray⟩)/\Dv a 9 q.lm q.ln q.lf) { (W.alloc (E #[A9 ⟨key.toArray⟩,Ac false] 280))with drawn:=(W.alloc (E #[A9 ⟨key.toArray⟩,Ac false] 280)).drawn+1}:=⟨((((C5 W.heap.size W).alloc (BM _) (E #[A9 ⟨key.toArray⟩,Ac false] 280)).cell (p:=⟨A,2,Y⟩) m).trans c2 :),BB (BI W _) 0,f⟩
  refine Ec (S:=λa=>a.cell? ⟨A,2,Y⟩=U (.map (U q.lm))/\a.cell? ⟨W.heap.size,0,Y⟩=U (A9 ⟨key.toArray⟩)/\Dv a 9 q.lm q.ln q.lf) M ?_;refine BE 0 7 (A8 (U ⟨A,0,Y⟩)) b ?_;refine BE 1 8 (A8 (U ⟨A,0,Y⟩)) b ?_;refine BE 2 9 (A8 (U ⟨A,2,Y⟩)) b ?_;refine BL 3 10 (.map (U q.lm)) Z (λa c=>?y3) b ?_
  case y3=>(have w:=c.1;go_simp)
  refine BE 4 11 (A8 (U ⟨W.heap.size,0,Y⟩)) b ?_;refine BL 5 12 (A9 ⟨key.toArray⟩) Z (λa c=>?y5) b ?_
  case y5=>(have y:=c.2.1;go_simp)
  refine BL 6 13 (I K x) Z (λa c=>?y6) b ?_
  case y6=>(have u:=Pg c.2.2 Li underlying127 (Ul key hb);rw[i.out]at u;go_simp)
  refine BE 7 4 (I K x) b ?_;refine Cv ?_;go_simp;go_wp2;go_ret;exact⟨Z,(BN).drew⟩
def Zj(w:O)(g o:Nat)(b:TypeId)(a:A3)(d:TypeDesc)(k:∀(j:Nat) (u:Al),a[j]?=U u->w.cell? ⟨g,o+j,Y⟩=U u)(m:P.underlying b=U d)(p:(match d with|.struct _|.array _ _=>true|_=>false)=true)(hi:(P.info? b).map (·.size)=U a.size):(loadVar b ⟨g,o,Y⟩).run P w=.ok (.agg a) w:=by
 have e:(loadCells ⟨g,o,Y⟩ a.toList.length).run P w=.ok a.toList.toArray w :=
  run_loadCells_list (P:=P) w ⟨g,o,Y⟩ a.toList (λj u n=>by
   have f:(⟨g,o,Y⟩:Addr).add j=⟨g,o+j,Y⟩:=by unfold Addr.add;split<;>simp_all
   rw[f];exact k j u (by simpa using n))
 cases c:P.info? b with
 |none=>simp[c]at hi
 |some i =>
  have l:i.size=a.size:=by simpa[c]using hi
  have h:(isAgg b).run P w=.ok true w:=by
   unfold isAgg;rw[Ei,Ql m w];cases d<;>simp_all
  simp only[ES,Array.toArray_toList]at e;simp[loadVar,Ei,h,sizeOf,typeInfo,c,l,e]
def Zk{K:Act->O->Prop}(c:TypeId)(x:Operand)(i:o.op=.load c x)(g k:Nat)(m:a.eval x=A8 (U ⟨g,k,Y⟩))(b:A3)(d:TypeDesc)(e:∀(j:Nat) (u:Al),b[j]?=U u->w.cell? ⟨g,k+j,Y⟩=U u)(l:P.underlying c=U d)(f:(match d with|.struct _|.array _ _=>true|_=>false)=true)(hi:(P.info? c).map (·.size)=U b.size)(h:K (a.put o.dst (.agg b)) w):o.wp P a w K Q:=by
 unfold Oper.wp execOp;simp only[i,m,Instr.loadAt,Instr.sureAddr,Ei,Fq,EA,Zj w g k c b d e l f hi];exact h
def Ro{rest:List Oper}(c:TypeId)(x:Operand)(m:o.op=.load c x)(l:Region.wanted o (yielded ops a.tmps)=true)(g k:Nat)(p:a.eval x=A8 (U ⟨g,k,Y⟩))(b:A3)(d:TypeDesc)(f:∀(j:Nat) (u:Al),b[j]?=U u->w.cell? ⟨g,k+j,Y⟩=U u)(n:P.underlying c=U d)(i:(match d with|.struct _|.array _ _=>true|_=>false)=true)(hi:(P.info? c).map (·.size)=U b.size)(h:wpList P ops Q rest (a.put o.dst (.agg b)) w):wpList P ops Q (o::rest) a w :=
 wpList_step λq e=>by rw[BA l];exact Zk c x m g k p b d f n i hi (e _ _ h)
def NZ{ev:Operand->Al}(b:TypeId)(x:Operand)(f:o.op=.load b x)(g k:Nat)(i:ev x=A8 (U ⟨g,k,Y⟩))(a:A3)(d:TypeDesc)(c:∀(j:Nat) (u:Al),a[j]?=U u->W.cell? ⟨g,k+j,Y⟩=U u)(h:P.underlying b=U d)(e:(match d with|.struct _|.array _ _=>true|_=>false)=true)(hi:(P.info? b).map (·.size)=U a.size):(execOp ev o).run P W=.ok (.value (.agg a)) W:=by
 unfold execOp;simp only[f,i,Instr.loadAt,Instr.sureAddr,Ei,Fq,EA,Zj W g k b a d c h e hi]
def Zl(x:(Nat->Nat)×Int×Int):Ld x=(DG x.1 x.2).toList:=by simp[Ld,DG]
def Rp(a:Nat->Nat)(x:Int×Int):(DG a x).size=18:=by simp[DG,La]
def ni(a:Nat->Nat)(x:Int×Int):(DG a x).all (·.oneCell')=true:=by rw[<-Array.all_toList,E8];exact Zd a x
def nj(a:List ((Nat->Nat)×Int×Int)):∀(i j:Nat) (x:(Nat->Nat)×Int×Int),a[i]?=U x->j<18->(a.flatMap Ld)[i*18+j]?=(DG x.1 x.2)[j]?:=by
 induction a with
 |nil=>intro i j x h;simp at h
 |cons y f d =>
  intro i j x h b;have c:(Ld y).length=18:=by rw[Zl,ES,Rp]
  rw[Kc]
  cases i with
  |zero =>
   have e:y=x:=B3
   subst e;rw[F6 J,Zl];simp
  |succ i =>
   rw[Ez J,c,show(i+1)*18+j-18=i*18+j by omega];exact d i j x B3 b
def CZ.state_at(h:CZ W0 A q sts sv nf mn mf W){i:Nat}{x:(Nat->Nat)×Int×Int}(f:sts[i]?=U x):∃g a,sv=G (U ⟨g,0,Y⟩) sts.length a/\g<W.heap.size/\g≠A/\∀(j:Nat) (u:Al),(DG x.1 x.2)[j]?=U u->W.cell? ⟨g,i*18+j,Y⟩=U u:=by
 have p:=Cf f;rcases h.states.2 with⟨_,n⟩|⟨g,a,k,d,o,b,s,r,t,m⟩
 ·omega
 refine⟨g,a,d,(BC b),(h.own g (by rw[d];rfl)).1,λj u c=>?_⟩;have l:j<18:=by rw[<-Rp x.1 x.2];exact BC c
 rw[F7 W g (i*18+j) k _ _ b];have e:=nj sts i j x f l;rw[c,<-m,KM J]at e;simpa using e
def Zm(a:Nat->Nat)(x:Int×Int):(prog.info? 188).map (·.size)=U (DG a x).size:=by rw[Rp];kernel_rfl
def nk(j:O)(A:Nat)(q:Cs)(a:List ((Nat->Nat)×Int×Int))(p:Al)(o:Lit->Option Nat)(n:Nat)(m:Lit->Option Nat)(W:O)(h:CZ j A q a p o n m W)(i:Nat)(x:(Nat->Nat)×Int×Int)(b:a[i]?=U x):Am X 123 #[A8 (U ⟨A,0,Y⟩),I K i] W λe f=>e=Af (Aa #[I K x.2.1,I K x.2.2])/\A0 W f:=by
 have s:=BC h.row;obtain⟨g,k,rfl,u,t,l⟩:=h.state_at b;have r:W.cell? ⟨A,20,Y⟩=U (G (U ⟨g,0,Y⟩) a.length k):=BB h.row 20;have v:(i:Int)<(a.length:Int):=Ao (Cf b)
 have d:=T l;go_enter func123,ntmps123
 go_wp2_with(first
  |(refine Ro 188 (.tmp 12) Z keS g (i*18) Z (DG x.1 x.2) _ d underlying188 Z (Zm x.1 x.2) ?_)
  |(refine Co Z 188 _ _ Z W.heap.size (DG x.1 x.2) Z Z 188 #[I .u16 0,I .u16 0,I .u16 0,I .u16 0,I .u16 0,I .u16 0,I .u16 0,I .u16 0,I .u16 0,I .u16 0,I .u16 0,I .u16 0,I .u16 0,I .u16 0,I .u16 0,I .u16 0,I K 0,I K 0] (BI W _) (Zm x.1 x.2) (by rw[Rp];rfl) (ni x.1 x.2) ?_;rw[FP]))
 have c:Hid (A0 W (W.alloc (E (DG x.1 x.2) 188))):=BN;have w:(W.alloc (E (DG x.1 x.2) 188)).cell? ⟨W.heap.size,16,Y⟩=U (I K x.2.1):=BB (BI W _) 16;have y:(W.alloc (E (DG x.1 x.2) 188)).cell? ⟨W.heap.size,17,Y⟩=U (I K x.2.2):=BB (BI W _) 17;generalize W.alloc (E (DG x.1 x.2) 188)=V at *
 go_quiet (fail)
 go_wp2;refine Cc (KT results123 _ _ _) Z ⟨Z,c.trans ⟨Z,Z,Z,BM _,λ_ _=>rfl⟩⟩
def Zp(x:Nat)(h:x<1000000000):(Lit.int K (x:Int)).wf=true:=by
 have a:IntKind.i64.min = -9223372036854775808:=M
 have b:IntKind.i64.max=9223372036854775807:=M
 simp[Lit.wf,a,b];omega
def E4(f x:Nat):A3:=#[.int .i64 f,.int .i64 x]
def nu(f x:Nat)(k:f<1000000000)(o:x<1000000000):∃l,keyOf prog 299 (.agg (E4 f x))=some l:=by
 obtain⟨d,j⟩:∃d,prog.types.size+1=d+2:=⟨prog.types.size-1,by have:1<=prog.types.size:=Ox M;omega⟩
 have h:prog.keyType 299=true:=M
 have a:prog.cellsOf 299=2:=M
 have i:prog.cellsOf 3=1:=M
 have m:(Value.agg (E4 f x)).formed prog 299=true:=by
  simp only[Value.formed,underlying299];rw[a];rfl
 have b:∀y:Nat,y<1000000000->prog.keyLits (d+1) 3 [.int .i64 y]=some [.int .i64 y]:=by
  intro y p;unfold Program.keyLits;simp only[underlying3];rw[BA ⟨trivial,Zp _ p⟩]
 have n:prog.keyLits (d+2) 299 (E4 f x).toList=some [.int .i64 f,.int .i64 x]:=by
  unfold Program.keyLits;simp only[underlying299];rw[BA ⟨by rw[a];rfl,M⟩];simp only[List.mapM_cons,List.mapM_nil,i,E4];have c:=b f k;have g:=b x o;simp[c,g]
 refine⟨.string (keyBytes [.int .i64 f,.int .i64 x]),?_⟩;unfold keyOf;simp only[underlying299];have e:(Value.agg (E4 f x)).cells=E4 f x:=rfl;rw[h,m,j,BA Bk,e,n,Qj]
def MV(q:Cs)(sts:List ((Nat->Nat)×Int×Int))(mf:Lit->Option Nat):Prop :=
 ∀(f x:Nat) (l:Lit) (k:Nat),keyOf prog 299 (.agg (E4 f x))=some l->mf l=some k->∃s t Y,sts[f]?=some s/\sts[k]?=some t/\NY q.rs.length q.st (Gl q.st (q.tk x) s.1 q.rs.length) Y/\∀r,r<16->t.1 r=Y r
def nv(m:O)(A:Nat)(q:Cs)(o:List ((Nat->Nat)×Int×Int))(p:Al)(n:Lit->Option Nat)(g:Nat)(d:Lit->Option Nat)(W:O)(h:CZ m A q o p n g d W)(f:Nat)(key:A1)(k:Bool)(hb:key.length<=maxLen)(x:Nat)(F:Iz q.lf key k=x)(l:Lit)(D:keyOf X 299 (.agg (E4 f x))=U l)(i:Nat)(hi:d l=U i):Am X 168 #[A8 (U ⟨A,0,Y⟩),I K f,.agg #[A9 ⟨key.toArray⟩,Ac k]] W λe C=>e=Af (I K i)/\A0 W C:=by
 have r:Hid (CZ m A q o p n g d (W.alloc (E #[A9 ⟨key.toArray⟩,Ac k] 280))):=h.next BN
 have t:Hid (A0 W (W.alloc (E #[A9 ⟨key.toArray⟩,Ac k] 280))):=BN;have v:=Zi m A q o p n g d _ r key k hb;rw[F]at v;go_enter func168,ntmps168
 go_wp2_with(first
  |(go_at_call 183;refine v.mono ?_;rintro e c ⟨rfl,w⟩;have y:=T (r.next w);have u:=T (t.trans (w.mono t.size))))
 have s:Hid (CZ m A q o p n g d (c.alloc (E (E4 f x) 299))):=y.next BN
 have B:Hid (A0 W (c.alloc (E (E4 f x) 299))):=u.alloc u.size _;have z:Hid ((c.alloc (E (E4 f x) 299)).heap[c.heap.size]?=U (E (E4 f x) 299)):=BI _ _;have a:(λb:O=>b.cell? ⟨A,22,Y⟩=U (.map (U q.mb))/\b.heap[c.heap.size]?=U (E (E4 f x) 299)/\Dv b 299 q.mb g d) { (c.alloc (E (E4 f x) 299))with drawn:=(c.alloc (E (E4 f x) 299)).drawn+1}:=⟨BB s.row 22,z,s.moves⟩
 refine Ec (S:=λb=>b.cell? ⟨A,22,Y⟩=U (.map (U q.mb))/\b.heap[c.heap.size]?=U (E (E4 f x) 299)/\Dv b 299 q.mb g d) M ?_;refine BE 0 16 (A8 (U ⟨A,0,Y⟩)) a ?_;refine BE 1 17 (A8 (U ⟨A,0,Y⟩)) a ?_;refine BE 2 18 (A8 (U ⟨A,22,Y⟩)) a ?_;refine BL 3 19 (.map (U q.mb)) Z (λb j=>?y3) a ?_
 case y3=>(have L:=j.1;go_simp)
 refine BL 4 20 (.agg (E4 f x)) Z (λb j=>?y4) a ?_
 case y4=>exact Le 299 (.tmp 7) rfl c.heap.size rfl _ _ _ _ j.2.1 underlying299 rfl M
 refine BL 5 21 (Aa #[I K i,Ac true]) Z (λb j=>?y5) a ?_
 case y5=>(have H:=Rd j.2.2 Ub underlying129 D;rw[hi]at H;go_simp)
 refine BE 6 15 (Aa #[I K i,Ac true]) a ?_;refine BE 7 22 (I K i) a ?_;refine BE 8 23 (Ac true) a ?_;refine BE 9 8 (I K i) a ?_;refine BE 10 9 (Ac true) a ?_;refine Cv ?_;go_simp;go_wp2;go_ret;exact⟨Z,B.drew⟩
def CZ.auR(h:CZ W0 A q sts sv nf mn mf W):LV W A q.ra q.rc q.rs.length q.st :=
 ⟨(BC h.row),BB h.row 0,λr a=>by
  rw[F7 W A (3+r) _ _ _ h.row]
  match r,a with
  |0,_|1,_|2,_|3,_|4,_|5,_|6,_|7,_|8,_|9,_|10,_|11,_|12,_|13,_|14,_|15,_=>rfl
  |n+16,a=>exact absurd a J⟩
def CZ.auT(h:CZ W0 A q sts sv nf mn mf W):Pf W A q.tb q.L q.tc q.tk:=by
 obtain⟨e,a,d⟩:=h.takes;exact⟨(BC h.row),(BC a),BB h.row 19,λx r c b=>(F7 W q.tb (x*16+r) _ _ _ a).trans (d x r c b)⟩
def CZ.moved{mn':Nat}{mf':Lit->Option Nat}(h:CZ W0 A q sts sv nf mn mf W)(a:W.grownBy W' (U q.mb))(m:Dv W' 299 q.mb mn' mf'):CZ W0 A q sts sv nf mn' mf' W':=by
 obtain⟨o,p,r,f,s,t,j,u,k,d⟩:=h.apart;obtain⟨v,w,x,y,z⟩:=h.high;obtain⟨l,c,n⟩:=h.takes;exact{h with
  row:=(a.block A (BC h.row) keP).trans h.row
  below:=⟨a.os.trans h.below.os,a.tape.trans h.below.tape,a.output.trans h.below.output,C7 h.below.size a.size,λi b=>(a.block i (CA b h.below.size) Ax).trans (h.below.block i b)⟩
  letters:=h.letters.kept a (by simpa using j)
  takes:=⟨l,(a.block _ (BC c) kfv).trans c,n⟩
  states:=Pk h.states λg e=>a.block g (Pj h.states e) (by simpa using(h.own g e).2.2.2.2)
  numbers:=h.numbers.kept a keB
  moves:=m}
end
section
open Go.RowKit Go.Shelf
section
attribute[local go_sem] Oper.semAt_some
def Um:∀(q r:List A1) (i:Nat),q.all (CG n)=true->i+q.length<=16->Ic n (q++r) i=Ic n r (i+q.length)
 |[],r,i,_,_=>rfl
 |x::q,r,i,h,hl=>by
  rw[List.all_cons,Dw]at h;rw[Cu]at hl;rw[I4,Ic,BA ⟨h.1,J⟩,Um q r (i+1) h.2 J,Cu];congr 1;omega
def Eu(n:Nat)(l:A1):Int:=if 0<=Dc n l then 6 else 0
def Hf(n:Nat)(l:A1):Int:=if 0<=Dc n l then Dc n l else 0
structure Po(w:World)(n:Nat)(pre:List Dk)(c:Code)(W:World):Prop where
 ret:c=.ret
 below:A0 w W
 r0:Boxed W (w.heap.size+1) 85 (.slice none 0 0)
 r1:Boxed W (w.heap.size+2) 31 (.int .i64 6)
 bad:∃q x,pre=q++[x]/\Boxed W (w.heap.size+3) 3 (.int .i64 (q.length:Nat))/\(q.map C3).all (CG n)=true/\q.length<=16/\¬(CG n (C3 x)=true/\q.length<16)
 size:w.heap.size+8<=W.heap.size
def Po.own{pre:List Dk}{c:Code}{row:Nat}(h:Po w n pre c W)(a:W.grownBy W' (U row))(j:w.heap.size+4<=row):Po w n pre c W':=by
 obtain⟨q,x,e,d,b,f,g⟩:=h.bad;exact⟨h.ret,h.below.trans ⟨a.os,a.tape,a.output,a.size,λi k=>a.block i B1 AB⟩,h.r0.kept a AB,h.r1.kept a AB,⟨q,x,e,d.kept a AB,b,f,g⟩,C7 h.size a.size⟩
def Zs{N k:Nat}(W:O)(a:N<=W.heap.size)(b:k+3<=W.heap.size):Tr N k W W.drew:=Tr.below' (C5 _ _).drew a b
def Tryz.infoRule2:(prog.info? 177).map (λi=>(i.zero,i.size,i.bytes))=U (U (.agg Db),3,40):=M
def nC{hs:s.size<=2000}{xs:List Dk}(e:¬s.size=0)(h:xs.map C3=Cn 10 (C3 ⟨s,hs⟩))(c:xs.length<=16)(b:(xs.map C3).all (CG n)=true):Dc n s.data.toList = -1:=by
 have a:Cn 10 s.data.toList=xs.map C3:=h.symm;have d:s.data.toList.length=s.size:=ES;unfold Dc;rw[Bz J,Bz J,a];have:=Um (n:=n) (xs.map C3) [] 0 b (by rw[Eo];omega);rw[IK]at this;rw[this];rfl
def nD{hs:s.size<=2000}{q:List Dk}{x:Dk}{r:List A1}(f:¬s.size=0)(h:Cn 10 (C3 ⟨s,hs⟩)=(q++[x]).map C3++r)(b:(q.map C3).all (CG n)=true)(e:q.length<=16)(c:¬(CG n (C3 x)=true/\q.length<16)):Dc n s.data.toList=q.length:=by
 have a:Cn 10 s.data.toList=(q++[x]).map C3++r:=h;have d:s.data.toList.length=s.size:=ES;unfold Dc;rw[Bz J,Bz J,a,G9,CN,Um (q.map C3) _ 0 b (by rw[Eo];omega)];simp only[EU,Je,I4,Jd,Eo,DY];rw[Ic,Bz c]
def nE(w:O)(n:Nat)(s:ByteArray)(a:O)(b:((((((((w.alloc (E #[I K n] 3)).alloc (E #[G Y 0 0] 85)).alloc (E #[I K 0] 31)).alloc (E #[I K 0] 3)).alloc (E #[G Y 0 0] 85)).alloc (E #[.string s] 9)).alloc (E #[A9 ⟨#[10]⟩] 9)).alloc (E #[I K 0] 3))=a):JV (w.heap.size+5) 10 a s:=by
 subst b;generalize hA:((((w.alloc (E #[I K n] 3)).alloc (E #[G Y 0 0] 85)).alloc (E #[I K 0] 31)).alloc (E #[I K 0] 3)).alloc (E #[G Y 0 0] 85)=A;have c:w.heap.size+5=A.heap.size:=by rw[<-hA];simp
 rw[c];refine⟨?_,?_,?_⟩
 ·exact((BT _ _ _ Ax).trans (BT _ _ _ Az)).trans (BI A _)
 ·refine(BT _ _ _ Az).trans ?_;have:=BI (A.alloc (E #[.string s] 9)) (E #[A9 ⟨#[10]⟩] 9);rwa[BU]at this
 have:=BI ((A.alloc (E #[.string s] 9)).alloc (E #[A9 ⟨#[10]⟩] 9)) (E #[I K 0] 3);rwa[BU,BU]at this
def Zt(w:O)(n:Nat)(e:Int):((((w.alloc (E #[I K n] 3)).alloc (E #[G Y 0 0] 85)).alloc (E #[I K e] 31)).alloc (E #[I K 0] 3)).cell? ⟨w.heap.size+1,0,Y⟩=U (G Y 0 0) /\
  ((((w.alloc (E #[I K n] 3)).alloc (E #[G Y 0 0] 85)).alloc (E #[I K e] 31)).alloc (E #[I K 0] 3)).cell? ⟨w.heap.size+1+1,0,Y⟩=U (I K e) /\
  ((((w.alloc (E #[I K n] 3)).alloc (E #[G Y 0 0] 85)).alloc (E #[I K e] 31)).alloc (E #[I K 0] 3)).cell? ⟨w.heap.size+1+1+1,0,Y⟩=U (I K 0):=by
 refine⟨?_,?_,?_⟩
 ·have:=Boxed.new (w.alloc (E #[I K n] 3)) 85 (G Y 0 0);rw[BU]at this;exact((this.alloc _).alloc _).cell
 ·have:=Boxed.new ((w.alloc (E #[I K n] 3)).alloc (E #[G Y 0 0] 85)) 31 (I K e);rw[BU,BU]at this;exact(this.alloc _).cell
 have:=Boxed.new (((w.alloc (E #[I K n] 3)).alloc (E #[G Y 0 0] 85)).alloc (E #[I K e] 31)) 3 (I K 0);rw[BU,BU,BU]at this;exact this.cell
end
end
section
open Go.RowKit
def JW(c:BX):Bool:=E9 c.labels c.L&&CE c.labels.toNat c.dflt&&CE c.labels.toNat c.clr
def CB(c:BX):Int :=
 if JW c=false then 1
 else if Jr c.labels.toNat (Cb c.labels.toNat c.L)=false then 2
 else if Js c.labels.toNat (Cb c.labels.toNat c.L)=false then 3
 else if EG c.inn c.out c.depth c.bytes=false then 4
 else if Ge c.B=false then 5
 else if 0<=Dc c.labels.toNat c.pol.data.toList then 6 else 0
def E5(c:BX):Int:=if CB c=6 then Dc c.labels.toNat c.pol.data.toList else 0
structure Jt(w:World)(c:BX)(W:World):Prop where
 below:A0 w W
 box:W.heap[w.heap.size]?=some (.cells c.arr 25)
def Jt.step(h:Jt w c W)(hb:A0 W W'):Jt w c W' :=
 ⟨h.below.trans (hb.mono h.below.size),(hb.block _ (BC h.box)).trans h.box⟩
def O2(w:O)(c:BX):Jt w c (w.alloc (E c.arr 25)):=⟨BN,BI _ _⟩
def Jt.cell(h:Jt w c W)(j:Nat):W.cell? ⟨w.heap.size,j,Y⟩=c.arr[j]?:=BB h.box j
def Jt.cfg(h:Jt w c W)(a:FF w c):FF W c:=a.below h.below
def oj(c:BX)(w:O)(h:FF w c):Am X 20 #[.agg c.arr] w λe d=>e=Af (Ac (E9 c.labels c.L))/\A0 w d:=by
 by_cases a:1<=c.labels/\c.labels<=6/\c.L.length<=30
 ·have e:E9 c.labels c.L=Ek c.labels.toNat c.L:=by unfold E9;rw[CH a];rfl
  rw[e];have b:((c.labels.toNat:Nat):Int)=c.labels:=LE J;exact mC c.arr c.labels.toNat c.L c.ea c.ecap ⟨c.size,by rw[b];rfl,rfl⟩ J J a.2.2 w h.edges
 have e:E9 c.labels c.L=false:=by unfold E9;rw[CO a];rfl
 rw[e];exact mB c.arr c.labels c.L c.ea c.ecap Z Z (by have:=h.eb;unfold maxLen;omega) w a
def Ur(h:E9 c.labels c.L=true):((c.labels.toNat:Nat):Int)=c.labels/\Lj c.arr c.labels.toNat c.L c.ea c.ecap:=by
 unfold E9 at h;rw[Dw]at h;have b:=CD h.1;have a:((c.labels.toNat:Nat):Int)=c.labels:=LE J;exact⟨a,⟨⟨c.size,by rw[a];rfl,rfl⟩,J,b.2.2,h.2⟩⟩
end
section
open Go.RowKit Go.Shelf
def oH(n:Nat)(s:ByteArray)(w:Ak)(e:Ending)(w':Ak):Prop :=
 ∃a m cap x y,e=Af (Aa #[.agg (F4 a m cap x y),Ac (CG n s.data.toList)])/\A0 w w'/\(CG n s.data.toList=true->m=(DU s.data.toList).1.length/\x=(DU s.data.toList).2.1/\y=(DU s.data.toList).2.2/\Hy w' w.heap.size 182 a (((DU s.data.toList).1.map Ew).flatMap FK))
def oI(s:ByteArray)(n:Nat)(w:O)(hs:s.size<=2000)(hg:Iq w):Am X 86 #[.string s,I K n] w λe w'=>oH n s w e w':=by
 have l:Hid ((prog.info? 177).map (·.size)=U Db.size):=Pn;have q:=T hg;obtain⟨g,r0,b0,B,C,ae,af,R⟩:=Zr s hs;obtain⟨d,f,b1,D,F,aj,ak,V⟩:=Zr r0 af;have hv:CG n s.data.toList=(Et g.data.toList&&(Gh d.data.toList n&&Ee f != 0)):=by
  rw[<-Zh];unfold Rm;rw[<-B,<-C,<-D,<-F,Ri]
 have m:=T hv;have Q:Hid (CG n s.data.toList=true->DU s.data.toList=(GJ g.data.toList,Km d.data.toList,Ee f)):=by
  intro hb;have H:=ZJ hb;rw[<-B,<-C,<-D,<-F]at H;have:=ZK H;rw[Ri]at this;exact this
 have z:=T (nB w);have S:=R _ (q.below z.below);go_enter func86,ntmps86
 go_wp2_with(fail)
 refine S.mono ?_;rintro e w2 ⟨rfl,aa⟩;have A:=T (z.step aa);have W:=V _ (q.below A.below)
 go_wp2_with(fail)
 refine W.mono ?_;rintro e N ⟨rfl,ab⟩;have r:=T (A.step ab);have b:=oG g N ae (q.below r.below)
 go_wp2_with(fail)
 refine b.mono ?_;rintro e w4 ⟨t,u,L,rfl,ac,ad⟩;have P:=T ad;have y:=T (BC r.res);have a:=T (r.step ac);cases i:Et g.data.toList
 ·have c:Hid (CG n s.data.toList=false):=by show _=_;rw[m.out,i];rfl
  go_wp2_with(first
   |(go_at_call 120;refine(TH d n _).mono ?_;rintro e v ⟨rfl,rfl⟩)
   |(go_at_call 121;refine(TG f _).mono ?_;rintro e x ⟨rfl,rfl⟩)
   |(refine Co Z 177 _ _ Z w.heap.size Db Z Z 177 Db a.res l Z Rg ?_))
  refine Cc (Ht results86 _ _ w.heap.size 177 Db (0,0) _ Z (Ca _ _ Db _ _ _ a.res) underlying177 Z Pn (Ac false) Z) Z ⟨Y,0,0,0,0,AV,CF a.below J _,λe=>kfl⟩
 cases k:Gh d.data.toList n
 ·have c:Hid (CG n s.data.toList=false):=by show _=_;rw[m.out,i,k];rfl
  have h:=λw=>TH d n w;rw[k]at h
  go_wp2_with(first
   |(go_at_call 120;refine(h _).mono ?_;rintro e v ⟨rfl,rfl⟩)
   |(go_at_call 121;refine(TG f _).mono ?_;rintro e x ⟨rfl,rfl⟩)
   |(refine Co Z 177 _ _ Z w.heap.size Db Z Z 177 Db a.res l Z Rg ?_))
  refine Cc (Ht results86 _ _ w.heap.size 177 Db (0,0) _ Z (Ca _ _ Db _ _ _ a.res) underlying177 Z Pn (Ac false) Z) Z ⟨Y,0,0,0,0,AV,CF a.below J _,λe=>kfl⟩
 have h:=λw=>TH d n w;rw[k]at h;have o:=λw=>TG f w;cases j:(Ee f != 0)
 ·have c:Hid (CG n s.data.toList=false):=by show _=_;rw[m.out,i,k,j];rfl
  rw[j]at o
  go_wp2_with(first
   |(go_at_call 120;refine(h _).mono ?_;rintro e v ⟨rfl,rfl⟩)
   |(go_at_call 121;refine(o _).mono ?_;rintro e x ⟨rfl,rfl⟩)
   |(refine Co Z 177 _ _ Z w.heap.size Db Z Z 177 Db a.res l Z Rg ?_))
  refine Cc (Ht results86 _ _ w.heap.size 177 Db (0,0) _ Z (Ca _ _ Db _ _ _ a.res) underlying177 Z Pn (Ac false) Z) Z ⟨Y,0,0,0,0,AV,CF a.below J _,λe=>kfl⟩
 have c:Hid (CG n s.data.toList=true):=by show _=_;rw[m.out,i,k,j];rfl
 rw[j]at o;have p:Hid (DU s.data.toList=(GJ g.data.toList,Km d.data.toList,Ee f)/\u=(GJ g.data.toList).length/\Hy w4 N.heap.size 182 t (((GJ g.data.toList).map Ew).flatMap FK)):=⟨Q c,P i⟩
 generalize Km d.data.toList=li at *;generalize Ee f=ai at *
 go_wp2_with(first
  |(go_at_call 120;refine(h _).mono ?_;rintro e v ⟨rfl,rfl⟩)
  |(go_at_call 121;refine(o _).mono ?_;rintro e x ⟨rfl,rfl⟩)
  |(refine Co Z 177 _ _ Z w.heap.size (F4 t u L li ai) Z Z 177 Db a.res l Z (MS _ _ _ _ _) ?_))
 refine Cc (Ht results86 _ _ w.heap.size 177 (F4 t u L li ai) (0,0) _ Z (Ca _ _ Db _ _ _ a.res) underlying177 Z Pn (Ac true) Z) Z ⟨_,_,_,_,_,by rw[c.out],CF a.below J _,λ_=>?_⟩;rw[p.1];exact⟨p.2.1,Z,Z,p.2.2.kept λag ah fr i j=>⟨Ao y.out,sx (Ao y.out) j⟩⟩
end
section
open Go.RowKit
def EI(ks:List A1):Lit->Option Nat
 |.string b=>if b∈ks then some (2+ks.idxOf b)else none
 |_=>none
def Ll(h:b∈ks):EI ks (.string b)=U (2+ks.idxOf b):=BA h
def MX(h:b∉ks):EI ks (.string b)=Y:=Bz h
def oT(h:b∉ks):EI (ks++[b]) (.string b)=U (2+ks.length):=by
 rw[Ll Az,WJ,Bz h];simp
def oU(_h:b∉ks)(l:Lit)(f:l≠.string b):EI (ks++[b]) l=EI ks l:=by
 cases l with
 |string c =>
  have d:c≠b:=λe=>f (by rw[e]);by_cases a:c∈ks
  ·rw[Ll a,Ll (by simp[a]),WJ,BA a]
  rw[MX a,MX (by simp[a,d])]
 |_=>rfl
def Gq(W:Ak)(m:Nat)(ks:List A1):Prop :=
 ∃D:A2,W.ownsMap prog 9 (plainElem prog 3) m ks.length D/\(∀l,Maps.has D l=(EI ks l).isSome/\∀v:Nat,EI ks l=some v->D.atKey l (.lit (.int .i64 0))=.lit (.int .i64 v))/\Maps.size D=ks.length
def Gq.im(h:Gq W m ks):Dv W 9 m ks.length (EI ks):=by
 obtain⟨D,a,b,_⟩:=h;exact⟨D,a,b⟩
def Gq.kept{row:Option Nat}(h:Gq W m ks)(c:W.grownBy W' row)(d:U m≠row):Gq W' m ks:=by
 obtain⟨D,a,b⟩:=h;exact⟨D,a.kept c d,b⟩
def Uy(W:O):Gq (W.alloc (.map #[] 0)) W.heap.size [] :=
 ⟨_,Qc W X _ _,λl=>⟨by cases l<;>simp[Maps.has,EI],λv h=>by cases l<;>simp[EI]at h⟩,rfl⟩
def Gq.len(h:Gq W m ks)(d:prog.underlying t=U (.map 9 3))(a:TypeId):(Builtin.len_ #[t] a #[.map (U m)]).run X W=.ok (I K ks.length) W:=by
 obtain⟨D,b,_,c⟩:=h;rw[b.len d a,c]
def oV(h:Gq W m ks)(q:prog.underlying t=U (.map 9 3))(s:ks.length<100000)(hb:b.length<=1000000000)(g:b∉ks):∃a,(Instr.mapUpdate t (.map (U m)) (A9 ⟨b.toArray⟩) (I K ((2+ks.length:Nat):Int))).run X W=.ok () a/\Gq a m (ks++[b])/\W.grownBy a (U m):=by
 obtain⟨D,c,d,j⟩:=h;have f:=Rn b hb;obtain⟨a,p,o,k⟩:=c.store Li q AC f (SR underlying3 (Zp (2+ks.length) J));have n:Maps.has D (.string b)=false:=by rw[(d _).1,MX g];rfl
 refine⟨a,p,⟨_,by rw[BK];exact o,λl=>?_,?_⟩,k.grown⟩
 ·by_cases e:l=.string b
  ·subst e;rw[oT g];refine⟨SH c.isMap (Li.key f) _,λu i=>?_⟩;have r:=EB i;rw[<-r];exact Ww c.isMap (Li.key f) _ _
  rw[oU g l e];exact⟨(SE e _).trans (d l).1,λu i=>(Ws e _ _).trans ((d l).2 u i)⟩
 rw[Maps.size_put (c.tidy Li),n,j,BK];rfl
def FY(ks:List A1)(s:Nat×A1):List A1:=if s.1=3/\s.2∉ks then ks++[s.2]else ks
def LX(ks:List A1)(r:List (Nat×A1)×Int×Int):List A1:=r.1.foldl FY ks
def Fx(rs:List (List (Nat×A1)×Int×Int)):List A1:=rs.foldl LX []
def oW(ks:List A1)(s:Nat×A1):(FY ks s).length<=ks.length+1:=by
 unfold FY;split<;>simp
def ZP:∀(ss:List (Nat×A1)) (ks:List A1),(ss.foldl FY ks).length<=ks.length+ss.length
 |[],ks=>Az
 |s::ss,ks=>by
  have a:=ZP ss (FY ks s);have b:=oW ks s;simp only[List.foldl_cons,Cu];omega
def LY{md:Region.Mode}{S:O->Prop}{oi:Oper}{fuel:Nat}{listed:Array Bool}(i d:Nat)(hi:ops[i]?=U oi)(b:(Region.noSelect ops&&Region.free md ops listed i&&(Region.ready md ops listed).contains i&&oi.dst==U d && !Region.wanted oi (yielded ops a.tmps))=true)(e:∀c a w,Q (.panic c) (a.put (U d) undef) w->Q (.panic c) a w)(f:S w)(h:wpAnyH P md ops Q S fuel (listed.setIfInBounds i true) (a.put (U d) undef) w):wpAnyH P md ops Q S (fuel+1) listed a w:=by
 simp only[Dw]at b;have g:oi.dst=U d:=ke0
 rw[<-g]at e h;exact D3 hi b.1.1.1.1 b.1.1.1.2 b.1.1.2 e (.inr ⟨by simpa using b.2,Z⟩) f h
structure Bt(b:Nat)(W W':World):Prop where
 os:W'.os=W.os
 tape:W'.tape=W.tape
 output:W'.output=W.output
 size:W.heap.size<=W'.heap.size
 block:∀k,k<W.heap.size->k≠b->W'.heap[k]?=W.heap[k]?
def Bt.refl(b:Nat)(W:O):Bt b W W:=⟨rfl,rfl,rfl,BM _,λ_ _ _=>rfl⟩
def Bt.trans{b:Nat}{A B C:O}(h:Bt b A B)(k:Bt b B C):Bt b A C :=
 ⟨k.os.trans h.os,k.tape.trans h.tape,k.output.trans h.output,C7 h.size k.size,λi a c=>(k.block i (CA a h.size) c).trans (h.block i a c)⟩
def Bt.of_below{b:Nat}(h:A0 W W'):Bt b W W':=⟨h.os,h.tape,h.output,h.size,λk a _=>h.block k a⟩
structure Kx(W:World)(lm:Nat)(ks:List A1)(V:World):Prop where
 but:Bt lm W V
 names:Gq V lm ks
def Kx.next{V':O}(h:Kx W lm ks V)(hb:A0 V V'):Kx W lm ks V' :=
 ⟨h.but.trans (Bt.of_below hb),h.names.kept (row:=Y) ⟨hb.os,hb.tape,hb.output,hb.size,λi a _=>hb.block i a⟩ Az⟩
def Bt.low(h:Bt lm W V)(a:A0 W0 W)(c:W0.heap.size<=lm):A0 W0 V :=
 ⟨h.os.trans a.os,h.tape.trans a.tape,h.output.trans a.output,C7 a.size h.size,λi b=>(h.block i (CA b a.size) J).trans (a.block i b)⟩
def Bt.cellA{j:Nat}{u:Al}(h:Bt lm W V)(b:A<W.heap.size)(c:A≠lm)(a:W.cell? ⟨A,j,Y⟩=U u):V.cell? ⟨A,j,Y⟩=U u:=by
 have e:=h.block A b c;unfold World.cell? at a ⊢;rw[e];exact a
def ZQ(n:Nat)(h:n<=128):wrap64 (2+(n:Int))=((2+n:Nat):Int):=by
 unfold wrap64;omega
def oX(Q W:O)(A l:Nat)(ra:A4)(rc:Nat)(rs:List (List (Nat×A1)×Int×Int))(ay:A0 Q W)(hA:A<W.heap.size)(aa:A≠l)(hl:Q.heap.size<=l)(hn:rs.length<=16)(h8:∀i (h:i<rs.length),rs[i].1.length<=8)(a0:∀i (h:i<rs.length) j (h2:j<rs[i].1.length),rs[i].1[j].2.length<=1000000000)(c0:W.cell? ⟨A,0,Y⟩=U (G ra rs.length rc))(c2:W.cell? ⟨A,2,Y⟩=U (.map (U l)))(hr:Ib Q ra rs)(hm:Gq W l []):Am X 54 #[A8 (U ⟨A,0,Y⟩)] W λaw W'=>aw=Af (Aa #[])/\Kx W l (Fx rs) W':=by
 have HR:=T hr;have g:=T ay;have HM:=T hm;go_enter func54,ntmps54;go_wp2
 go_loopg[12] rs.length (λz ad wr=>∃(k:Nat) (m:List A1),ad=I K k/\Hid (k+z=rs.length)/\Hid (Kx W l m wr)/\Hid (Fx rs=(rs.drop k).foldl LX m)/\Hid (m.length<=8*k))
 case atStart=>exact⟨0,[],rfl,AD,⟨Bt.refl _ _,HM⟩,rfl,by show _<=_;simp⟩
 case round =>
  obtain⟨k,m,rfl,B,P,HK,HL⟩:=hrel
  cases gk with
  |zero =>
   have a1:¬(k:Int)<(rs.length:Int):=Ao B.out
   have b:Hid (Fx rs=m):=by
    have h:=HK.out;rw[K9 (Ao B.out)]at h;exact h
   go_wp2;go_end0;rw[b.out];exact⟨Z,P⟩
  |succ z =>
   have H:k<rs.length:=Ao B.out
   have a1:(k:Int)<(rs.length:Int):=J
   obtain⟨av,off,pa,pc,rfl,hb,e0,e1,e2,ba⟩:=(HR.below (P.but.low g hl)).at_ k H;have ap:Hid (MM Q pa rs[k].1):=by
    obtain⟨b',bc,be,bf,ab,az,f0,f1,f2,a4⟩:=HR.at_ k H;injection ab with ab;injection ab with hab1 hab2;subst hab1;subst hab2;have y:=((P.but.low g hl).cell (p:=⟨av,off+k*3,Y⟩) az).trans f0;rw[e0]at y;injection y with y;injection y with y _ _;subst y;exact a4
   have a8:=h8 k H;have an:=T (a0 k H);have am:Hid (Fx rs=(rs.drop (k+1)).foldl LX (rs[k].1.foldl FY m)):=by
    have h:=HK.out;rw[G7 H]at h;exact h
   have ao:Hid (Kx W l m (wr.alloc (E #[G pa rs[k].1.length pc,I K rs[k].2.1,I K rs[k].2.2] 177))):=P.next BN
   go_wp2;generalize wr.alloc (E #[G pa rs[k].1.length pc,I K rs[k].2.1,I K rs[k].2.2] 177)=V0 at *;generalize hss:rs[k].1=ss at *
   go_loopg[19] ss.length (λF ad au=>∃(j:Nat) (c:List A1),ad=I K j/\Hid (j+F=ss.length)/\Hid (Kx W l c au)/\Hid (ss.foldl FY m=(ss.drop j).foldl FY c)/\Hid (c.length<=m.length+j))
   case atStart=>exact⟨0,m,rfl,AD,ao,rfl,BM _⟩
   case round =>
    obtain⟨j,c,rfl,n,D,ae,u⟩:=hrel
    cases gk with
    |zero =>
     have a2:¬(j:Int)<(ss.length:Int):=Ao n.out
     have b:Hid (ss.foldl FY m=c):=by
      have h:=ae.out;rw[K9 (Ao n.out)]at h;exact h
     go_wp2;go_roundg z
     case measure=>omega
     case rel=>exact⟨k+1,c,AE,Ap B.out,D,by have h:=am.out;rw[b.out]at h;exact h,by show _<=_;have:=HL.out;have:=u.out;have:=n.out;omega⟩
    |succ F =>
     have ac:j<ss.length:=Ao n.out
     have a2:(j:Int)<(ss.length:Int):=J
     obtain⟨b2,bd,rfl,a6,s0,s1⟩:=(ap.below (D.but.low g hl)).at_ j ac;have e:Hid (ss.foldl FY m=(ss.drop (j+1)).foldl FY (FY c ss[j])):=by
      have h:=ae.out;rw[G7 ac]at h;exact h
     have V:=T (an j ac);generalize ss[j]=sg at *;have w:Hid (Kx W l c (wr.alloc (E #[I K sg.1,A9 ⟨sg.2.toArray⟩] 182))):=D.next BN
     obtain⟨q,key⟩:=sg;have R:Hid ((wr.alloc (E #[I K q,A9 ⟨key.toArray⟩] 182)).heap[wr.heap.size]?=U (E #[I K q,A9 ⟨key.toArray⟩] 182)):=BI _ _;have al:=T D.names.im.lt;clear D;go_wp2;generalize wr.alloc (E #[I K q,A9 ⟨key.toArray⟩] 182)=V1 at *;generalize wr.heap.size=M at *;refine DA (S:=λd=>d.cell? ⟨A,2,Y⟩=U (.map (U l))/\d.heap[M]?=U (E #[I K q,A9 ⟨key.toArray⟩] 182)/\Gq d l c) (⟨w.but.cellA hA aa c2,R,w.names⟩) Aw ?_;intro a;by_cases ai:q=3
     ·subst ai;by_cases L:key∈c
      ·obtain⟨x,hx⟩:∃x,x=2+c.idxOf key:=⟨_,rfl⟩
       have HX:Hid ((EI c (.string key)).getD 0=x):=by show _=_;rw[Ll L,hx];rfl
       have bb:((x:Int)==0)=false:=Ax
       have C:Hid (FY c (3,key)=c):=Bz (λh=>h.2 L);clear hx;refine BE 0 23 (A8 (U ⟨M,0,Y⟩)) a ?_;refine BL 1 24 (I K 3) Z (λd f=>?y1) a ?_
       case y1=>(have r:=BB f.2.1 0;go_simp)
       refine BE 2 25 (Ac true) a ?_;refine BE 3 26 (Ac true) a ?_;refine BE 4 27 (A8 (U ⟨A,0,Y⟩)) a ?_;refine BE 5 28 (A8 (U ⟨A,0,Y⟩)) a ?_;refine BE 6 29 (A8 (U ⟨A,2,Y⟩)) a ?_;refine BL 7 30 (.map (U l)) Z (λd f=>?y7) a ?_
       case y7=>(have r:=f.1;go_simp)
       refine BE 8 31 (A8 (U ⟨M,1,Y⟩)) a ?_;refine BL 9 32 (A9 ⟨key.toArray⟩) Z (λd f=>?y9) a ?_
       case y9=>(have r:=BB f.2.1 1;go_simp)
       refine BL 10 33 (I K x) Z (λd f=>?y10) a ?_
       case y10=>(have z3:=Pg f.2.2.im Li underlying127 (Rn key V);rw[HX.out]at z3;go_simp)
       refine BL 11 34 (Ac false) Z (λd f=>?y11) a ?_
       case y11=>(go_simp)
       refine BE 12 35 (Ac false) a ?_;refine Cv ?_;go_simp;have o:=T (w.next (C5 _ _).drew);go_wp2;go_roundg F
       case measure=>omega
       case rel=>exact⟨j+1,c,AE,Ap n.out,o,ke6,by show _<=_;have:=u.out;omega⟩
      have HX:Hid ((EI c (.string key)).getD 0=0):=by show _=_;rw[MX L];rfl
      have C:Hid (FY c (3,key)=c++[key]):=BA ⟨Z,L⟩;refine BE 0 23 (A8 (U ⟨M,0,Y⟩)) a ?_;refine BL 1 24 (I K 3) Z (λd f=>?y1) a ?_
      case y1=>(have r:=BB f.2.1 0;go_simp)
      refine BE 2 25 (Ac true) a ?_;refine BE 3 26 (Ac true) a ?_;refine BE 4 27 (A8 (U ⟨A,0,Y⟩)) a ?_;refine BE 5 28 (A8 (U ⟨A,0,Y⟩)) a ?_;refine BE 6 29 (A8 (U ⟨A,2,Y⟩)) a ?_;refine BL 7 30 (.map (U l)) Z (λd f=>?y7) a ?_
      case y7=>(have r:=f.1;go_simp)
      refine BE 8 31 (A8 (U ⟨M,1,Y⟩)) a ?_;refine BL 9 32 (A9 ⟨key.toArray⟩) Z (λd f=>?y9) a ?_
      case y9=>(have r:=BB f.2.1 1;go_simp)
      refine BL 10 33 (I K 0) Z (λd f=>?y10) a ?_
      case y10=>(have z3:=Pg f.2.2.im Li underlying127 (Rn key V);rw[HX.out]at z3;go_simp)
      refine BE 11 34 (Ac true) a ?_;refine BE 12 35 (Ac true) a ?_;refine Cv ?_;go_simp;have o:=T (w.next (C5 _ _).drew);have N:Hid ((World.drew V1).heap[M]?=U (E #[I K 3,A9 ⟨key.toArray⟩] 182)):=R.out;clear a w R;generalize World.drew V1=V2 at *;have d2:=o.but.cellA hA aa c2;have a9:=o.names.len underlying127;have aj:c.length<=8*16:=ke3
      obtain⟨v,hv⟩:∃v,v=2+c.length:=⟨_,rfl⟩
      have ar:Hid (wrap64 (2+(c.length:Int))=(v:Int)):=by show _=_;rw[hv];exact ZQ _ aj
      have aq:=T hv;clear hv aj;go_wp2;rw[ar.out];have af:=T (o.next (C5 _ _).drew);obtain⟨w7,ak,ah,t⟩:=oV af.names underlying127 ke3 V L;rw[<-aq.out]at ak;have ag:Hid (Kx W l (c++[key]) w7):=⟨af.but.trans ⟨t.os,t.tape,t.output,t.size,λi hi a3=>t.block i hi (by simpa using a3)⟩,ah⟩
      have s:(λd:O=>d.cell? ⟨A,2,Y⟩=U (.map (U l))/\d.heap[M]?=U (E #[I K 3,A9 ⟨key.toArray⟩] 182)) {V2 with drawn:=V2.drawn+1}:=⟨d2,N⟩
      have ax:(λd:O=>d.cell? ⟨A,2,Y⟩=U (.map (U l))/\d.heap[M]?=U (E #[I K 3,A9 ⟨key.toArray⟩] 182)) w7:=⟨ag.but.cellA hA aa c2,(t.block M (BC N) (As al.out)).trans N⟩
      clear ah t o N;refine Ec (S:=λd=>d.cell? ⟨A,2,Y⟩=U (.map (U l))/\d.heap[M]?=U (E #[I K 3,A9 ⟨key.toArray⟩] 182)) Aw ?_;refine BE 0 42 (A8 (U ⟨A,0,Y⟩)) s ?_;refine BE 1 43 (A8 (U ⟨A,0,Y⟩)) s ?_;refine BE 2 44 (A8 (U ⟨A,2,Y⟩)) s ?_;refine BL 3 45 (.map (U l)) Z (λd f=>?y3) s ?_
      case y3=>(have r:=f.1;go_simp)
      refine BE 4 46 (A8 (U ⟨M,1,Y⟩)) s ?_;refine BL 5 47 (A9 ⟨key.toArray⟩) Z (λd f=>?y5) s ?_
      case y5=>(have r:=BB f.2 1;go_simp)
      refine BE 6 48 (I K v) s ?_;refine C9 7 (λa5 hK=>?_);go_simp;refine hK.out _ _ ax (λ_=>?_);clear hK;refine Cv ?_;go_simp;clear ak;go_wp2;go_roundg F
      case measure=>omega
      case rel=>exact⟨j+1,c++[key],AE,Ap n.out,ag,ke6,by show _<=_;have:=u.out;simp;omega⟩
     have a7:((q:Int)==3)=false:=Ax
     have C:Hid (FY c (q,key)=c):=Bz (λh=>ai h.1);refine BE 0 23 (A8 (U ⟨M,0,Y⟩)) a ?_;refine BL 1 24 (I K q) Z (λd f=>?y1) a ?_
     case y1=>(have r:=BB f.2.1 0;go_simp)
     refine BL 2 25 (Ac false) Z (λd f=>?y2) a ?_
     case y2=>(go_simp)
     refine BE 3 26 (Ac false) a ?_;refine LY 4 27 Z Aw (λ_ _ _ h=>h) a ?_;refine LY 5 28 Z Aw (λ_ _ _ h=>h) a ?_;refine LY 6 29 Z Aw (λ_ _ _ h=>h) a ?_;refine LY 7 30 Z Aw (λ_ _ _ h=>h) a ?_;refine LY 8 31 Z Aw (λ_ _ _ h=>h) a ?_;refine LY 9 32 Z Aw (λ_ _ _ h=>h) a ?_;refine LY 10 33 Z Aw (λ_ _ _ h=>h) a ?_;refine LY 11 34 Z Aw (λ_ _ _ h=>h) a ?_;refine BE 12 35 (Ac false) a ?_;refine Cv ?_;go_simp;have o:=T (w.next (C5 _ _).drew);go_wp2;go_roundg F
     case measure=>omega
     case rel=>exact⟨j+1,c,AE,Ap n.out,o,ke6,by show _<=_;have:=u.out;omega⟩
def UF:∀(q:List A1) (i:Nat),Ic n q i<0->i<=16->(∀x∈q,CG n x=true)/\i+q.length<=16
 |[],i,_,hi=>⟨λx c=>absurd c Az,by simpa using hi⟩
 |x::q,i,h,_=>by
  unfold Ic at h;split at h
  ·next hc =>
   obtain⟨b,d⟩:=UF q (i+1) h J;refine⟨λy a=>?_,by rw[Cu];omega⟩;rcases Ho.1 a with rfl|a
   ·exact hc.1
   exact b y a
  omega
def pR(h:Et l=true):(GJ l).length<=8:=by
 unfold Et at h;unfold GJ
 cases a:(l==[46])with
 |true=>simp
 |false =>
  rw[a,SQ,Dw]at h;have:=CD h.2;simpa using this
def pS{s:A1}(h:s∈GJ l):s.length<=l.length:=by
 unfold GJ at h;split at h
 ·cases h
 exact MR 47 l s h
def pU(h:CG n l=true):(DU l).1.length<=8/\∀s∈(DU l).1,s.length<=l.length:=by
 have b:=ZJ h;have c:=ZK b;have a:LW n [(Lib.cut l [32]).1,(Lib.cut (Lib.cut l [32]).2.1 [32]).1,(Lib.cut (Lib.cut l [32]).2.1 [32]).2.1]=true:=by
  rw[<-b];exact h
 unfold LW at a;rw[Dw]at a;rw[c];have e:(Lib.cut l [32]).1.length<=l.length:=MR 32 l _ (by rw[b];simp);exact⟨pR a.1,λs d=>C7 (pS d) e⟩
def pV(h:Eu n l=0):(Dd l).length<=16/\∀r∈Dd l,r.1.length<=8/\∀s∈r.1,s.length<=2000:=by
 have a:Dc n l<0:=by
  unfold Eu at h;split at h
  ·cases h
  omega
 unfold Dc at a;unfold Dd;split at a
 ·omega
 next hb =>
 split at a
 ·next h0 =>
  rw[BA h0];exact⟨Az,λr b=>by cases b⟩
 next h0 =>
 rw[Bz h0];obtain⟨d,i⟩:=UF (Cn 10 l) 0 a J;refine⟨by rw[Eo];omega,λr b=>?_⟩;obtain⟨x,c,rfl⟩:=Mt.1 b;obtain⟨f,g⟩:=pU (d x c);refine⟨f,λs e=>?_⟩;have:=g s e;have:=MR 10 l x c;omega
def UG(h:Eu n l=0):((Dd l).map DP).length<=16/\(∀i (h:i<((Dd l).map DP).length),((Dd l).map DP)[i].1.length<=8)/\∀i (h:i<((Dd l).map DP).length) j (a:j<((Dd l).map DP)[i].1.length),((Dd l).map DP)[i].1[j].1<=3/\((Dd l).map DP)[i].1[j].2.length<=1000000000:=by
 obtain⟨m,a⟩:=pV h;refine⟨by rw[Eo];exact m,λi b=>?_,λi b j c=>?_⟩
 ·rw[Qg];have d:i<(Dd l).length:=by rwa[Eo]at b
  show((Dd l)[i].1.map Ew).length<=8;rw[Eo];exact(a _ (Kd _)).1
 have d:i<(Dd l).length:=by rwa[Eo]at b
 have e:((Dd l).map DP)[i]=DP (Dd l)[i]:=Qg _;have f:j<(Dd l)[i].1.length:=by
  rw[Qg]at c;have:((Dd l)[i].1.map Ew).length=(Dd l)[i].1.length:=Eo _;exact this▸c
 have g:((Dd l).map DP)[i].1[j]=Ew ((Dd l)[i].1[j]):=by
  have:(((Dd l).map DP)[i].1)[j]?=((DP (Dd l)[i]).1)[j]?:=by rw[e]
  rw[C6 c]at this;have k:((DP (Dd l)[i]).1)[j]?=U (Ew ((Dd l)[i].1[j])):=by
   show((Dd l)[i].1.map Ew)[j]?=_;rw[Jc,C6 f];rfl
  rw[k]at this;injection this
 rw[g];have:=(a _ (Kd d)).2 _ (Kd f);have:=ox (Dd l)[i].1[j];exact⟨ow _,J⟩
end
end Go.Proofs.YtnlnjkggkbbdhaaGreatDoor
