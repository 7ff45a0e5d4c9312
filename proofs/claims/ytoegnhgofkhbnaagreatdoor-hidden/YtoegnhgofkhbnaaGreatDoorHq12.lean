import Derived.Test.YtoegnhgofkhbnaaGreatDoorHq09
set_option maxRecDepth 100000
set_option maxHeartbeats 8000000
set_option linter.all false
namespace Go.Proofs.YtoegnhgofkhbnaaGreatDoor
open Go.Proofs.Tryz
open Go.Value renaming int->A7,slice->A8,pointer->A9,string->Aa,tuple->Ab,bool->Ad
open Go.Obj renaming cells->Af
open Go.IntKind renaming i64->Ah
open Option renaming some->Aj,none->Ak
open Go renaming World->Al,Value->Am,Calls->An
variable{P:Program}{o:Oper}{a:Act}{V W W' W0 w:Al}{Q:Exit->Act->Al->Prop}{ops:Array Oper}{A i j lm m mn n p r t:Nat}{q:Bi}{sts:List ((Nat->Nat)×Int×Int)}{sv:Am}{mf nf:Lit->Option Nat}{c:AN}{s:Nat×A2}{O:A4}{ks:List A2}{b:A2}{rs:List (List (Nat×A2)×Int×Int)}{R:List (Nat×A2)×Int×Int}{st:Nat->Nat}
section
open Go.RowKit
theorem X9(w:Al)(g o:Nat)(a:TypeId)(O:A4)(d:TypeDesc)(h:∀(j:Nat) (u:Am),O[j]?=Aj u->w.cell? ⟨g,o+j,Ak⟩=Aj u)(l:P.underlying a=Aj d)(n:(match d with|.struct _|.array _ _=>true|_=>false)=true)(hi:(P.info? a).map (·.size)=Aj O.size):(loadVar a ⟨g,o,Ak⟩).run P w=.ok (.agg O) w:=by
 have c:(loadCells ⟨g,o,Ak⟩ O.toList.length).run P w=.ok O.toList.toArray w :=
  run_loadCells_list (P:=P) w ⟨g,o,Ak⟩ O.toList (λj u m=>by
   have e:(⟨g,o,Ak⟩:Addr).add j=⟨g,o+j,Ak⟩:=by unfold Addr.add;split<;>simp_all
   rw[e];exact h j u (by simpa using m))
 cases b:P.info? a with
 |none=>simp[b]at hi
 |some i =>
  have k:i.size=O.size:=by simpa[b]using hi
  have f:(isAgg a).run P w=.ok true w:=by
   unfold isAgg;rw[D8,LG l w];cases d<;>simp_all
  simp only[DB,Uh]at c;simp[loadVar,D8,f,sizeOf,typeInfo,b,k,c]
theorem Xa{K:Act->Al->Prop}(b:TypeId)(x:Operand)(f:o.op=.load b x)(g k:Nat)(l:a.eval x=A9 (Aj ⟨g,k,Ak⟩))(O:A4)(d:TypeDesc)(c:∀(j:Nat) (u:Am),O[j]?=Aj u->w.cell? ⟨g,k+j,Ak⟩=Aj u)(i:P.underlying b=Aj d)(e:(match d with|.struct _|.array _ _=>true|_=>false)=true)(hi:(P.info? b).map (·.size)=Aj O.size)(h:K (a.put o.dst (.agg O)) w):o.wp P a w K Q:=by
 unfold Oper.wp execOp;simp only[f,l,Instr.loadAt,Instr.sureAddr,D8,E4,Dl,X9 w g k b O d c i e hi];exact h
theorem Px{rest:List Oper}(b:TypeId)(x:Operand)(l:o.op=.load b x)(i:Region.wanted o (yielded ops a.tmps)=true)(g k:Nat)(n:a.eval x=A9 (Aj ⟨g,k,Ak⟩))(O:A4)(d:TypeDesc)(e:∀(j:Nat) (u:Am),O[j]?=Aj u->w.cell? ⟨g,k+j,Ak⟩=Aj u)(m:P.underlying b=Aj d)(f:(match d with|.struct _|.array _ _=>true|_=>false)=true)(hi:(P.info? b).map (·.size)=Aj O.size)(h:wpList P ops Q rest (a.put o.dst (.agg O)) w):wpList P ops Q (o::rest) a w :=
 wpList_step λK c=>by rw[As i];exact Xa b x l g k n O d e m f hi (c _ _ h)
theorem NM{ev:Operand->Am}(a:TypeId)(x:Operand)(e:o.op=.load a x)(g k:Nat)(h:ev x=A9 (Aj ⟨g,k,Ak⟩))(O:A4)(d:TypeDesc)(b:∀(j:Nat) (u:Am),O[j]?=Aj u->W.cell? ⟨g,k+j,Ak⟩=Aj u)(f:P.underlying a=Aj d)(c:(match d with|.struct _|.array _ _=>true|_=>false)=true)(hi:(P.info? a).map (·.size)=Aj O.size):(execOp ev o).run P W=.ok (.value (.agg O)) W:=by
 unfold execOp;simp only[e,h,Instr.loadAt,Instr.sureAddr,D8,E4,Dl,X9 W g k a O d b f c hi]
theorem Xb(x:(Nat->Nat)×Int×Int):Jz x=(CB x.1 x.2).toList:=by simp[Jz,CB]
theorem Py(Y:Nat->Nat)(x:Int×Int):(CB Y x).size=18:=by simp[CB,Ju]
theorem jy(Y:Nat->Nat)(x:Int×Int):(CB Y x).all (·.oneCell')=true:=by rw[<-Array.all_toList,D7];exact X1 Y x
theorem jz(a:List ((Nat->Nat)×Int×Int)):∀(i j:Nat) (x:(Nat->Nat)×Int×Int),a[i]?=Aj x->j<18->(a.flatMap Jz)[i*18+j]?=(CB x.1 x.2)[j]?:=by
 induction a with
 |nil=>intro i j x h;simp at h
 |cons y f d =>
  intro i j x h b;have c:(Jz y).length=18:=by rw[Xb,DB,Py]
  rw[LA]
  cases i with
  |zero =>
   have e:y=x:=by simpa using h
   subst e;rw[E3 (by omega),Xb];simp
  |succ i =>
   rw[E2 (by omega),c,show(i+1)*18+j-18=i*18+j by omega];exact d i j x (by simpa using h) b
theorem BQ.state_at(h:BQ W0 A q sts sv nf mn mf W){x:(Nat->Nat)×Int×Int}(f:sts[i]?=Aj x):∃g a,sv=A8 (Aj ⟨g,0,Ak⟩) sts.length a/\g<W.heap.size/\g≠A/\∀(j:Nat) (u:Am),(CB x.1 x.2)[j]?=Aj u->W.cell? ⟨g,i*18+j,Ak⟩=Aj u:=by
 have p:=B9 f;rcases h.states.2 with⟨_,n⟩|⟨g,a,k,d,o,b,s,r,t,m⟩
 ·omega
 refine⟨g,a,d,(At b),(h.own g (by rw[d];rfl)).1,λj u c=>?_⟩;have l:j<18:=by rw[<-Py x.1 x.2];exact At c
 rw[DL W g (i*18+j) k _ _ b];have e:=jz sts i j x f l;rw[c,<-m,Iv (by omega)]at e;simpa using e
theorem Xd(Y:Nat->Nat)(x:Int×Int):(prog.info? 164).map (·.size)=Aj (CB Y x).size:=by rw[Py];kernel_rfl
theorem jA(j:Al)(A:Nat)(q:Bi)(a:List ((Nat->Nat)×Int×Int))(p:Am)(o:Lit->Option Nat)(n:Nat)(m:Lit->Option Nat)(W:Al)(h:BQ j A q a p o n m W)(i:Nat)(x:(Nat->Nat)×Int×Int)(b:a[i]?=Aj x):An prog 107 #[A9 (Aj ⟨A,0,Ak⟩),A7 Ah i] W λe f=>e=.returned (Ab #[A7 Ah x.2.1,A7 Ah x.2.2])/\A1 W f:=by
 have s:=At h.row;obtain⟨g,k,rfl,u,t,l⟩:=h.state_at b;have r:W.cell? ⟨A,20,Ak⟩=Aj (A8 (Aj ⟨g,0,Ak⟩) a.length k):=Ar h.row 20;have v:(i:Int)<(a.length:Int):=by have:=B9 b;omega
 have d:=Ap l;go_enter func107,ntmps107
 go_wp2_with(first
  |(refine Px 164 (.tmp 12) rfl (by simp[go_sem]) g (i*18) rfl (CB x.1 x.2) _ d underlying164 rfl (Xd x.1 x.2) ?_)
  |(refine Bg rfl 164 _ _ rfl W.heap.size (CB x.1 x.2) rfl rfl 164 #[A7 .u16 0,A7 .u16 0,A7 .u16 0,A7 .u16 0,A7 .u16 0,A7 .u16 0,A7 .u16 0,A7 .u16 0,A7 .u16 0,A7 .u16 0,A7 .u16 0,A7 .u16 0,A7 .u16 0,A7 .u16 0,A7 .u16 0,A7 .u16 0,A7 Ah 0,A7 Ah 0] (Ay W _) (Xd x.1 x.2) (by rw[Py];rfl) (jy x.1 x.2) ?_;rw[F6]))
 have c:Hid (A1 W (W.alloc (Af (CB x.1 x.2) 164))):=AH;have w:(W.alloc (Af (CB x.1 x.2) 164)).cell? ⟨W.heap.size,16,Ak⟩=Aj (A7 Ah x.2.1):=Ar (Ay W _) 16;have y:(W.alloc (Af (CB x.1 x.2) 164)).cell? ⟨W.heap.size,17,Ak⟩=Aj (A7 Ah x.2.2):=Ar (Ay W _) 17;generalize W.alloc (Af (CB x.1 x.2) 164)=V at *
 go_quiet (fail)
 go_wp2;refine Bd (Hl results107 _ _ _) rfl ⟨rfl,c.trans ⟨rfl,rfl,rfl,AB _,λ_ _=>rfl⟩⟩
theorem Xg(x:Nat)(h:x<1000000000):(Lit.int Ah (x:Int)).wf=true:=by
 have a:IntKind.i64.min = -9223372036854775808:=by kernel_rfl
 have b:IntKind.i64.max=9223372036854775807:=by kernel_rfl
 simp[Lit.wf,a,b];omega
def CO(f x:Nat):A4:=#[A7 Ah f,A7 Ah x]
theorem jE(f x:Nat)(k:f<1000000000)(o:x<1000000000):∃l,keyOf prog 293 (.agg (CO f x))=some l:=by
 obtain⟨d,j⟩:∃d,prog.types.size+1=d+2:=⟨prog.types.size-1,by have:1<=prog.types.size:=MR (by kernel_rfl);omega⟩
 have h:prog.keyType 293=true:=by kernel_rfl
 have a:prog.cellsOf 293=2:=by kernel_rfl
 have i:prog.cellsOf 3=1:=by kernel_rfl
 have m:(Value.agg (CO f x)).formed prog 293=true:=by
  simp only[Value.formed,underlying293];rw[a];rfl
 have b:∀y:Nat,y<1000000000->prog.keyLits (d+1) 3 [.int .i64 y]=some [.int .i64 y]:=by
  intro y p;unfold Program.keyLits;simp only[underlying3];rw[As ⟨trivial,Xg _ p⟩]
 have n:prog.keyLits (d+2) 293 (CO f x).toList=some [.int .i64 f,.int .i64 x]:=by
  unfold Program.keyLits;simp only[underlying293];rw[As ⟨by rw[a];rfl,by kernel_rfl⟩];simp only[List.mapM_cons,List.mapM_nil,i,CO];have c:=b f k;have g:=b x o;simp[c,g]
 refine⟨.string (keyBytes [.int .i64 f,.int .i64 x]),?_⟩;unfold keyOf;simp only[underlying293];have e:(Value.agg (CO f x)).cells=CO f x:=rfl;rw[h,m,j,As (by rfl),e,n,MX]
def La(q:Bi)(sts:List ((Nat->Nat)×Int×Int))(mf:Lit->Option Nat):Prop :=
 ∀(f x:Nat) (l:Lit) (k:Nat),keyOf prog 293 (.agg (CO f x))=Aj l->mf l=Aj k->∃s t Y,sts[f]?=Aj s/\sts[k]?=Aj t/\Mi q.rs.length q.st (ER q.st (q.tk x) s.1 q.rs.length) Y/\∀r,r<16->t.1 r=Y r
theorem jF(k:Al)(A:Nat)(q:Bi)(n:List ((Nat->Nat)×Int×Int))(o:Am)(m:Lit->Option Nat)(d:Nat)(c:Lit->Option Nat)(W:Al)(h:BQ k A q n o m d c W)(f:Nat)(key:A2)(j:Bool)(C:key.length<=maxLen)(x:Nat)(E:Gx q.lf key j=x)(l:Lit)(D:keyOf prog 293 (.agg (CO f x))=Aj l)(i:Nat)(hi:c l=Aj i):An prog 160 #[A9 (Aj ⟨A,0,Ak⟩),A7 Ah f,.agg #[Aa ⟨key.toArray⟩,Ad j]] W λe B=>e=.returned (A7 Ah i)/\A1 W B:=by
 have p:Hid (BQ k A q n o m d c (W.alloc (Af #[Aa ⟨key.toArray⟩,Ad j] 277))):=h.next AH
 have s:Hid (A1 W (W.alloc (Af #[Aa ⟨key.toArray⟩,Ad j] 277))):=AH;have u:=X8 k A q n o m d c _ p key j C;rw[E]at u;go_enter func160,ntmps160
 go_wp2_with(first
  |(go_at_call 176;refine u.mono ?_;rintro e b ⟨rfl,v⟩;have w:=Ap (p.next v);have t:=Ap (s.trans (v.mono s.size))))
 have r:Hid (BQ k A q n o m d c (b.alloc (Af (CO f x) 293))):=w.next AH
 have z:Hid (A1 W (b.alloc (Af (CO f x) 293))):=t.alloc t.size _;have y:Hid ((b.alloc (Af (CO f x) 293)).heap[b.heap.size]?=Aj (Af (CO f x) 293)):=Ay _ _;have a:(λZ:Al=>Z.cell? ⟨A,22,Ak⟩=Aj (.map (Aj q.mb))/\Z.heap[b.heap.size]?=Aj (Af (CO f x) 293)/\Cn Z 293 q.mb d c) { (b.alloc (Af (CO f x) 293))with drawn:=(b.alloc (Af (CO f x) 293)).drawn+1}:=⟨Ar r.row 22,y,r.moves⟩
 refine Dr (S:=λZ=>Z.cell? ⟨A,22,Ak⟩=Aj (.map (Aj q.mb))/\Z.heap[b.heap.size]?=Aj (Af (CO f x) 293)/\Cn Z 293 q.mb d c) (by kernel_rfl) ?_;refine Au 0 16 (A9 (Aj ⟨A,0,Ak⟩)) a ?_;refine Au 1 17 (A9 (Aj ⟨A,0,Ak⟩)) a ?_;refine Au 2 18 (A9 (Aj ⟨A,22,Ak⟩)) a ?_;refine AD 3 19 (.map (Aj q.mb)) rfl (λZ g=>?y3) a ?_
 case y3=>(have G:=g.1;go_simp)
 refine AD 4 20 (.agg (CO f x)) rfl (λZ g=>?y4) a ?_
 case y4=>exact JA 293 (.tmp 7) rfl b.heap.size rfl _ _ _ _ g.2.1 underlying293 rfl (by kernel_rfl)
 refine AD 5 21 (Ab #[A7 Ah i,Ad true]) rfl (λZ g=>?y5) a ?_
 case y5=>(have F:=Pn g.2.2 Sc underlying116 D;rw[hi]at F;go_simp)
 refine Au 6 15 (Ab #[A7 Ah i,Ad true]) a ?_;refine Au 7 22 (A7 Ah i) a ?_;refine Au 8 23 (Ad true) a ?_;refine Au 9 8 (A7 Ah i) a ?_;refine Au 10 9 (Ad true) a ?_;refine Bw ?_;go_simp;go_wp2;go_ret;exact⟨rfl,z.drew⟩
theorem BQ.auR(h:BQ W0 A q sts sv nf mn mf W):Kh W A q.ra q.rc q.rs.length q.st :=
 ⟨(At h.row),Ar h.row 0,λr a=>by
  rw[DL W A (3+r) _ _ _ h.row]
  match r,a with
  |0,_|1,_|2,_|3,_|4,_|5,_|6,_|7,_|8,_|9,_|10,_|11,_|12,_|13,_|14,_|15,_=>rfl
  |n+16,a=>exact absurd a (by omega)⟩
theorem BQ.auT(h:BQ W0 A q sts sv nf mn mf W):NG W A q.tb q.L q.tc q.tk:=by
 obtain⟨e,a,d⟩:=h.takes;exact⟨(At h.row),(At a),Ar h.row 19,λx r c b=>(DL W q.tb (x*16+r) _ _ _ a).trans (d x r c b)⟩
theorem BQ.moved{mn':Nat}{mf':Lit->Option Nat}(h:BQ W0 A q sts sv nf mn mf W)(a:W.grownBy W' (Aj q.mb))(m:Cn W' 293 q.mb mn' mf'):BQ W0 A q sts sv nf mn' mf' W':=by
 obtain⟨o,p,r,f,s,t,j,u,k,d⟩:=h.apart;obtain⟨v,w,x,y,z⟩:=h.high;obtain⟨l,c,n⟩:=h.takes;exact{h with
  row:=(a.block A (At h.row) (by simpa using f)).trans h.row
  below:=⟨a.os.trans h.below.os,a.tape.trans h.below.tape,a.output.trans h.below.output,AW h.below.size a.size,λi b=>(a.block i (Br b h.below.size) (by simp;omega)).trans (h.below.block i b)⟩
  letters:=h.letters.kept a (by simpa using j)
  takes:=⟨l,(a.block _ (At c) (by simpa using k)).trans c,n⟩
  states:=NL h.states λg e=>a.block g (NK h.states e) (by simpa using(h.own g e).2.2.2.2)
  numbers:=h.numbers.kept a (by simpa using d)
  moves:=m}
end
section
open Go.RowKit Go.Shelf
section
attribute[local go_sem] Oper.semAt_some
theorem So:∀(q r:List A2) (i:Nat),q.all (BA n)=true->i+q.length<=16->G6 n (q++r) i=G6 n r (i+q.length)
 |[],r,i,_,_=>rfl
 |x::q,r,i,h,hl=>by
  rw[List.all_cons,Ch]at h;rw[Bq]at hl;rw[I8,G6,As ⟨h.1,by omega⟩,So q r (i+1) h.2 (by omega),Bq];congr 1;omega
def Di(n:Nat)(l:A2):Int:=if 0<=BY n l then 6 else 0
def FB(n:Nat)(l:A2):Int:=if 0<=BY n l then BY n l else 0
structure NP(w:World)(n:Nat)(pre:List Ca)(c:Code)(W:World):Prop where
 ret:c=.ret
 below:A1 w W
 r0:Boxed W (w.heap.size+1) 73 (.slice none 0 0)
 r1:Boxed W (w.heap.size+2) 32 (.int .i64 6)
 bad:∃q x,pre=q++[x]/\Boxed W (w.heap.size+3) 3 (.int .i64 (q.length:Nat))/\(q.map AV).all (BA n)=true/\q.length<=16/\¬(BA n (AV x)=true/\q.length<16)
 size:w.heap.size+8<=W.heap.size
theorem NP.own{pre:List Ca}{c:Code}{row:Nat}(h:NP w n pre c W)(a:W.grownBy W' (Aj row))(j:w.heap.size+4<=row):NP w n pre c W':=by
 obtain⟨q,x,e,d,b,f,g⟩:=h.bad;exact⟨h.ret,h.below.trans ⟨a.os,a.tape,a.output,a.size,λi k=>a.block i (by have:=h.size;omega) (by intro e;injection e with e;omega)⟩,h.r0.kept a (by intro e;injection e with e;omega),h.r1.kept a (by intro e;injection e with e;omega),⟨q,x,e,d.kept a (by intro e;injection e with e;omega),b,f,g⟩,AW h.size a.size⟩
theorem Xj{N k:Nat}(W:Al)(a:N<=W.heap.size)(b:k+3<=W.heap.size):Tr N k W W.drew:=Tr.below' (AT _ _).drew a b
theorem Tryz.infoRule2:(prog.info? 153).map (λi=>(i.zero,i.size,i.bytes))=Aj (Aj (.agg C2),3,40):=by kernel_rfl
theorem jK{s:ByteArray}{hs:s.size<=2000}{xs:List Ca}(e:¬s.size=0)(h:xs.map AV=B8 10 (AV ⟨s,hs⟩))(c:xs.length<=16)(b:(xs.map AV).all (BA n)=true):BY n s.data.toList = -1:=by
 have a:B8 10 s.data.toList=xs.map AV:=h.symm;have d:s.data.toList.length=s.size:=DB;unfold BY;rw[Aq (by omega),Aq (by omega),a];have:=So (n:=n) (xs.map AV) [] 0 b (by rw[De];omega);rw[IA]at this;rw[this];rfl
theorem jL{s:ByteArray}{hs:s.size<=2000}{q:List Ca}{x:Ca}{r:List A2}(f:¬s.size=0)(h:B8 10 (AV ⟨s,hs⟩)=(q++[x]).map AV++r)(b:(q.map AV).all (BA n)=true)(e:q.length<=16)(c:¬(BA n (AV x)=true/\q.length<16)):BY n s.data.toList=q.length:=by
 have a:B8 10 s.data.toList=(q++[x]).map AV++r:=h;have d:s.data.toList.length=s.size:=DB;unfold BY;rw[Aq (by omega),Aq (by omega),a,Eg,CE,So (q.map AV) _ 0 b (by rw[De];omega)];simp only[CT,GJ,I8,Jd,De,Df];rw[G6,Aq c]
theorem jM(w:Al)(n:Nat)(s:ByteArray)(a:Al)(b:((((((((w.alloc (Af #[A7 Ah n] 3)).alloc (Af #[A8 Ak 0 0] 73)).alloc (Af #[A7 Ah 0] 32)).alloc (Af #[A7 Ah 0] 3)).alloc (Af #[A8 Ak 0 0] 73)).alloc (Af #[.string s] 9)).alloc (Af #[Aa ⟨#[10]⟩] 9)).alloc (Af #[A7 Ah 0] 3))=a):Ii (w.heap.size+5) 10 a s:=by
 subst b;generalize hA:((((w.alloc (Af #[A7 Ah n] 3)).alloc (Af #[A8 Ak 0 0] 73)).alloc (Af #[A7 Ah 0] 32)).alloc (Af #[A7 Ah 0] 3)).alloc (Af #[A8 Ak 0 0] 73)=A;have c:w.heap.size+5=A.heap.size:=by rw[<-hA];simp
 rw[c];refine⟨?_,?_,?_⟩
 ·exact((AL _ _ _ (by simp;omega)).trans (AL _ _ _ (by simp))).trans (Ay A _)
 ·refine(AL _ _ _ (by simp)).trans ?_;have:=Ay (A.alloc (Af #[.string s] 9)) (Af #[Aa ⟨#[10]⟩] 9);rwa[AM]at this
 have:=Ay ((A.alloc (Af #[.string s] 9)).alloc (Af #[Aa ⟨#[10]⟩] 9)) (Af #[A7 Ah 0] 3);rwa[AM,AM]at this
theorem Xk(w:Al)(n:Nat)(e:Int):((((w.alloc (Af #[A7 Ah n] 3)).alloc (Af #[A8 Ak 0 0] 73)).alloc (Af #[A7 Ah e] 32)).alloc (Af #[A7 Ah 0] 3)).cell? ⟨w.heap.size+1,0,Ak⟩=Aj (A8 Ak 0 0) /\
  ((((w.alloc (Af #[A7 Ah n] 3)).alloc (Af #[A8 Ak 0 0] 73)).alloc (Af #[A7 Ah e] 32)).alloc (Af #[A7 Ah 0] 3)).cell? ⟨w.heap.size+1+1,0,Ak⟩=Aj (A7 Ah e) /\
  ((((w.alloc (Af #[A7 Ah n] 3)).alloc (Af #[A8 Ak 0 0] 73)).alloc (Af #[A7 Ah e] 32)).alloc (Af #[A7 Ah 0] 3)).cell? ⟨w.heap.size+1+1+1,0,Ak⟩=Aj (A7 Ah 0):=by
 refine⟨?_,?_,?_⟩
 ·have:=Boxed.new (w.alloc (Af #[A7 Ah n] 3)) 73 (A8 Ak 0 0);rw[AM]at this;exact((this.alloc _).alloc _).cell
 ·have:=Boxed.new ((w.alloc (Af #[A7 Ah n] 3)).alloc (Af #[A8 Ak 0 0] 73)) 32 (A7 Ah e);rw[AM,AM]at this;exact(this.alloc _).cell
 have:=Boxed.new (((w.alloc (Af #[A7 Ah n] 3)).alloc (Af #[A8 Ak 0 0] 73)).alloc (Af #[A7 Ah e] 32)) 3 (A7 Ah 0);rw[AM,AM,AM]at this;exact this.cell
end
end
section
open Go.RowKit
def Gy(c:AN):Bool:=CU c.labels c.L&&Bv c.labels.toNat c.dflt&&Bv c.labels.toNat c.clr
def Bl(c:AN):Int :=
 if Gy c=false then 1
 else if GW c.labels.toNat (B5 c.labels.toNat c.L)=false then 2
 else if GX c.labels.toNat (B5 c.labels.toNat c.L)=false then 3
 else if D3 c.inn c.out c.depth c.bytes=false then 4
 else if Fc c.B=false then 5
 else if 0<=BY c.labels.toNat c.pol.data.toList then 6 else 0
def CP(c:AN):Int:=if Bl c=6 then BY c.labels.toNat c.pol.data.toList else 0
structure Ij(w:World)(c:AN)(W:World):Prop where
 below:A1 w W
 box:W.heap[w.heap.size]?=some (.cells c.arr 25)
theorem Ij.step(h:Ij w c W)(a:A1 W W'):Ij w c W' :=
 ⟨h.below.trans (a.mono h.below.size),(a.block _ (At h.box)).trans h.box⟩
theorem Ml(w:Al)(c:AN):Ij w c (w.alloc (Af c.arr 25)):=⟨AH,Ay _ _⟩
theorem Ij.cell(h:Ij w c W)(j:Nat):W.cell? ⟨w.heap.size,j,Ak⟩=c.arr[j]?:=Ar h.box j
theorem Ij.cfg(h:Ij w c W)(a:Et w c):Et W c:=a.below h.below
theorem kH(c:AN)(w:Al)(h:Et w c):An prog 15 #[.agg c.arr] w λe d=>e=.returned (Ad (CU c.labels c.L))/\A1 w d:=by
 by_cases a:1<=c.labels/\c.labels<=6/\c.L.length<=30
 ·have e:CU c.labels c.L=Da c.labels.toNat c.L:=by unfold CU;rw[Bs a];rfl
  rw[e];have b:((c.labels.toNat:Nat):Int)=c.labels:=JX (by omega);exact j2 c.arr c.labels.toNat c.L c.ea c.ecap ⟨c.size,by rw[b];rfl,rfl⟩ (by omega) (by omega) a.2.2 w h.edges
 have e:CU c.labels c.L=false:=by unfold CU;rw[BJ a];rfl
 rw[e];exact j0 c.arr c.labels c.L c.ea c.ecap rfl rfl (by have:=h.eb;unfold maxLen;omega) w a
theorem Sv(h:CU c.labels c.L=true):((c.labels.toNat:Nat):Int)=c.labels/\JF c.arr c.labels.toNat c.L c.ea c.ecap:=by
 unfold CU at h;rw[Ch]at h;have b:=By h.1;have a:((c.labels.toNat:Nat):Int)=c.labels:=JX (by omega);exact⟨a,⟨⟨c.size,by rw[a];rfl,rfl⟩,by omega,b.2.2,h.2⟩⟩
end
section
open Go.RowKit Go.Shelf
theorem NR{fn:Func}{p u u2:Tmp}{ty:TypeId}(h:fn.results=#[.cell p ty,.tmp u,.tmp u2])(b:A4)(w:Al)(g:Nat)(t:TypeId)(cs:A4)(c:Nat×Nat)(d:TypeDesc)(k:b.getD p undef=A9 (Aj ⟨g,0,Ak⟩))(j:w.heap[g]?=Aj (Af cs t c))(l:P.underlying ty=Aj d)(i:(match d with|.struct _|.array _ _=>true|_=>false)=true)(hi:(P.info? ty).map (·.size)=Aj cs.size)(v f:Am)(m:b.getD u undef=v)(n:b.getD u2 undef=f):(results fn b).run P w=.ok (Ab #[.agg cs,v,f]) w:=by
 have e:(results fn b).run P w=((asAddr (b.getD p undef)).run P w).andThen λa o=>((loadVar ty a).run P o).andThen λv q=>.ok (Ab #[v,b.getD u undef,b.getD u2 undef]) q:=by
  simp only[results,h];simp[D8,Result.andThen]
 subst m n;rw[e,k];simp only[asAddr,E4,Dl,FZ w g t ty cs c d j l i hi]
def Ga(O:A4)(a:A5)(k c:Nat):A4:=O.push (A8 a k c)
def Cb:A4:=Ga AU Ak 0 0
theorem PF:prog.built 75 []=Aj Cb:=by kernel_rfl
theorem kI(n:Nat)(m:Nat->Nat->Bool)(a:A5)(k c:Nat):prog.built 75 [(0,.agg (Bh n m)),(1,A8 a k c)]=Aj (Ga (Bh n m) a k c):=by kernel_rfl
theorem kJ:(prog.info? 75).map (·.size)=Aj 38:=by kernel_rfl
theorem kK(ρ:Operand->Am)(o:Oper)(a:o.op=.alloc 75)(w:Al):(execOp ρ o).run prog w=.ok (.value (A9 (Aj ⟨w.heap.size,0,Ak⟩))) (w.alloc (Af Cb 75)):=by
 unfold execOp;rw[a];kernel_rfl
theorem Sw{rest:List Oper}(e:o.guard=Ak)(f:o.op=.alloc 75)(d:Option Tmp)(c:o.dst=d)(N:Nat)(b:w.heap.size=N)(h:wpList prog ops Q rest (a.put d (A9 (Aj ⟨N,0,Ak⟩))) (w.alloc (Af Cb 75))):wpList prog ops Q (o::rest) a w:=by
 subst b;exact Ov e d c _ _ (kK _ _ f _) h
theorem Sy(n:Nat)(m:Nat->Nat->Bool):(Bh n m).all (·.oneCell')=true:=by
 simp[Bh,Value.oneCell']
theorem NS(h:O.size=37)(a:A5)(k c:Nat):(Ga O a k c).size=38:=by unfold Ga;simp[h]
theorem Sz(h:O.all (·.oneCell')=true)(a:A5)(k c:Nat):(Ga O a k c).all (·.oneCell')=true:=by
 unfold Ga;rw[Array.all_push,h];rfl
theorem Hw:Cb.size=38:=NS (Bj _ _) _ _ _
theorem Mm:Cb.all (·.oneCell')=true:=Sz (Sy _ _) _ _ _
theorem GY{A:A4}(h:A.size=38):(prog.info? 75).map (·.size)=Aj A.size:=by rw[h];exact kJ
def EB(c:AN):Int:=if¬Db c.labels c.L c.dflt c.clr=0 then Db c.labels c.L c.dflt c.clr else if D3 c.inn c.out c.depth c.bytes=false then 4 else if Fb c.B=false then 5 else Di c.labels.toNat c.pol.data.toList
def Hx(c:AN):Int:=if¬Db c.labels c.L c.dflt c.clr=0 then 0 else if D3 c.inn c.out c.depth c.bytes=false then 0 else if Fb c.B=false then 0 else FB c.labels.toNat c.pol.data.toList
theorem SA(c:AN):(CU c.labels c.L=true->Db c.labels c.L c.dflt c.clr=if Gy c=false then 1 else if GW c.labels.toNat (B5 c.labels.toNat c.L)=false then 2 else if GX c.labels.toNat (B5 c.labels.toNat c.L)=false then 3 else 0)/\(CU c.labels c.L=false->Db c.labels c.L c.dflt c.clr=1/\Gy c=false):=by
 constructor
 ·intro h;obtain⟨_,H⟩:=Sv h;have b:∀i j,i<c.labels.toNat->j<c.labels.toNat->BK c.labels.toNat c.L i j=B5 c.labels.toNat c.L i j:=λi j a f=>kh H.hE a f;have d:=ky b;have e:=kz b (λi a=>km H.hE a);unfold Db Gy;rw[h,d,e];cases Bv c.labels.toNat c.dflt<;>cases Bv c.labels.toNat c.clr<;>cases GW c.labels.toNat (B5 c.labels.toNat c.L)<;>cases GX c.labels.toNat (B5 c.labels.toNat c.L)<;>rfl
 intro h;unfold Db Gy;rw[h];exact⟨rfl,rfl⟩
theorem SB(c:AN):EB c=Bl c/\Hx c=CP c:=by
 have key:EB c=Bl c/\Hx c=if Bl c=6 then BY c.labels.toNat c.pol.data.toList else 0:=by
  unfold EB Hx Bl Di FB;rw[aL];cases h:CU c.labels c.L
  ·obtain⟨i,j⟩:=(SA c).2 h;rw[i,j];simp
  rw[(SA c).1 h];by_cases a:Gy c=false
  ·simp[a]
  by_cases b:GW c.labels.toNat (B5 c.labels.toNat c.L)=false
  ·simp[a,b]
  by_cases d:GX c.labels.toNat (B5 c.labels.toNat c.L)=false
  ·simp[a,b,d]
  by_cases e:D3 c.inn c.out c.depth c.bytes=false
  ·simp[a,b,d,e]
  by_cases f:Fc c.B=false
  ·simp[a,b,d,e,f]
  by_cases g:0<=BY c.labels.toNat c.pol.data.toList
  ·simp[a,b,d,e,f,g]
  simp[a,b,d,e,f,g]
 exact⟨key.1,key.2.trans rfl⟩
theorem kL(h:Db c.labels c.L c.dflt c.clr=0):CU c.labels c.L=true/\G8 c.labels c.L c.dflt c.clr=Bh c.labels.toNat (BK c.labels.toNat c.L):=by
 constructor
 ·cases a:CU c.labels c.L
  ·have:=((SA c).2 a).1;rw[h]at this;cases this
  rfl
 unfold G8;rw[As h]
structure Lb(w:World)(c:AN)(W:World):Prop where
 below:A1 w W
 box:W.heap[w.heap.size]?=some (.cells c.arr 25)
 res:W.heap[w.heap.size+1]?=some (.cells Cb 75)
theorem Lb.step(h:Lb w c W)(a:A1 W W'):Lb w c W' :=
 ⟨h.below.trans (a.mono h.below.size),(a.block _ (At h.box)).trans h.box,(a.block _ (At h.res)).trans h.res⟩
theorem kM(w:Al)(c:AN):Lb w c ((w.alloc (Af c.arr 25)).alloc (Af Cb 75)):=by
 refine⟨(AH).alloc (by simp) _,(AL _ _ _ (by simp)).trans (Ay _ _),?_⟩;have:=Ay (w.alloc (Af c.arr 25)) (Af Cb 75);rwa[AM]at this
theorem Lb.cell(h:Lb w c W)(j:Nat):W.cell? ⟨w.heap.size,j,Ak⟩=c.arr[j]?:=Ar h.box j
theorem kN(h:¬Db c.labels c.L c.dflt c.clr=0):EB c=Db c.labels c.L c.dflt c.clr/\Hx c=0:=by unfold EB Hx;rw[As h,As h];exact⟨rfl,rfl⟩
end
section
open Go.RowKit
def Dp(ks:List A2):Lit->Option Nat
 |.string b=>if b∈ks then Aj (2+ks.idxOf b)else Ak
 |_=>Ak
theorem JH(h:b∈ks):Dp ks (.string b)=Aj (2+ks.idxOf b):=As h
theorem Lc(h:b∉ks):Dp ks (.string b)=Ak:=Aq h
theorem lu(h:b∉ks):Dp (ks++[b]) (.string b)=Aj (2+ks.length):=by
 rw[JH (by simp),Uz,Aq h];simp
theorem lv(_h:b∉ks)(l:Lit)(f:l≠.string b):Dp (ks++[b]) l=Dp ks l:=by
 cases l with
 |string c =>
  have d:c≠b:=λe=>f (by rw[e]);by_cases a:c∈ks
  ·rw[JH a,JH (by simp[a]),Uz,As a]
  rw[Lc a,Lc (by simp[a,d])]
 |_=>rfl
def EV(W:Al)(m:Nat)(ks:List A2):Prop :=
 ∃D:A3,W.ownsMap prog 9 (plainElem prog 3) m ks.length D/\(∀l,Maps.has D l=(Dp ks l).isSome/\∀v:Nat,Dp ks l=Aj v->D.atKey l (.lit (.int Ah 0))=.lit (.int Ah v))/\Maps.size D=ks.length
theorem EV.im(h:EV W m ks):Cn W 9 m ks.length (Dp ks):=by
 obtain⟨D,a,b,_⟩:=h;exact⟨D,a,b⟩
theorem EV.kept{row:Option Nat}(h:EV W m ks)(c:W.grownBy W' row)(d:Aj m≠row):EV W' m ks:=by
 obtain⟨D,a,b⟩:=h;exact⟨D,a.kept c d,b⟩
theorem SD(W:Al):EV (W.alloc (.map #[] 0)) W.heap.size [] :=
 ⟨_,QG W prog _ _,λl=>⟨by cases l<;>simp[Maps.has,Dp],λv h=>by cases l<;>simp[Dp]at h⟩,rfl⟩
theorem EV.len(h:EV W m ks)(d:prog.underlying t=Aj (.map 9 3))(a:TypeId):(Builtin.len_ #[t] a #[.map (Aj m)]).run prog W=.ok (A7 Ah ks.length) W:=by
 obtain⟨D,b,_,c⟩:=h;rw[b.len d a,c]
theorem lw(h:EV W m ks)(r:prog.underlying t=Aj (.map 9 3))(v:ks.length<100000)(n:b.length<=1000000000)(g:b∉ks):∃a,(Instr.mapUpdate t (.map (Aj m)) (Aa ⟨b.toArray⟩) (A7 Ah ((2+ks.length:Nat):Int))).run prog W=.ok () a/\EV a m (ks++[b])/\W.grownBy a (Aj m):=by
 obtain⟨D,c,d,j⟩:=h;have f:=Pw b n;obtain⟨a,q,p,k⟩:=c.store JE r (by unfold maxLen;omega) f (QW underlying3 (Xg (2+ks.length) (by omega)));have o:Maps.has D (.string b)=false:=by rw[(d _).1,Lc g];rfl
 refine⟨a,q,⟨_,by rw[AC];exact p,λl=>?_,?_⟩,k.grown⟩
 ·by_cases e:l=.string b
  ·subst e;rw[lu g];refine⟨QJ c.isMap (JE.key f) _,λu i=>?_⟩;have s:=CX i;rw[<-s];exact Un c.isMap (JE.key f) _ _
  rw[lv g l e];exact⟨(QF e _).trans (d l).1,λu i=>(Ui e _ _).trans ((d l).2 u i)⟩
 rw[Maps.size_put (c.tidy JE),o,j,AC];rfl
def EC(ks:List A2)(s:Nat×A2):List A2:=if s.1=3/\s.2∉ks then ks++[s.2]else ks
def Kj(ks:List A2)(r:List (Nat×A2)×Int×Int):List A2:=r.1.foldl EC ks
def Ec(rs:List (List (Nat×A2)×Int×Int)):List A2:=rs.foldl Kj []
theorem lz(ks:List A2)(s:Nat×A2):(EC ks s).length<=ks.length+1:=by
 unfold EC;split<;>simp
theorem XG:∀(ss:List (Nat×A2)) (ks:List A2),(ss.foldl EC ks).length<=ks.length+ss.length
 |[],ks=>by simp
 |s::ss,ks=>by
  have a:=XG ss (EC ks s);have b:=lz ks s;simp only[K2,Bq];omega
theorem Kl{md:Region.Mode}{S:Al->Prop}{oi:Oper}{fuel:Nat}{listed:Array Bool}(i d:Nat)(hi:ops[i]?=Aj oi)(b:(Region.noSelect ops&&Region.free md ops listed i&&(Region.ready md ops listed).contains i&&oi.dst==Aj d && !Region.wanted oi (yielded ops a.tmps))=true)(e:∀c a w,Q (.panic c) (a.put (Aj d) undef) w->Q (.panic c) a w)(f:S w)(h:wpAnyH P md ops Q S fuel (listed.setIfInBounds i true) (a.put (Aj d) undef) w):wpAnyH P md ops Q S (fuel+1) listed a w:=by
 simp only[Ch]at b;have g:oi.dst=Aj d:=by simpa using b.1.2
 rw[<-g]at e h;exact Ds hi b.1.1.1.1 b.1.1.1.2 b.1.1.2 e (.inr ⟨by simpa using b.2,rfl⟩) f h
structure Bt(b:Nat)(W W':World):Prop where
 os:W'.os=W.os
 tape:W'.tape=W.tape
 output:W'.output=W.output
 size:W.heap.size<=W'.heap.size
 block:∀k,k<W.heap.size->k≠b->W'.heap[k]?=W.heap[k]?
theorem Bt.refl(b:Nat)(W:Al):Bt b W W:=⟨rfl,rfl,rfl,AB _,λ_ _ _=>rfl⟩
theorem Bt.trans{b:Nat}{A B C:Al}(h:Bt b A B)(k:Bt b B C):Bt b A C :=
 ⟨k.os.trans h.os,k.tape.trans h.tape,k.output.trans h.output,AW h.size k.size,λi a c=>(k.block i (Br a h.size) c).trans (h.block i a c)⟩
theorem Bt.of_below{b:Nat}(h:A1 W W'):Bt b W W':=⟨h.os,h.tape,h.output,h.size,λk a _=>h.block k a⟩
structure IV(W:World)(lm:Nat)(ks:List A2)(V:World):Prop where
 but:Bt lm W V
 names:EV V lm ks
theorem IV.next{V':Al}(h:IV W lm ks V)(a:A1 V V'):IV W lm ks V' :=
 ⟨h.but.trans (Bt.of_below a),h.names.kept (row:=Ak) ⟨a.os,a.tape,a.output,a.size,λi b _=>a.block i b⟩ (by simp)⟩
theorem Bt.low(h:Bt lm W V)(a:A1 W0 W)(c:W0.heap.size<=lm):A1 W0 V :=
 ⟨h.os.trans a.os,h.tape.trans a.tape,h.output.trans a.output,AW a.size h.size,λi b=>(h.block i (Br b a.size) (by omega)).trans (a.block i b)⟩
theorem Bt.cellA{u:Am}(h:Bt lm W V)(b:A<W.heap.size)(c:A≠lm)(a:W.cell? ⟨A,j,Ak⟩=Aj u):V.cell? ⟨A,j,Ak⟩=Aj u:=by
 have e:=h.block A b c;unfold World.cell? at a ⊢;rw[e];exact a
theorem XH(n:Nat)(h:n<=128):wrap64 (2+(n:Int))=((2+n:Nat):Int):=by
 unfold wrap64;omega
theorem lB(I W:Al)(A f:Nat)(ra:A5)(rc:Nat)(rs:List (List (Nat×A2)×Int×Int))(au:A1 I W)(T:A<W.heap.size)(U:A≠f)(K:I.heap.size<=f)(hn:rs.length<=16)(h8:∀i (h:i<rs.length),rs[i].1.length<=8)(aw:∀i (h:i<rs.length) j (h2:j<rs[i].1.length),rs[i].1[j].2.length<=1000000000)(c0:W.cell? ⟨A,0,Ak⟩=Aj (A8 ra rs.length rc))(c2:W.cell? ⟨A,2,Ak⟩=Aj (.map (Aj f)))(hr:G5 I ra rs)(hm:EV W f []):An prog 45 #[A9 (Aj ⟨A,0,Ak⟩)] W λaq W'=>aq=.returned (Ab #[])/\IV W f (Ec rs) W':=by
 have HR:=Ap hr;have Q:=Ap au;have HM:=Ap hm;go_enter func45,ntmps45;go_wp2
 go_loopg[12] rs.length (λg z wr=>∃(k:Nat) (l:List A2),z=A7 Ah k/\Hid (k+g=rs.length)/\Hid (IV W f l wr)/\Hid (Ec rs=(rs.drop k).foldl Kj l)/\Hid (l.length<=8*k))
 case atStart=>exact⟨0,[],rfl,by show _=_;omega,⟨Bt.refl _ _,HM⟩,rfl,by show _<=_;simp⟩
 case round =>
  obtain⟨k,l,rfl,y,H,HK,P⟩:=hrel
  cases gk with
  |zero =>
   have ax:¬(k:Int)<(rs.length:Int):=by have:=y.out;omega
   have L:Hid (Ec rs=l):=by
    have h:=HK.out;rw[J9 (by have:=y.out;omega)]at h;exact h
   go_wp2;go_end0;rw[L.out];exact⟨rfl,H⟩
  |succ g =>
   have E:k<rs.length:=by have:=y.out;omega
   have ax:(k:Int)<(rs.length:Int):=by omega
   obtain⟨ap,off,e,pc,rfl,hb,e0,e1,e2,a6⟩:=(HR.below (H.but.low Q K)).at_ k E;have al:Hid (L1 I e rs[k].1):=by
    obtain⟨b',a8,ba,bb,X,av,f0,f1,f2,a0⟩:=HR.at_ k E;injection X with X;injection X with hab1 hab2;subst hab1;subst hab2;have w:=((H.but.low Q K).cell (p:=⟨ap,off+k*3,Ak⟩) av).trans f0;rw[e0]at w;injection w with w;injection w with w _ _;subst w;exact a0
   have a4:=h8 k E;have aj:=Ap (aw k E);have ai:Hid (Ec rs=(rs.drop (k+1)).foldl Kj (rs[k].1.foldl EC l)):=by
    have h:=HK.out;rw[F5 E]at h;exact h
   have ak:Hid (IV W f l (wr.alloc (Af #[A8 e rs[k].1.length pc,A7 Ah rs[k].2.1,A7 Ah rs[k].2.2] 153))):=H.next AH
   go_wp2;generalize wr.alloc (Af #[A8 e rs[k].1.length pc,A7 Ah rs[k].2.1,A7 Ah rs[k].2.2] 153)=V0 at *;generalize hss:rs[k].1=ss at *
   go_loopg[19] ss.length (λD z ao=>∃(j:Nat) (c:List A2),z=A7 Ah j/\Hid (j+D=ss.length)/\Hid (IV W f c ao)/\Hid (ss.foldl EC l=(ss.drop j).foldl EC c)/\Hid (c.length<=l.length+j))
   case atStart=>exact⟨0,l,rfl,by show _=_;omega,ak,rfl,AB _⟩
   case round =>
    obtain⟨j,c,rfl,m,C,aa,t⟩:=hrel
    cases gk with
    |zero =>
     have ay:¬(j:Int)<(ss.length:Int):=by have:=m.out;omega
     have L:Hid (ss.foldl EC l=c):=by
      have h:=aa.out;rw[J9 (by have:=m.out;omega)]at h;exact h
     go_wp2;go_roundg g
     case measure=>omega
     case rel=>exact⟨k+1,c,by go_num,by show _=_;have:=y.out;omega,C,by have h:=ai.out;rw[L.out]at h;exact h,by show _<=_;have:=P.out;have:=t.out;have:=m.out;omega⟩
    |succ D =>
     have Y:j<ss.length:=by have:=m.out;omega
     have ay:(j:Int)<(ss.length:Int):=by omega
     obtain⟨b2,a9,rfl,a2,s0,s1⟩:=(al.below (C.but.low Q K)).at_ j Y;have N:Hid (ss.foldl EC l=(ss.drop (j+1)).foldl EC (EC c ss[j])):=by
      have h:=aa.out;rw[F5 Y]at h;exact h
     have O:=Ap (aj j Y);generalize ss[j]=sg at *;have u:Hid (IV W f c (wr.alloc (Af #[A7 Ah sg.1,Aa ⟨sg.2.toArray⟩] 158))):=C.next AH
     obtain⟨o,key⟩:=sg;have J:Hid ((wr.alloc (Af #[A7 Ah o,Aa ⟨key.toArray⟩] 158)).heap[wr.heap.size]?=Aj (Af #[A7 Ah o,Aa ⟨key.toArray⟩] 158)):=Ay _ _;have ah:=Ap C.names.im.lt;clear C;go_wp2;generalize wr.alloc (Af #[A7 Ah o,Aa ⟨key.toArray⟩] 158)=V1 at *;generalize wr.heap.size=M at *;refine Cp (S:=λZ=>Z.cell? ⟨A,2,Ak⟩=Aj (.map (Aj f))/\Z.heap[M]?=Aj (Af #[A7 Ah o,Aa ⟨key.toArray⟩] 158)/\EV Z f c) (⟨u.but.cellA T U c2,J,u.names⟩) (by kernel_rfl) ?_;intro a;by_cases ae:o=3
     ·subst ae;by_cases F:key∈c
      ·obtain⟨x,hx⟩:∃x,x=2+c.idxOf key:=⟨_,rfl⟩
       have R:Hid ((Dp c (.string key)).getD 0=x):=by show _=_;rw[JH F,hx];rfl
       have a7:((x:Int)==0)=false:=by simp;omega
       have B:Hid (EC c (3,key)=c):=Aq (λh=>h.2 F);clear hx;refine Au 0 23 (A9 (Aj ⟨M,0,Ak⟩)) a ?_;refine AD 1 24 (A7 Ah 3) rfl (λZ d=>?y1) a ?_
       case y1=>(have q:=Ar d.2.1 0;go_simp)
       refine Au 2 25 (Ad true) a ?_;refine Au 3 26 (Ad true) a ?_;refine Au 4 27 (A9 (Aj ⟨A,0,Ak⟩)) a ?_;refine Au 5 28 (A9 (Aj ⟨A,0,Ak⟩)) a ?_;refine Au 6 29 (A9 (Aj ⟨A,2,Ak⟩)) a ?_;refine AD 7 30 (.map (Aj f)) rfl (λZ d=>?y7) a ?_
       case y7=>(have q:=d.1;go_simp)
       refine Au 8 31 (A9 (Aj ⟨M,1,Ak⟩)) a ?_;refine AD 9 32 (Aa ⟨key.toArray⟩) rfl (λZ d=>?y9) a ?_
       case y9=>(have q:=Ar d.2.1 1;go_simp)
       refine AD 10 33 (A7 Ah x) rfl (λZ d=>?y10) a ?_
       case y10=>(have V:=NH d.2.2.im JE underlying114 (Pw key O);rw[R.out]at V;go_simp)
       refine AD 11 34 (Ad false) rfl (λZ d=>?y11) a ?_
       case y11=>(go_simp)
       refine Au 12 35 (Ad false) a ?_;refine Bw ?_;go_simp;have n:=Ap (u.next (AT _ _).drew);go_wp2;go_roundg D
       case measure=>omega
       case rel=>exact⟨j+1,c,by go_num,by show _=_;have:=m.out;omega,n,by have h:=N.out;rw[B.out]at h;exact h,by show _<=_;have:=t.out;omega⟩
      have R:Hid ((Dp c (.string key)).getD 0=0):=by show _=_;rw[Lc F];rfl
      have B:Hid (EC c (3,key)=c++[key]):=As ⟨rfl,F⟩;refine Au 0 23 (A9 (Aj ⟨M,0,Ak⟩)) a ?_;refine AD 1 24 (A7 Ah 3) rfl (λZ d=>?y1) a ?_
      case y1=>(have q:=Ar d.2.1 0;go_simp)
      refine Au 2 25 (Ad true) a ?_;refine Au 3 26 (Ad true) a ?_;refine Au 4 27 (A9 (Aj ⟨A,0,Ak⟩)) a ?_;refine Au 5 28 (A9 (Aj ⟨A,0,Ak⟩)) a ?_;refine Au 6 29 (A9 (Aj ⟨A,2,Ak⟩)) a ?_;refine AD 7 30 (.map (Aj f)) rfl (λZ d=>?y7) a ?_
      case y7=>(have q:=d.1;go_simp)
      refine Au 8 31 (A9 (Aj ⟨M,1,Ak⟩)) a ?_;refine AD 9 32 (Aa ⟨key.toArray⟩) rfl (λZ d=>?y9) a ?_
      case y9=>(have q:=Ar d.2.1 1;go_simp)
      refine AD 10 33 (A7 Ah 0) rfl (λZ d=>?y10) a ?_
      case y10=>(have V:=NH d.2.2.im JE underlying114 (Pw key O);rw[R.out]at V;go_simp)
      refine Au 11 34 (Ad true) a ?_;refine Au 12 35 (Ad true) a ?_;refine Bw ?_;go_simp;have n:=Ap (u.next (AT _ _).drew);have G:Hid ((World.drew V1).heap[M]?=Aj (Af #[A7 Ah 3,Aa ⟨key.toArray⟩] 158)):=J.out;clear a u J;generalize World.drew V1=V2 at *;have d2:=n.but.cellA T U c2;have a5:=n.names.len underlying114;have af:c.length<=8*16:=by have:=P.out;have:=t.out;have:=y.out;have:=m.out;omega
      obtain⟨v,b⟩:∃v,v=2+c.length:=⟨_,rfl⟩
      have an:Hid (wrap64 (2+(c.length:Int))=(v:Int)):=by show _=_;rw[b];exact XH _ af
      have am:=Ap b;clear b af;go_wp2;rw[an.out];have ab:=Ap (n.next (AT _ _).drew);obtain⟨w7,ag,ad,s⟩:=lw ab.names underlying114 (by have:=P.out;have:=t.out;have:=y.out;have:=m.out;omega) O F;rw[<-am.out]at ag;have ac:Hid (IV W f (c++[key]) w7):=⟨ab.but.trans ⟨s.os,s.tape,s.output,s.size,λi hi az=>s.block i hi (by simpa using az)⟩,ad⟩
      have r:(λZ:Al=>Z.cell? ⟨A,2,Ak⟩=Aj (.map (Aj f))/\Z.heap[M]?=Aj (Af #[A7 Ah 3,Aa ⟨key.toArray⟩] 158)) {V2 with drawn:=V2.drawn+1}:=⟨d2,G⟩
      have ar:(λZ:Al=>Z.cell? ⟨A,2,Ak⟩=Aj (.map (Aj f))/\Z.heap[M]?=Aj (Af #[A7 Ah 3,Aa ⟨key.toArray⟩] 158)) w7:=⟨ac.but.cellA T U c2,(s.block M (At G) (by have:=ah.out;simp;omega)).trans G⟩
      clear ad s n G;refine Dr (S:=λZ=>Z.cell? ⟨A,2,Ak⟩=Aj (.map (Aj f))/\Z.heap[M]?=Aj (Af #[A7 Ah 3,Aa ⟨key.toArray⟩] 158)) (by kernel_rfl) ?_;refine Au 0 42 (A9 (Aj ⟨A,0,Ak⟩)) r ?_;refine Au 1 43 (A9 (Aj ⟨A,0,Ak⟩)) r ?_;refine Au 2 44 (A9 (Aj ⟨A,2,Ak⟩)) r ?_;refine AD 3 45 (.map (Aj f)) rfl (λZ d=>?y3) r ?_
      case y3=>(have q:=d.1;go_simp)
      refine Au 4 46 (A9 (Aj ⟨M,1,Ak⟩)) r ?_;refine AD 5 47 (Aa ⟨key.toArray⟩) rfl (λZ d=>?y5) r ?_
      case y5=>(have q:=Ar d.2 1;go_simp)
      refine Au 6 48 (A7 Ah v) r ?_;refine Bc 7 (λa1 hK=>?_);go_simp;refine hK.out _ _ ar (λ_=>?_);clear hK;refine Bw ?_;go_simp;clear ag;go_wp2;go_roundg D
      case measure=>omega
      case rel=>exact⟨j+1,c++[key],by go_num,by show _=_;have:=m.out;omega,ac,by have h:=N.out;rw[B.out]at h;exact h,by show _<=_;have:=t.out;simp;omega⟩
     have a3:((o:Int)==3)=false:=by simp;omega
     have B:Hid (EC c (o,key)=c):=Aq (λh=>ae h.1);refine Au 0 23 (A9 (Aj ⟨M,0,Ak⟩)) a ?_;refine AD 1 24 (A7 Ah o) rfl (λZ d=>?y1) a ?_
     case y1=>(have q:=Ar d.2.1 0;go_simp)
     refine AD 2 25 (Ad false) rfl (λZ d=>?y2) a ?_
     case y2=>(go_simp)
     refine Au 3 26 (Ad false) a ?_;refine Kl 4 27 rfl (by kernel_rfl) (λ_ _ _ h=>h) a ?_;refine Kl 5 28 rfl (by kernel_rfl) (λ_ _ _ h=>h) a ?_;refine Kl 6 29 rfl (by kernel_rfl) (λ_ _ _ h=>h) a ?_;refine Kl 7 30 rfl (by kernel_rfl) (λ_ _ _ h=>h) a ?_;refine Kl 8 31 rfl (by kernel_rfl) (λ_ _ _ h=>h) a ?_;refine Kl 9 32 rfl (by kernel_rfl) (λ_ _ _ h=>h) a ?_;refine Kl 10 33 rfl (by kernel_rfl) (λ_ _ _ h=>h) a ?_;refine Kl 11 34 rfl (by kernel_rfl) (λ_ _ _ h=>h) a ?_;refine Au 12 35 (Ad false) a ?_;refine Bw ?_;go_simp;have n:=Ap (u.next (AT _ _).drew);go_wp2;go_roundg D
     case measure=>omega
     case rel=>exact⟨j+1,c,by go_num,by show _=_;have:=m.out;omega,n,by have h:=N.out;rw[B.out]at h;exact h,by show _<=_;have:=t.out;omega⟩
def Ik(ks:List A2)(s:Nat×A2)(x:Nat):Bool:=if s.1=0 then true else if s.1=1 then false else if s.1=2 then x==1 else x==(Dp ks (.string s.2)).getD 0
def gB(rs:List (List (Nat×A2)×Int×Int))(r p:Nat)(f:Nat×A2->Bool):Bool:=match rs[r]? with
 |some R=>(match R.1[p]? with|some s=>f s|none=>false)
 |none=>false
theorem XI(a:rs[r]?=Aj R)(b:R.1[p]?=Aj s)(f:Nat×A2->Bool):gB rs r p f=f s:=by
 unfold gB;rw[a];show(match R.1[p]? with|some s=>f s|none=>false)=f s;rw[b]
theorem XJ(a:rs[r]?=Aj R)(b:R.1.length<=p)(f:Nat×A2->Bool):gB rs r p f=false:=by
 unfold gB;rw[a];show(match R.1[p]? with|some s=>f s|none=>false)=false;rw[DI b]
theorem XK(a:rs.length<=r)(p:Nat)(f:Nat×A2->Bool):gB rs r p f=false:=by
 unfold gB;rw[DI a]
structure FE(rs:List (List (Nat×A2)×Int×Int))(ks:List A2)(i j:Nat)(st:Nat->Nat)(tk:Nat->Nat->Nat):Prop where
 s:∀r p,(st r).testBit p=(decide (r<i\/(r=i/\p<j))&&gB rs r p (λs=>s.1==1))
 t:∀x r p,(tk x r).testBit p=(decide (r<i\/(r=i/\p<j))&&gB rs r p (λs=>Ik ks s x))
theorem lC(rs:List (List (Nat×A2)×Int×Int))(ks:List A2):FE rs ks 0 0 (λ_=>0) (λ_ _=>0) :=
 ⟨λr p=>by simp,λx r p=>by simp⟩
def DW(st:Nat->Nat)(i j:Nat)(b:Bool):Nat->Nat:=λr=>if r=i/\b=true then st r|||2^j else st r
theorem lD(x j p:Nat):(x|||2^j).testBit p=(x.testBit p||decide (p=j)):=by
 rw[QS,Nat.testBit_two_pow];congr 1;exact GI.2 ⟨λh=>h.symm,λh=>h.symm⟩
theorem XL{f:Nat×A2->Bool}(c:rs[i]?=Aj R)(g:R.1[j]?=Aj s)(h:∀r p,(st r).testBit p=(decide (r<i\/(r=i/\p<j))&&gB rs r p f))(r p:Nat):(DW st i j (f s) r).testBit p=(decide (r<i\/(r=i/\p<j+1))&&gB rs r p f):=by
 unfold DW;by_cases b:r=i
 ·subst b
  cases d:f s with
  |true =>
   rw[As ⟨rfl,rfl⟩,lD,h];by_cases a:p=j
   ·subst a;rw[XI c g,d];simp
   have e:decide (r<r\/r=r/\p<j)=decide (r<r\/r=r/\p<j+1):=GI.2 (by omega);rw[e,BJ a,Bool.or_false]
  |false =>
   rw[Aq (by simp),h];by_cases a:p=j
   ·subst a;rw[XI c g,d];simp
   have e:decide (r<r\/r=r/\p<j)=decide (r<r\/r=r/\p<j+1):=GI.2 (by omega);rw[e]
 rw[Aq (λk=>b k.1),h];have e:(r<i\/r=i/\p<j)=(r<i\/r=i/\p<j+1):=by simp[b]
 simp only[e]
theorem FE.place{tk:Nat->Nat->Nat}(h:FE rs ks i j st tk)(a:rs[i]?=Aj R)(b:R.1[j]?=Aj s):FE rs ks i (j+1) (DW st i j (s.1==1)) (λx=>DW (tk x) i j (Ik ks s x)) :=
 ⟨λr p=>XL (f:=λs=>s.1==1) a b h.s r p,λx r p=>XL (f:=λs=>Ik ks s x) a b (h.t x) r p⟩
theorem FE.rule{tk:Nat->Nat->Nat}(h:FE rs ks i j st tk)(b:rs[i]?=Aj R)(d:R.1.length<=j):FE rs ks (i+1) 0 st tk:=by
 have key:∀(f:Nat×A2->Bool) (r p:Nat),(decide (r<i\/(r=i/\p<j))&&gB rs r p f)=(decide (r<i+1\/(r=i+1/\p<0))&&gB rs r p f):=by
  intro f r p;by_cases a:r=i
  ·subst a;by_cases c:p<j
   ·simp[c]
   rw[XJ b (by omega)];simp
  have e:(r<i\/r=i/\p<j)=(r<i+1\/r=i+1/\p<0):=by simp[a];omega
  simp only[e]
 exact⟨λr p=>(h.s r p).trans (key _ r p),λx r p=>(h.t x r p).trans (key _ r p)⟩
structure IW(rs:List (List (Nat×A2)×Int×Int))(ks:List A2)(st:Nat->Nat)(tk:Nat->Nat->Nat):Prop where
 s:∀r p,(st r).testBit p=gB rs r p (λs=>s.1==1)
 t:∀x r p,(tk x r).testBit p=gB rs r p (λs=>Ik ks s x)
theorem FE.done{tk:Nat->Nat->Nat}(h:FE rs ks i 0 st tk)(hi:rs.length<=i):IW rs ks st tk:=by
 have key:∀(f:Nat×A2->Bool) (r p:Nat),(decide (r<i\/(r=i/\p<0))&&gB rs r p f)=gB rs r p f:=by
  intro f r p;by_cases a:r<i
  ·simp[a]
  rw[XK (by omega)];simp
 exact⟨λr p=>(h.s r p).trans (key _ r p),λx r p=>(h.t x r p).trans (key _ r p)⟩
theorem PI{x:Nat}(h:∀p,8<=p->x.testBit p=false):x<256:=Nat.lt_pow_two_of_testBit (n:=8) x (λp a=>h p a)
theorem PJ(b:∀i (h:i<rs.length),rs[i].1.length<=8)(r p:Nat)(c:8<=p)(f:Nat×A2->Bool):gB rs r p f=false:=by
 by_cases a:r<rs.length
 ·exact XJ (AY a) (AW (b r a) c) f
 exact XK (by omega) p f
theorem FE.lt{tk:Nat->Nat->Nat}(h:FE rs ks i j st tk)(b:∀i (h:i<rs.length),rs[i].1.length<=8):(∀r,st r<256)/\∀x r,tk x r<256 :=
 ⟨λr=>PI λp a=>by rw[h.s,PJ b r p a];simp,λx r=>PI λp a=>by rw[h.t,PJ b r p a];simp⟩
end
end Go.Proofs.YtoegnhgofkhbnaaGreatDoor
