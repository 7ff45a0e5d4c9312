import Derived.Test.YtpifimohecagoaaGreatDoorPq10
import Derived.Test.YtpifimohecagoaaGreatDoorPq08
set_option maxRecDepth 100000
set_option maxHeartbeats 8000000
namespace Go.Proofs.YtpifimohecagoaaGreatDoor
open Go.Proofs.Tryz
variable{V V' W W' W0 w:World}{A L i j lm m mn p r t tb:Nat}{ks:List (List UInt8)}{row:Option Nat}{b:List UInt8}{sv:Value}{P:Program}{o:Oper}{a:Act}{Q:Exit->Act->World->Prop}{ops:Array Oper}{q:Aut}{sts:List ((Nat->Nat)×Int×Int)}{mf nf:Lit->Option Nat}{rs:List (List (Nat×List UInt8)×Int×Int)}{R:List (Nat×List UInt8)×Int×Int}{s:Nat×List UInt8}{st:Nat->Nat}{tk:Nat->Nat->Nat}
section
open Go.RowKit
def qaL(W:World)(m:Nat)(ks:List (List UInt8)):Prop:=∃D,W.ownsMap prog 9 (unitElem (H:=Unit)) m ks.length D/\∀l:List UInt8,Maps.has D (.string l)=decide (l∈ks)
theorem qaL.kept(h:qaL W m ks)(c:W.grownBy W' row)(d:some m≠row):qaL W' m ks:=by
 obtain⟨D,a,b⟩:=h;exact⟨D,a.kept c d,b⟩
theorem qj2(l:List UInt8)(b:l.length<=1000000000):keyOf prog 9 (.string ⟨l.toArray⟩)=some (.string l):=by
 have a:(⟨l.toArray⟩:ByteArray).size<=maxLen:=by
  show l.toArray.size<=maxLen;rw[List.size_toArray];unfold maxLen;omega
 simp[keyOf,mapKey,underlying9,a]
theorem qib(W:World)(m:Nat)(ks:List (List UInt8))(l:List UInt8)(h:qaL W m ks)(f:l∈ks)(d:l.length<=1000000000):Calls prog 210 #[.map (some m),.string ⟨l.toArray⟩] W λe a=>e=.returned (.bool false)/\Below W.heap.size W a:=by
 obtain⟨D,b,c⟩:=h;have j:(zeroValue 163).run prog W=.ok (.agg #[]) W:=by kernel_rfl
 obtain⟨v,k,g,i⟩:=b.look_ok (Maps.string_keyed underlying9) underlying308 j unitElem_mk (qj2 l d);obtain⟨rfl,_⟩:=unitElem_inv i;rw[c l,decide_eq_true f]at g;go_enter func210,ntmps210;go_wp2;go_ret;exact⟨rfl,bwA⟩
theorem qmQ(W:World)(m:Nat)(ks:List (List UInt8))(l:List UInt8)(h:qaL W m ks)(p:¬l∈ks)(x:ks.length<1000000000)(c:l.length<=1000000000):Calls prog 210 #[.map (some m),.string ⟨l.toArray⟩] W λe g=>e=.returned (.bool true)/\qaL g m (l::ks)/\But m W g:=by
 obtain⟨D,b,i⟩:=h;have w:(zeroValue 163).run prog W=.ok (.agg #[]) W:=by kernel_rfl
 obtain⟨v,z,t,u⟩:=b.look_ok (Maps.string_keyed underlying9) underlying308 w unitElem_mk (qj2 l c);obtain⟨rfl,_⟩:=unitElem_inv u;rw[i l,decide_eq_false p]at t;obtain⟨j,y,s,n⟩:=(b.alloc (.cells #[] 163)).store (Maps.string_keyed underlying9) underlying308 (by unfold maxLen;omega) (qj2 l c) (val:=.agg #[]) (unitElem_mk (H:=Unit));have f:Hid (qaL j m (l::ks)/\But m W j):=by
  refine⟨⟨_,s,λq=>?_⟩,?_⟩
  ·by_cases d:q=l
   ·subst d;rw[Maps.has_put_same b.isMap (Maps.string_keyed (P:=prog) underlying9 |>.key (qj2 q c))];simp
   rw[Maps.has_put_other (λe=>d (by injection e)),i q];simp[d]
  have a:=n.grown;exact⟨a.os,a.tape,a.output,Nat.le_trans (by simp) a.size,λk o r=>(a.block k (by simp;omega) (by simpa using r)).trans (Below.heap_alloc _ _ _ o)⟩
 go_enter func210,ntmps210;go_wp2;go_ret;exact⟨rfl,f.out.1,f.out.2⟩

theorem Own.mono{b b':Nat}{v:Value}{bs:List UInt8}(h:Own W b v bs)(l:b'<=b):Own W b' v bs:=by
 obtain⟨⟨f,a⟩,k,i⟩:=h;refine⟨⟨f,?_⟩,by omega,i⟩;rcases a with a|⟨g,c,d,e,m,j⟩
 ·exact .inl a
 exact .inr ⟨g,c,d,e,by omega,j⟩
theorem qpw(V:World)(c:Int)(t:TypeId)(y:Value)(d:List UInt8)(l:(c==1)=false)(f:Calls prog 69 #[.int .i64 c,.iface t y] V λe a=>∃b,e=.returned b/\Own a V.heap.size b d/\Below V.heap.size V a):Calls prog 51 #[.int .i64 c,.iface t y] V λe a=>∃b,e=.returned (.tuple #[b,.int .i64 0])/\Own a V.heap.size b d/\Below V.heap.size V a:=by
 go_enter func51,ntmps51
 go_wp2_with(first
  |(go_at_call 69;refine f.mono ?_;rintro e p ⟨o,rfl,g,j⟩;obtain⟨h,i,k,n,m,rfl⟩:=g))
 go_ret2
 exact⟨_,rfl,⟨h,i,_,_,_,rfl⟩,j⟩
theorem qou(V:World)(t:TypeId)(y:Value)(d:List UInt8)(g:Calls prog 68 #[.iface t y] V λe f=>e=.returned (.bool false)/\Below V.heap.size V f)(h:∀U,Below V.heap.size V U->Calls prog 69 #[.int .i64 1,.iface t y] U λe a=>∃b,e=.returned b/\Own a V.heap.size b d/\Below V.heap.size U a):Calls prog 51 #[.int .i64 1,.iface t y] V λe a=>∃b,e=.returned (.tuple #[b,.int .i64 0])/\Own a V.heap.size b d/\Below V.heap.size V a:=by
 go_enter func51,ntmps51
 go_wp2_with(first
  |(go_at_call 68;refine g.mono ?_;rintro e n ⟨rfl,c⟩;have i:=h n c)
  |(go_at_call 69;refine i.mono ?_;rintro e s ⟨r,rfl,j,m⟩;obtain⟨k,l,o,q,p,rfl⟩:=j))
 go_ret2
 exact⟨_,rfl,⟨k,l,_,_,_,rfl⟩,c.trans m⟩
theorem qow(V:World)(t:TypeId)(y:Value)(c:Calls prog 68 #[.iface t y] V λe b=>e=.returned (.bool true)/\Below V.heap.size V b):Calls prog 51 #[.int .i64 1,.iface t y] V λe a=>e=.returned (.tuple #[.slice none 0 0,.int .i64 13])/\Below V.heap.size V a:=by
 go_enter func51,ntmps51
 go_wp2_with(first
  |(go_at_call 68;refine c.mono ?_;rintro e f ⟨rfl,d⟩))
 go_ret2
 exact⟨rfl,d⟩

def NuG(W0:World)(A:Nat)(q:Aut)(sts:List ((Nat->Nat)×Int×Int))(sv:Value)(mn:Nat)(mf:Lit->Option Nat)(Y:Nat->Nat)(W:World)(e:Ending)(W':World):Prop :=
 ∃(i:Nat) (sts':List ((Nat->Nat)×Int×Int)) (sa':Option Addr) (sc':Nat) (nf':Lit->Option Nat),e=.returned (.int .i64 i)/\qnf A q sv W W'/\qvu sv (.slice sa' sts'.length sc') W/\qcx W0 A q sts' (.slice sa' sts'.length sc') nf' mn mf W'/\(∀(j:Nat) (x:(Nat->Nat)×Int×Int),sts[j]?=some x->sts'[j]?=some x)/\sts'.length<=sts.length+1/\∃x,sts'[i]?=some x/\∀r,r<16->x.1 r=Y r
theorem qgy(c:World)(A:Nat)(q:Aut)(a:List ((Nat->Nat)×Int×Int))(k:Option Addr)(m:Nat)(b:Lit->Option Nat)(g:Nat)(f:Lit->Option Nat)(W:World)(h:qcx c A q a (.slice k a.length m) b g f W)(Y:Nat->Nat)(s:∀r,Y r<512)(z:a.length<100000):Calls prog 45 #[.pointer (some ⟨A,0,none⟩),.agg (plA Y)] W (NuG c A q a (.slice k a.length m) g f Y W):=by
 obtain⟨l,p⟩:=qq9 Y (λr=>by have:=s r;omega)
 cases o:b l with
 |some i =>
  refine(qk9 c A q a _ b g f W h Y l p i o).mono ?_;rintro e t ⟨rfl,n⟩;obtain⟨x,B,y⟩:=h.num' l i o;exact⟨i,a,k,m,b,rfl,⟨n.size,λj d _ _ _ _=>n.block j d⟩,.inl rfl,h.next n,λ_ _ w=>w,Nat.le_succ _,x,B,qpl (Value.agg.inj (qp8.inj y p))⟩
 |none =>
  refine(ql2 c A q a k m b g f W h Y s l p o z).mono ?_;rintro e t ⟨rfl,hF,D,E,C,v,u⟩;refine⟨a.length,a++[(Y,jdg q.dflt q.rs Y 0)],D,E,C,rfl,hF,?_,?_,λj x d=>?_,?_,(Y,jdg q.dflt q.rs Y 0),by simp,λ_ _=>rfl⟩
  ·rw[List.length_append];exact v
  ·rw[List.length_append];exact u
  ·rw[List.getElem?_append_left (ltL d)];exact d
  rw[List.length_append];exact Nat.le_refl _

theorem stK:Maps.Keyed prog 9:=Maps.string_keyed underlying9
theorem qlC(l:List UInt8)(a:l.length<=maxLen):keyOf prog 9 (.string ⟨l.toArray⟩)=some (.string l):=by
 have b:(⟨l.toArray⟩:ByteArray).size<=maxLen:=by
  show l.toArray.size<=maxLen;rw[List.size_toArray];exact a
 simp[keyOf,mapKey,underlying9,b]
theorem qmL(l:List UInt8)(a:l.length<=1000000000):keyOf prog 9 (.string ⟨l.toArray⟩)=some (.string l):=qlC l (by unfold maxLen;omega)
def qnC(lf:Lit->Option Nat)(key:List UInt8)(ix:Bool):Nat:=if ix=true then 1 else(lf (.string key)).getD 0
theorem qfJ(m:World)(A:Nat)(q:Aut)(t:List ((Nat->Nat)×Int×Int))(u:Value)(s:Lit->Option Nat)(r:Nat)(o:Lit->Option Nat)(W:World)(h:qcx m A q t u s r o W)(a:List UInt8)(d:Bool)(g:a.length<=maxLen):Calls prog 137 #[.pointer (some ⟨A,0,none⟩),.agg #[.string ⟨a.toArray⟩,.bool d]] W λe l=>e=.returned (.int .i64 (qnC q.lf a d))/\Below W.heap.size W l:=by
 have n:=ltA h.row;have c2:W.cell? ⟨A,2,none⟩=some (.map (some q.lm)):=qaa h.row 2;have f:Hid (qdm (W.alloc (.cells #[.string ⟨a.toArray⟩,.bool d] 237)) 9 q.lm q.ln q.lf):=h.letters.kept (World.grownBy_alloc W _ none) (by simp);have w:=qgN f.out stK underlying107 (qlC a g)
 cases d with
 |true =>
  go_enter func137,ntmps137;go_wp2;go_ret;exact⟨rfl,bwA⟩
 |false =>
  obtain⟨x,i⟩:∃x,x=(q.lf (.string a)).getD 0:=⟨_,rfl⟩
  have k:Hid (qnC q.lf a false=x):=by rw[i];rfl
  have j:=qab i.symm;rw[k.out];go_enter func137,ntmps137;go_wp2;have b:(λZ:World=>Z.cell? ⟨A,2,none⟩=some (.map (some q.lm))/\Z.cell? ⟨W.heap.size,0,none⟩=some (.string ⟨a.toArray⟩)/\qdm Z 9 q.lm q.ln q.lf) { (W.alloc (.cells #[.string ⟨a.toArray⟩,.bool false] 237))with drawn:=(W.alloc (.cells #[.string ⟨a.toArray⟩,.bool false] 237)).drawn+1}:=⟨((((Below.refl W.heap.size W).alloc (Nat.le_refl _) (.cells #[.string ⟨a.toArray⟩,.bool false] 237)).cell (p:=⟨A,2,none⟩) n).trans c2 :),qaa (qac W _) 0,f.out⟩
  refine wp_region_held (S:=λZ=>Z.cell? ⟨A,2,none⟩=some (.map (some q.lm))/\Z.cell? ⟨W.heap.size,0,none⟩=some (.string ⟨a.toArray⟩)/\qdm Z 9 q.lm q.ln q.lf) (by kernel_rfl) ?_;refine tkp 0 7 (.pointer (some ⟨A,0,none⟩)) b ?_;refine tkp 1 8 (.pointer (some ⟨A,0,none⟩)) b ?_;refine tkp 2 9 (.pointer (some ⟨A,2,none⟩)) b ?_;refine tkq 3 10 (.map (some q.lm)) rfl (λZ c=>?y3) b ?_
  case y3=>(have y:=c.1;go_simp)
  refine tkp 4 11 (.pointer (some ⟨W.heap.size,0,none⟩)) b ?_;refine tkq 5 12 (.string ⟨a.toArray⟩) rfl (λZ c=>?y5) b ?_
  case y5=>(have z:=c.2.1;go_simp)
  refine tkq 6 13 (.int .i64 x) rfl (λZ c=>?y6) b ?_
  case y6=>(have v:=qgN c.2.2 stK underlying107 (qlC a g);rw[j.out]at v;go_simp)
  refine tkp 7 4 (.int .i64 x) b ?_;refine wdn ?_;go_simp;go_wp2;go_ret;exact⟨rfl,(bwA).drew⟩

theorem qdX(w:World)(g o:Nat)(a:TypeId)(O:Array Value)(d:TypeDesc)(h:∀(j:Nat) (u:Value),O[j]?=some u->w.cell? ⟨g,o+j,none⟩=some u)(l:P.underlying a=some d)(n:(match d with|.struct _|.array _ _=>true|_=>false)=true)(hi:(P.info? a).map (·.size)=some O.size):(loadVar a ⟨g,o,none⟩).run P w=.ok (.agg O) w:=by
 have c:(loadCells ⟨g,o,none⟩ O.toList.length).run P w=.ok O.toList.toArray w :=
  run_loadCells_list (P:=P) w ⟨g,o,none⟩ O.toList (λj u m=>by
   have e:(⟨g,o,none⟩:Addr).add j=⟨g,o+j,none⟩:=by unfold Addr.add;split<;>simp_all
   rw[e];exact h j u (by simpa using m))
 cases b:P.info? a with
 |none=>simp[b]at hi
 |some i =>
  have k:i.size=O.size:=by simpa[b]using hi
  have f:(isAgg a).run P w=.ok true w:=by
   unfold isAgg;rw[Sem.run_bind,run_underlying l w];cases d<;>simp_all
  simp only[Array.length_toList,Array.toArray_toList]at c;simp[loadVar,Sem.run_bind,f,sizeOf,typeInfo,b,k,c]
theorem qim{K:Act->World->Prop}(b:TypeId)(x:Operand)(f:o.op=.load b x)(g k:Nat)(l:a.eval x=.pointer (some ⟨g,k,none⟩))(O:Array Value)(d:TypeDesc)(c:∀(j:Nat) (u:Value),O[j]?=some u->w.cell? ⟨g,k+j,none⟩=some u)(i:P.underlying b=some d)(e:(match d with|.struct _|.array _ _=>true|_=>false)=true)(hi:(P.info? b).map (·.size)=some O.size)(h:K (a.put o.dst (.agg O)) w):o.wp P a w K Q:=by
 unfold Oper.wp execOp;simp only[f,l,Instr.loadAt,Instr.sureAddr,Sem.run_bind,Sem.run_pure,Result.andThen_ok,qdX w g k b O d c i e hi];exact h
theorem qaK{rest:List Oper}(b:TypeId)(x:Operand)(l:o.op=.load b x)(i:Region.wanted o (yielded ops a.tmps)=true)(g k:Nat)(n:a.eval x=.pointer (some ⟨g,k,none⟩))(O:Array Value)(d:TypeDesc)(e:∀(j:Nat) (u:Value),O[j]?=some u->w.cell? ⟨g,k+j,none⟩=some u)(m:P.underlying b=some d)(f:(match d with|.struct _|.array _ _=>true|_=>false)=true)(hi:(P.info? b).map (·.size)=some O.size)(h:wpList P ops Q rest (a.put o.dst (.agg O)) w):wpList P ops Q (o::rest) a w :=
 wpList_step λK c=>by rw[if_pos i];exact qim b x l g k n O d e m f hi (c _ _ h)
theorem qy2{ev:Operand->Value}(a:TypeId)(x:Operand)(e:o.op=.load a x)(g k:Nat)(h:ev x=.pointer (some ⟨g,k,none⟩))(O:Array Value)(d:TypeDesc)(b:∀(j:Nat) (u:Value),O[j]?=some u->W.cell? ⟨g,k+j,none⟩=some u)(f:P.underlying a=some d)(c:(match d with|.struct _|.array _ _=>true|_=>false)=true)(hi:(P.info? a).map (·.size)=some O.size):(execOp ev o).run P W=.ok (.value (.agg O)) W:=by
 unfold execOp;simp only[e,h,Instr.loadAt,Instr.sureAddr,Sem.run_bind,Sem.run_pure,Result.andThen_ok,qdX W g k a O d b f c hi]
theorem qu9(x:(Nat->Nat)×Int×Int):stC x=(stA x.1 x.2).toList:=by simp[stC,stA]
theorem qgq(Y:Nat->Nat)(x:Int×Int):(stA Y x).size=18:=by simp[stA,qcf]
theorem qwS(Y:Nat->Nat)(x:Int×Int):(stA Y x).all (·.oneCell')=true:=by rw[<-Array.all_toList,List.all_eq_true];exact qqJ Y x
theorem qvN(a:List ((Nat->Nat)×Int×Int)):∀(i j:Nat) (x:(Nat->Nat)×Int×Int),a[i]?=some x->j<18->(a.flatMap stC)[i*18+j]?=(stA x.1 x.2)[j]?:=by
 induction a with
 |nil=>intro i j x h;simp at h
 |cons y f d =>
  intro i j x h b;have c:(stC y).length=18:=by rw[qu9,Array.length_toList,qgq]
  rw[List.flatMap_cons]
  cases i with
  |zero =>
   have e:y=x:=by simpa using h
   subst e;rw[List.getElem?_append_left (by omega),qu9];simp
  |succ i =>
   rw[List.getElem?_append_right (by omega),c,show(i+1)*18+j-18=i*18+j by omega];exact d i j x (by simpa using h) b
theorem qcx.state_at(h:qcx W0 A q sts sv nf mn mf W){x:(Nat->Nat)×Int×Int}(f:sts[i]?=some x):∃g a,sv=.slice (some ⟨g,0,none⟩) sts.length a/\g<W.heap.size/\g≠A/\∀(j:Nat) (u:Value),(stA x.1 x.2)[j]?=some u->W.cell? ⟨g,i*18+j,none⟩=some u:=by
 have p:=ltL f;rcases h.states.2 with⟨_,n⟩|⟨g,a,k,d,o,b,s,r,t,m⟩
 ·omega
 refine⟨g,a,d,(ltA b),(h.own g (by rw[d];rfl)).1,λj u c=>?_⟩;have l:j<18:=by rw[<-qgq x.1 x.2];exact ltA c
 rw[cell_of_row W g (i*18+j) k _ _ b];have e:=qvN sts i j x f l;rw[c,<-m,List.getElem?_take_of_lt (by omega)]at e;simpa using e
theorem qpS(Y:Nat->Nat)(x:Int×Int):(prog.info? 157).map (·.size)=some (stA Y x).size:=by rw[qgq];kernel_rfl
theorem qmq(j:World)(A:Nat)(q:Aut)(a:List ((Nat->Nat)×Int×Int))(p:Value)(o:Lit->Option Nat)(n:Nat)(m:Lit->Option Nat)(W:World)(h:qcx j A q a p o n m W)(i:Nat)(x:(Nat->Nat)×Int×Int)(b:a[i]?=some x):Calls prog 81 #[.pointer (some ⟨A,0,none⟩),.int .i64 i] W λe f=>e=.returned (.tuple #[.int .i64 x.2.1,.int .i64 x.2.2])/\Below W.heap.size W f:=by
 have s:=ltA h.row;obtain⟨g,k,rfl,u,t,l⟩:=h.state_at b;have r:W.cell? ⟨A,20,none⟩=some (.slice (some ⟨g,0,none⟩) a.length k):=qaa h.row 20;have v:(i:Int)<(a.length:Int):=by have:=ltL b;omega
 have d:=qab l;go_enter func81,ntmps81
 go_wp2_with(first
  |(refine qaK 157 (.tmp 12) rfl (by simp[go_sem]) g (i*18) rfl (stA x.1 x.2) _ d.out underlying157 rfl (qpS x.1 x.2) ?_)
  |(refine wpList_store_row rfl 157 _ _ rfl W.heap.size (stA x.1 x.2) rfl rfl 157 #[.int .u16 0,.int .u16 0,.int .u16 0,.int .u16 0,.int .u16 0,.int .u16 0,.int .u16 0,.int .u16 0,.int .u16 0,.int .u16 0,.int .u16 0,.int .u16 0,.int .u16 0,.int .u16 0,.int .u16 0,.int .u16 0,.int .i64 0,.int .i64 0] (qac W _) (qpS x.1 x.2) (by rw[qgq];rfl) (qwS x.1 x.2) ?_;rw[World.setRow_alloc_new]))
 have c:Hid (Below W.heap.size W (W.alloc (.cells (stA x.1 x.2) 157))):=bwA;have w:(W.alloc (.cells (stA x.1 x.2) 157)).cell? ⟨W.heap.size,16,none⟩=some (.int .i64 x.2.1):=qaa (qac W _) 16;have y:(W.alloc (.cells (stA x.1 x.2) 157)).cell? ⟨W.heap.size,17,none⟩=some (.int .i64 x.2.2):=qaa (qac W _) 17;generalize W.alloc (.cells (stA x.1 x.2) 157)=V at *
 go_quiet (fail)
 go_wp2;refine bodyPost_ret (results_tmp2 results81 _ _ _) rfl ⟨rfl,c.out.trans ⟨rfl,rfl,rfl,Nat.le_refl _,λ_ _=>rfl⟩⟩

theorem q0g(x:Nat)(h:x<1000000000):(Lit.int .i64 (x:Int)).wf=true:=by
 have a:IntKind.i64.min = -9223372036854775808:=by kernel_rfl
 have b:IntKind.i64.max=9223372036854775807:=by kernel_rfl
 simp[Lit.wf,a,b];omega
def mvA(f x:Nat):Array Value:=#[.int .i64 f,.int .i64 x]
theorem qzi(f x:Nat)(k:f<1000000000)(o:x<1000000000):∃l,keyOf prog 255 (.agg (mvA f x))=some l:=by
 obtain⟨d,j⟩:∃d,prog.types.size+1=d+2:=⟨prog.types.size-1,by have:1<=prog.types.size:=Nat.le_of_ble_eq_true (by kernel_rfl);omega⟩
 have h:prog.keyType 255=true:=by kernel_rfl
 have a:prog.cellsOf 255=2:=by kernel_rfl
 have i:prog.cellsOf 3=1:=by kernel_rfl
 have m:(Value.agg (mvA f x)).formed prog 255=true:=by
  simp only[Value.formed,underlying255];rw[a];rfl
 have b:∀y:Nat,y<1000000000->prog.keyLits (d+1) 3 [.int .i64 y]=some [.int .i64 y]:=by
  intro y p;unfold Program.keyLits;simp only[underlying3];rw[if_pos ⟨trivial,q0g _ p⟩]
 have n:prog.keyLits (d+2) 255 (mvA f x).toList=some [.int .i64 f,.int .i64 x]:=by
  unfold Program.keyLits;simp only[underlying255];rw[if_pos ⟨by rw[a];rfl,by kernel_rfl⟩];simp only[List.mapM_cons,List.mapM_nil,i,mvA];have c:=b f k;have g:=b x o;simp[c,g]
 refine⟨.string (keyBytes [.int .i64 f,.int .i64 x]),?_⟩;unfold keyOf;simp only[underlying255];have e:(Value.agg (mvA f x)).cells=mvA f x:=rfl;rw[h,m,j,if_pos (by rfl),e,n,Option.map_some]
def qw0(q:Aut)(sts:List ((Nat->Nat)×Int×Int))(mf:Lit->Option Nat):Prop :=
 ∀(f x:Nat) (l:Lit) (k:Nat),keyOf prog 255 (.agg (mvA f x))=some l->mf l=some k->∃s t Y,sts[f]?=some s/\sts[k]?=some t/\WdY q.rs.length q.st (qiD q.st (q.tk x) s.1 q.rs.length) Y/\∀r,r<16->t.1 r=Y r
theorem qoh(m:World)(A:Nat)(q:Aut)(o:List ((Nat->Nat)×Int×Int))(p:Value)(n:Lit->Option Nat)(g:Nat)(c:Lit->Option Nat)(W:World)(h:qcx m A q o p n g c W)(f:Nat)(d:List UInt8)(k:Bool)(D:d.length<=maxLen)(x:Nat)(F:qnC q.lf d k=x)(l:Lit)(E:keyOf prog 255 (.agg (mvA f x))=some l)(i:Nat)(hi:c l=some i):Calls prog 122 #[.pointer (some ⟨A,0,none⟩),.int .i64 f,.agg #[.string ⟨d.toArray⟩,.bool k]] W λe C=>e=.returned (.int .i64 i)/\Below W.heap.size W C:=by
 have r:Hid (qcx m A q o p n g c (W.alloc (.cells #[.string ⟨d.toArray⟩,.bool k] 237))):=h.next bwA
 have t:Hid (Below W.heap.size W (W.alloc (.cells #[.string ⟨d.toArray⟩,.bool k] 237))):=bwA;have v:=qfJ m A q o p n g c _ r.out d k D;rw[F]at v;go_enter func122,ntmps122
 go_wp2_with(first
  |(go_at_call 137;refine v.mono ?_;rintro e b ⟨rfl,w⟩;have y:=qab (r.out.next w);have u:=qab (t.out.trans (w.mono t.out.size))))
 have s:Hid (qcx m A q o p n g c (b.alloc (.cells (mvA f x) 255))):=y.out.next bwA
 have B:Hid (Below W.heap.size W (b.alloc (.cells (mvA f x) 255))):=u.out.alloc u.out.size _;have z:Hid ((b.alloc (.cells (mvA f x) 255)).heap[b.heap.size]?=some (.cells (mvA f x) 255)):=qac _ _;have a:(λZ:World=>Z.cell? ⟨A,22,none⟩=some (.map (some q.mb))/\Z.heap[b.heap.size]?=some (.cells (mvA f x) 255)/\qdm Z 255 q.mb g c) { (b.alloc (.cells (mvA f x) 255))with drawn:=(b.alloc (.cells (mvA f x) 255)).drawn+1}:=⟨qaa s.out.row 22,z.out,s.out.moves⟩
 refine wp_region_held (S:=λZ=>Z.cell? ⟨A,22,none⟩=some (.map (some q.mb))/\Z.heap[b.heap.size]?=some (.cells (mvA f x) 255)/\qdm Z 255 q.mb g c) (by kernel_rfl) ?_;refine tkp 0 16 (.pointer (some ⟨A,0,none⟩)) a ?_;refine tkp 1 17 (.pointer (some ⟨A,0,none⟩)) a ?_;refine tkp 2 18 (.pointer (some ⟨A,22,none⟩)) a ?_;refine tkq 3 19 (.map (some q.mb)) rfl (λZ j=>?y3) a ?_
 case y3=>(have H:=j.1;go_simp)
 refine tkq 4 20 (.agg (mvA f x)) rfl (λZ j=>?y4) a ?_
 case y4=>exact qja 255 (.tmp 7) rfl b.heap.size rfl _ _ _ _ j.2.1 underlying255 rfl (by kernel_rfl)
 refine tkq 5 21 (.tuple #[.int .i64 i,.bool true]) rfl (λZ j=>?y5) a ?_
 case y5=>(have G:=qdI j.2.2 mvK underlying109 E;rw[hi]at G;go_simp)
 refine tkp 6 15 (.tuple #[.int .i64 i,.bool true]) a ?_;refine tkp 7 22 (.int .i64 i) a ?_;refine tkp 8 23 (.bool true) a ?_;refine tkp 9 8 (.int .i64 i) a ?_;refine tkp 10 9 (.bool true) a ?_;refine wdn ?_;go_simp;go_wp2;go_ret;exact⟨rfl,B.out.drew⟩

theorem qcx.auR(h:qcx W0 A q sts sv nf mn mf W):AuR W A q.ra q.rc q.rs.length q.st :=
 ⟨(ltA h.row),qaa h.row 0,λr a=>by
  rw[cell_of_row W A (3+r) _ _ _ h.row]
  match r,a with
  |0,_|1,_|2,_|3,_|4,_|5,_|6,_|7,_|8,_|9,_|10,_|11,_|12,_|13,_|14,_|15,_=>rfl
  |n+16,a=>exact absurd a (by omega)⟩
theorem qcx.auT(h:qcx W0 A q sts sv nf mn mf W):AuT W A q.tb q.L q.tc q.tk:=by
 obtain⟨e,a,d⟩:=h.takes;exact⟨(ltA h.row),(ltA a),qaa h.row 19,λx r c b=>(cell_of_row W q.tb (x*16+r) _ _ _ a).trans (d x r c b)⟩
theorem qcx.moved{mn':Nat}{mf':Lit->Option Nat}(h:qcx W0 A q sts sv nf mn mf W)(a:W.grownBy W' (some q.mb))(m:qdm W' 255 q.mb mn' mf'):qcx W0 A q sts sv nf mn' mf' W':=by
 obtain⟨o,p,r,f,s,t,j,u,k,d⟩:=h.apart;obtain⟨v,w,x,y,z⟩:=h.high;obtain⟨l,c,n⟩:=h.takes;exact{h with
  row:=(a.block A (ltA h.row) (by simpa using f)).trans h.row
  below:=⟨a.os.trans h.below.os,a.tape.trans h.below.tape,a.output.trans h.below.output,Nat.le_trans h.below.size a.size,λi b=>(a.block i (Nat.lt_of_lt_of_le b h.below.size) (by simp;omega)).trans (h.below.block i b)⟩
  letters:=h.letters.kept a (by simpa using j)
  takes:=⟨l,(a.block _ (ltA c) (by simpa using k)).trans c,n⟩
  states:=qd9 h.states λg e=>a.block g (qka h.states e) (by simpa using(h.own g e).2.2.2.2)
  numbers:=h.numbers.kept a (by simpa using d)
  moves:=m}

def fnL(ks:List (List UInt8)):Lit->Option Nat
 |.string b=>if b∈ks then some (2+ks.idxOf b)else none
 |_=>none
theorem qeR(h:b∈ks):fnL ks (.string b)=some (2+ks.idxOf b):=if_pos h
theorem qep(h:b∉ks):fnL ks (.string b)=none:=if_neg h
theorem qvg(h:b∉ks):fnL (ks++[b]) (.string b)=some (2+ks.length):=by
 rw[qeR (by simp),List.idxOf_append,if_neg h];simp
theorem qwz(_h:b∉ks)(l:Lit)(f:l≠.string b):fnL (ks++[b]) l=fnL ks l:=by
 cases l with
 |string c =>
  have d:c≠b:=λe=>f (by rw[e]);by_cases a:c∈ks
  ·rw[qeR a,qeR (by simp[a]),List.idxOf_append,if_pos a]
  rw[qep a,qep (by simp[a,d])]
 |_=>rfl
def ImK(W:World)(m:Nat)(ks:List (List UInt8)):Prop :=
 ∃D:DataW Unit,W.ownsMap prog 9 (plainElem prog 3) m ks.length D/\(∀l,Maps.has D l=(fnL ks l).isSome/\∀v:Nat,fnL ks l=some v->D.atKey l (.lit (.int .i64 0))=.lit (.int .i64 v))/\Maps.size D=ks.length
theorem ImK.im(h:ImK W m ks):qdm W 9 m ks.length (fnL ks):=by
 obtain⟨D,a,b,_⟩:=h;exact⟨D,a,b⟩
theorem ImK.kept(h:ImK W m ks)(c:W.grownBy W' row)(d:some m≠row):ImK W' m ks:=by
 obtain⟨D,a,b⟩:=h;exact⟨D,a.kept c d,b⟩
theorem qi5(W:World):ImK (W.alloc (.map #[] 0)) W.heap.size [] :=
 ⟨_,World.ownsMap_made W prog _ _,λl=>⟨by cases l<;>simp[Maps.has,fnL],λv h=>by cases l<;>simp[fnL]at h⟩,rfl⟩
theorem ImK.len(h:ImK W m ks)(d:prog.underlying t=some (.map 9 3))(a:TypeId):(Builtin.len_ #[t] a #[.map (some m)]).run prog W=.ok (.int .i64 ks.length) W:=by
 obtain⟨D,b,_,c⟩:=h;rw[b.len d a,c]
theorem qrF(h:ImK W m ks)(r:prog.underlying t=some (.map 9 3))(v:ks.length<100000)(n:b.length<=1000000000)(g:b∉ks):∃a,(Instr.mapUpdate t (.map (some m)) (.string ⟨b.toArray⟩) (.int .i64 ((2+ks.length:Nat):Int))).run prog W=.ok () a/\ImK a m (ks++[b])/\W.grownBy a (some m):=by
 obtain⟨D,c,d,j⟩:=h;have f:=qmL b n;obtain⟨a,q,p,k⟩:=c.store stK r (by unfold maxLen;omega) f (plainElem_int underlying3 (q0g (2+ks.length) (by omega)));have o:Maps.has D (.string b)=false:=by rw[(d _).1,qep g];rfl
 refine⟨a,q,⟨_,by rw[List.length_append];exact p,λl=>?_,?_⟩,k.grown⟩
 ·by_cases e:l=.string b
  ·subst e;rw[qvg g];refine⟨Maps.has_put_same c.isMap (stK.key f) _,λu i=>?_⟩;have s:=Option.some.inj i;rw[<-s];exact Maps.atKey_put_same c.isMap (stK.key f) _ _
  rw[qwz g l e];exact⟨(Maps.has_put_other e _).trans (d l).1,λu i=>(Maps.atKey_put_other e _ _).trans ((d l).2 u i)⟩
 rw[Maps.size_put (c.tidy stK),o,j,List.length_append];rfl
def qio(ks:List (List UInt8))(s:Nat×List UInt8):List (List UInt8):=if s.1=3/\s.2∉ks then ks++[s.2]else ks
def quk(ks:List (List UInt8))(r:List (Nat×List UInt8)×Int×Int):List (List UInt8):=r.1.foldl qio ks
def qc0(rs:List (List (Nat×List UInt8)×Int×Int)):List (List UInt8):=rs.foldl quk []
theorem qvm(ks:List (List UInt8))(s:Nat×List UInt8):(qio ks s).length<=ks.length+1:=by
 unfold qio;split<;>simp
theorem qnd:∀(ss:List (Nat×List UInt8)) (ks:List (List UInt8)),(ss.foldl qio ks).length<=ks.length+ss.length
 |[],ks=>by simp
 |s::ss,ks=>by
  have a:=qnd ss (qio ks s);have b:=qvm ks s;simp only[List.foldl_cons,List.length_cons];omega

theorem tkU{md:Region.Mode}{S:World->Prop}{oi:Oper}{fuel:Nat}{listed:Array Bool}(i d:Nat)(hi:ops[i]?=some oi)(b:(Region.noSelect ops&&Region.free md ops listed i&&(Region.ready md ops listed).contains i&&oi.dst==some d && !Region.wanted oi (yielded ops a.tmps))=true)(e:∀c a w,Q (.panic c) (a.put (some d) undef) w->Q (.panic c) a w)(f:S w)(h:wpAnyH P md ops Q S fuel (listed.setIfInBounds i true) (a.put (some d) undef) w):wpAnyH P md ops Q S (fuel+1) listed a w:=by
 simp only[Bool.and_eq_true]at b;have g:oi.dst=some d:=by simpa using b.1.2
 rw[<-g]at e h;exact wpAnyH_take hi b.1.1.1.1 b.1.1.1.2 b.1.1.2 e (.inr ⟨by simpa using b.2,rfl⟩) f h
structure Bt(b:Nat)(W W':World):Prop where
 os:W'.os=W.os
 tape:W'.tape=W.tape
 output:W'.output=W.output
 size:W.heap.size<=W'.heap.size
 block:∀k,k<W.heap.size->k≠b->W'.heap[k]?=W.heap[k]?
theorem Bt.refl(b:Nat)(W:World):Bt b W W:=⟨rfl,rfl,rfl,Nat.le_refl _,λ_ _ _=>rfl⟩
theorem Bt.trans{b:Nat}{A B C:World}(h:Bt b A B)(k:Bt b B C):Bt b A C :=
 ⟨k.os.trans h.os,k.tape.trans h.tape,k.output.trans h.output,Nat.le_trans h.size k.size,λi a c=>(k.block i (Nat.lt_of_lt_of_le a h.size) c).trans (h.block i a c)⟩
theorem Bt.of_below{b:Nat}(h:Below W.heap.size W W'):Bt b W W':=⟨h.os,h.tape,h.output,h.size,λk a _=>h.block k a⟩
structure qsh(W:World)(lm:Nat)(ks:List (List UInt8))(V:World):Prop where
 but:Bt lm W V
 names:ImK V lm ks
theorem qsh.next(h:qsh W lm ks V)(a:Below V.heap.size V V'):qsh W lm ks V' :=
 ⟨h.but.trans (Bt.of_below a),h.names.kept (row:=none) ⟨a.os,a.tape,a.output,a.size,λi b _=>a.block i b⟩ (by simp)⟩
theorem Bt.low(h:Bt lm W V)(a:Below W0.heap.size W0 W)(c:W0.heap.size<=lm):Below W0.heap.size W0 V :=
 ⟨h.os.trans a.os,h.tape.trans a.tape,h.output.trans a.output,Nat.le_trans a.size h.size,λi b=>(h.block i (Nat.lt_of_lt_of_le b a.size) (by omega)).trans (a.block i b)⟩
theorem Bt.cellA{u:Value}(h:Bt lm W V)(b:A<W.heap.size)(c:A≠lm)(a:W.cell? ⟨A,j,none⟩=some u):V.cell? ⟨A,j,none⟩=some u:=by
 have e:=h.block A b c;unfold World.cell? at a ⊢;rw[e];exact a
theorem wr2(n:Nat)(h:n<=128):wrap64 (2+(n:Int))=((2+n:Nat):Int):=by
 unfold wrap64;omega
theorem qgG(E W:World)(A l:Nat)(ra:Option Addr)(rc:Nat)(rs:List (List (Nat×List UInt8)×Int×Int))(au:Below E.heap.size E W)(U:A<W.heap.size)(X:A≠l)(b:E.heap.size<=l)(hn:rs.length<=16)(h8:∀i (h:i<rs.length),rs[i].1.length<=8)(aw:∀i (h:i<rs.length) j (h2:j<rs[i].1.length),rs[i].1[j].2.length<=1000000000)(c0:W.cell? ⟨A,0,none⟩=some (.slice ra rs.length rc))(c2:W.cell? ⟨A,2,none⟩=some (.map (some l)))(hr:qe0 E ra rs)(hm:ImK W l []):Calls prog 43 #[.pointer (some ⟨A,0,none⟩)] W λaq W'=>aq=.returned (.tuple #[])/\qsh W l (qc0 rs) W':=by
 have HR:=qab hr;have R:=qab au;have HM:=qab hm;go_enter func43,ntmps43;go_wp2
 go_loopg[12] rs.length (λg z wr=>∃(k:Nat) (m:List (List UInt8)),z=.int .i64 k/\Hid (k+g=rs.length)/\Hid (qsh W l m wr)/\Hid (qc0 rs=(rs.drop k).foldl quk m)/\Hid (m.length<=8*k))
 case atStart=>exact⟨0,[],rfl,by show _=_;omega,⟨Bt.refl _ _,HM.out⟩,rfl,by show _<=_;simp⟩
 case round =>
  obtain⟨k,m,rfl,B,J,HK,Q⟩:=hrel
  cases gk with
  |zero =>
   have ax:¬(k:Int)<(rs.length:Int):=by have:=B.out;omega
   have N:Hid (qc0 rs=m):=by
    have h:=HK.out;rw[List.drop_eq_nil_of_le (by have:=B.out;omega)]at h;exact h
   go_wp2;go_end0;rw[N.out];exact⟨rfl,J.out⟩
  |succ g =>
   have G:k<rs.length:=by have:=B.out;omega
   have ax:(k:Int)<(rs.length:Int):=by omega
   obtain⟨ap,off,V,pc,rfl,hb,e0,e1,e2,a6⟩:=(HR.out.below (J.out.but.low R.out b)).at_ k G;have al:Hid (qlM E V rs[k].1):=by
    obtain⟨b',a8,ba,bb,Y,av,f0,f1,f2,a0⟩:=HR.out.at_ k G;injection Y with Y;injection Y with hab1 hab2;subst hab1;subst hab2;have y:=((J.out.but.low R.out b).cell (p:=⟨ap,off+k*3,none⟩) av).trans f0;rw[e0]at y;injection y with y;injection y with y _ _;subst y;exact a0
   have a4:=h8 k G;have aj:=qab (aw k G);have ai:Hid (qc0 rs=(rs.drop (k+1)).foldl quk (rs[k].1.foldl qio m)):=by
    have h:=HK.out;rw[List.drop_eq_getElem_cons G]at h;exact h
   have ak:Hid (qsh W l m (wr.alloc (.cells #[.slice V rs[k].1.length pc,.int .i64 rs[k].2.1,.int .i64 rs[k].2.2] 146))):=J.out.next bwA
   go_wp2;generalize wr.alloc (.cells #[.slice V rs[k].1.length pc,.int .i64 rs[k].2.1,.int .i64 rs[k].2.2] 146)=V0 at *;generalize hss:rs[k].1=ss at *
   go_loopg[19] ss.length (λF z ao=>∃(j:Nat) (c:List (List UInt8)),z=.int .i64 j/\Hid (j+F=ss.length)/\Hid (qsh W l c ao)/\Hid (ss.foldl qio m=(ss.drop j).foldl qio c)/\Hid (c.length<=m.length+j))
   case atStart=>exact⟨0,m,rfl,by show _=_;omega,ak,rfl,Nat.le_refl _⟩
   case round =>
    obtain⟨j,c,rfl,n,D,aa,u⟩:=hrel
    cases gk with
    |zero =>
     have ay:¬(j:Int)<(ss.length:Int):=by have:=n.out;omega
     have N:Hid (ss.foldl qio m=c):=by
      have h:=aa.out;rw[List.drop_eq_nil_of_le (by have:=n.out;omega)]at h;exact h
     go_wp2;go_roundg g
     case measure=>omega
     case rel=>exact⟨k+1,c,by go_num,by show _=_;have:=B.out;omega,D,by have h:=ai.out;rw[N.out]at h;exact h,by show _<=_;have:=Q.out;have:=u.out;have:=n.out;omega⟩
    |succ F =>
     have K:j<ss.length:=by have:=n.out;omega
     have ay:(j:Int)<(ss.length:Int):=by omega
     obtain⟨b2,a9,rfl,a2,s0,s1⟩:=(al.out.below (D.out.but.low R.out b)).at_ j K;have O:Hid (ss.foldl qio m=(ss.drop (j+1)).foldl qio (qio c ss[j])):=by
      have h:=aa.out;rw[List.drop_eq_getElem_cons K]at h;exact h
     have P:=qab (aj.out j K);generalize ss[j]=sg at *;have w:Hid (qsh W l c (wr.alloc (.cells #[.int .i64 sg.1,.string ⟨sg.2.toArray⟩] 151))):=D.out.next bwA
     obtain⟨q,f⟩:=sg;have L:Hid ((wr.alloc (.cells #[.int .i64 q,.string ⟨f.toArray⟩] 151)).heap[wr.heap.size]?=some (.cells #[.int .i64 q,.string ⟨f.toArray⟩] 151)):=qac _ _;have ah:=qab D.out.names.im.lt;clear D;go_wp2;generalize wr.alloc (.cells #[.int .i64 q,.string ⟨f.toArray⟩] 151)=V1 at *;generalize wr.heap.size=M at *;refine rgn (S:=λZ=>Z.cell? ⟨A,2,none⟩=some (.map (some l))/\Z.heap[M]?=some (.cells #[.int .i64 q,.string ⟨f.toArray⟩] 151)/\ImK Z l c) (⟨w.out.but.cellA U X c2,L.out,w.out.names⟩) (by kernel_rfl) ?_;intro a;by_cases ae:q=3
     ·subst ae;by_cases H:f∈c
      ·obtain⟨x,hx⟩:∃x,x=2+c.idxOf f:=⟨_,rfl⟩
       have T:Hid ((fnL c (.string f)).getD 0=x):=by show _=_;rw[qeR H,hx];rfl
       have a7:((x:Int)==0)=false:=by simp;omega
       have C:Hid (qio c (3,f)=c):=if_neg (λh=>h.2 H);clear hx;refine tkp 0 23 (.pointer (some ⟨M,0,none⟩)) a ?_;refine tkq 1 24 (.int .i64 3) rfl (λZ d=>?y1) a ?_
       case y1=>(have r:=qaa d.2.1 0;go_simp)
       refine tkp 2 25 (.bool true) a ?_;refine tkp 3 26 (.bool true) a ?_;refine tkp 4 27 (.pointer (some ⟨A,0,none⟩)) a ?_;refine tkp 5 28 (.pointer (some ⟨A,0,none⟩)) a ?_;refine tkp 6 29 (.pointer (some ⟨A,2,none⟩)) a ?_;refine tkq 7 30 (.map (some l)) rfl (λZ d=>?y7) a ?_
       case y7=>(have r:=d.1;go_simp)
       refine tkp 8 31 (.pointer (some ⟨M,1,none⟩)) a ?_;refine tkq 9 32 (.string ⟨f.toArray⟩) rfl (λZ d=>?y9) a ?_
       case y9=>(have r:=qaa d.2.1 1;go_simp)
       refine tkq 10 33 (.int .i64 x) rfl (λZ d=>?y10) a ?_
       case y10=>(have z3:=qgN d.2.2.im stK underlying107 (qmL f P.out);rw[T.out]at z3;go_simp)
       refine tkq 11 34 (.bool false) rfl (λZ d=>?y11) a ?_
       case y11=>(go_simp)
       refine tkp 12 35 (.bool false) a ?_;refine wdn ?_;go_simp;have o:=qab (w.out.next (Below.refl _ _).drew);go_wp2;go_roundg F
       case measure=>omega
       case rel=>exact⟨j+1,c,by go_num,by show _=_;have:=n.out;omega,o,by have h:=O.out;rw[C.out]at h;exact h,by show _<=_;have:=u.out;omega⟩
      have T:Hid ((fnL c (.string f)).getD 0=0):=by show _=_;rw[qep H];rfl
      have C:Hid (qio c (3,f)=c++[f]):=if_pos ⟨rfl,H⟩;refine tkp 0 23 (.pointer (some ⟨M,0,none⟩)) a ?_;refine tkq 1 24 (.int .i64 3) rfl (λZ d=>?y1) a ?_
      case y1=>(have r:=qaa d.2.1 0;go_simp)
      refine tkp 2 25 (.bool true) a ?_;refine tkp 3 26 (.bool true) a ?_;refine tkp 4 27 (.pointer (some ⟨A,0,none⟩)) a ?_;refine tkp 5 28 (.pointer (some ⟨A,0,none⟩)) a ?_;refine tkp 6 29 (.pointer (some ⟨A,2,none⟩)) a ?_;refine tkq 7 30 (.map (some l)) rfl (λZ d=>?y7) a ?_
      case y7=>(have r:=d.1;go_simp)
      refine tkp 8 31 (.pointer (some ⟨M,1,none⟩)) a ?_;refine tkq 9 32 (.string ⟨f.toArray⟩) rfl (λZ d=>?y9) a ?_
      case y9=>(have r:=qaa d.2.1 1;go_simp)
      refine tkq 10 33 (.int .i64 0) rfl (λZ d=>?y10) a ?_
      case y10=>(have z3:=qgN d.2.2.im stK underlying107 (qmL f P.out);rw[T.out]at z3;go_simp)
      refine tkp 11 34 (.bool true) a ?_;refine tkp 12 35 (.bool true) a ?_;refine wdn ?_;go_simp;have o:=qab (w.out.next (Below.refl _ _).drew);have I:Hid ((World.drew V1).heap[M]?=some (.cells #[.int .i64 3,.string ⟨f.toArray⟩] 151)):=L.out;clear a w L;generalize World.drew V1=V2 at *;have d2:=o.out.but.cellA U X c2;have a5:=o.out.names.len underlying107;have af:c.length<=8*16:=by have:=Q.out;have:=u.out;have:=B.out;have:=n.out;omega
      obtain⟨v,e⟩:∃v,v=2+c.length:=⟨_,rfl⟩
      have an:Hid (wrap64 (2+(c.length:Int))=(v:Int)):=by show _=_;rw[e];exact wr2 _ af
      have am:=qab e;clear e af;go_wp2;rw[an.out];have ab:=qab (o.out.next (Below.refl _ _).drew);obtain⟨w7,ag,ad,t⟩:=qrF ab.out.names underlying107 (by have:=Q.out;have:=u.out;have:=B.out;have:=n.out;omega) P.out H;rw[<-am.out]at ag;have ac:Hid (qsh W l (c++[f]) w7):=⟨ab.out.but.trans ⟨t.os,t.tape,t.output,t.size,λi hi az=>t.block i hi (by simpa using az)⟩,ad⟩
      have s:(λZ:World=>Z.cell? ⟨A,2,none⟩=some (.map (some l))/\Z.heap[M]?=some (.cells #[.int .i64 3,.string ⟨f.toArray⟩] 151)) {V2 with drawn:=V2.drawn+1}:=⟨d2,I.out⟩
      have ar:(λZ:World=>Z.cell? ⟨A,2,none⟩=some (.map (some l))/\Z.heap[M]?=some (.cells #[.int .i64 3,.string ⟨f.toArray⟩] 151)) w7:=⟨ac.out.but.cellA U X c2,(t.block M (ltA I.out) (by have:=ah.out;simp;omega)).trans I.out⟩
      clear ad t o I;refine wp_region_held (S:=λZ=>Z.cell? ⟨A,2,none⟩=some (.map (some l))/\Z.heap[M]?=some (.cells #[.int .i64 3,.string ⟨f.toArray⟩] 151)) (by kernel_rfl) ?_;refine tkp 0 42 (.pointer (some ⟨A,0,none⟩)) s ?_;refine tkp 1 43 (.pointer (some ⟨A,0,none⟩)) s ?_;refine tkp 2 44 (.pointer (some ⟨A,2,none⟩)) s ?_;refine tkq 3 45 (.map (some l)) rfl (λZ d=>?y3) s ?_
      case y3=>(have r:=d.1;go_simp)
      refine tkp 4 46 (.pointer (some ⟨M,1,none⟩)) s ?_;refine tkq 5 47 (.string ⟨f.toArray⟩) rfl (λZ d=>?y5) s ?_
      case y5=>(have r:=qaa d.2 1;go_simp)
      refine tkp 6 48 (.int .i64 v) s ?_;refine rdq 7 (λa1 hK=>?_);go_simp;refine hK.out _ _ ar (λ_=>?_);clear hK;refine wdn ?_;go_simp;clear ag;go_wp2;go_roundg F
      case measure=>omega
      case rel=>exact⟨j+1,c++[f],by go_num,by show _=_;have:=n.out;omega,ac,by have h:=O.out;rw[C.out]at h;exact h,by show _<=_;have:=u.out;simp;omega⟩
     have a3:((q:Int)==3)=false:=by simp;omega
     have C:Hid (qio c (q,f)=c):=if_neg (λh=>ae h.1);refine tkp 0 23 (.pointer (some ⟨M,0,none⟩)) a ?_;refine tkq 1 24 (.int .i64 q) rfl (λZ d=>?y1) a ?_
     case y1=>(have r:=qaa d.2.1 0;go_simp)
     refine tkq 2 25 (.bool false) rfl (λZ d=>?y2) a ?_
     case y2=>(go_simp)
     refine tkp 3 26 (.bool false) a ?_;refine tkU 4 27 rfl (by kernel_rfl) (λ_ _ _ h=>h) a ?_;refine tkU 5 28 rfl (by kernel_rfl) (λ_ _ _ h=>h) a ?_;refine tkU 6 29 rfl (by kernel_rfl) (λ_ _ _ h=>h) a ?_;refine tkU 7 30 rfl (by kernel_rfl) (λ_ _ _ h=>h) a ?_;refine tkU 8 31 rfl (by kernel_rfl) (λ_ _ _ h=>h) a ?_;refine tkU 9 32 rfl (by kernel_rfl) (λ_ _ _ h=>h) a ?_;refine tkU 10 33 rfl (by kernel_rfl) (λ_ _ _ h=>h) a ?_;refine tkU 11 34 rfl (by kernel_rfl) (λ_ _ _ h=>h) a ?_;refine tkp 12 35 (.bool false) a ?_;refine wdn ?_;go_simp;have o:=qab (w.out.next (Below.refl _ _).drew);go_wp2;go_roundg F
     case measure=>omega
     case rel=>exact⟨j+1,c,by go_num,by show _=_;have:=n.out;omega,o,by have h:=O.out;rw[C.out]at h;exact h,by show _<=_;have:=u.out;omega⟩

def tkX(ks:List (List UInt8))(s:Nat×List UInt8)(x:Nat):Bool:=if s.1=0 then true else if s.1=1 then false else if s.1=2 then x==1 else x==(fnL ks (.string s.2)).getD 0
def gB(rs:List (List (Nat×List UInt8)×Int×Int))(r p:Nat)(f:Nat×List UInt8->Bool):Bool:=match rs[r]? with
 |some R=>(match R.1[p]? with|some s=>f s|none=>false)
 |none=>false
theorem qxW(a:rs[r]?=some R)(b:R.1[p]?=some s)(f:Nat×List UInt8->Bool):gB rs r p f=f s:=by
 unfold gB;rw[a];show(match R.1[p]? with|some s=>f s|none=>false)=f s;rw[b]
theorem qp9(a:rs[r]?=some R)(b:R.1.length<=p)(f:Nat×List UInt8->Bool):gB rs r p f=false:=by
 unfold gB;rw[a];show(match R.1[p]? with|some s=>f s|none=>false)=false;rw[List.getElem?_eq_none b]
theorem quC(a:rs.length<=r)(p:Nat)(f:Nat×List UInt8->Bool):gB rs r p f=false:=by
 unfold gB;rw[List.getElem?_eq_none a]
structure LyM(rs:List (List (Nat×List UInt8)×Int×Int))(ks:List (List UInt8))(i j:Nat)(st:Nat->Nat)(tk:Nat->Nat->Nat):Prop where
 s:∀r p,(st r).testBit p=(decide (r<i\/(r=i/\p<j))&&gB rs r p (λs=>s.1==1))
 t:∀x r p,(tk x r).testBit p=(decide (r<i\/(r=i/\p<j))&&gB rs r p (λs=>tkX ks s x))
theorem qpb(rs:List (List (Nat×List UInt8)×Int×Int))(ks:List (List UInt8)):LyM rs ks 0 0 (λ_=>0) (λ_ _=>0) :=
 ⟨λr p=>by simp,λx r p=>by simp⟩
def stU(st:Nat->Nat)(i j:Nat)(b:Bool):Nat->Nat:=λr=>if r=i/\b=true then st r|||2^j else st r
theorem qx5(x j p:Nat):(x|||2^j).testBit p=(x.testBit p||decide (p=j)):=by
 rw[Nat.testBit_or,Nat.testBit_two_pow];congr 1;exact decide_eq_decide.2 ⟨λh=>h.symm,λh=>h.symm⟩
theorem qqX{f:Nat×List UInt8->Bool}(c:rs[i]?=some R)(g:R.1[j]?=some s)(h:∀r p,(st r).testBit p=(decide (r<i\/(r=i/\p<j))&&gB rs r p f))(r p:Nat):(stU st i j (f s) r).testBit p=(decide (r<i\/(r=i/\p<j+1))&&gB rs r p f):=by
 unfold stU;by_cases b:r=i
 ·subst b
  cases d:f s with
  |true =>
   rw[if_pos ⟨rfl,rfl⟩,qx5,h];by_cases a:p=j
   ·subst a;rw[qxW c g,d];simp
   have e:decide (r<r\/r=r/\p<j)=decide (r<r\/r=r/\p<j+1):=decide_eq_decide.2 (by omega);rw[e,decide_eq_false a,Bool.or_false]
  |false =>
   rw[if_neg (by simp),h];by_cases a:p=j
   ·subst a;rw[qxW c g,d];simp
   have e:decide (r<r\/r=r/\p<j)=decide (r<r\/r=r/\p<j+1):=decide_eq_decide.2 (by omega);rw[e]
 rw[if_neg (λk=>b k.1),h];have e:(r<i\/r=i/\p<j)=(r<i\/r=i/\p<j+1):=by simp[b]
 simp only[e]
theorem LyM.place(h:LyM rs ks i j st tk)(a:rs[i]?=some R)(b:R.1[j]?=some s):LyM rs ks i (j+1) (stU st i j (s.1==1)) (λx=>stU (tk x) i j (tkX ks s x)) :=
 ⟨λr p=>qqX (f:=λs=>s.1==1) a b h.s r p,λx r p=>qqX (f:=λs=>tkX ks s x) a b (h.t x) r p⟩
theorem LyM.rule(h:LyM rs ks i j st tk)(c:rs[i]?=some R)(g:R.1.length<=j):LyM rs ks (i+1) 0 st tk:=by
 have b:∀(f:Nat×List UInt8->Bool) (r p:Nat),(decide (r<i\/(r=i/\p<j))&&gB rs r p f)=(decide (r<i+1\/(r=i+1/\p<0))&&gB rs r p f):=by
  intro f r p;by_cases a:r=i
  ·subst a;by_cases d:p<j
   ·simp[d]
   rw[qp9 c (by omega)];simp
  have e:(r<i\/r=i/\p<j)=(r<i+1\/r=i+1/\p<0):=by simp[a];omega
  simp only[e]
 exact⟨λr p=>(h.s r p).trans (b _ r p),λx r p=>(h.t x r p).trans (b _ r p)⟩
structure LyD(rs:List (List (Nat×List UInt8)×Int×Int))(ks:List (List UInt8))(st:Nat->Nat)(tk:Nat->Nat->Nat):Prop where
 s:∀r p,(st r).testBit p=gB rs r p (λs=>s.1==1)
 t:∀x r p,(tk x r).testBit p=gB rs r p (λs=>tkX ks s x)
theorem LyM.done(h:LyM rs ks i 0 st tk)(hi:rs.length<=i):LyD rs ks st tk:=by
 have a:∀(f:Nat×List UInt8->Bool) (r p:Nat),(decide (r<i\/(r=i/\p<0))&&gB rs r p f)=gB rs r p f:=by
  intro f r p;by_cases b:r<i
  ·simp[b]
  rw[quC (by omega)];simp
 exact⟨λr p=>(h.s r p).trans (a _ r p),λx r p=>(h.t x r p).trans (a _ r p)⟩
theorem qua{x:Nat}(h:∀p,8<=p->x.testBit p=false):x<256:=Nat.lt_pow_two_of_testBit (n:=8) x (λp a=>h p a)
theorem qm9(b:∀i (h:i<rs.length),rs[i].1.length<=8)(r p:Nat)(c:8<=p)(f:Nat×List UInt8->Bool):gB rs r p f=false:=by
 by_cases a:r<rs.length
 ·exact qp9 (List.getElem?_eq_getElem a) (Nat.le_trans (b r a) c) f
 exact quC (by omega) p f
theorem LyM.lt(h:LyM rs ks i j st tk)(b:∀i (h:i<rs.length),rs[i].1.length<=8):(∀r,st r<256)/\∀x r,tk x r<256 :=
 ⟨λr=>qua λp a=>by rw[h.s,qm9 b r p a];simp,λx r=>qua λp a=>by rw[h.t,qm9 b r p a];simp⟩

def qiB(q:Aut)(st:Nat->Nat)(tv sv:Value):Array Value:=#[.slice q.ra q.rs.length q.rc,.int .i64 q.dflt,.map (some q.lm)]++plA st++#[tv,sv,.map (some q.nb),.map (some q.mb)]
theorem qsn(q:Aut)(a:Value):qyp q a=qiB q q.st (.slice (some ⟨q.tb,0,none⟩) q.L q.tc) a:=by kernel_rfl
theorem qqv(q:Aut)(st:Nat->Nat)(c a b:Value):(qiB q st c a).setIfInBounds 19 b=qiB q st b a:=by kernel_rfl
theorem qqP(q:Aut)(st:Nat->Nat)(b a:Value)(r v:Nat)(c:r<16):(qiB q st b a).setIfInBounds (3+r) (.int .u16 v)=qiB q (λi=>if i=r then v else st i) b a:=by
 have h:=congrArg Array.toList (qjp st r v);rw[Array.toList_setIfInBounds]at h;apply Array.ext';unfold qiB;rw[Array.toList_setIfInBounds];simp only[Array.toList_append];rw[List.set_append_left _ _ (by have:=qcf st;simp;omega),List.set_append_right _ _ (by simp),<-h];have e:3+r-[Value.slice q.ra q.rs.length q.rc,Value.int IntKind.i64 q.dflt,Value.map (some q.lm)].length=r:=by simp
 rw[e]
theorem qwH(q:Aut)(st:Nat->Nat)(c b:Value)(r:Nat)(a:r<16):(qiB q st c b)[3+r]?=some (.int .u16 (st r)):=by
 have d:=qcf st;unfold qiB;rw[Array.getElem?_append_left (by simp;omega),Array.getElem?_append_right (by simp)];have e:3+r-#[Value.slice q.ra q.rs.length q.rc,Value.int IntKind.i64 q.dflt,Value.map (some q.lm)].size=r:=by simp
 rw[e];exact qdl st r a
structure TkC(cur:Array Value)(L:Nat)(tk:Nat->Nat->Nat):Prop where
 size:cur.size=L*16
 at_:∀x r,x<L->r<16->cur[x*16+r]?=some (.int .u16 (tk x r))
theorem TkC.set{cur:Array Value}(h:TkC cur L tk)(x r v:Nat)(d:x<L)(c:r<16):TkC (cur.setIfInBounds (x*16+r) (.int .u16 v)) L (λy i=>if y=x/\i=r then v else tk y i):=by
 refine⟨by rw[Array.size_setIfInBounds,h.size],λy i b a=>?_⟩;rw[Array.getElem?_setIfInBounds];by_cases e:y=x/\i=r
 ·rw[if_pos (by rw[e.1,e.2]),if_pos (by rw[h.size];omega),if_pos e]
 rw[if_neg (by omega),if_neg e];exact h.at_ y i b a
structure qcy(W:World)(A tb L:Nat)(q:Aut)(sv:Value)(st:Nat->Nat)(tk:Nat->Nat->Nat)(V:World):Prop where
 row:V.heap[A]?=some (.cells (qiB q st (.slice (some ⟨tb,0,none⟩) L L) sv) 116)
 tks:∃cur,V.heap[tb]?=some (.cells cur 112)/\TkC cur L tk
 os:V.os=W.os
 tape:V.tape=W.tape
 output:V.output=W.output
 size:W.heap.size<=V.heap.size
 block:∀k,k<W.heap.size->k≠A->V.heap[k]?=W.heap[k]?
theorem qcy.next(h:qcy W A tb L q sv st tk V)(a:Below V.heap.size V V'):qcy W A tb L q sv st tk V':=by
 obtain⟨d,c,f⟩:=h.tks;exact⟨(a.block _ (ltA h.row)).trans h.row,⟨d,(a.block _ (ltA c)).trans c,f⟩,a.os.trans h.os,a.tape.trans h.tape,a.output.trans h.output,Nat.le_trans h.size a.size,λk b e=>(a.block k (Nat.lt_of_lt_of_le b h.size)).trans (h.block k b e)⟩
theorem qmC(V:World)(p:Addr)(v:Value):(V.drew.setCell p v).heap.size=V.heap.size:=by
 have e:(V.drew.setCell p v).heap.size=V.drew.heap.size:=by simp[World.setCell]
 exact e
theorem qcy.stays(h:qcy W A tb L q sv st tk V)(e:A≠tb)(r v:Nat)(f:r<16):qcy W A tb L q sv (λi=>if i=r then v else st i) tk (V.drew.setCell ⟨A,3+r,none⟩ (.int .u16 v)):=by
 obtain⟨c,g,j⟩:=h.tks;have a:=heap_setCell_same V.drew A (3+r) _ _ (.int .u16 v) h.row;rw[qqP q st _ sv r v f]at a;refine⟨a,⟨c,(Below.heap_setCell V.drew _ _ _ (by simpa using e.symm)).trans g,j⟩,h.os,h.tape,h.output,by rw[qmC];exact h.size,λk d b=>(Below.heap_setCell V.drew _ _ _ (by simpa using b)).trans (h.block k d b)⟩
theorem qcy.took(h:qcy W A tb L q sv st tk V)(c:A≠tb)(l:W.heap.size<=tb)(x r v:Nat)(e:x<L)(d:r<16):qcy W A tb L q sv st (λy i=>if y=x/\i=r then v else tk y i) (V.drew.setCell ⟨tb,x*16+r,none⟩ (.int .u16 v)):=by
 obtain⟨j,f,g⟩:=h.tks;exact⟨(Below.heap_setCell V.drew _ _ _ (by simpa using c)).trans h.row,⟨_,heap_setCell_same V.drew tb (x*16+r) _ _ (.int .u16 v) f,g.set x r v e d⟩,h.os,h.tape,h.output,by rw[qmC];exact h.size,λk a b=>(Below.heap_setCell V.drew _ _ _ (by simp;omega)).trans (h.block k a b)⟩

end
end Go.Proofs.YtpifimohecagoaaGreatDoor
