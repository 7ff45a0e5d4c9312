import Derived.Test.YtcokgepdckkjdaaGreatDoorRq46
import Derived.Test.YtcokgepdckkjdaaGreatDoorRq47
set_option maxRecDepth 100000
set_option maxHeartbeats 8000000
namespace Go.Proofs.YtcokgepdckkjdaaGreatDoor
open Go.Proofs.Tryz
variable {cs:List Value}{V W w:World}{g last p:Nat}{lim:Int}{A a b f y:Array Value}{kv u:Value}{bs:List UInt8}{o:Obj}
section
open Go.ChangeShapes Go.WideShapes Go.ChangeAt Go.RowKit Go.Lib Go.Deep
theorem qtG:(prog.globals[1]?).map (·.type)=some 250:=by kernel_rfl
theorem qu4:(prog.globals[2]?).map (·.type)=some 251:=by kernel_rfl
theorem qj0:prog.cellsOf 246=1:=by kernel_rfl
theorem qm0:prog.cellsOf 250=8:=by kernel_rfl
theorem qjW:prog.cellsOf 249=3:=by kernel_rfl
theorem qlK:prog.cellsOf 247=1:=by kernel_rfl
theorem qn0:prog.cellsOf 3=1:=by kernel_rfl
theorem qmJ:(Rows.laid_redact_reading_cborSorts:DataW Unit)=tabData .i64 [4,6,7,8,9,10,0,0]:=by kernel_rfl
theorem qmQ:(Rows.laid_redact_reading_packHeads:DataW Unit)=.agg (qgC.map fun x=>.agg [.lit (.int .i64 x.1),.lit (.int .i64 x.2),.lit (.int .u64 0)]):=by kernel_rfl
theorem qxu {l:List Value}(h:l.length=3):∃a b c,l=[a,b,c]:=by
 match l,h with
 |[a,b,c],_=>exact⟨a,b,c,rfl⟩
theorem qvo {α:Type}{l:List α}(h:l.length=3):∃a b c,l=[a,b,c]:=by
 match l,h with
 |[a,b,c],_=>exact⟨a,b,c,rfl⟩
theorem quR {sp:Nat->Bool}{held:Bool}{fuel:Nat}{x y z:Int}{p:List MemPlace}(h:DataW.trod (fun _=>()) prog W 0 sp held fuel 249 cs=some (.agg [.lit (.int .i64 x),.lit (.int .i64 y),.lit (.int .u64 z)],p)):cs=[.int .i64 x,.int .i64 y,.int .u64 z]:=by
 obtain⟨u,n,_,j,i,o,a⟩:=DataW.trod_struct underlying249 h;rw[qjW] at i;have q:u.length=3:=o;obtain⟨b,c,d,rfl⟩:=qxu i;obtain⟨v,w,A,rfl⟩:=qvo q;have k:DataW.trod (fun _=>()) prog W 0 sp held n 246 (([b,c,d].drop 0).take (prog.cellsOf 246))=some v:=a 0 _ rfl;have l:DataW.trod (fun _=>()) prog W 0 sp held n 3 (([b,c,d].drop 1).take (prog.cellsOf 3))=some w:=a 1 _ rfl;have m:DataW.trod (fun _=>()) prog W 0 sp held n 247 (([b,c,d].drop 2).take (prog.cellsOf 247))=some A:=a 2 _ rfl;rw[qj0] at k;rw[qn0] at l;rw[qlK] at m;obtain⟨B,e,r⟩:=DataW.trod_int underlying246 k;obtain⟨C,f,s⟩:=DataW.trod_int underlying3 l;obtain⟨D,g,t⟩:=DataW.trod_int underlying247 m;simp at e f g;subst e f g;obtain⟨rfl,_⟩:=r;obtain⟨rfl,_⟩:=s;obtain⟨rfl,_⟩:=t;simp only[List.map_cons,List.map_nil,Prod.mk.injEq,DataW.agg.injEq,List.cons.injEq,DataW.lit.injEq,Lit.int.injEq,and_true,true_and] at j;obtain⟨⟨rfl,rfl,rfl⟩,_⟩:=j;simp
theorem qwU {u:Nat}{a b c:Value}(h:(cs.drop (u*3)).take 3=[a,b,c]):cs[u*3]? = some a/\cs[u*3+1]? = some b/\cs[u*3+2]? = some c:=by
 have d:=congrArg (fun l=>l[0]?) h;have e:=congrArg (fun l=>l[1]?) h;have f:=congrArg (fun l=>l[2]?) h;simp[List.getElem?_drop] at d e f;exact⟨d,e,f⟩
theorem qrq (i:laidMet prog Rows.rootedRow.laid W):qdh W:=by
 refine⟨?_,?_⟩
 ·obtain⟨g,t,cs,n,p,a,f,c,b⟩:=laidMet.reads i (d:=Rows.laid_redact_reading_cborSorts) (.tail _ (.tail _ (.tail _ (.tail _ (.head _)))));obtain rfl:g=1:=Option.some.inj (a.symm.trans (by kernel_rfl));obtain rfl:=Option.some.inj (qtG.symm.trans f);rw[qmJ] at b;have r:=cells_of_tab underlying250 underlying246 qj0 qm0 b;intro u h;have q:=World.var?_cell a c u;rw[q,<-Array.getElem?_toList,r];have:∀v:Fin 8,([4,6,7,8,9,10,0,0]:List Int)[v.val]? = some ((qq5 v.val:Nat):Int):=by decide
  rw[List.getElem?_map,this ⟨u,h⟩];rfl
 obtain⟨g,t,cs,n,p,a,f,c,b⟩:=laidMet.reads i (d:=Rows.laid_redact_reading_packHeads) (.tail _ (.tail _ (.tail _ (.tail _ (.tail _ (.head _))))));obtain rfl:g=2:=Option.some.inj (a.symm.trans (by kernel_rfl));obtain rfl:=Option.some.inj (qu4.symm.trans f);rw[qmQ] at b;intro u h;obtain⟨w,s,q0,j,o⟩:=array_elem underlying251 b u h;have x:qgC.length=32:=rfl;rw[List.getElem?_map,List.getElem?_eq_getElem (by omega)] at j;cases j;have k:=quR o;rw[qjW] at k;obtain⟨l,m,c2⟩:=qwU k;have e:qgC.getD u (0,0)=qgC[u]'(by omega):=by rw[List.getD_eq_getElem?_getD,List.getElem?_eq_getElem (by omega)];rfl
 rw[e];refine⟨?_,?_,?_⟩
 ·rw[World.var?_cell a c,<-Array.getElem?_toList];exact l
 ·rw[World.var?_cell a c,<-Array.getElem?_toList];exact m
 rw[World.var?_cell a c,<-Array.getElem?_toList];exact c2

end
section
open Go.RowKit Go.Lib
theorem qzU {P:Program}{fn:Func}{p q:Tmp}{ty ty2:TypeId}(h:fn.results=#[.cell p ty,.cell q ty2])(b:Array Value)(w:World)(g i:Nat)(t l:TypeId)(cs c:Array Value)(j k:Nat×Nat)(d f:TypeDesc)(x:b.getD p undef=.pointer (some ⟨g,0,none⟩))(r:w.heap[g]? = some (.cells cs t j))(z:P.underlying ty=some d)(n:(match d with|.struct _|.array _ _=>true|_=>false)=true)(hi:(P.info? ty).map (·.size)=some cs.size)(y:b.getD q undef=.pointer (some ⟨i,0,none⟩))(s:w.heap[i]? = some (.cells c l k))(A:P.underlying ty2=some f)(o:(match f with|.struct _|.array _ _=>true|_=>false)=true)(u:(P.info? ty2).map (·.size)=some c.size):(results fn b).run P w=.ok (.tuple #[.agg cs,.agg c]) w:=by
 have e:(results fn b).run P w=((asAddr (b.getD p undef)).run P w).andThen fun a C=>((loadVar ty a).run P C).andThen fun v D=>((asAddr (b.getD q undef)).run P D).andThen fun m E=>((loadVar ty2 m).run P E).andThen fun B F=>.ok (.tuple #[v,B]) F:=by
  simp only[results,h];simp[Sem.run_bind,Result.andThen]
 rw[e,x,y];simp only[asAddr,Sem.run_pure,Result.andThen_ok,run_loadVar_row w g t ty cs j d r z n hi,run_loadVar_row w i l ty2 c k f s A o u]

theorem q1l (k:Nat)(W:World)(bs:List UInt8)(fm d l lim:Int)(i:Nat)(a:Int)(b:Nat)(h o:Option Addr)(n m s q:Nat)(e:Nat->Prop)(kl:List (List UInt8))(ds:List (DataW Unit))(x:Lm bs l lim)(hi:InR bs lim i)(A:bs.length<=281474976710656)(D:lim<=200000000)(F:qyG k W b (.slice h n m) (.slice o s q) e kl ds)(E:kl.length<=200000000)(z:Nat->Except (Int×Int) (DataW Unit×Nat))(Q:∀p:Nat,(p:Int)=lim->p<bs.length->z p=.error (8,(p:Int)))(M:b<=W.heap.size)(P:∀j,e j->j<W.heap.size)(N:0<=a)(O:a<=100000)(K:∀V (p:Nat),InR bs lim p->Calls prog 45 #[.agg (inA bs fm d l),.int .i64 p,.int .i64 (a+1)] V (qxJ k bs lim V (z p))):Calls prog 99 #[.agg (inA bs fm d l),.agg (thA 7 0 ⟨#[]⟩ (.slice h n m) (.slice o s q)),.int .i64 i,.int .i64 a] W (qyR k bs lim W b (.slice h n m) (.slice o s q) e kl ds (enJ bs lim z (kl.reverse,esZ kl ds) i)):=by
 obtain⟨R,I⟩:∃R,enJ bs lim z (kl.reverse,esZ kl ds) i=R:=⟨_,rfl⟩
 rw[I];rcases q1F x Q hi I with ⟨u,g⟩|⟨c,w,u,⟨v,g⟩|⟨v,B,⟨f,y,g⟩|⟨t,r,y,G,Y,⟨C,g⟩|⟨C,J,⟨f,H,g⟩|⟨U,H,S,Z,T,X,L⟩⟩⟩⟩⟩
 ·exact q19 k W bs fm d l lim i a b h o n m s q e kl ds R _ u g rfl
 ·exact qzP k W bs fm d l lim i a b h o n m s q e kl ds R _ c w v u g rfl
 ·exact q08 k W bs fm d l lim i a b h o n m s q e kl ds R f c w v u A D x B y g
 ·exact qzG k W bs fm d l lim i a b h o n m s q e kl ds R _ c w v u A D x B F E t r y C rfl (by omega) G.1 g
 ·exact q0F k W bs fm d l lim i a b h o n m s q e kl ds R f c w v u A D x B F E t r y C G.1 _ rfl J H g
 exact qzR k W bs fm d l lim i a b h o n m s q e kl ds R c w v u A D x B F E t r y C G.1 _ rfl J z M P N O U _ H S.1 rfl T L K
theorem q2p {α:Type}{itF:α->Nat->Except (Int×Int) (α×Nat)}{acc:α}{R:Except (Int×Int) (α×Nat)}{f:Int×Int}(h:qyU bs lim itF last g p acc R)(i:qyi bs lim (itF acc p) (.error f))(e:(p:Int)=lim->p<bs.length->itF acc p=.error (8,(p:Int))):R=.error f:=by
 have a:itF acc p=.error f:=by
  rcases i with h|⟨q,_,_,_,x,c⟩
  ·exact h
  cases c
 rcases h.2 with ⟨j,_,b⟩|⟨b,d,c⟩
 ·rw[<-b];unfold q2k;rw[a]
 rw[e b d] at a;injection a with a;rw[c,a]
theorem q1H {α:Type}{l:Int}(t:Lm bs l lim){itF:α->Nat->Except (Int×Int) (α×Nat)}{q p3:Nat}{acc acc':α}{R:Except (Int×Int) (α×Nat)}(h:qyU bs lim itF last g p acc R)(G:qyi bs lim (itF acc p) (.ok (acc',q)))(u:(p:Int)=lim->p<bs.length->itF acc p=.error (8,(p:Int)))(F:∀x q,itF acc p=.ok (x,q)->p<q)(v:InR bs lim q)(L:bs.length+1<=p+g)(r:p3=skR bs l (bs.length+1-q) q):InR bs lim p3/\((qxS bs l p3=false/\R=.error (qr0 bs l p3 9))\/∃c,bs[p3]? = some c/\qxS bs l p3=true/\((c.toNat=last/\R=.ok (acc',p3+1)/\InR bs lim (p3+1))\/(¬c.toNat=last/\c.toNat=44/\InR bs lim (p3+1)/\∃a,g=a+2/\p<p3/\qgW bs lim itF last (a+1) (p3+1) acc'=R)\/(¬c.toNat=last/\¬c.toNat=44/\R=.error (qr0 bs l p3 9)))):=by
 rcases G with i|⟨N,d,m,n,x,f⟩
 ·have M:=F acc' q i;rcases h.2 with ⟨a,e,o⟩|⟨m,n,f⟩
  ·obtain⟨w,K,j⟩:=qz2 t v r i o;refine⟨w,?_⟩;rcases j with j|⟨c,s,y,b⟩
   ·exact .inl j
   refine .inr ⟨c,s,y,?_⟩;rcases b with b|⟨z,c2,A,B⟩|b
   ·exact .inl b
   ·have:=ltL s;obtain⟨k,rfl⟩:∃k,a=k+1:=⟨a-1,by omega⟩
    exact .inr (.inl ⟨z,c2,A,k,by omega,by omega,B⟩)
   exact .inr (.inr b)
  rw[u m n] at i;cases i
 injection f with f;injection f with h5 h6;subst h6;obtain⟨C,D,E⟩:=q0v t m n;rw[C] at r;subst r;refine⟨v,.inl ⟨D,?_⟩⟩;rw[E];rcases h.2 with ⟨a,_,o⟩|⟨H,I,J⟩
 ·rw[<-o];unfold q2k;rw[d]
 rw[u H I] at d;injection d with d;rw[J,d]
theorem q1p {rd:Nat->Except (Int×Int) (DataW Unit×Nat)}{a:List (List UInt8)×List (Lit×DataW Unit)}(c:(p:Int)=lim)(b:p<bs.length):enJ bs lim rd a p=.error (8,(p:Int)):=by
 unfold enJ qmo;rw[qaT,List.getElem?_eq_getElem b];simp only[];rw[if_pos c]
def maR (r:Except (Int×Int) ((List (List UInt8)×List (Lit×DataW Unit))×Nat)):Except (Int×Int) (DataW Unit×Nat):=match r with
 |.error e=>.error e
 |.ok (es,q)=>.ok (.map es.2,q)
theorem q1f {kd n:Int}{s:ByteArray}(h:qyz W A (thA kd n s kv u) V)(x:Int):qyz W A (thA x n s kv u) (V.setCell ⟨W.heap.size+3,0,none⟩ (.int .i64 x)):=by
 have a:∀j,j≠W.heap.size+3->(V.setCell ⟨W.heap.size+3,0,none⟩ (.int .i64 x)).heap[j]? = V.heap[j]?:=fun j b=>heap_setCell_other V _ _ _ (by simpa using b);refine⟨(a _ (by omega)).trans h.box,(a _ (by omega)).trans h.th,(a _ (by omega)).trans h.flt,?_,h.below.trans ⟨rfl,rfl,rfl,by simp[World.setCell],fun j b=>a j (by omega)⟩⟩;rw[heap_setCell_same _ _ _ _ _ _ h.tv];rfl
theorem q2R {V':World}(h:qyz W A y V)(b:Two V V' kv u)(d:∀g,kv.ownBlock=some g->W.heap.size+4<=g)(f:∀g,u.ownBlock=some g->W.heap.size+4<=g):qyz W A y V':=by
 have i:=h.size;have a:∀j,j<W.heap.size+4->V'.heap[j]? = V.heap[j]?:=fun j c=>b.block j (by omega) (fun e=>by have:=d j e.symm;omega) (fun e=>by have:=f j e.symm;omega);exact⟨(a _ (by omega)).trans h.box,(a _ (by omega)).trans h.th,(a _ (by omega)).trans h.flt,(a _ (by omega)).trans h.tv,h.below.trans ⟨b.os,b.tape,b.output,b.size,fun j c=>a j (by omega)⟩⟩
theorem q2f (h:qyz W A y V)(z:Array Value):qyz W A z (V.setRow (W.heap.size+3) z) :=
 ⟨sx (by omega) h.box,sx (by omega) h.th,sx (by omega) h.flt,setRow_heap _ _ _ _ _ _ h.tv,qah h.below (by omega) _⟩
theorem q1d (h:qyz W A y V)(j:Nat)(a:W.heap.size+4<=j)(z:Array Value):qyz W A y (V.setRow j z) :=
 ⟨sx (by omega) h.box,sx (by omega) h.th,sx (by omega) h.flt,sx (by omega) h.tv,qah h.below (by omega) _⟩

theorem qye (b:World)(c d:Obj)(a f:Array Value):Below b.heap.size b ((((b.alloc c).alloc d).setRow b.heap.size a).setRow (b.heap.size+1) f) :=
 qah (qah ((bwA).alloc (by simp only[World.size_alloc];omega) _) (Nat.le_refl _) _) (by omega) _
theorem qxQ (a:World)(b c:Obj):((a.alloc b).alloc c).heap[a.heap.size]? = some b/\((a.alloc b).alloc c).heap[a.heap.size+1]? = some c:=by
 have d:=qac (a.alloc b) c;simp only[World.size_alloc] at d;exact⟨(Below.heap_alloc _ _ _ (by simp only[World.size_alloc];omega)).trans (qac _ _),d⟩
theorem q0L {t:TypeId}:((((w.alloc o).alloc (.cells a t)).setRow w.heap.size b).setRow (w.heap.size+1) f).heap[w.heap.size+1]? = some (.cells f t):=setRow_heap _ _ _ _ _ _ ((setRow_other _ _ _ _ (by omega)).trans (qxQ w _ _).2)
theorem q23 {t:TypeId}:((((w.alloc (.cells a t)).alloc o).setRow w.heap.size b).setRow (w.heap.size+1) f).heap[w.heap.size]? = some (.cells b t):=(setRow_other _ _ _ _ (by omega)).trans (setRow_heap _ _ _ _ _ _ (qxQ w _ _).1)

theorem qzj (k:Nat)(W:World)(bs:List UInt8)(fm d l lim:Int)(i:Nat)(dp:Int)(c:UInt8)(hc:bs[i]? = some c)(hv:c.toNat=123)(hp:¬(i:Int)=lim)(hl:Lm bs l lim)(hi:InR bs lim i)(hb:bs.length<=281474976710656)(br:lim<=200000000)(b8:0<=dp)(cg:dp<d)(ch:d<=100000)(N:Nat->Except (Int×Int) (DataW Unit×Nat))(bm:∀p,Bad (N p))(bt:∀p:Nat,(p:Int)=lim->p<bs.length->N p=.error (8,(p:Int)))(bo:∀p aq ag,N p=.ok (aq,ag)->p<ag)(cJ:∀V (p:Nat),InR bs lim p->Calls prog 45 #[.agg (inA bs fm d l),.int .i64 p,.int .i64 (dp+1)] V (qxJ k bs lim V (N p))):Calls prog 73 #[.agg (inA bs fm d l),.int .i64 i,.int .i64 dp] W (qxJ (k+1) bs lim W (maR (qe4 bs lim (enJ bs lim N) 125 (i+1) ([],[])))):=by
 obtain⟨au,HR⟩:∃au,Hid (qe4 bs lim (enJ bs lim N) 125 (i+1) ([],[])=au):=⟨_,show _=_ from rfl⟩
 rw[HR.out];have cj:=ltL hc;have ck:=qxF bs i c hc;have c4:((c.toNat:Int)==123)=true:=by rw[hv];rfl
 have bp:=qxG hi hc hp;have HL:=qaa hl;have cH:=q0H bs fm d l;have cB:=q09 bs fm d l;have x:∀V (p:Nat),p<=bs.length->Calls prog 29 #[.agg #[.string ⟨bs.toArray⟩,.int .i64 fm,.int .i64 d,.int .i64 l],.int .i64 p] V fun e W'=>e=.returned (.int .i64 (skR bs l (bs.length+1-p) p))/\Below V.heap.size V W':=fun V p hp=>qyt V bs fm d l p hb hp;have be:Hid (∀V (p:Nat),InR bs lim p->Calls prog 45 #[.agg #[.string ⟨bs.toArray⟩,.int .i64 fm,.int .i64 d,.int .i64 l],.int .i64 p,.int .i64 (dp+1)] V (qxJ k bs lim V (N p))):=cJ;have bf:=qaa bo;have b2:=qaa bm;have b3:=qaa bt;have ao:=fun V=>x V (i+1) (by omega);obtain⟨D,bb⟩:∃D,D=skR bs l (bs.length+1-(i+1)) (i+1):=⟨_,rfl⟩
 obtain⟨bv,cd⟩:=qza hl bp bb HR.out;rw[<-bb] at ao;have cq:=bv.1;have ad:=fun V=>cH V D;have ci:decide (d<=dp)=false:=by simp;omega
 clear hc hv hp hl hi bp cJ bo bm bt bb HR;rcases cd with ⟨v,y,A,he,bk,af⟩|⟨ap,bl⟩
 ·rw[A] at ad;have ca:=fun V=>qxF bs D v y V;have ax:((v.toNat:Int)==125)=true:=by rw[he];rfl
  have a3:=qaa bk;have b5:=qaa af;have cu:=ltL y;clear y A he bk af cH cB x be bf bv;unfold inA;go_enter func73,ntmps73
  go_wp2_with (first
   |(go_at_call 29;have a5:Hid (qyz W (inA bs fm d l) (thA 7 0 ⟨#[]⟩ qxE qxE) (E.setCell ⟨W.heap.size+1+1+1,0,none⟩ (.int .i64 7))):=q1f n.out 7;refine ck4 (ao _) a5.out.next (fun _ h=>h.box) ?_;clear ao a b c2 m k0 f0;intro w2 t a b c2 m)
   |(go_at_call 43;refine ck4 (ad _) t.out.next (fun _ h=>h.box) ?_;clear ad a b c2 m;intro w3 R a b c2 m)
   |((with_reducible refine zT 9 21 rfl rfl (W.heap.size+3) (thA 6 0 ⟨#[]⟩ qxE qxE) ?_ ?_);exact⟨rfl,rfl,q0j W _,thg⟩;refine nmd ?_;intro E ak;have n:Hid (qyz W (inA bs fm d l) (thA 6 0 ⟨#[]⟩ qxE qxE) E):=ak▸q0p W _ _;clear ak;obtain⟨a,b,c2,m⟩:=qya n.out.box;have k0:E.cell? ⟨W.heap.size+1+1+1,0,none⟩=some (.int .i64 6):=qab n.out.tv 0;have f0:E.frozen? ⟨W.heap.size+1+1+1,0,none⟩=false:=frozen_of_row E (W.heap.size+3) 0 _ _ n.out.tv)
   |((with_reducible refine wpList_load_row rfl 55 (.tmp 9) rfl (W.heap.size+3) ?hx 55 (thA 7 0 ⟨#[]⟩ qxE qxE) (0,0) _ ?hg underlying55 rfl ?hi ?_);(case hx=>exact rfl);(case hg=>exact R.out.tv);(case hi=>exact qyd _ _ _ _ _))
   |((with_reducible refine zT 6 43 rfl rfl (W.heap.size+1) (thA 7 0 ⟨#[]⟩ qxE qxE) ?_ ?_);exact⟨rfl,rfl,R.out.th,thg⟩)
   |((with_reducible refine zF 8 46 rfl rfl (W.heap.size+2) (0,0) ?_ ?_);exact⟨rfl,rfl,qxT R.out.rth bwR _⟩))
  have w:=qxK R.out.rth bwR (thA 7 0 ⟨#[]⟩ qxE qxE) (0,0);refine eoT results73 w (.int .i64 ((D:Int)+1)) rfl rfl rfl rfl ⟨w.2.2,?_⟩;exact⟨.ok (.map [],D+1),.inl (by rw[a3.out];rfl),b5.out,_,_,_,_,_,_,_,_,_,rfl,(q2d k _ (W.heap.size) (fun _=>False)).map (Nat.le_refl _)⟩
 have Z:=qaa bl;have cb:(qxS bs l D=false)\/(∃c,bs[D]? = some c/\qxS bs l D=true/\((c.toNat:Int)==125)=false):=by
  rcases ap with h|⟨c,h1,P,h3⟩
  ·exact .inl h
  exact .inr ⟨c,h1,P,by simp;omega⟩
 clear ap bl;rcases cb with ap|⟨v,y,A,ax⟩
 focus
  rw[ap] at ad;clear ap
 rotate_left
 focus
  rw[A] at ad;have cl:=fun V=>qxF bs D v y V;have cv:=ltL y;clear A y
 all_goals
  unfold inA;go_enter func73,ntmps73
  go_wp2_with (first
   |(go_at_call 29;have a5:Hid (qyz W (inA bs fm d l) (thA 7 0 ⟨#[]⟩ qxE qxE) (E.setCell ⟨W.heap.size+1+1+1,0,none⟩ (.int .i64 7))):=q1f n.out 7;refine ckB (ao _) a5.out.next ?_;clear ao a b c2 m k0 f0;intro w2 b6 t;obtain⟨a,b,c2,m⟩:=qya t.out.box)
   |(go_at_call 43;refine ckB (ad _) t.out.next ?_;clear ad a b c2 m;intro w3 b7 R;obtain⟨a,b,c2,m⟩:=qya R.out.box)
   |((with_reducible refine zT 9 21 rfl rfl (W.heap.size+3) (thA 6 0 ⟨#[]⟩ qxE qxE) ?_ ?_);exact⟨rfl,rfl,q0j W _,thg⟩;refine nmd ?_;intro E ak;have n:Hid (qyz W (inA bs fm d l) (thA 6 0 ⟨#[]⟩ qxE qxE) E):=ak▸q0p W _ _;clear ak;obtain⟨a,b,c2,m⟩:=qya n.out.box;have k0:E.cell? ⟨W.heap.size+1+1+1,0,none⟩=some (.int .i64 6):=qab n.out.tv 0;have f0:E.frozen? ⟨W.heap.size+1+1+1,0,none⟩=false:=frozen_of_row E (W.heap.size+3) 0 _ _ n.out.tv))
  go_loopg [1] (bs.length+1-D) (fun g bz wr=>∃(p:Nat) (C:List (List UInt8)) (O:List (DataW Unit)) (Q:Option Addr) (U T:Nat) (X:Option Addr) (z Y:Nat),bz=.int .i64 p/\Hid (bs.length+1<=p+g)/\Hid (qyU bs lim (enJ bs lim N) 125 g p (C.reverse,esZ C O) au)/\Hid (C.length<=p)/\Hid (qyz W (inA bs fm d l) (thA 7 0 ⟨#[]⟩ (.slice Q U T) (.slice X z Y)) wr)/\Hid (qyG k wr (W.heap.size+4) (.slice Q U T) (.slice X z Y) (fun _=>False) C O))
  case atStart=>exact⟨D,[],[],none,0,0,none,0,0,rfl,by show _<=_;omega,Z,Nat.zero_le _,R,q2d _ _ _ _⟩
  case round =>
   clear Z n t R b6 b7 a b c2 m;obtain⟨p,C,O,Q,U,T,X,z,Y,rfl,hg,Z,bn,n,ah⟩:=hrel;have ct:(p:Int)<=200000000:=Int.le_trans Z.out.1.2 br;have cp:=Z.out.1.1;have cz:=n.out.size;obtain⟨a,b,c2,m⟩:=qya n.out.box;have k0:wr.cell? ⟨W.heap.size+1+1+1,0,none⟩=some (.int .i64 7):=qab n.out.tv 0;have n0:W.heap.size+1+1+1<wr.heap.size:=by omega
   have n2:W.heap.size+3<wr.heap.size:=by omega
   have n1:W.heap.size<wr.heap.size:=by omega
   go_wp2_with (first
    |((with_reducible refine wpList_load_row rfl 55 (.tmp 9) rfl (W.heap.size+3) ?hx 55 (#[.int .i64 7,.int .i64 0,.string ⟨#[]⟩,.slice Q U T,.slice X z Y]) (0,0) _ ?hg underlying55 rfl ?hi ?_);(case hx=>exact rfl);(case hg=>exact(Below.heap_alloc _ _ _ (by omega)).trans n.out.tv);(case hi=>exact qyO)))
   have bi:Hid (qyG k (wr.alloc (.cells (qqp (0,0)) 57)) (W.heap.size+4) (.slice Q U T) (.slice X z Y) (fun j=>j=wr.heap.size) C O):=(ah.out.other (ex':=fun j=>j=wr.heap.size) (fun j h=>.inr (Nat.le_of_eq h.symm))).next (by simp) (fun j _ o _=>Below.heap_alloc _ _ _ o)
   refine(q1l k _ bs fm d l lim p dp (W.heap.size+4) Q X U T z Y (fun j=>j=wr.heap.size) C O HL.out Z.out.1 hb br bi.out (by have:=bn.out;omega) N b3.out (by simp;omega) (fun j h=>by subst h;simp) b8 (by omega) be.out).mono ?_;clear a b c2 m k0 n0 n1 n2;rintro e w2 ⟨aw,r',bu,he⟩;have cy:wr.heap.size+1<=w2.heap.size:=by have:=aw.size;simp only[World.size_alloc] at this;omega
   have az:Hid (∀g,(Value.slice Q U T).ownBlock=some g->W.heap.size+4<=g/\g<wr.heap.size):=fun g e=>⟨qbA ah.out.keys e,qy0 ah.out.keys e⟩
   have a4:Hid (∀g,(Value.slice X z Y).ownBlock=some g->W.heap.size+4<=g/\g<wr.heap.size):=by
    obtain⟨xs,ho,_⟩:=ah.out.kids;exact fun g e=>⟨qbA ho e,qy0 ho e⟩
   have al:=qaa (q2R (n.out.next bwA) aw (fun g e=>(az.out g e).1) (fun g e=>(a4.out g e).1));have HF:=qaa ((aw.block _ (by simp) (fun e=>by have:=(az.out _ e.symm).2;omega) (fun e=>by have:=(a4.out _ e.symm).2;omega)).trans (qac _ _));have a0:=qaa bu;have bg:=qaa ah.out.len;clear bu aw az a4 bi n ah
   cases r' with
   |error f =>
    obtain⟨kd,nn,s,a1,i1,j1,b1,q1,m1,bz,rfl⟩:=he;have co:(f.1==0)=false:=by
     have:=qzv a0.out (quB b2.out _ p) f.1 f.2 rfl;simpa using this
    simp only[]
    go_wp2_with (first
     |((with_reducible refine wpList_store_row rfl 55 (.tmp 9) (.tmp 56) rfl (W.heap.size+3) (thA kd nn s (.slice a1 i1 j1) (.slice b1 q1 m1)) ?hx ?hy 55 (thA 7 0 ⟨#[]⟩ (.slice Q U T) (.slice X z Y)) ?hg ?hi ?hs ?h1 ?_);(case hx=>exact rfl);(case hy=>exact rfl);(case hg=>exact al.out.tv);(case hi=>exact qyd _ _ _ _ _);(case hs=>exact rfl);(case h1=>exact q0c _ _ _ _ _ _ _ _ _))
     |((with_reducible refine zF 11 58 rfl rfl (wr.heap.size) (f) ?_ ?_);exact⟨rfl,rfl,sx (by omega) HF.out⟩;refine nmd ?_;intro V2 ay;have t:=qaa (ay▸q1d (q2f al.out _) _ (by omega) _);have am:=qaa (ay▸setRow_heap _ _ _ _ _ _ (sx (by omega) HF.out));clear ay;obtain⟨a,b,c2,m⟩:=qya t.out.box;have u0:V2.cell? ⟨wr.heap.size,0,none⟩=some (.int .i64 (f.1)):=qab am.out 0))
    have HE:=qaa (q2p Z.out a0.out (fun h1 P=>q1p h1 P));refine rgn (S:=fun a6=>a6.heap[wr.heap.size]? = some (.cells (qqp f) 57)) (am.out) (by kernel_rfl) ?_;intro hS;refine tk 0 77 (.agg th0) rfl (by kernel_rfl) iQ3 (fun a6 hZ => ?y0) hS ?_
    case y0=>(unfold th0 thA qxE;go_simp)
    refine tk 1 78 (.agg (qqp f)) rfl (by kernel_rfl) iQ3 (fun a6 hZ=>yF 11 hZ rfl rfl) hS ?_;have a9:=(setRow_other _ (W.heap.size+1) wr.heap.size th0 (by omega)).trans hS;refine sTh 2 6 77 (W.heap.size+1) (th0) (by kernel_rfl) (t.out.th) thg (a9) ?_;refine tkk 3 7 (.int .i64 0) (by kernel_rfl) iQ3 a9 ?_;refine sF 4 8 78 (W.heap.size+2) f (by kernel_rfl) (qxT (V:=V2) t.out.rth bwR _) (sx (by omega) a9) ?_;refine wpAnyH_done (by kernel_rfl) ?_ _;go_simp;go_wp2;have w:=qxK t.out.rth.drew bwR (th0) (f);refine eoT results73 w (.int .i64 0) rfl rfl rfl rfl ⟨w.2.2,?_⟩;exact⟨.error (f),.inl (by rw[HE.out];rfl),_,_,_,_,_,_,_,_,_,_,rfl⟩
   |ok aq =>
    obtain⟨aq,ag⟩:=aq;obtain⟨af,lk,dd,G,I,H,J,L,K,rfl,rfl,hM⟩:=he;have HM:=qaa hM;clear hM;simp only[]
    go_wp2_with (first
     |((with_reducible refine wpList_store_row rfl 55 (.tmp 9) (.tmp 56) rfl (W.heap.size+3) (thA 7 0 ⟨#[]⟩ (.slice G I H) (.slice J L K)) ?hx ?hy 55 (thA 7 0 ⟨#[]⟩ (.slice Q U T) (.slice X z Y)) ?hg ?hi ?hs ?h1 ?_);(case hx=>exact rfl);(case hy=>exact rfl);(case hg=>exact al.out.tv);(case hi=>exact qyd _ _ _ _ _);(case hs=>exact rfl);(case h1=>exact q0c _ _ _ _ _ _ _ _ _))
     |((with_reducible refine zF 11 58 rfl rfl (wr.heap.size) (0,0) ?_ ?_);exact⟨rfl,rfl,sx (by omega) HF.out⟩;have t:Hid (qyz W (inA bs fm d l) (thA 7 0 ⟨#[]⟩ (.slice G I H) (.slice J L K)) ((w2.setRow (W.heap.size+3) (thA 7 0 ⟨#[]⟩ (.slice G I H) (.slice J L K))).setRow wr.heap.size (qqp (0,0)))):=q1d (q2f al.out _) _ (by omega) _;have am:Hid (((w2.setRow (W.heap.size+3) (thA 7 0 ⟨#[]⟩ (.slice G I H) (.slice J L K))).setRow wr.heap.size (qqp (0,0))).heap[wr.heap.size]? = some (.cells (qqp (0,0)) 57)):=setRow_heap _ _ _ _ _ _ (sx (by omega) HF.out);have bh:Hid (qyG k ((w2.setRow (W.heap.size+3) (thA 7 0 ⟨#[]⟩ (.slice G I H) (.slice J L K))).setRow wr.heap.size (qqp (0,0))) (W.heap.size+4) (.slice G I H) (.slice J L K) (fun _=>False) (C++[lk]) (O++[dd])):=(HM.out.next (V':=(w2.setRow (W.heap.size+3) (thA 7 0 ⟨#[]⟩ (.slice G I H) (.slice J L K))).setRow wr.heap.size (qqp (0,0))) (by simp) (fun j h1 _ hx=>by rw[setRow_other _ _ _ _ hx,setRow_other _ _ _ _ (by omega)])).other (fun _ h=>h.elim);generalize (w2.setRow (W.heap.size+3) (thA 7 0 ⟨#[]⟩ (.slice G I H) (.slice J L K))).setRow wr.heap.size (qqp (0,0))=V2 at *;obtain⟨a,b,c2,m⟩:=qya t.out.box;have u0:V2.cell? ⟨wr.heap.size,0,none⟩=some (.int .i64 (0)):=qab am.out 0))
    obtain⟨r,bc⟩:∃r,r=skR bs l (bs.length+1-ag) ag:=⟨_,rfl⟩
    obtain⟨bw,cc⟩:=q1H HL.out Z.out a0.out (fun h1 P=>q1p h1 P) (fun aq ag h=>qsh bf.out _ _ _ _ h) af hg.out bc;have cx:=af.1;have cs:=bw.1;have a7:=fun V=>x V ag af.1;rw[<-bc] at a7;have M:=fun V=>cH V r;have ai:=fun V=>cB V r 9;refine(a7 _).mono ?_;rintro e w7 ⟨rfl,av⟩;have an:=qaa (t.out.next av);have ar:=qaa (bh.out.next av.size (fun j _ o _=>av.block j o));clear af bc bw a7 a b c2 m u0 t bh av am HM HF al;simp only[];obtain⟨a,b,c2,m⟩:=qya an.out.box;rcases cc with ⟨A,aa⟩|⟨v,y,A,hx⟩
    ·rw[A] at M;have HE:=qaa aa;generalize qr0 bs l r 9=xx at *;clear A aa x cH cB
     go_wp2_with (first
      |(go_at_call 43;refine ckB (M _) an.out.next ?_;clear M a b c2 m;intro w8 F u;have ac:=qaa (ar.out.next F.size (fun j _ o _=>F.block j o));obtain⟨a,b,c2,m⟩:=qya u.out.box)
      |(go_at_call 31;refine ckB (ai _) u.out.next ?_;clear ai a b c2 m;intro w9 q B;have a2:=qaa (ac.out.next q.size (fun j _ o _=>q.block j o));obtain⟨a,b,c2,m⟩:=qya B.out.box)
      |((with_reducible refine zT 6 101 rfl rfl (W.heap.size+1) (th0) ?_ ?_);exact⟨rfl,rfl,B.out.th,thg⟩)
      |((with_reducible refine zF 8 104 rfl rfl (W.heap.size+2) (xx) ?_ ?_);exact⟨rfl,rfl,qxT B.out.rth bwR _⟩))
     have w:=qxK B.out.rth bwR (th0) (xx);refine eoT results73 w (.int .i64 0) rfl rfl rfl rfl ⟨w.2.2,?_⟩;exact⟨.error (xx),.inl (by rw[HE.out];rfl),_,_,_,_,_,_,_,_,_,_,rfl⟩
    rw[A] at M;have ca:=fun V=>qxF bs r v y V;have cr:=ltL y;rcases hx with ⟨ae,aa,ab⟩|⟨ae,aj,ab,g',b9,cw,bq⟩|⟨ae,aj,aa⟩
    ·have ax:((v.toNat:Int)==125)=true:=by rw[ae];rfl
     have bx:((v.toNat:Int) != 125)=false:=by rw[ae];rfl
     have a3:=qaa aa;have b4:=qaa ab;clear A ae aa ab y x cH cB ai
     go_wp2_with (first
      |(go_at_call 43;refine ckB (M _) an.out.next ?_;clear M a b c2 m;intro w8 F u;have ac:=qaa (ar.out.next F.size (fun j _ o _=>F.block j o));obtain⟨a,b,c2,m⟩:=qya u.out.box)
      |((with_reducible refine wpList_load_row rfl 55 (.tmp 9) rfl (W.heap.size+3) ?hx 55 (thA 7 0 ⟨#[]⟩ (.slice G I H) (.slice J L K)) (0,0) _ ?hg underlying55 rfl ?hi ?_);(case hx=>exact rfl);(case hg=>exact u.out.tv);(case hi=>exact qyd _ _ _ _ _))
      |((with_reducible refine zT 6 111 rfl rfl (W.heap.size+1) (thA 7 0 ⟨#[]⟩ (.slice G I H) (.slice J L K)) ?_ ?_);exact⟨rfl,rfl,u.out.th,thg⟩)
      |((with_reducible refine zF 8 114 rfl rfl (W.heap.size+2) (0,0) ?_ ?_);exact⟨rfl,rfl,qxT u.out.rth bwR _⟩))
     have w:=qxK u.out.rth bwR (thA 7 0 ⟨#[]⟩ (.slice G I H) (.slice J L K)) (0,0);refine eoT results73 w (.int .i64 ((r:Int)+1)) rfl rfl rfl rfl ⟨w.2.2,?_⟩;refine⟨.ok (.map (esZ C O++[(.string lk,dd)]),r+1),.inl (by rw[a3.out];rfl),b4.out,_,_,_,_,_,_,_,_,_,rfl,?_⟩;rw[<-q0y bg.out];exact(ac.out.next (by simp) (fun j cm cn _=>by rw[setRow_other _ _ _ _ (by omega),setRow_other _ _ _ _ (by omega)])).map (by omega)
    ·have ax:((v.toNat:Int)==125)=false:=by rw[aj];rfl
     have bx:((v.toNat:Int) != 125)=true:=by rw[aj];rfl
     have cf:((v.toNat:Int) != 44)=false:=by rw[aj];rfl
     subst b9;have a8:=fun V=>x V (r+1) ab.1;obtain⟨p4,bd⟩:∃p4,p4=skR bs l (bs.length+1-(r+1)) (r+1):=⟨_,rfl⟩
     have ba:=q2c HL.out ab bq;rw[<-bd] at ba a8;have bj:Hid (r+1<=p4):=by
      show _<=_;rw[bd];rcases qyV HL.out (bs.length+1-(r+1)) (r+1) ab with ⟨q',_,P,_,h4,_⟩|⟨q',_,P,h3,_⟩
      ·rw[P];exact h4
      rw[P];have:=ab.2;omega
     have b0:Hid (qyU bs lim (enJ bs lim N) 125 (g'+1) p4 ((C++[lk]).reverse,esZ (C++[lk]) (O++[dd])) au):=by
      rw[q0y bg.out,List.reverse_append];exact ba
     clear A ae aj ab y x cH cB ai bq bd ba
     go_wp2_with (first
      |(go_at_call 43;refine ckB (M _) an.out.next ?_;clear M a b c2 m;intro w8 F u;have ac:=qaa (ar.out.next F.size (fun j _ o _=>F.block j o));obtain⟨a,b,c2,m⟩:=qya u.out.box)
      |(go_at_call 29;refine ckB (a8 _) u.out.next ?_;clear a8 a b c2 m;intro w9 q B;have a2:=qaa (ac.out.next q.size (fun j _ o _=>q.block j o));obtain⟨a,b,c2,m⟩:=qya B.out.box))
     go_roundg (g'+1)
     case measure=>omega
     case rel=>exact⟨p4,C++[lk],O++[dd],_,_,_,_,_,_,rfl,by show _<=_;have:=hg.out;have:=bj.out;omega,b0,by show _<=_;rw[List.length_append];have:=bn.out;have:=bj.out;simp;omega,B,a2⟩
    have ax:((v.toNat:Int)==125)=false:=by simp;omega
    have bx:((v.toNat:Int) != 125)=true:=by simp;omega
    have cf:((v.toNat:Int) != 44)=true:=by simp;omega
    have HE:=qaa aa;generalize qr0 bs l r 9=xx at *;clear A ae aj aa y x cH cB
    go_wp2_with (first
     |(go_at_call 43;refine ckB (M _) an.out.next ?_;clear M a b c2 m;intro w8 F u;have ac:=qaa (ar.out.next F.size (fun j _ o _=>F.block j o));obtain⟨a,b,c2,m⟩:=qya u.out.box)
     |(go_at_call 31;refine ckB (ai _) u.out.next ?_;clear ai a b c2 m;intro w9 q B;have a2:=qaa (ac.out.next q.size (fun j _ o _=>q.block j o));obtain⟨a,b,c2,m⟩:=qya B.out.box)
     |((with_reducible refine zT 6 101 rfl rfl (W.heap.size+1) (th0) ?_ ?_);exact⟨rfl,rfl,B.out.th,thg⟩)
     |((with_reducible refine zF 8 104 rfl rfl (W.heap.size+2) (xx) ?_ ?_);exact⟨rfl,rfl,qxT B.out.rth bwR _⟩))
    have w:=qxK B.out.rth bwR (th0) (xx);refine eoT results73 w (.int .i64 0) rfl rfl rfl rfl ⟨w.2.2,?_⟩;exact⟨.error (xx),.inl (by rw[HE.out];rfl),_,_,_,_,_,_,_,_,_,_,rfl⟩

end
end Go.Proofs.YtcokgepdckkjdaaGreatDoor
