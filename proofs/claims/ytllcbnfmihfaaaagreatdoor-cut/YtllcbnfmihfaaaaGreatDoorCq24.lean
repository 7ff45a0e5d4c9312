import Derived.ProofKit
import Derived.OpenShut
import Derived.Deep.Slices
import Derived.SizedLaws
import Derived.Lib.LaidU8T
import Derived.PinnedBridge
import Derived.Test.YtllcbnfmihfaaaaGreatDoorCq23
import Derived.Test.YtllcbnfmihfaaaaGreatDoorCq15
set_option maxRecDepth 100000
set_option maxHeartbeats 8000000
namespace Go.Proofs.YtllcbnfmihfaaaaGreatDoor
open Go.Proofs.Tryz
variable {W w:World}{v:Value}{fuel n:Nat}{cs:List Value}{sp:Nat→Bool}{P:Program}{O:Array Value}{c:Cfg}
section
open Go.RowKit Go.Deep
theorem qcU:prog.cellsOf 3=1:=by kernel_rfl
theorem qmb:prog.cellsOf 9=1:=by kernel_rfl
theorem qt5:prog.cellsOf 43=1:=by kernel_rfl
theorem quc:prog.cellsOf 25=1:=by kernel_rfl
theorem qro:prog.cellsOf 45=11:=by kernel_rfl
theorem qnQ:prog.cellsOf 101=2:=by kernel_rfl
theorem qpW:prog.bytesOf 101=16:=by kernel_rfl
theorem qrL:prog.bytesOf 3=8:=by kernel_rfl
theorem qjN {a:Addr}(h:w.cell? (a.add 0)=some v):∃b off,a=⟨b,off,none⟩∧b<w.heap.size:=by
 obtain⟨b,off,spot⟩:=a;have hspot:spot=none:=by simpa [Addr.add] using World.cell?_spot h
 subst hspot;rw[qcn] at h;exact⟨b,off,rfl,block_lt_of_cell h⟩
theorem qsb {α:Type}{l:List α}(h:l.length=2):∃a b,l=[a,b]:=by
 match l,h with
 |[a,b],_=>exact⟨a,b,rfl⟩
section
variable {H:Type} {enc:TypeId×Value→H} {w:World}
theorem qom {x:DataW H×List MemPlace}(h:DataW.trod enc prog w 0 (fun _=>true) true fuel 25 [v]=some x)(hw:(x.1.weights prog 25).all (·≤reachBytes)=true):∃(a:Option Addr) (cap:Nat) (B:List Int),v=.slice a B.length cap∧qbV w a B∧(a=none→B.length=0∧cap=0)∧(B.length+8)*8≤281474976710656:=by
 rcases open_slice1 underlying25 qcU h with ⟨hv,_⟩|⟨a,len,cap,m,n,V,D,Pl,hv,_,hl,hm,hmm,rfl,hx⟩
 ·cases hv;exact⟨none,0,[],rfl,⟨fun i hi=>by simp at hi⟩,fun _=>⟨rfl,rfl⟩,by decide⟩
 cases hv;have hmc:m=cap:=by rw[hmm];rfl
 subst hmc;have hb:m*8≤reachBytes:=by
  rw[List.all_eq_true] at hw;have:=hw (((List.range len).map D).length+((List.range (m-len)).map fun j=>D (len+j)).length |>.mul (prog.bytesOf 3)) (by
   simp only[DataW.weights,underlying25];exact List.mem_cons_self ..)
  rw[qrL] at this;simp at this;have e:len+(m-len)=m:=by omega
  have h2:(len+(m-len))*8≤reachBytes:=by simpa using this
  rwa [e] at h2
 have hz:∀i,i<m→∃z:Int,V i=.int .i64 z:=fun i hi=>by
  obtain⟨z,hz,_⟩:=DataW.trod_int underlying3 (hx i hi).2;exact⟨z,by simpa using hz⟩
 obtain⟨Z,hZ⟩:=choose_lt hz;refine⟨some a,m,(List.range len).map Z,by simp,⟨fun i hi => ?_⟩,fun hn=>(by cases hn),?_⟩
 ·have hi':i<len:=by simpa using hi
  obtain⟨b,off,rfl,hlt⟩:=qjN (hx 0 (by omega)).1;refine⟨b,off,rfl,hlt,fun j hj => ?_⟩;have hj':j<len:=by simpa using hj
  have:=(hx j (by omega)).1;rw[qcn] at this;rw[this,hZ j (by omega)];simp
 have:reachBytes=140737488351232:=rfl;simp;omega
theorem qm6 {xs:List (DataW H×List MemPlace)}{fs:Array Field}(hf:∀(i:Nat) (f:Field),fs[i]? = some f→DataW.trod enc prog w 0 (fun _=>true) true n f.type ((cs.drop f.offset).take (prog.cellsOf f.type))=xs[i]?)(i:Nat){f:Field}(h:fs[i]? = some f)(t:TypeId)(o:Nat)(ht:f.type=t)(ho:f.offset=o)(hc:prog.cellsOf t=1)(hv:cs[o]? = some v){y:DataW H×List MemPlace}(hy:xs[i]? = some y):DataW.trod enc prog w 0 (fun _=>true) true n t [v]=some y:=by
 subst ht ho;have g:=hf i f h;rw[hc,hy] at g;have e:(cs.drop f.offset).take 1=[v]:=by
  rw[List.getElem?_eq_some_iff] at hv;obtain⟨hl,rfl⟩:=hv;rw[List.drop_eq_getElem_cons hl];rfl
 rwa [e] at g
theorem qrN {x:DataW H×List MemPlace}(h:DataW.trod enc prog w 0 (fun _=>true) true fuel 43 [v]=some x)(hw:(x.1.weights prog 43).all (·≤reachBytes)=true):∃(a:Option Addr) (cap:Nat) (L:List (Int×Int)),v=.slice a L.length cap∧qaY w a L∧(a=none→L.length=0∧cap=0)∧(L.length+8)*16≤281474976710656:=by
 rcases open_slice underlying43 h with ⟨hv,_⟩|⟨a,len,cap,m,n,D,Pl,hv,_,hl,hm,hmm,rfl,hx⟩
 ·cases hv;exact⟨none,0,[],rfl,⟨fun i hi=>by simp at hi⟩,fun _=>⟨rfl,rfl⟩,by decide⟩
 cases hv;have hmc:m=cap:=by rw[hmm];rfl
 subst hmc;have hb:m*16≤reachBytes:=by
  rw[List.all_eq_true] at hw;have:=hw (((List.range len).map D).length+((List.range (m-len)).map fun j=>D (len+j)).length |>.mul (prog.bytesOf 101)) (by
   simp only[DataW.weights,underlying43];exact List.mem_cons_self ..)
  rw[qpW] at this;simp at this;have e:len+(m-len)=m:=by omega
  have h2:(len+(m-len))*16≤reachBytes:=by simpa using this
  rwa [e] at h2
 have hz:∀i,i<m→∃z:Int×Int,w.cell? (a.add (i*2))=some (.int .i64 z.1)∧w.cell? ((a.add (i*2)).add 1)=some (.int .i64 z.2):=fun i hi=>by
  obtain⟨cs',h1,h2⟩:=hx i hi;rw[qnQ] at h1;obtain⟨_,hlen,hc⟩:=World.cells?_some h1;obtain⟨xs,n',_,_,_,hxl,hf⟩:=DataW.trod_struct underlying101 h2;obtain⟨c0,c1,rfl⟩:∃c0 c1,cs'=[c0,c1]:=by
   exact qsb hlen
  obtain⟨y0,y1,rfl⟩:∃y0 y1,xs=[y0,y1]:=by
   have hxl':xs.length=2:=hxl;exact qsb hxl'
  ·have t0:=qm6 hf 0 rfl 3 0 rfl rfl qcU rfl rfl;have t1:=qm6 hf 1 rfl 3 1 rfl rfl qcU rfl rfl;obtain⟨z0,e0,_⟩:=DataW.trod_int underlying3 t0;obtain⟨z1,e1,_⟩:=DataW.trod_int underlying3 t1;simp at e0 e1;subst e0 e1;refine⟨(z0,z1),?_,?_⟩
   ·have:=hc 0 (by omega);rw[add_add,Nat.add_zero] at this;exact this
   exact hc 1 (by omega)
 obtain⟨Z,hZ⟩:=choose_lt hz;refine⟨some a,m,(List.range len).map Z,by simp,⟨fun i hi => ?_⟩,fun hn=>(by cases hn),?_⟩
 ·have hi':i<len:=by simpa using hi
  obtain⟨b,off,rfl,hlt⟩:=qjN (by have:=(hZ 0 (by omega)).1;rwa [Nat.zero_mul] at this);have g:=hZ i (by omega);rw[add_add,qcn,qcn] at g;refine⟨b,off,rfl,hlt,?_,?_⟩
  ·rw[g.1];simp
  rw[Nat.add_assoc,g.2];simp
 have:reachBytes=140737488351232:=rfl;simp;omega
theorem qwl {x:DataW H×List MemPlace}(h:DataW.trod enc prog w 0 (fun _=>true) true fuel 45 cs=some x)(hw:(x.1.weights prog 45).all (·≤reachBytes)=true):∃c:Cfg,cs=c.arr.toList∧ql7 w c:=by
 obtain⟨xs,n,_,rfl,hl,hlen,hf⟩:=DataW.trod_struct underlying45 h;rw[qro] at hl
 match cs,hl,xs,hlen with
 |[v0,v1,v2,v3,v4,v5,v6,v7,v8,v9,v10],_,[y0,y1,y2,y3,y4,y5,y6,y7,y8,y9,y10],_ =>
  simp only[DataW.weights,underlying45,List.map_cons,List.map_nil,DataW.weightsEach,List.all_append,Bool.and_eq_true] at hw;have g0:=qm6 hf 0 rfl 3 0 rfl rfl qcU rfl rfl;have g1:=qm6 hf 1 rfl 43 1 rfl rfl qt5 rfl rfl;have g2:=qm6 hf 2 rfl 3 2 rfl rfl qcU rfl rfl;have g3:=qm6 hf 3 rfl 9 3 rfl rfl qmb rfl rfl;have g4:=qm6 hf 4 rfl 3 4 rfl rfl qcU rfl rfl;have g5:=qm6 hf 5 rfl 3 5 rfl rfl qcU rfl rfl;have g6:=qm6 hf 6 rfl 3 6 rfl rfl qcU rfl rfl;have g7:=qm6 hf 7 rfl 3 7 rfl rfl qcU rfl rfl;have g8:=qm6 hf 8 rfl 3 8 rfl rfl qcU rfl rfl;have g9:=qm6 hf 9 rfl 3 9 rfl rfl qcU rfl rfl;have g10:=qm6 hf 10 rfl 25 10 rfl rfl quc rfl rfl;obtain⟨z0,e0,_⟩:=DataW.trod_int underlying3 g0;obtain⟨z2,e2,_⟩:=DataW.trod_int underlying3 g2;obtain⟨s3,e3,_⟩:=DataW.trod_string underlying9 g3;obtain⟨z4,e4,_⟩:=DataW.trod_int underlying3 g4;obtain⟨z5,e5,_⟩:=DataW.trod_int underlying3 g5;obtain⟨z6,e6,_⟩:=DataW.trod_int underlying3 g6;obtain⟨z7,e7,_⟩:=DataW.trod_int underlying3 g7;obtain⟨z8,e8,_⟩:=DataW.trod_int underlying3 g8;obtain⟨z9,e9,_⟩:=DataW.trod_int underlying3 g9;obtain⟨ea,ecap,L,e1,hE,hEn,hEb⟩:=qrN (v:=v1) (by simpa using g1) hw.2.1;obtain⟨ba,bcap,B,e10,hI,hIn,hIb⟩:=qom (v:=v10) (by simpa using g10) hw.2.2.2.2.2.2.2.2.2.2.1;simp at e0 e2 e3 e4 e5 e6 e7 e8 e9;subst e0 e2 e3 e4 e5 e6 e7 e8 e9 e1 e10;exact⟨⟨z0,L,ea,ecap,z2,s3,z4,z5,z6,z7,z8,z9,B,ba,bcap⟩,rfl,hE,hI,hEn,hIn,hEb,hIb⟩
end
end
section
open Go.RowKit Go.Deep Go.Shelf Go.Lib
def qxB:Cfg:=⟨0,[],none,0,0,ByteArray.empty,0,0,0,0,0,0,[],none,0⟩
section
variable {H:Type} {enc:TypeId×Value→H} {w:World}
end
theorem Tryz.gSignsT:(prog.globals[2]?).map (·.type)=some 337:=by kernel_rfl
theorem Tryz.x8:U8Extra prog Tryz.lays196_ren:=⟨by kernel_rfl,by kernel_rfl,by kernel_rfl,by kernel_rfl,by kernel_rfl,by kernel_rfl,by kernel_rfl⟩
theorem qiP:prog.cellsOf 336=2:=by kernel_rfl
theorem qoL:prog.cellsOf 233=1:=by kernel_rfl
theorem qmE:prog.cellsOf 337=6:=by kernel_rfl
theorem qlf {held:Bool}{b:List UInt8}{k:Int}{p:List MemPlace}(h:DataW.trod (fun _=>()) prog W 0 sp held fuel 336 cs=some (.agg [.lit (.string b),.lit (.int .i64 k)],p)):cs=[.string ⟨b.toArray⟩,.int .i64 k]:=by
 obtain⟨xs,n,_,hx,hl,hlen,hf⟩:=DataW.trod_struct underlying336 h;rw[qiP] at hl;have hxl:xs.length=2:=hlen;obtain⟨v0,v1,rfl⟩:=qsb hl;obtain⟨y0,y1,rfl⟩:=qsb hxl;have t0:DataW.trod (fun _=>()) prog W 0 sp held n 9 (([v0,v1].drop 0).take (prog.cellsOf 9))=some y0:=hf 0 _ rfl;have t1:DataW.trod (fun _=>()) prog W 0 sp held n 233 (([v0,v1].drop 1).take (prog.cellsOf 233))=some y1:=hf 1 _ rfl;rw[qmb] at t0;rw[qoL] at t1;obtain⟨s0,e0,hy0⟩:=DataW.trod_string underlying9 t0;obtain⟨z1,e1,hy1⟩:=DataW.trod_int underlying233 t1;simp at e0 e1;subst e0 e1;obtain⟨rfl,_⟩:=hy0;obtain⟨rfl,_⟩:=hy1;simp only[List.map_cons,List.map_nil,Prod.mk.injEq,DataW.agg.injEq,List.cons.injEq,DataW.lit.injEq,Lit.string.injEq,Lit.int.injEq,and_true,true_and] at hx;obtain⟨⟨rfl,rfl⟩,_⟩:=hx;simp
theorem qtW {H:Type}{enc:TypeId×Value→H}{base:Nat}{held:Bool}{t e:TypeId}{x:DataW H×List MemPlace}(ht:P.underlying t=some (.array n e))(h:DataW.trod enc P w base sp held fuel t cs=some x):cs.length=P.cellsOf t:=by
 cases fuel with
 |zero=>simp[DataW.trod] at h
 |succ fuel =>
  simp only[DataW.trod,ht] at h;split at h
  ·next hh=>simpa using hh
  cases h
theorem six (hl:cs.length=6){a0 a1 b0 b1 c0 c1:Value}(h0:(cs.drop (0*2)).take 2=[a0,a1])(h1:(cs.drop (1*2)).take 2=[b0,b1])(h2:(cs.drop (2*2)).take 2=[c0,c1]):cs=[a0,a1,b0,b1,c0,c1]:=by
 match cs,hl with
 |[x0,x1,x2,x3,x4,x5],_ =>
  simp at h0 h1 h2;obtain⟨rfl,rfl⟩:=h0;obtain⟨rfl,rfl⟩:=h1;obtain⟨rfl,rfl⟩:=h2;rfl
theorem qpC (hL:laidMetH prog Rows.checksRow.laid W)(hS:W.ShapedOpen prog):qlZ W:=by
 have hL':laidMet prog Rows.checksRow.laid W:=hL;refine⟨?_,?_,Tryz.laysM145.s1_3 W hS⟩
 ·obtain⟨g,t,cs,fuel,p,hg,hty,hvar,hd⟩:=laidMet.reads hL' (d:=Rows.laid_redact_policy_signs) (.tail _ (.tail _ (.tail _ (.tail _ (.tail _ (.tail _ (.head _)))))));obtain rfl:g=2:=Option.some.inj (hg.symm.trans (by kernel_rfl));obtain rfl:=Option.some.inj (Tryz.gSignsT.symm.trans hty);have hd':DataW.trod (fun _=>()) prog W 0 (fun _=>true) false fuel 337 cs.toList=some (.agg [.agg [.lit (.string [42]),.lit (.int .i64 0)],.agg [.lit (.string [42,42]),.lit (.int .i64 1)],.agg [.lit (.string [91,93]),.lit (.int .i64 2)]],p):=hd;obtain⟨f0,d0,q0,hd0,h0⟩:=array_elem underlying337 hd' 0 (by omega);obtain⟨f1,d1,q1,hd1,h1⟩:=array_elem underlying337 hd' 1 (by omega);obtain⟨f2,d2,q2,hd2,h2⟩:=array_elem underlying337 hd' 2 (by omega);cases hd0;cases hd1;cases hd2;have r0:=qlf h0;have r1:=qlf h1;have r2:=qlf h2;rw[qiP] at r0 r1 r2;have hcl:=(qtW underlying337 hd').trans qmE;have hcs:=six hcl r0 r1 r2;unfold World.var? at hvar;rw[hg] at hvar;simp only[Option.bind_some] at hvar;split at hvar
  ·next cs' t fr hh =>
   cases hvar;refine⟨t,fr,?_⟩;rw[hh];have:cs=[Value.string ⟨[42].toArray⟩,.int .i64 0,.string ⟨[42,42].toArray⟩,.int .i64 1,.string ⟨[91,93].toArray⟩,.int .i64 2].toArray:=by rw[←hcs]
   rw[this]
  cases hvar
 refine utf8Tabs_of_readsT (U8Types.of196 Tryz.lays196) Tryz.x8 ?_ ?_
 ·rw[←Pinned.utf8First_eq];exact laidMet.reads hL' (.tail _ (.tail _ (.tail _ (.tail _ (.tail _ (.tail _ (.tail _ (.head _))))))))
 have e:(Rows.laid_unicode_utf8_acceptRanges:DataW Unit)=acceptData:=by kernel_rfl
 have hr:=laidMet.reads hL' (d:=Rows.laid_unicode_utf8_acceptRanges) (.tail _ (.tail _ (.tail _ (.head _))));rw[e] at hr;exact hr
end
section
open Go.RowKit Go.Shelf
theorem qba {fn:Func}{p u u2:Tmp}{ty:TypeId}(h:fn.results=#[.cell p ty,.tmp u,.tmp u2])(tmps:Array Value)(w:World)(g:Nat)(t:TypeId)(cs:Array Value)(fr:Nat×Nat)(d:TypeDesc)(hp:tmps.getD p undef=.pointer (some ⟨g,0,none⟩))(hg:w.heap[g]? = some (.cells cs t fr))(hu:P.underlying ty=some d)(hd:(match d with|.struct _|.array _ _=>true|_=>false)=true)(hi:(P.info? ty).map (·.size)=some cs.size)(v v2:Value)(hv:tmps.getD u undef=v)(hv2:tmps.getD u2 undef=v2):(results fn tmps).run P w=.ok (.tuple #[.agg cs,v,v2]) w:=by
 have e:(results fn tmps).run P w=((asAddr (tmps.getD p undef)).run P w).andThen fun a w₁=>((loadVar ty a).run P w₁).andThen fun v w₂=>.ok (.tuple #[v,tmps.getD u undef,tmps.getD u2 undef]) w₂:=by
  simp only[results,h];simp[Sem.run_bind,Result.andThen]
 subst hv hv2;rw[e,hp];simp only[asAddr,Sem.run_pure,Result.andThen_ok,run_loadVar_row w g t ty cs fr d hg hu hd hi]
def qbZ (O:Array Value)(a:Option Addr)(k c:Nat):Array Value:=O.push (.slice a k c)
def qcG:Array Value:=qbZ qaB none 0 0
theorem qdx:prog.built 110 []=some qcG:=by kernel_rfl
theorem qoc (n:Nat)(m:Nat→Nat→Bool)(a:Option Addr)(k c:Nat):prog.built 110 [(0,.agg (qan n m)),(1,.slice a k c)]=some (qbZ (qan n m) a k c):=by kernel_rfl
theorem qtZ:(prog.info? 110).map (·.size)=some 38:=by kernel_rfl
theorem qj1 (ρ:Operand→Value)(o:Oper)(ho:o.op=.alloc 110)(w:World):(execOp ρ o).run prog w=.ok (.value (.pointer (some ⟨w.heap.size,0,none⟩))) (w.alloc (.cells qcG 110)):=by
 unfold execOp;rw[ho];kernel_rfl
theorem qch {ops:Array Oper}{rest:List Oper}{o:Oper}{a:Act}{Q:Exit→Act→World→Prop}(hg:o.guard=none)(ho:o.op=.alloc 110)(d:Option Tmp)(hd:o.dst=d)(N:Nat)(hN:w.heap.size=N)(h:wpList prog ops Q rest (a.put d (.pointer (some ⟨N,0,none⟩))) (w.alloc (.cells qcG 110))):wpList prog ops Q (o::rest) a w:=by
 subst hN;exact Great.wpList_allocTo hg d hd _ _ (qj1 _ _ ho _) h
theorem qe0 (n:Nat)(m:Nat→Nat→Bool):(qan n m).all (·.oneCell')=true:=by
 simp[qan,Value.oneCell']
theorem qcd (h:O.size=37)(a:Option Addr)(k c:Nat):(qbZ O a k c).size=38:=by unfold qbZ;simp[h]
theorem qeG (h:O.all (·.oneCell')=true)(a:Option Addr)(k c:Nat):(qbZ O a k c).all (·.oneCell')=true:=by
 unfold qbZ;rw[Array.all_push,h];rfl
theorem qbc:qcG.size=38:=qcd (qae _ _) _ _ _
theorem qd2:qcG.all (·.oneCell')=true:=qeG (qe0 _ _) _ _ _
theorem qbk {A:Array Value}(h:A.size=38):(prog.info? 110).map (·.size)=some A.size:=by rw[h];exact qtZ
def qhk (c:Cfg):Int:=if ¬roE c.labels c.L c.dflt c.clr=0 then roE c.labels c.L c.dflt c.clr else if qf4 c.inn c.out c.depth c.bytes=false then 4 else if qaG c.B=false then 5 else qez c.labels.toNat c.pol.data.toList
def qnn (c:Cfg):Int:=if ¬roE c.labels c.L c.dflt c.clr=0 then 0 else if qf4 c.inn c.out c.depth c.bytes=false then 0 else if qaG c.B=false then 0 else qka c.labels.toNat c.pol.data.toList
theorem qfG (c:Cfg):(qbx c.labels c.L=true→roE c.labels c.L c.dflt c.clr=if qg9 c=false then 1 else if qbz c.labels.toNat (qaZ c.labels.toNat c.L)=false then 2 else if qb6 c.labels.toNat (qaZ c.labels.toNat c.L)=false then 3 else 0)∧(qbx c.labels c.L=false→roE c.labels c.L c.dflt c.clr=1∧qg9 c=false):=by
 constructor
 ·intro h;obtain⟨_,H⟩:=qdO h;have hm:∀i j,i<c.labels.toNat→j<c.labels.toNat→qcF c.labels.toNat c.L i j=qaZ c.labels.toNat c.L i j:=fun i j hi hj=>qp4 H.hE hi hj;have e1:=qkJ hm;have e2:=qml hm (fun i hi=>qpK H.hE hi);unfold roE qg9;rw[h,e1,e2];cases qbC c.labels.toNat c.dflt<;>cases qbC c.labels.toNat c.clr<;>cases qbz c.labels.toNat (qaZ c.labels.toNat c.L)<;>cases qb6 c.labels.toNat (qaZ c.labels.toNat c.L)<;>rfl
 intro h;unfold roE qg9;rw[h];exact⟨rfl,rfl⟩
theorem qk2 (c:Cfg):qhk c=qbw c∧qnn c=qdN c:=by
 have key:qhk c=qbw c∧qnn c=if qbw c=6 then qa3 c.labels.toNat c.pol.data.toList else 0:=by
  unfold qhk qnn qbw qez qka;rw[qm8];cases hn:qbx c.labels c.L
  ·obtain⟨h1,h2⟩:=(qfG c).2 hn;rw[h1,h2];simp
  rw[(qfG c).1 hn];by_cases a1:qg9 c=false
  ·simp[a1]
  by_cases a2:qbz c.labels.toNat (qaZ c.labels.toNat c.L)=false
  ·simp[a1,a2]
  by_cases a3:qb6 c.labels.toNat (qaZ c.labels.toNat c.L)=false
  ·simp[a1,a2,a3]
  by_cases a4:qf4 c.inn c.out c.depth c.bytes=false
  ·simp[a1,a2,a3,a4]
  by_cases a5:qaH c.B=false
  ·simp[a1,a2,a3,a4,a5]
  by_cases a6:0≤qa3 c.labels.toNat c.pol.data.toList
  ·simp[a1,a2,a3,a4,a5,a6]
  simp[a1,a2,a3,a4,a5,a6]
 exact⟨key.1,key.2.trans rfl⟩
theorem qv7 (h:roE c.labels c.L c.dflt c.clr=0):qbx c.labels c.L=true∧roA c.labels c.L c.dflt c.clr=qan c.labels.toNat (qcF c.labels.toNat c.L):=by
 constructor
 ·cases hn:qbx c.labels c.L
  ·have:=((qfG c).2 hn).1;rw[h] at this;cases this
  rfl
 unfold roA;rw[if_pos h]
structure qsZ (w:World)(c:Cfg)(W:World):Prop where
 below:Below w.heap.size w W
 box:W.heap[w.heap.size]? = some (.cells c.arr 45)
 res:W.heap[w.heap.size+1]? = some (.cells qcG 110)
theorem qsZ.step {W':World}(h:qsZ w c W)(hb:Below W.heap.size W W'):qsZ w c W' :=
 ⟨h.below.trans (hb.mono h.below.size),(hb.block _ (ltA h.box)).trans h.box,(hb.block _ (ltA h.res)).trans h.res⟩
theorem qsL (w:World)(c:Cfg):qsZ w c ((w.alloc (.cells c.arr 45)).alloc (.cells qcG 110)):=by
 refine⟨(bwA).alloc (by simp) _,(Below.heap_alloc _ _ _ (by simp)).trans (qac _ _),?_⟩;have:=qac (w.alloc (.cells c.arr 45)) (.cells qcG 110);rwa [World.size_alloc] at this
theorem qsZ.cell (h:qsZ w c W)(j:Nat):W.cell? ⟨w.heap.size,j,none⟩=c.arr[j]?:=qab h.box j
theorem qxs (h:¬roE c.labels c.L c.dflt c.clr=0):qhk c=roE c.labels c.L c.dflt c.clr∧qnn c=0:=by unfold qhk qnn;rw[if_pos h,if_pos h];exact⟨rfl,rfl⟩
def qw9 (n:Nat)(s:ByteArray)(w:World)(e:Ending)(w':World):Prop :=
 ∃a m cap x y,e=.returned (.tuple #[.agg (qf5 a m cap x y),.bool (qa9 n s.data.toList)])∧Below w.heap.size w w'∧(qa9 n s.data.toList=true→m=(qdE s.data.toList).1.length∧x=(qdE s.data.toList).2.1∧y=(qdE s.data.toList).2.2∧qkk w' w.heap.size 235 a (((qdE s.data.toList).1.map sgS).flatMap sgC))
theorem qiQ (s:ByteArray)(n:Nat)(w:World)(hs:s.size≤2000)(hg:qlZ w):Calls prog 136 #[.string s,.int .i64 n] w fun e w'=>qw9 n s w e w':=by
 have HIR:Hid ((prog.info? 230).map (·.size)=some qc2.size):=qdX;have HG:=qaa hg;obtain⟨p0,r0,b0,e0,e1,hp0,hr0,cC1⟩:=qnX s hs;obtain⟨p1,r1,b1,e2,e3,hp1,hr1,cC2⟩:=qnX r0 hr0;have hv:qa9 n s.data.toList=(qe8 p0.data.toList&&(qh5 p1.data.toList n&&qeu r1 != 0)):=by
  rw[←qn3];unfold qqG;rw[←e0,←e1,←e2,←e3,qwF]
 have HV:=qaa hv;have HRR:Hid (qa9 n s.data.toList=true→qdE s.data.toList=(qiL p0.data.toList,qoC p1.data.toList,qeu r1)):=by
  intro hb;have hp:=qgV hb;rw[←e0,←e1,←e2,←e3] at hp;have:=qqd hp;rw[qwF] at this;exact this
 have HR:=qaa (qtf w);have cC1':=cC1 _ (HG.out.below HR.out.below);go_enter func136,ntmps136
 go_wp2_with (fail)
 refine cC1'.mono ?_;rintro e w2 ⟨rfl,hB2⟩;have HR2:=qaa (HR.out.step hB2);have cC2':=cC2 _ (HG.out.below HR2.out.below)
 go_wp2_with (fail)
 refine cC2'.mono ?_;rintro e w3 ⟨rfl,hB3⟩;have HR3:=qaa (HR2.out.step hB3);have cP:=qfN p0 w3 hp0 (HG.out.below HR3.out.below)
 go_wp2_with (fail)
 refine cP.mono ?_;rintro e w4 ⟨pa,pm,pc,rfl,hB4,hC4⟩;have HC4:=qaa hC4;have HLO:=qaa (ltA HR3.out.res);have HR4:=qaa (HR3.out.step hB4);cases h1:qe8 p0.data.toList
 ·have HF:Hid (qa9 n s.data.toList=false):=by show _=_;rw[HV.out,h1];rfl
  go_wp2_with (first
   |(go_at_call 186;refine(qcK p1 n _).mono ?_;rintro e w5 ⟨rfl,rfl⟩)
   |(go_at_call 187;refine(qcw r1 _).mono ?_;rintro e w6 ⟨rfl,rfl⟩)
   |(refine wpList_store_row rfl 230 _ _ rfl w.heap.size qc2 rfl rfl 230 qc2 HR4.out.res HIR.out rfl qf2 ?_))
  refine bodyPost_ret (qap results136 _ _ w.heap.size 230 qc2 (0,0) _ rfl (setRow_heap _ _ qc2 _ _ _ HR4.out.res) underlying230 rfl qdX (.bool false) rfl) rfl ⟨none,0,0,0,0,by rw[HF.out];rfl,qah HR4.out.below (by omega) _,fun e=>by rw[HF.out] at e;cases e⟩
 cases h2:qh5 p1.data.toList n
 ·have HF:Hid (qa9 n s.data.toList=false):=by show _=_;rw[HV.out,h1,h2];rfl
  have cL:=fun w=>qcK p1 n w;rw[h2] at cL
  go_wp2_with (first
   |(go_at_call 186;refine(cL _).mono ?_;rintro e w5 ⟨rfl,rfl⟩)
   |(go_at_call 187;refine(qcw r1 _).mono ?_;rintro e w6 ⟨rfl,rfl⟩)
   |(refine wpList_store_row rfl 230 _ _ rfl w.heap.size qc2 rfl rfl 230 qc2 HR4.out.res HIR.out rfl qf2 ?_))
  refine bodyPost_ret (qap results136 _ _ w.heap.size 230 qc2 (0,0) _ rfl (setRow_heap _ _ qc2 _ _ _ HR4.out.res) underlying230 rfl qdX (.bool false) rfl) rfl ⟨none,0,0,0,0,by rw[HF.out];rfl,qah HR4.out.below (by omega) _,fun e=>by rw[HF.out] at e;cases e⟩
 have cL:=fun w=>qcK p1 n w;rw[h2] at cL;have cA:=fun w=>qcw r1 w;cases h3:(qeu r1 != 0)
 ·have HF:Hid (qa9 n s.data.toList=false):=by show _=_;rw[HV.out,h1,h2,h3];rfl
  rw[h3] at cA
  go_wp2_with (first
   |(go_at_call 186;refine(cL _).mono ?_;rintro e w5 ⟨rfl,rfl⟩)
   |(go_at_call 187;refine(cA _).mono ?_;rintro e w6 ⟨rfl,rfl⟩)
   |(refine wpList_store_row rfl 230 _ _ rfl w.heap.size qc2 rfl rfl 230 qc2 HR4.out.res HIR.out rfl qf2 ?_))
  refine bodyPost_ret (qap results136 _ _ w.heap.size 230 qc2 (0,0) _ rfl (setRow_heap _ _ qc2 _ _ _ HR4.out.res) underlying230 rfl qdX (.bool false) rfl) rfl ⟨none,0,0,0,0,by rw[HF.out];rfl,qah HR4.out.below (by omega) _,fun e=>by rw[HF.out] at e;cases e⟩
 have HF:Hid (qa9 n s.data.toList=true):=by show _=_;rw[HV.out,h1,h2,h3];rfl
 rw[h3] at cA;have HE4:Hid (qdE s.data.toList=(qiL p0.data.toList,qoC p1.data.toList,qeu r1)∧pm=(qiL p0.data.toList).length∧qkk w4 w3.heap.size 235 pa (((qiL p0.data.toList).map sgS).flatMap sgC)):=⟨HRR.out HF.out,HC4.out h1⟩
 generalize qoC p1.data.toList=li at *;generalize qeu r1=ai at *
 go_wp2_with (first
  |(go_at_call 186;refine(cL _).mono ?_;rintro e w5 ⟨rfl,rfl⟩)
  |(go_at_call 187;refine(cA _).mono ?_;rintro e w6 ⟨rfl,rfl⟩)
  |(refine wpList_store_row rfl 230 _ _ rfl w.heap.size (qf5 pa pm pc li ai) rfl rfl 230 qc2 HR4.out.res HIR.out rfl (qcJ _ _ _ _ _) ?_))
 refine bodyPost_ret (qap results136 _ _ w.heap.size 230 (qf5 pa pm pc li ai) (0,0) _ rfl (setRow_heap _ _ qc2 _ _ _ HR4.out.res) underlying230 rfl qdX (.bool true) rfl) rfl ⟨_,_,_,_,_,by rw[HF.out],qah HR4.out.below (by omega) _,fun _ => ?_⟩;rw[HE4.out.1];exact⟨HE4.out.2.1,rfl,rfl,HE4.out.2.2.kept fun b cur fr h1 h3=>⟨by have:=HLO.out;omega,sx (by have:=HLO.out;omega) h3⟩⟩
end
end Go.Proofs.YtllcbnfmihfaaaaGreatDoor
