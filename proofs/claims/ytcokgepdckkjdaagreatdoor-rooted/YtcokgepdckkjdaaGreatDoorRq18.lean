import Derived.ProofKit
import Derived.OpenShut
import Derived.Deep.Slices
import Derived.SizedLaws
import Derived.Lib.LaidU8T
import Derived.PinnedBridge
import Derived.Test.YtcokgepdckkjdaaGreatDoorRq17
set_option maxRecDepth 100000
set_option maxHeartbeats 8000000
namespace Go.Proofs.YtcokgepdckkjdaaGreatDoor
open Go.Proofs.Tryz
variable {V W W' w w5:World}{v v':Value}{fuel n u:Nat}{cs xs ys:List Value}{sp:Nat->Bool}{pre:List Str}{x:Str}
section
open Go.RowKit Go.Deep
theorem qcU:prog.cellsOf 3=1:=by kernel_rfl
theorem qmb:prog.cellsOf 9=1:=by kernel_rfl
theorem qt5:prog.cellsOf 22=1:=by kernel_rfl
theorem quc:prog.cellsOf 23=1:=by kernel_rfl
theorem qro:prog.cellsOf 25=11:=by kernel_rfl
theorem qnQ:prog.cellsOf 32=2:=by kernel_rfl
theorem qpW:prog.bytesOf 32=16:=by kernel_rfl
theorem qrL:prog.bytesOf 3=8:=by kernel_rfl
theorem qjN {a:Addr}(h:w.cell? (a.add 0)=some v):∃b off,a=⟨b,off,none⟩/\b<w.heap.size:=by
 obtain⟨b,off,d⟩:=a;have c:d=none:=by simpa [Addr.add] using World.cell?_spot h
 subst c;rw[qcn] at h;exact⟨b,off,rfl,block_lt_of_cell h⟩
theorem qsb {α:Type}{l:List α}(h:l.length=2):∃a b,l=[a,b]:=by
 match l,h with
 |[a,b],_=>exact⟨a,b,rfl⟩
section
variable {H:Type} {enc:TypeId×Value->H} {w:World}
theorem qom {x:DataW H×List MemPlace}(h:DataW.trod enc prog w 0 (fun _=>true) true fuel 23 [v]=some x)(l:(x.1.weights prog 23).all (·<=reachBytes)=true):∃(a:Option Addr) (d:Nat) (B:List Int),v=.slice a B.length d/\qbV w a B/\(a=none->B.length=0/\d=0)/\(B.length+8)*8<=281474976710656:=by
 rcases open_slice1 underlying23 qcU h with ⟨f,_⟩|⟨a,len,d,m,n,V,D,y,f,_,F,G,t,rfl,g⟩
 ·cases f;exact⟨none,0,[],rfl,⟨fun i c=>by simp at c⟩,fun _=>⟨rfl,rfl⟩,by decide⟩
 cases f;have s:m=d:=by rw[t];rfl
 subst s;have A:m*8<=reachBytes:=by
  rw[List.all_eq_true] at l;have:=l (((List.range len).map D).length+((List.range (m-len)).map fun j=>D (len+j)).length |>.mul (prog.bytesOf 3)) (by
   simp only[DataW.weights,underlying23];exact List.mem_cons_self ..)
  rw[qrL] at this;simp at this;have e:len+(m-len)=m:=by omega
  have o:(len+(m-len))*8<=reachBytes:=by simpa using this
  rwa [e] at o
 have k:∀i,i<m->∃z:Int,V i=.int .i64 z:=fun i c=>by
  obtain⟨z,k,_⟩:=DataW.trod_int underlying3 (g i c).2;exact⟨z,by simpa using k⟩
 obtain⟨Z,p⟩:=choose_lt k;refine⟨some a,m,(List.range len).map Z,by simp,⟨fun i c => ?_⟩,fun u=>(by cases u),?_⟩
 ·have C:i<len:=by simpa using c
  obtain⟨b,off,rfl,r⟩:=qjN (g 0 (by omega)).1;refine⟨b,off,rfl,r,fun j q => ?_⟩;have E:j<len:=by simpa using q
  have:=(g j (by omega)).1;rw[qcn] at this;rw[this,p j (by omega)];simp
 have:reachBytes=140737488351232:=rfl;simp;omega
theorem qm6 {xs:List (DataW H×List MemPlace)}{fs:Array Field}(c:∀(i:Nat) (f:Field),fs[i]? = some f->DataW.trod enc prog w 0 (fun _=>true) true n f.type ((cs.drop f.offset).take (prog.cellsOf f.type))=xs[i]?)(i:Nat){f:Field}(h:fs[i]? = some f)(t:TypeId)(o:Nat)(k:f.type=t)(j:f.offset=o)(b:prog.cellsOf t=1)(a:cs[o]? = some v){y:DataW H×List MemPlace}(l:xs[i]? = some y):DataW.trod enc prog w 0 (fun _=>true) true n t [v]=some y:=by
 subst k j;have g:=c i f h;rw[b,l] at g;have e:(cs.drop f.offset).take 1=[v]:=by
  rw[List.getElem?_eq_some_iff] at a;obtain⟨d,rfl⟩:=a;rw[List.drop_eq_getElem_cons d];rfl
 rwa [e] at g
theorem qrN {x:DataW H×List MemPlace}(h:DataW.trod enc prog w 0 (fun _=>true) true fuel 22 [v]=some x)(y:(x.1.weights prog 22).all (·<=reachBytes)=true):∃(a:Option Addr) (d:Nat) (L:List (Int×Int)),v=.slice a L.length d/\qaY w a L/\(a=none->L.length=0/\d=0)/\(L.length+8)*16<=281474976710656:=by
 rcases open_slice underlying22 h with ⟨k,_⟩|⟨a,len,d,m,n,D,U,k,_,X,Y,J,rfl,M⟩
 ·cases k;exact⟨none,0,[],rfl,⟨fun i c=>by simp at c⟩,fun _=>⟨rfl,rfl⟩,by decide⟩
 cases k;have I:m=d:=by rw[J];rfl
 subst I;have V:m*16<=reachBytes:=by
  rw[List.all_eq_true] at y;have:=y (((List.range len).map D).length+((List.range (m-len)).map fun j=>D (len+j)).length |>.mul (prog.bytesOf 32)) (by
   simp only[DataW.weights,underlying22];exact List.mem_cons_self ..)
  rw[qpW] at this;simp at this;have e:len+(m-len)=m:=by omega
  have f:(len+(m-len))*16<=reachBytes:=by simpa using this
  rwa [e] at f
 have P:∀i,i<m->∃z:Int×Int,w.cell? (a.add (i*2))=some (.int .i64 z.1)/\w.cell? ((a.add (i*2)).add 1)=some (.int .i64 z.2):=fun i c=>by
  obtain⟨E,r,f⟩:=M i c;rw[qnQ] at r;obtain⟨_,F,t⟩:=World.cells?_some r;obtain⟨A,n',_,_,_,N,u⟩:=DataW.trod_struct underlying32 f;obtain⟨l,o,rfl⟩:∃l o,E=[l,o]:=by
   exact qsb F
  obtain⟨B,C,rfl⟩:∃B C,A=[B,C]:=by
   have O:A.length=2:=N;exact qsb O
  ·have Q:=qm6 u 0 rfl 3 0 rfl rfl qcU rfl rfl;have R:=qm6 u 1 rfl 3 1 rfl rfl qcU rfl rfl;obtain⟨S,p,_⟩:=DataW.trod_int underlying3 Q;obtain⟨T,q,_⟩:=DataW.trod_int underlying3 R;simp at p q;subst p q;refine⟨(S,T),?_,?_⟩
   ·have:=t 0 (by omega);rw[add_add,Nat.add_zero] at this;exact this
   exact t 1 (by omega)
 obtain⟨Z,s⟩:=choose_lt P;refine⟨some a,m,(List.range len).map Z,by simp,⟨fun i c => ?_⟩,fun K=>(by cases K),?_⟩
 ·have W:i<len:=by simpa using c
  obtain⟨b,off,rfl,G⟩:=qjN (by have:=(s 0 (by omega)).1;rwa [Nat.zero_mul] at this);have g:=s i (by omega);rw[add_add,qcn,qcn] at g;refine⟨b,off,rfl,G,?_,?_⟩
  ·rw[g.1];simp
  rw[Nat.add_assoc,g.2];simp
 have:reachBytes=140737488351232:=rfl;simp;omega
theorem qyM {z:Int}(h:(Lit.int .i64 z).wf=true):-9223372036854775808<=z/\z<=9223372036854775807:=by
 simp[Lit.wf,IntKind.min,IntKind.max,IntKind.signed,IntKind.bits] at h;omega
theorem q2A {x:DataW H×List MemPlace}(h:DataW.trod enc prog w 0 (fun _=>true) true fuel 25 cs=some x)(d:(x.1.weights prog 25).all (·<=reachBytes)=true):∃c:Cfg,cs=c.arr.toList/\ql7 w c/\(∀x∈[c.labels,c.dflt,c.clr,c.inn,c.out,c.depth,c.bytes],-9223372036854775808<=x/\x<=9223372036854775807)/\c.pol.size<=281474976710656:=by
 obtain⟨xs,aa,_,rfl,q,V,a⟩:=DataW.trod_struct underlying25 h;rw[qro] at q
 match cs,q,xs,V with
 |[v0,v1,v2,v3,v4,v5,v6,v7,v8,v9,v10],_,[y0,y1,y2,y3,y4,y5,y6,y7,y8,y9,y10],_ =>
  simp only[DataW.weights,underlying25,List.map_cons,List.map_nil,DataW.weightsEach,List.all_append,Bool.and_eq_true] at d;have C:=qm6 a 0 rfl 3 0 rfl rfl qcU rfl rfl;have D:=qm6 a 1 rfl 22 1 rfl rfl qt5 rfl rfl;have F:=qm6 a 2 rfl 3 2 rfl rfl qcU rfl rfl;have G:=qm6 a 3 rfl 9 3 rfl rfl qmb rfl rfl;have I:=qm6 a 4 rfl 3 4 rfl rfl qcU rfl rfl;have J:=qm6 a 5 rfl 3 5 rfl rfl qcU rfl rfl;have K:=qm6 a 6 rfl 3 6 rfl rfl qcU rfl rfl;have M:=qm6 a 7 rfl 3 7 rfl rfl qcU rfl rfl;have N:=qm6 a 8 rfl 3 8 rfl rfl qcU rfl rfl;have O:=qm6 a 9 rfl 3 9 rfl rfl qcU rfl rfl;have E:=qm6 a 10 rfl 23 10 rfl rfl quc rfl rfl;obtain⟨z0,e,_,X⟩:=DataW.trod_int underlying3 C;obtain⟨z2,f,_,Y⟩:=DataW.trod_int underlying3 F;obtain⟨b,g,x3,_⟩:=DataW.trod_string underlying9 G;obtain⟨z4,i,_,Z⟩:=DataW.trod_int underlying3 I;obtain⟨z5,j,_,w5⟩:=DataW.trod_int underlying3 J;obtain⟨z6,k,_,n⟩:=DataW.trod_int underlying3 K;obtain⟨z7,l,_,w7⟩:=DataW.trod_int underlying3 M;obtain⟨z8,m,_,w8⟩:=DataW.trod_int underlying3 N;obtain⟨z9,o,_,w9⟩:=DataW.trod_int underlying3 O;obtain⟨z,A,L,u,P,R,Q⟩:=qrN (v:=v1) (by simpa using D) d.2.1;obtain⟨s,t,B,y,S,U,T⟩:=qom (v:=v10) (by simpa using E) d.2.2.2.2.2.2.2.2.2.2.1;have W:b.size<=281474976710656:=by
   have p:=d.2.2.2.1;rw[show y3.1=.lit (.string b.data.toList) from congrArg Prod.fst x3] at p;have h4:=of_decide_eq_true (List.all_eq_true.1 p b.data.toList.length (by unfold DataW.weights;exact List.mem_singleton.2 rfl));have h5:reachBytes=140737488351232:=rfl;have h6:b.data.toList.length=b.size:=rfl;omega
  simp at e f g i j k l m o;subst e f g i j k l m o u y;refine⟨⟨z0,L,z,A,z2,b,z4,z5,z6,z7,z8,z9,B,s,t⟩,rfl,⟨P,S,R,U,Q,T⟩,fun x r => ?_,W⟩;simp at r;rcases r with rfl|rfl|rfl|rfl|rfl|rfl|rfl
  all_goals
   first
   |exact qyM X
   |exact qyM Y
   |exact qyM Z
   |exact qyM n
   |exact qyM w7
   |exact qyM w8
   |exact qyM w9
end

end
section
open Go.RowKit Go.Deep Go.Shelf Go.Lib
def qxB:Cfg:=⟨0,[],none,0,0,ByteArray.empty,0,0,0,0,0,0,[],none,0⟩
section
variable {H:Type} {enc:TypeId×Value->H} {w:World}
end
theorem Tryz.gSignsT:(prog.globals[0]?).map (·.type)=some 245:=by kernel_rfl
theorem Tryz.x8:U8Extra prog Tryz.lays196_ren:=⟨by kernel_rfl,by kernel_rfl,by kernel_rfl,by kernel_rfl,by kernel_rfl,by kernel_rfl,by kernel_rfl⟩
theorem qiP:prog.cellsOf 244=2:=by kernel_rfl
theorem qoL:prog.cellsOf 167=1:=by kernel_rfl
theorem qmE:prog.cellsOf 245=6:=by kernel_rfl
theorem qlf {held:Bool}{b:List UInt8}{k:Int}{p:List MemPlace}(h:DataW.trod (fun _=>()) prog W 0 sp held fuel 244 cs=some (.agg [.lit (.string b),.lit (.int .i64 k)],p)):cs=[.string ⟨b.toArray⟩,.int .i64 k]:=by
 obtain⟨s,n,_,f,e,m,d⟩:=DataW.trod_struct underlying244 h;rw[qiP] at e;have o:s.length=2:=m;obtain⟨j,l,rfl⟩:=qsb e;obtain⟨t,u,rfl⟩:=qsb o;have g:DataW.trod (fun _=>()) prog W 0 sp held n 9 (([j,l].drop 0).take (prog.cellsOf 9))=some t:=d 0 _ rfl;have i:DataW.trod (fun _=>()) prog W 0 sp held n 167 (([j,l].drop 1).take (prog.cellsOf 167))=some u:=d 1 _ rfl;rw[qmb] at g;rw[qoL] at i;obtain⟨v,a,q⟩:=DataW.trod_string underlying9 g;obtain⟨w,c,r⟩:=DataW.trod_int underlying167 i;simp at a c;subst a c;obtain⟨rfl,_⟩:=q;obtain⟨rfl,_⟩:=r;simp only[List.map_cons,List.map_nil,Prod.mk.injEq,DataW.agg.injEq,List.cons.injEq,DataW.lit.injEq,Lit.string.injEq,Lit.int.injEq,and_true,true_and] at f;obtain⟨⟨rfl,rfl⟩,_⟩:=f;simp
theorem qtW {H:Type}{enc:TypeId×Value->H}{P:Program}{base:Nat}{held:Bool}{t e:TypeId}{x:DataW H×List MemPlace}(a:P.underlying t=some (.array n e))(h:DataW.trod enc P w base sp held fuel t cs=some x):cs.length=P.cellsOf t:=by
 cases fuel with
 |zero=>simp[DataW.trod] at h
 |succ fuel =>
  simp only[DataW.trod,a] at h;split at h
  ·next hh=>simpa using hh
  cases h
theorem six (d:cs.length=6){a0 a1 b0 b1 c0 c1:Value}(a:(cs.drop (0*2)).take 2=[a0,a1])(b:(cs.drop (1*2)).take 2=[b0,b1])(c:(cs.drop (2*2)).take 2=[c0,c1]):cs=[a0,a1,b0,b1,c0,c1]:=by
 match cs,d with
 |[x0,x1,x2,x3,x4,x5],_ =>
  simp at a b c;obtain⟨rfl,rfl⟩:=a;obtain⟨rfl,rfl⟩:=b;obtain⟨rfl,rfl⟩:=c;rfl
theorem qpC (q:laidMetH prog Rows.rootedRow.laid W)(r:W.ShapedOpen prog):qlZ W:=by
 have c:laidMet prog Rows.rootedRow.laid W:=q;refine⟨?_,?_,Tryz.laysM145.s1_3 W r⟩
 ·obtain⟨g,t,cs,l,p,f,z,a,v⟩:=laidMet.reads c (d:=Rows.laid_redact_policy_signs) (.tail _ (.tail _ (.tail _ (.tail _ (.tail _ (.tail _ (.head _)))))));obtain rfl:g=0:=Option.some.inj (f.symm.trans (by kernel_rfl));obtain rfl:=Option.some.inj (Tryz.gSignsT.symm.trans z);have b:DataW.trod (fun _=>()) prog W 0 (fun _=>true) false l 245 cs.toList=some (.agg [.agg [.lit (.string [42]),.lit (.int .i64 0)],.agg [.lit (.string [42,42]),.lit (.int .i64 1)],.agg [.lit (.string [91,93]),.lit (.int .i64 2)]],p):=v;obtain⟨D,A,q0,w,m⟩:=array_elem underlying245 b 0 (by omega);obtain⟨f1,B,q1,x,n⟩:=array_elem underlying245 b 1 (by omega);obtain⟨E,C,F,y,o⟩:=array_elem underlying245 b 2 (by omega);cases w;cases x;cases y;have i:=qlf m;have j:=qlf n;have k:=qlf o;rw[qiP] at i j k;have s:=(qtW underlying245 b).trans qmE;have u:=six s i j k;unfold World.var? at a;rw[f] at a;simp only[Option.bind_some] at a;split at a
  ·next cs' t fr hh =>
   cases a;refine⟨t,fr,?_⟩;rw[hh];have:cs=[Value.string ⟨[42].toArray⟩,.int .i64 0,.string ⟨[42,42].toArray⟩,.int .i64 1,.string ⟨[91,93].toArray⟩,.int .i64 2].toArray:=by rw[<-u]
   rw[this]
  cases a
 refine utf8Tabs_of_readsT (U8Types.of196 Tryz.lays196) Tryz.x8 ?_ ?_
 ·rw[<-Pinned.utf8First_eq];exact laidMet.reads c (.tail _ (.tail _ (.tail _ (.tail _ (.tail _ (.tail _ (.tail _ (.head _))))))))
 have e:(Rows.laid_unicode_utf8_acceptRanges:DataW Unit)=acceptData:=by kernel_rfl
 have h:=laidMet.reads c (d:=Rows.laid_unicode_utf8_acceptRanges) (.tail _ (.tail _ (.tail _ (.head _))));rw[e] at h;exact h

end
section
open Go.RowKit Go.Lib
theorem qte (W:World)(f:W.cell? ⟨8,15,none⟩=some (.int .u8 4)):Calls prog 204 #[.int .u64 16] W fun e a=>e=.returned (.int .i64 4)/\a=W:=by
 have b:IntKind.u64.wrap (-16)=18446744073709551600:=by kernel_rfl
 have c:bits .and .u64 16 18446744073709551600=16:=by kernel_rfl
 have d:IntKind.u64.wrap (16*285870213051353865)=4573923408821661840:=by kernel_rfl
 go_enter func204,ntmps204;go_wp2;go_ret;exact⟨rfl,rfl⟩
theorem qol (W:World)(b:W.cell? ⟨8,15,none⟩=some (.int .u8 4)):Calls prog 201 #[.int .u64 16] W fun e a=>e=.returned (.int .i64 4)/\a=W:=by
 have c:=qte W b;go_enter func201,ntmps201
 go_wp2_with (first|(go_at_call 204;refine c.mono ?_;rintro e d ⟨rfl,rfl⟩))
 go_ret;exact⟨rfl,rfl⟩
theorem qqr (W:World):Calls prog 200 #[.int .i64 16] W fun e a=>e=.returned (.bool true)/\a=W:=by
 have b:bits .and .i64 16 15=0:=by kernel_rfl
 go_enter func200,ntmps200;go_wp2;go_ret;exact⟨rfl,rfl⟩
def hxL (u:Nat):List UInt8:=if u<16 then [qfU u] else hxL (u / 16)++[qfU (u%16)]
theorem qox (h:u<16):hxL u=[qfU u]:=by rw[hxL,if_pos h]
theorem qs8 (h:¬u<16):hxL u=hxL (u / 16)++[qfU (u%16)]:=by rw[hxL,if_neg h]
theorem qkD:∀(k u:Nat),u<16^(k+1)->(hxL u).length<=k+1
 |0,u,h=>by rw[qox (by simpa using h)];simp
 |k+1,u,h=>by
  by_cases a:u<16
  ·rw[qox a];simp
  rw[qs8 a,List.length_append];have b:u / 16<16^(k+1):=by
   rw[Nat.div_lt_iff_lt_mul (by omega)];rw[Nat.pow_succ] at h;exact h
  have:=qkD k (u / 16) b;simp;omega
structure qqo (W:World)(tl:List UInt8)(V:World):Prop where
 below:Below W.heap.size W V
 arr:V.heap[W.heap.size]? = some (.cells ((List.replicate (65-tl.length) (0:UInt8)++tl).map qav).toArray 314)
 le:tl.length<=65

end
section
open Go.RowKit Go.Shelf
theorem qkG {B:Nat}{a:World}(h:Below B a w)(n:Nat):Below B a (w.drewN n):=h.trans ⟨rfl,rfl,rfl,Nat.le_refl _,fun _ _=>rfl⟩
theorem qdX:(prog.info? 164).map (·.size)=some 3:=by kernel_rfl
theorem qnX (s:ByteArray)(k:s.size<=2000):∃(p r:ByteArray) (b:Bool),p.data.toList=(Lib.cut s.data.toList [32]).1/\r.data.toList=(Lib.cut s.data.toList [32]).2.1/\p.size<=2000/\r.size<=2000 /\
  ∀w,qlZ w->Calls prog 109 #[.string s,.string ⟨#[32]⟩] w fun e d=>e=.returned (.tuple #[.string p,.string r,.bool b])/\Below w.heap.size w d:=by
 have j:s.data.toList.length=s.size:=Array.length_toList;have c:(Lib.cut s.data.toList [32]).1.length<=2000/\(Lib.cut s.data.toList [32]).2.1.length<=2000:=by
  rcases qby 32 s.data.toList with ⟨h,_⟩|⟨a,r,h,f,_⟩
  ·rw[h];simp;omega
  have:=congrArg List.length f;rw[List.length_append,List.length_cons] at this;rw[h];simp;omega
 refine⟨⟨(Lib.cut s.data.toList [32]).1.toArray⟩,⟨(Lib.cut s.data.toList [32]).2.1.toArray⟩,(Lib.cut s.data.toList [32]).2.2,by simp,by simp,c.1,c.2,fun w g => ?_⟩;obtain⟨m,i⟩:=g.mlen;refine(Tryz.strings_Cut s ⟨#[32]⟩ m w (by omega) i).mono ?_;rintro e d ⟨rfl,n,rfl⟩;exact⟨rfl,qkG bwR n⟩
structure qwI (w:World)(W:World):Prop where
 below:Below w.heap.size w W
 res:W.heap[w.heap.size]? = some (.cells qc2 164)
theorem qwI.step (h:qwI w W)(a:Below W.heap.size W W'):qwI w W' :=
 ⟨h.below.trans (a.mono h.below.size),(a.block _ (ltA h.res)).trans h.res⟩
theorem qtf (w:World):qwI w (w.alloc (.cells qc2 164)):=⟨bwA,qac _ _⟩

section
attribute [local go_sem] Oper.semAt_some
structure PgI (w:World)(pre:List Str)(W:World):Prop where
 below:Below w.heap.size w W
 r0:Boxed W w.heap.size 162 (.slice none 0 0)
 r1:Boxed W (w.heap.size+1) 4 (.bool false)
 pat:∃ao cap xs,Boxed W (w.heap.size+2) 162 (.slice ao pre.length cap)/\W.ownsRow (w.heap.size+6) 169 2 (.slice ao pre.length cap) pre.length xs/\Hid (xs=pre.flatMap fun x=>sgC (sgS (lst x)))
 le:pre.length<=8
 all:pre.all (fun x=>qg3 (lst x))=true
 size:w.heap.size+6<=W.heap.size
theorem PgI.own {row:Nat}(h:PgI w pre W)(a:W.grownBy W' (some row))(c:row=w.heap.size+3\/(w.heap.size+6<=row/\∃o,W.heap[row]? = some o/\o.isCells=false)):PgI w pre W':=by
 obtain⟨g,j,q,n,d,p⟩:=h.pat;refine⟨h.below.trans ⟨a.os,a.tape,a.output,a.size,fun i v=>a.block i (by have:=h.size;omega) (by intro e;cases e;omega)⟩,h.r0.kept a (by intro e;cases e;omega),h.r1.kept a (by intro e;cases e;omega),⟨g,j,q,n.kept a (by intro e;cases e;omega),d.kept a ?_,p⟩,h.le,h.all,Nat.le_trans h.size a.size⟩;rcases d.2 with ⟨b,_⟩|⟨k,r,s,b,u,m,_⟩
 ·left;rw[b];rfl
 right;rw[b];intro e;cases e;rcases c with c|⟨_,o,f,l⟩
 ·have t:k=w.heap.size+3:=c;omega
 rw[m] at f;cases f;cases l
theorem PgI.out {post:List Str}(h:PgI w pre W)(a:8<post.length\/post.all (fun x=>qg3 (lst x))=false):qvy w post .ret ((W.setCell ⟨w.heap.size,0,none⟩ (.slice none 0 0)).setCell ⟨w.heap.size+1,0,none⟩ (.bool false)):=by
 have b:=Tr.set w.heap.size (w.heap.size+3) W w.heap.size (.slice none 0 0) (Nat.le_refl _) (by omega);have c:=Tr.set w.heap.size (w.heap.size+3) (W.setCell ⟨w.heap.size,0,none⟩ (.slice none 0 0)) (w.heap.size+1) (.bool false) (by omega) (by omega);refine⟨rfl,h.below.trans (b.trans c).below,?_,?_,a,?_⟩
 ·exact(h.r0.set _).kept (grownBy_setCell' _ _ _) (by intro e;injection e with e;omega)
 ·exact Boxed.set _ (h.r1.kept (grownBy_setCell' _ _ _) (by intro e;injection e with e;omega))
 simp[World.setCell];exact h.size
theorem PgI.alloc (h:PgI w pre W)(o:Obj):PgI w pre (W.alloc o):=h.own (World.grownBy_alloc W o (some (w.heap.size+3))) (.inl rfl)
theorem PgI.belowS (h:PgI w pre W)(a:Below W.heap.size W W'):PgI w pre W' :=
 h.own (row:=w.heap.size+3) ⟨a.os,a.tape,a.output,a.size,fun i b _=>a.block i b⟩ (.inl rfl)
theorem qt7 (w:World)(s:ByteArray)(a:World)(b:((((((w.alloc (.cells #[.slice none 0 0] 162)).alloc (.cells #[.bool false] 4)).alloc (.cells #[.slice none 0 0] 162)).alloc (.cells #[.string s] 9)).alloc (.cells #[.string ⟨#[47]⟩] 9)).alloc (.cells #[.int .i64 0] 3))=a):PgI w [] a:=by
 subst b;refine⟨?_,?_,?_,⟨none,0,[],?_,World.ownsRow_nil _ _ _ _,rfl⟩,Nat.zero_le _,rfl,by simp⟩
 ·exact(((((bwA).alloc (by simp) _).alloc (by simp;omega) _).alloc (by simp;omega) _).alloc (by simp;omega) _).alloc (by simp;omega) _
 ·exact(((((Boxed.new w _ _).alloc _).alloc _).alloc _).alloc _).alloc _
 ·have:=Boxed.new (w.alloc (.cells #[.slice none 0 0] 162)) 4 (.bool false);rw[World.size_alloc] at this;exact(((this.alloc _).alloc _).alloc _).alloc _
 have:=Boxed.new ((w.alloc (.cells #[.slice none 0 0] 162)).alloc (.cells #[.bool false] 4)) 162 (.slice none 0 0);rw[World.size_alloc,World.size_alloc] at this;exact((this.alloc _).alloc _).alloc _
theorem qkv {i:Nat}(hi:i<3)(h:(x.1.toList==sgL i)=true):sgC (sgS (lst x))=[.int .i64 (i:Nat),.string ⟨#[]⟩]:=by
 have e:lst x=sgL i:=by unfold lst;rw[<-Lib.toList_data];exact eq_of_beq h
 rw[e]
 match i,hi with
 |0,_=>rfl
 |1,_=>rfl
 |2,_=>rfl
theorem qwr (h:∀i,i<3->(x.1.toList==sgL i)=false):sgC (sgS (lst x))=[.int .i64 3,.string x.1]:=by
 have e:lst x=x.1.toList:=by unfold lst;rw[<-Lib.toList_data]
 have a:=h 0 (by omega);have b:=h 1 (by omega);have c:=h 2 (by omega);simp only[sgL] at a b c;have d:sgS (lst x)=(3,lst x):=by
  unfold sgS;rw[e,a,b,c];simp
 rw[d];unfold sgC lst;rw[qwF];rfl
def qwf (s:ByteArray)(w:World)(e:Ending)(w':World):Prop :=
 ∃a n cap,e=.returned (.tuple #[.slice a n cap,.bool (qe8 s.data.toList)])/\Below w.heap.size w w'/\(qe8 s.data.toList=true->n=(qiL s.data.toList).length/\qkk w' w.heap.size 169 a (((qiL s.data.toList).map sgS).flatMap sgC))
theorem qtF {s:ByteArray}{hs:s.size<=2000}{xs:List Str}{ao:Option Addr}{cap D:Nat}(m:(s.toList==[46])=false)(h:xs.map lst=qal 47 (lst ⟨s,hs⟩))(p:W.ownsRow (w.heap.size+6) 169 2 (.slice ao xs.length cap) xs.length ys)(r:ys=xs.flatMap fun x=>sgC (sgS (lst x)))(i:W.heap[D]? = some (.deferred (some [])))(k:∀j,w.heap.size+6<=j->V.heap[j]? = W.heap[j]?):xs.length=(qiL s.data.toList).length/\qkk (V.putObj D (.deferred none)) w.heap.size 169 ao (((qiL s.data.toList).map sgS).flatMap sgC):=by
 have q:qiL s.data.toList=xs.map lst:=by
  unfold qiL;rw[<-Lib.toList_data,m,Lib.toList_data];exact h.symm
 obtain⟨y,t,n,l⟩:=quU (lo:=w.heap.size+6) p (Nat.le_refl _);injection n with he1 _ he3;subst he1;rw[q,List.length_map];refine⟨rfl,?_⟩;rw[List.map_map,List.flatMap_map];have e:ys=xs.flatMap fun a=>sgC ((sgS∘lst) a):=r;rw[<-e];refine l.kept fun b u v f c=>⟨by omega,?_⟩
 have o:b≠D:=by
  rintro rfl;rw[i] at c;cases c
 have:=grownBy_putObj' V D (.deferred none);have d:=k b f;rw[this.block b (by have g:=(d.trans c);exact ltA g) (by simpa using o),d];exact c
theorem PgI.push (x:Str)(h:PgI w pre W)(k:Boxed W (w.heap.size+2) 162 v)(i:W.ownsRow (w.heap.size+6) 169 2 v pre.length xs)(c:w5.ownsRow (w.heap.size+6) 169 2 v' (pre.length+1) ys)(a:W.grownBy w5 v.ownBlock)(p:pre.length<8)(m:qg3 (lst x)=true)(n:Hid (xs=pre.flatMap fun x=>sgC (sgS (lst x))))(o:ys=xs++sgC (sgS (lst x))):PgI w (pre++[x]) (w5.setCell ⟨w.heap.size+1+1,0,none⟩ v')/\Tr w.heap.size (w.heap.size+3) W (w5.setCell ⟨w.heap.size+1+1,0,none⟩ v'):=by
 have key:=fun g h=>qbp i (g:=g) h;have d:Tr w.heap.size (w.heap.size+3) W w5:=Tr.grown i a h.size (by omega) (by omega);have f:=Tr.set w.heap.size (w.heap.size+3) w5 (w.heap.size+2) v' (by omega) (by omega);have b:=grownBy_setCell' w5 (w.heap.size+2) v';have l:=k.kept a (fun e=>by have:=key _ e.symm;omega);obtain⟨g,j,rfl⟩:=ownsRow_succ c;refine⟨⟨h.below.trans (d.trans f).below,?_,?_,⟨some ⟨g,0,none⟩,j,ys,?_,?_,?hy⟩,?_,?_,?_⟩,d.trans f⟩
 case hy =>
  show ys=_;rw[o,n.out,List.flatMap_append];simp
 ·exact(h.r0.kept a (fun e=>by have:=key _ e.symm;omega)).kept b (by intro e;injection e with e;omega)
 ·exact(h.r1.kept a (fun e=>by have:=key _ e.symm;omega)).kept b (by intro e;injection e with e;omega)
 ·rw[List.length_append];exact l.set _
 ·rw[List.length_append];refine c.kept b (.inr (fun e => ?_));have:=qbp c e;omega
 ·rw[List.length_append];simp;omega
 ·rw[List.all_append,h.all];simp[m]
 exact Nat.le_trans h.size (d.trans f).below.size
theorem qlP (h:PgI w pre V)(b:Tr w.heap.size (w.heap.size+3) W V)(g:Boxed V (w.heap.size+2) 162 v)(e:V.ownsRow (w.heap.size+6) 169 2 v pre.length xs)(f:w5.ownsRow (w.heap.size+6) 169 2 v' (pre.length+1) ys)(d:V.grownBy w5 v.ownBlock)(l:¬(pre.length:Int)=8)(i:qg3 (lst x)=true)(j:Hid (xs=pre.flatMap fun x=>sgC (sgS (lst x))))(k:ys=xs++sgC (sgS (lst x))):KeepsOthers W (w5.setCell ⟨w.heap.size+1+1,0,none⟩ v')/\qc0 (w.heap.size+3) (w.heap.size+3+3) W (w5.setCell ⟨w.heap.size+1+1,0,none⟩ v')/\PgI w (pre++[x]) (w5.setCell ⟨w.heap.size+1+1,0,none⟩ v'):=by
 obtain⟨c,a⟩:=h.push x g e f d (by have:=h.le;omega) i j k;exact⟨(b.trans a).keep,(b.trans a).mid,c⟩
theorem qfN (s:ByteArray)(w:World)(hs:s.size<=2000)(bd:qlZ w):Calls prog 110 #[.string s] w fun e w'=>qwf s w e w':=by
 obtain⟨i0,hi,af,ag,ah⟩:=info_parts Tryz.infoSeg;cases hd:(s.toList==[46])
 ·have HG:=qaa bd;have HD:=qaa hd;refine(callsIn_wide (n:=10)).1 ?_;refine callsIn_of_wp_marks func110 rfl trivial ?_ rfl;simp only[ntmps110,List.size_toArray,List.length_cons,List.length_nil,Nat.reduceAdd,Nat.reduceSub,Array.replicate_succ,Array.replicate_zero,List.push_toArray,List.append_toArray,List.nil_append,List.cons_append]
  gi_wp2
  refine wpIn_wide.2 (wp_scope_straight ((wpIn_wide (n:=10)).1 ?_))
  gi_wp2_with fail
  refine wpIn_label ?_
  gi_wp2_with fail
  refine⟨trivial,(callsIn_wide.2 (qeR s ⟨#[47]⟩ _)).mono ?_⟩;rintro e w' ⟨rfl,rfl⟩;simp only[World.size_alloc]
  gi_wp2
  obtain⟨Q,ae⟩:∃Q,((((((w.alloc (.cells #[.slice none 0 0] 162)).alloc (.cells #[.bool false] 4)).alloc (.cells #[.slice none 0 0] 162)).alloc (.cells #[.string s] 9)).alloc (.cells #[.string ⟨#[47]⟩] 9)).alloc (.cells #[.int .i64 0] 3))=Q:=⟨_,rfl⟩
  have bo:Q.heap.size=w.heap.size+6:=by rw[<-ae];simp
  have bc:=qt7 w s Q ae;have ba:=qqU w s Q ae;rw[ae];refine qc6 rfl (by omega) (gf:=131) (lb:=#[.pointer (some ⟨w.heap.size+1+1+1+1,0,none⟩),.pointer (some ⟨w.heap.size+1+1+1,0,none⟩),.pointer (some ⟨w.heap.size+1+1+1+1+1,0,none⟩)]) rfl trivial (enters_of func131 (by kernel_rfl) rfl)
   (st:=w.heap.size+3) (by omega) (lo:=w.heap.size+3) (hi:=w.heap.size+3+3) (by omega) (qiV 9 (w.heap.size+3) 47 ⟨s,hs⟩ Q ba) bwR (fun x=>rfl)
   (fun pre W=>PgI w pre W) (fun ab pre W=>qvy w pre ab W)
   (fun pre A a1 h M=>h.own M (.inl rfl)) (fun ab pre A a1 h M=>h.own M (by omega))
   (fun pre A ar o o' h hB hk hc=>h.own (grownBy_putObj' A ar o') (.inr ⟨by omega,o,hk,hc⟩)) (fun ab pre A ar o o' h hB hk hc=>h.own (grownBy_putObj' A ar o') (by omega))
   bc
   (fun x=>{tmps:=#[.string s,undef,.pointer (some ⟨w.heap.size,0,none⟩),.pointer (some ⟨w.heap.size+1,0,none⟩),.pointer (some ⟨w.heap.size+1+1,0,none⟩),.string x.1,undef,undef,.string s,.bool false,.string s,.func (.func 131) #[] #[.pointer (some ⟨w.heap.size+1+1+1+1,0,none⟩),.pointer (some ⟨w.heap.size+1+1+1,0,none⟩),.pointer (some ⟨w.heap.size+1+1+1+1+1,0,none⟩)],.string x.1,undef,undef,undef,undef,undef,undef,undef,undef,undef,undef,undef,undef,undef,undef,undef,undef,undef,undef,undef,undef,undef,undef,undef,undef,undef,undef,undef,undef],defers:=[]}) ?assign ?body ?done ?stop
  case assign =>
   intro aa x W K a
   gi_wp2
   exact a
  case body =>
   intro aa pre x W f bm;have d:=qaa f;obtain⟨m,q,G,S,ho,a7⟩:=f.pat;have bl:=f.le;have R:W.cell? ⟨w.heap.size+1+1,0,none⟩=some (.slice m pre.length q):=S.cell;have c2:=f.r0.cell;have f2:=f.r0.frozen;have c3:=f.r1.cell;have f3:=f.r1.frozen;by_cases c:(pre.length:Int)=8
   ·clear f S ho a7
    gi_wp2
    exact⟨(qsj w W).keep,d.out.out (.inl (by rw[List.length_append];simp;omega))⟩
   have bk:=beq_eq_false_iff_ne.2 c;obtain⟨bw,fr,T⟩:=(HG.out.below f.below).signs;have s0:=qab T 0;have s1:=qab T 1;have s2:=qab T 2;have s3:=qab T 3;have s4:=qab T 4;have s5:=qab T 5
   gi_wp2
   gi_loopg [17] 4 (fun g ai wr=>∃j:Nat,Hid (j+g=4)/\((j=0/\ai=.int .i64 0)\/(j=1/\ai=.int .i64 1)\/(j=2/\ai=.int .i64 2)\/(j=3/\ai=.int .i64 3))/\Hid (PgI w pre wr)/\Hid (Tr w.heap.size (w.heap.size+3) W wr)/\Hid (∀i,i<j->(x.1.toList==sgL i)=false))
   case atStart=>exact⟨0,rfl,.inl ⟨rfl,rfl⟩,d,Tr.refl _ _ _,fun i hi=>by omega⟩
   case round =>
    obtain⟨j,hj,be,d,N,Z⟩:=hrel;have bs:=fun V=>qsP V;have bt:=fun V=>qud V;have bu:=fun V=>qt3 V;obtain⟨r,t,bx,az,bf,al⟩:=d.out.pat;have P:=qaa az;have u:=qaa bf;have R:wr.cell? ⟨w.heap.size+1+1,0,none⟩=some (.slice r pre.length t):=az.cell;have bp:=d.out.size;have bj:∀o,(wr.alloc o).cell? ⟨w.heap.size+1+1,0,none⟩=some (.slice r pre.length t):=fun o=>(World.cell?_alloc_some wr _ o (by rw[R];rfl)).trans R;rcases be with ⟨rfl,rfl⟩|⟨rfl,rfl⟩|⟨rfl,rfl⟩|⟨rfl,rfl⟩
    ·cases b:(x.1.toList==[42])
     ·have Y:Hid (∀i,i<1->(x.1.toList==sgL i)=false):=fun i hi=>by
       rcases Nat.lt_succ_iff_lt_or_eq.1 hi with h|rfl
       ·exact Z.out i h
       exact b
      gi_wp2
      gi_roundg 3
      case measure=>have:=hj.out;omega
      case rel=>exact⟨1,rfl,.inr (.inl ⟨rfl,by go_num⟩),d.out.alloc _,N.out.trans (Tr.alloc _ _ _ _ (by omega) (by omega)),Y⟩
     gi_wp2_with (first
      |(gi_at_builtin;refine wpListIn_append_own _ rfl _ _ 162 rfl (w.heap.size+6) 169 i0 (.agg #[.int .i64 0,.string ByteArray.empty]) 2 24 underlying162 hi af ag ah rfl (by decide) _ _ _ rfl ((u.out.alloc _).alloc _) ⟨wr.heap.size+1,0,none⟩ 1 1 [.int .i64 0,.string ⟨#[]⟩] rfl rfl (qbP _ _ _ _) (fun x b=>by simp at b;rcases b with rfl|rfl<;>rfl) (by unfold maxLen;omega) (by omega) (by simp;omega) ?_;intro v' F z v ay;obtain⟨g5,an,rfl⟩:=ownsRow_succ z;have C:=((P.out.alloc _).alloc _).kept v (fun e=>by have:=qbp u.out e.symm;omega);have c5:F.cell? ⟨w.heap.size+1+1,0,none⟩=some (.slice r pre.length t):=C.cell;have f5:F.frozen? ⟨w.heap.size+1+1,0,none⟩=false:=C.frozen))
     exact qlP ((d.out.alloc _).alloc _) ((N.out.trans (Tr.alloc _ _ _ _ (by omega) (by omega))).trans (Tr.alloc _ _ _ _ (by simp;omega) (by simp;omega))) ((P.out.alloc _).alloc _) ((u.out.alloc _).alloc _) z v c (qih (i:=0) b) al (by rw[qkv (i:=0) (by omega) b];rfl)
    ·cases b:(x.1.toList==[42,42])
     ·have Y:Hid (∀i,i<2->(x.1.toList==sgL i)=false):=fun i hi=>by
       rcases Nat.lt_succ_iff_lt_or_eq.1 hi with h|rfl
       ·exact Z.out i h
       exact b
      gi_wp2
      gi_roundg 2
      case measure=>have:=hj.out;omega
      case rel=>exact⟨2,rfl,.inr (.inr (.inl ⟨rfl,by go_num⟩)),d.out.alloc _,N.out.trans (Tr.alloc _ _ _ _ (by omega) (by omega)),Y⟩
     gi_wp2_with (first
      |(gi_at_builtin;refine wpListIn_append_own _ rfl _ _ 162 rfl (w.heap.size+6) 169 i0 (.agg #[.int .i64 0,.string ByteArray.empty]) 2 24 underlying162 hi af ag ah rfl (by decide) _ _ _ rfl ((u.out.alloc _).alloc _) ⟨wr.heap.size+1,0,none⟩ 1 1 [.int .i64 1,.string ⟨#[]⟩] rfl rfl (qbP _ _ _ _) (fun x b=>by simp at b;rcases b with rfl|rfl<;>rfl) (by unfold maxLen;omega) (by omega) (by simp;omega) ?_;intro v' F z v ay;obtain⟨g5,an,rfl⟩:=ownsRow_succ z;have C:=((P.out.alloc _).alloc _).kept v (fun e=>by have:=qbp u.out e.symm;omega);have c5:F.cell? ⟨w.heap.size+1+1,0,none⟩=some (.slice r pre.length t):=C.cell;have f5:F.frozen? ⟨w.heap.size+1+1,0,none⟩=false:=C.frozen))
     exact qlP ((d.out.alloc _).alloc _) ((N.out.trans (Tr.alloc _ _ _ _ (by omega) (by omega))).trans (Tr.alloc _ _ _ _ (by simp;omega) (by simp;omega))) ((P.out.alloc _).alloc _) ((u.out.alloc _).alloc _) z v c (qih (i:=1) b) al (by rw[qkv (i:=1) (by omega) b];rfl)
    ·cases b:(x.1.toList==[91,93])
     ·have Y:Hid (∀i,i<3->(x.1.toList==sgL i)=false):=fun i hi=>by
       rcases Nat.lt_succ_iff_lt_or_eq.1 hi with h|rfl
       ·exact Z.out i h
       exact b
      gi_wp2
      gi_roundg 1
      case measure=>have:=hj.out;omega
      case rel=>exact⟨3,rfl,.inr (.inr (.inr ⟨rfl,by go_num⟩)),d.out.alloc _,N.out.trans (Tr.alloc _ _ _ _ (by omega) (by omega)),Y⟩
     gi_wp2_with (first
      |(gi_at_builtin;refine wpListIn_append_own _ rfl _ _ 162 rfl (w.heap.size+6) 169 i0 (.agg #[.int .i64 0,.string ByteArray.empty]) 2 24 underlying162 hi af ag ah rfl (by decide) _ _ _ rfl ((u.out.alloc _).alloc _) ⟨wr.heap.size+1,0,none⟩ 1 1 [.int .i64 2,.string ⟨#[]⟩] rfl rfl (qbP _ _ _ _) (fun x b=>by simp at b;rcases b with rfl|rfl<;>rfl) (by unfold maxLen;omega) (by omega) (by simp;omega) ?_;intro v' F z v ay;obtain⟨g5,an,rfl⟩:=ownsRow_succ z;have C:=((P.out.alloc _).alloc _).kept v (fun e=>by have:=qbp u.out e.symm;omega);have c5:F.cell? ⟨w.heap.size+1+1,0,none⟩=some (.slice r pre.length t):=C.cell;have f5:F.frozen? ⟨w.heap.size+1+1,0,none⟩=false:=C.frozen))
     exact qlP ((d.out.alloc _).alloc _) ((N.out.trans (Tr.alloc _ _ _ _ (by omega) (by omega))).trans (Tr.alloc _ _ _ _ (by simp;omega) (by simp;omega))) ((P.out.alloc _).alloc _) ((u.out.alloc _).alloc _) z v c (qih (i:=2) b) al (by rw[qkv (i:=2) (by omega) b];rfl)
    have cL:=qh7 x.1 wr x.2 (HG.out.below d.out.below)
    gi_wp2_with fail
    refine⟨trivial,((callsIn_wide.2 cL).inRound aa).mono ?_⟩;rintro e E ⟨rfl,hB⟩;simp only[];have I:=qaa (d.out.belowS hB);have aw:=qaa (N.out.trans (Tr.below' hB (by omega) (by omega)));have bq:=I.out.size;obtain⟨J,L,bh,a0,bg,a6⟩:=I.out.pat;have a3:=qaa a0;have aj:=qaa bg;have R:E.cell? ⟨w.heap.size+1+1,0,none⟩=some (.slice J pre.length L):=a0.cell;have c2:=I.out.r0.cell;have f2:=I.out.r0.frozen;have c3:=I.out.r1.cell;have f3:=I.out.r1.frozen;have aq:=qtx Z.out;have a2:=qaa (qwr Z.out);cases ax:qgw x.1.data.toList
    ·have HX:Hid ((pre++[x]).all (fun x=>qg3 (lst x))=false):=by show _=_;rw[List.all_append];simp[aq,ax]
     gi_wp2
     exact⟨(aw.out.trans (qsj w E)).keep,I.out.out (.inr HX.out)⟩
    rw[ax] at aq;have a4:=qaa aq
    gi_wp2_with fail
    refine wpIn_region_any (by kernel_rfl) ?_;have X:Hid (∀V,Calls prog 136 #[.string x.1] V fun e V'=>e=.returned (.string x.1)/\Below V.heap.size V V'):=fun V=>qn1 x.1 V (by have:=x.2;omega);have ap:w.heap.size+1+1<E.heap.size:=by omega
    have am:(World.drew E).cell? ⟨w.heap.size+1+1,0,none⟩=some (.slice J pre.length L):=R;change wpAnyIn _ _ _ _ _ _ _ _ _ (World.drew E);refine qns #[true,true,true,true,true,false,false] 2 (fun V=>[(34,.slice J pre.length L),(35,.string x.1),(36,.string x.1),(37,.agg #[.int .i64 3,.string x.1]),(38,.slice (some ⟨V.heap.size,0,none⟩) 1 1)]) (fun V=>Below (World.drew E).heap.size (World.drew E) V) (fun V=>V.alloc (.cells #[.int .i64 3,.string x.1] 169)) (fun l => ?reg) ?tail
    case tail =>
     intro V bb;have ad:Below E.heap.size E V:=(((Below.refl _ E).drew).trans bb)
     have au:=qaa (I.out.belowS ad);have a5:=qaa (aw.out.trans (Tr.below' ad (by omega) (by omega)));have br:=au.out.size;have bn:∀g,(Value.slice J pre.length L).ownBlock=some g->g<E.heap.size:=fun g M=>by
      rcases aj.out.2 with ⟨O,_⟩|⟨g',_,_,O,_,hh,_⟩
      ·rw[O] at M;cases M
      rw[O] at M;cases M;exact ltA hh
     have av:Hid (Boxed V (w.heap.size+2) 162 (.slice J pre.length L)):=(ad.block _ (by omega)).trans a3.out;have ak:Hid (V.ownsRow (w.heap.size+6) 169 2 (.slice J pre.length L) pre.length bh):=by
      refine⟨aj.out.1,?_⟩;rcases aj.out.2 with O|⟨g',cp,a9,O,h1,hh,h2⟩
      ·exact .inl O
      exact .inr ⟨g',cp,a9,O,h1,(ad.block g' (ltA hh)).trans hh,h2⟩
     simp only[List.foldl];refine wpAnyIn_ready (rs:=[5]) (by kernel_rfl) (by simp) ?_;refine AllReadyIn.cons rfl (fun K a => ?_) AllReadyIn.nil;rw[if_pos (by rfl)];refine qgp _ _ 162 rfl (w.heap.size+6) 169 i0 (.agg #[.int .i64 0,.string ByteArray.empty]) 2 24 underlying162 hi af ag ah rfl (by decide) _ _ _ rfl (ak.out.alloc _) ⟨V.heap.size,0,none⟩ 1 1 [.int .i64 3,.string x.1] rfl rfl (qhU _ _ _) (fun x b=>by simp at b;rcases b with rfl|rfl<;>rfl) (by unfold maxLen;omega) (by omega) (by simp;omega) ?_;intro v' F z v;obtain⟨g5,an,rfl⟩:=ownsRow_succ z;have C:=(av.out.alloc _).kept v (fun e=>by have:=qbp ak.out e.symm;omega);have c5:F.cell? ⟨w.heap.size+1+1,0,none⟩=some (.slice J pre.length L):=C.cell;have f5:F.frozen? ⟨w.heap.size+1+1,0,none⟩=false:=C.frozen;refine a _ _ ?_;refine wpAnyIn_ready (rs:=[6]) (by kernel_rfl) (by simp) ?_;refine AllReadyIn.cons rfl (fun K a => ?_) AllReadyIn.nil;go_simp;refine a _ _ ?_;refine wpAnyIn_done (by kernel_rfl) ?_ _
     gi_wp2
     exact qlP (au.out.alloc _) (a5.out.trans (Tr.alloc _ _ _ _ (by omega) (by omega))) (av.out.alloc _) (ak.out.alloc _) z v c a4.out a6 (by rw[a2.out])
    case reg =>
     refine wpAnyIn_ready (rs:=[0,1]) (by kernel_rfl) (by simp) ?_;refine AllReadyIn.cons rfl (fun K a => ?_) (AllReadyIn.cons rfl (fun K a => ?_) AllReadyIn.nil)
     ·go_simp;refine a _ _ ?_;refine wpAnyIn_ready (rs:=[1]) (by kernel_rfl) (by simp) ?_;refine AllReadyIn.cons rfl (fun K a => ?_) AllReadyIn.nil;go_simp;refine a _ _ ?_;refine wpAnyIn_ready (rs:=[2]) (by kernel_rfl) (by simp) ?_;refine AllReadyIn.cons rfl (fun K a => ?_) AllReadyIn.nil;go_simp;refine⟨trivial,((callsIn_wide.2 (X.out _)).inRound aa).mono ?_⟩;rintro e w3 ⟨rfl,H⟩;simp only[];have ac:=(H.cell (p:=⟨w.heap.size+1+1,0,none⟩) ap).trans am;refine a _ _ ?_;refine wpAnyIn_ready (rs:=[3]) (by kernel_rfl) (by simp) ?_;refine AllReadyIn.cons rfl (fun K a => ?_) AllReadyIn.nil;go_simp;refine a _ _ ?_;refine wpAnyIn_ready (rs:=[4]) (by kernel_rfl) (by simp) ?_;refine AllReadyIn.cons rfl (fun K a => ?_) AllReadyIn.nil;go_simp;refine a _ _ ?_;exact l _ H
     go_simp;refine a _ _ ?_;refine wpAnyIn_ready (rs:=[0,2]) (by kernel_rfl) (by simp) ?_;refine AllReadyIn.cons rfl (fun K a => ?_) (AllReadyIn.cons rfl (fun K a => ?_) AllReadyIn.nil)
     ·go_simp;refine a _ _ ?_;refine wpAnyIn_ready (rs:=[2]) (by kernel_rfl) (by simp) ?_;refine AllReadyIn.cons rfl (fun K a => ?_) AllReadyIn.nil;go_simp;refine⟨trivial,((callsIn_wide.2 (X.out _)).inRound aa).mono ?_⟩;rintro e w3 ⟨rfl,H⟩;simp only[];have ac:=(H.cell (p:=⟨w.heap.size+1+1,0,none⟩) ap).trans am;refine a _ _ ?_;refine wpAnyIn_ready (rs:=[3]) (by kernel_rfl) (by simp) ?_;refine AllReadyIn.cons rfl (fun K a => ?_) AllReadyIn.nil;go_simp;refine a _ _ ?_;refine wpAnyIn_ready (rs:=[4]) (by kernel_rfl) (by simp) ?_;refine AllReadyIn.cons rfl (fun K a => ?_) AllReadyIn.nil;go_simp;refine a _ _ ?_;exact l _ H
     go_simp;refine⟨trivial,((callsIn_wide.2 (X.out _)).inRound aa).mono ?_⟩;rintro e w3 ⟨rfl,H⟩;simp only[];have ac:=(H.cell (p:=⟨w.heap.size+1+1,0,none⟩) ap).trans am;refine a _ _ ?_;refine wpAnyIn_ready (rs:=[0,3]) (by kernel_rfl) (by simp) ?_;refine AllReadyIn.cons rfl (fun K a => ?_) (AllReadyIn.cons rfl (fun K a => ?_) AllReadyIn.nil)
     ·go_simp;refine a _ _ ?_;refine wpAnyIn_ready (rs:=[3]) (by kernel_rfl) (by simp) ?_;refine AllReadyIn.cons rfl (fun K a => ?_) AllReadyIn.nil;go_simp;refine a _ _ ?_;refine wpAnyIn_ready (rs:=[4]) (by kernel_rfl) (by simp) ?_;refine AllReadyIn.cons rfl (fun K a => ?_) AllReadyIn.nil;go_simp;refine a _ _ ?_;exact l _ H
     go_simp;refine a _ _ ?_;refine wpAnyIn_ready (rs:=[0,4]) (by kernel_rfl) (by simp) ?_;refine AllReadyIn.cons rfl (fun K a => ?_) (AllReadyIn.cons rfl (fun K a => ?_) AllReadyIn.nil)
     ·go_simp;refine a _ _ ?_;refine wpAnyIn_ready (rs:=[4]) (by kernel_rfl) (by simp) ?_;refine AllReadyIn.cons rfl (fun K a => ?_) AllReadyIn.nil;go_simp;refine a _ _ ?_;exact l _ H
     go_simp;refine a _ _ ?_;refine wpAnyIn_ready (rs:=[0]) (by kernel_rfl) (by simp) ?_;refine AllReadyIn.cons rfl (fun K a => ?_) AllReadyIn.nil;have bi:(w3.alloc (.cells #[.int .i64 3,.string x.1] 169)).cell? ⟨w.heap.size+1+1,0,none⟩=some (.slice J pre.length L):=(World.cell?_alloc_some w3 _ _ (by rw[ac];rfl)).trans ac;go_simp;refine a _ _ ?_;exact l _ H
  case done =>
   intro D G W hD hS f a;obtain⟨m,q,ys,S,ho,a8⟩:=f.pat;have u:=qaa ho;have d:=qaa f;have HS:=qaa hS;have HK:=qaa a;have R:W.cell? ⟨w.heap.size+1+1,0,none⟩=some (.slice m G.length q):=S.cell;have c2:=f.r0.cell;have f2:=f.r0.frozen;have c3:=f.r1.cell;have f3:=f.r1.frozen
   gi_wp2
   refine qbU ?_;have U:=qtY HD.out HS.out d.out.le d.out.all;have t1:=Tr.set w.heap.size (w.heap.size+3) W w.heap.size (.slice m G.length q) (Nat.le_refl _) (by omega);have t2:=Tr.set w.heap.size (w.heap.size+3) (W.setCell ⟨w.heap.size,0,none⟩ (.slice m G.length q)) (w.heap.size+1) (.bool true) (by omega) (by omega);have b0:Boxed ((W.setCell ⟨w.heap.size,0,none⟩ (.slice m G.length q)).setCell ⟨w.heap.size+1,0,none⟩ (.bool true)) w.heap.size 162 (.slice m G.length q):=(d.out.r0.set _).kept (grownBy_setCell' _ _ _) (by intro e;injection e with e;omega);have b1:Boxed ((W.setCell ⟨w.heap.size,0,none⟩ (.slice m G.length q)).setCell ⟨w.heap.size+1,0,none⟩ (.bool true)) (w.heap.size+1) 4 (.bool true):=Boxed.set _ (d.out.r1.kept (grownBy_setCell' _ _ _) (by intro e;injection e with e;omega));have hb:=d.out.below.trans (t1.trans t2).below;have a:=(t1.trans t2).keep.same D _ HK.out rfl;have X:Hid (∀j,w.heap.size+6<=j->((W.setCell ⟨w.heap.size,0,none⟩ (.slice m G.length q)).setCell ⟨w.heap.size+1,0,none⟩ (.bool true)).heap[j]? = W.heap[j]?):=fun j hj=>(Below.heap_setCell _ _ _ _ (by simp;omega)).trans (Below.heap_setCell _ _ _ _ (by simp;omega));generalize (W.setCell ⟨w.heap.size,0,none⟩ (.slice m G.length q)).setCell ⟨w.heap.size+1,0,none⟩ (.bool true)=V at *;refine⟨by simp,.inl ⟨D,_,rfl,run_takeDeferred a,?_⟩⟩;have B:=(b0.kept (grownBy_putObj' V D (.deferred none)) (by intro e;injection e with e;omega)).cell;have k:=(b1.kept (grownBy_putObj' V D (.deferred none)) (by intro e;injection e with e;omega)).cell;refine⟨.tuple #[.slice m G.length q,.bool true],?_,⟨m,G.length,q,by rw[U],qbs hb (by omega) _,fun _ => ?_⟩⟩
   ·simp[results,f110,go_sem,B,k]
   exact qtF HD.out HS.out u.out a8.out HK.out X.out
  case stop =>
   intro D ab pre W hD hS y a;obtain rfl:=y.ret
   gi_wp2
   refine qbU ?_;have U:qe8 s.data.toList=false:=by
    obtain⟨bv,hr⟩:=hS;exact qwp HD.out hr y.bad
   refine⟨by simp,.inl ⟨D,_,rfl,run_takeDeferred a,?_⟩⟩;have B:=(y.r0.kept (grownBy_putObj' W D (.deferred none)) (by intro e;injection e with e;omega)).cell;have k:=(y.r1.kept (grownBy_putObj' W D (.deferred none)) (by intro e;injection e with e;omega)).cell;refine⟨.tuple #[.slice none 0 0,.bool false],?_,⟨none,0,0,by rw[U],qbs y.below (by omega) _,fun e=>by rw[U] at e;cases e⟩⟩;simp[results,f110,go_sem,B,k]
 have U:qe8 s.data.toList=true:=by unfold qe8;rw[<-Lib.toList_data,hd];rfl
 have HY:=qaa U;refine(callsIn_wide (n:=10)).1 ?_;refine callsIn_of_wp_marks func110 rfl trivial ?_ rfl;simp only[ntmps110,List.size_toArray,List.length_cons,List.length_nil,Nat.reduceAdd,Nat.reduceSub,Array.replicate_succ,Array.replicate_zero,List.push_toArray,List.append_toArray,List.nil_append,List.cons_append]
 gi_wp2
 refine wpIn_wide.2 (wp_scope_straight ((wpIn_wide (n:=10)).1 ?_))
 gi_wp2
 repeat (first|refine qf1 ?_|refine qbU ?_)
 have B:((w.alloc (.cells #[.slice none 0 0] 162)).alloc (.cells #[.bool true] 4)).cell? ⟨w.heap.size,0,none⟩=some (.slice none 0 0):=((Boxed.new w 162 (.slice none 0 0)).alloc _).cell;have k:((w.alloc (.cells #[.slice none 0 0] 162)).alloc (.cells #[.bool true] 4)).cell? ⟨w.heap.size+1,0,none⟩=some (.bool true):=by
  have:=(Boxed.new (w.alloc (.cells #[.slice none 0 0] 162)) 4 (.bool true)).cell;rwa [World.size_alloc] at this
 refine⟨.tuple #[.slice none 0 0,.bool true],?_,⟨none,0,0,by rw[HY.out],?_,fun _ => ?_⟩⟩
 ·simp[results,f110,go_sem,B,k]
 ·exact(bwA).alloc (by simp) _
 have S:qiL s.data.toList=[]:=by unfold qiL;rw[<-Lib.toList_data,hd];rfl
 rw[S];exact⟨rfl,.inl rfl⟩
end

end
end Go.Proofs.YtcokgepdckkjdaaGreatDoor
