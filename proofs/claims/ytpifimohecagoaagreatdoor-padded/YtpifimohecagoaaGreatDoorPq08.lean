import Derived.ProofKit
import Derived.OpenShut
import Derived.Deep.Slices
import Derived.SizedLaws
import Derived.Lib.LaidU8T
import Derived.PinnedBridge
import Derived.Defers
import Derived.Test.YtpifimohecagoaaGreatDoorPq07
import Derived.Test.YtpifimohecagoaaGreatDoorPq04
set_option maxRecDepth 100000
set_option maxHeartbeats 8000000
namespace Go.Proofs.YtpifimohecagoaaGreatDoor
open Go.Proofs.Tryz
variable{V V' W W' w:World}{a:Act}{fv v v':Value}{b base e fuel g n p so:Nat}{cs:List Value}{sp:Nat->Bool}{P:Program}{c:Cfg}{acc bs:List UInt8}{s:Src}{fn:Func}{R:Ending->World->Prop}{F G:Nat->Prop}{ops:Array Oper}{o:Oper}{Q:Exit->Act->World->Prop}{m m':Nat->Nat->Bool}{S:World->Prop}
section
open Go.RowKit Go.Deep
theorem qdw:prog.cellsOf 3=1:=by kernel_rfl
theorem qmR:prog.cellsOf 9=1:=by kernel_rfl
theorem quT:prog.cellsOf 22=1:=by kernel_rfl
theorem qwa:prog.cellsOf 23=1:=by kernel_rfl
theorem qs2:prog.cellsOf 25=11:=by kernel_rfl
theorem qqW:prog.cellsOf 40=2:=by kernel_rfl
theorem qp5:prog.bytesOf 40=16:=by kernel_rfl
theorem qsC:prog.bytesOf 3=8:=by kernel_rfl
theorem qkd{a:Addr}(h:w.cell? (a.add 0)=some v):∃b off,a=⟨b,off,none⟩/\b<w.heap.size:=by
 obtain⟨b,off,d⟩:=a;have c:d=none:=by simpa[Addr.add]using World.cell?_spot h
 subst c;rw[qdg]at h;exact⟨b,off,rfl,block_lt_of_cell h⟩
theorem qtL{α:Type}{l:List α}(h:l.length=2):∃a b,l=[a,b]:=by
 match l,h with
 |[a,b],_=>exact⟨a,b,rfl⟩
section
variable{H:Type} {enc:TypeId×Value->H} {w:World}
theorem qvD{x:DataW H×List MemPlace}(h:DataW.trod enc prog w 0 (λ_=>true) true fuel 23 [v]=some x)(l:(x.1.weights prog 23).all (·<=reachBytes)=true):∃(a:Option Addr) (d:Nat) (B:List Int),v=.slice a B.length d/\qcR w a B/\(a=none->B.length=0/\d=0)/\(B.length+8)*8<=281474976710656:=by
 rcases open_slice1 underlying23 qdw h with⟨f,_⟩|⟨a,len,d,m,n,V,D,y,f,_,F,G,t,rfl,g⟩
 ·cases f;exact⟨none,0,[],rfl,⟨λi c=>by simp at c⟩,λ_=>⟨rfl,rfl⟩,by decide⟩
 cases f;have s:m=d:=by rw[t];rfl
 subst s;have A:m*8<=reachBytes:=by
  rw[List.all_eq_true]at l;have:=l (((List.range len).map D).length+((List.range (m-len)).map λj=>D (len+j)).length |>.mul (prog.bytesOf 3)) (by
   simp only[DataW.weights,underlying23];exact List.mem_cons_self ..)
  rw[qsC]at this;simp at this;have e:len+(m-len)=m:=by omega
  have o:(len+(m-len))*8<=reachBytes:=by simpa using this
  rwa[e]at o
 have k:∀i,i<m->∃z:Int,V i=.int .i64 z:=λi c=>by
  obtain⟨z,k,_⟩:=DataW.trod_int underlying3 (g i c).2;exact⟨z,by simpa using k⟩
 obtain⟨Z,p⟩:=choose_lt k;refine⟨some a,m,(List.range len).map Z,by simp,⟨λi c=>?_⟩,λu=>(by cases u),?_⟩
 ·have C:i<len:=by simpa using c
  obtain⟨b,off,rfl,r⟩:=qkd (g 0 (by omega)).1;refine⟨b,off,rfl,r,λj q=>?_⟩;have E:j<len:=by simpa using q
  have:=(g j (by omega)).1;rw[qdg]at this;rw[this,p j (by omega)];simp
 have:reachBytes=140737488351232:=rfl;simp;omega
theorem qod{xs:List (DataW H×List MemPlace)}{fs:Array Field}(c:∀(i:Nat) (f:Field),fs[i]?=some f->DataW.trod enc prog w 0 (λ_=>true) true n f.type ((cs.drop f.offset).take (prog.cellsOf f.type))=xs[i]?)(i:Nat){f:Field}(h:fs[i]?=some f)(t:TypeId)(o:Nat)(k:f.type=t)(j:f.offset=o)(b:prog.cellsOf t=1)(a:cs[o]?=some v){y:DataW H×List MemPlace}(l:xs[i]?=some y):DataW.trod enc prog w 0 (λ_=>true) true n t [v]=some y:=by
 subst k j;have g:=c i f h;rw[b,l]at g;have e:(cs.drop f.offset).take 1=[v]:=by
  rw[List.getElem?_eq_some_iff]at a;obtain⟨d,rfl⟩:=a;rw[List.drop_eq_getElem_cons d];rfl
 rwa[e]at g
theorem qs5{x:DataW H×List MemPlace}(h:DataW.trod enc prog w 0 (λ_=>true) true fuel 22 [v]=some x)(y:(x.1.weights prog 22).all (·<=reachBytes)=true):∃(a:Option Addr) (d:Nat) (L:List (Int×Int)),v=.slice a L.length d/\qba w a L/\(a=none->L.length=0/\d=0)/\(L.length+8)*16<=281474976710656:=by
 rcases open_slice underlying22 h with⟨k,_⟩|⟨a,len,d,m,n,D,U,k,_,X,Y,J,rfl,M⟩
 ·cases k;exact⟨none,0,[],rfl,⟨λi c=>by simp at c⟩,λ_=>⟨rfl,rfl⟩,by decide⟩
 cases k;have I:m=d:=by rw[J];rfl
 subst I;have V:m*16<=reachBytes:=by
  rw[List.all_eq_true]at y;have:=y (((List.range len).map D).length+((List.range (m-len)).map λj=>D (len+j)).length |>.mul (prog.bytesOf 40)) (by
   simp only[DataW.weights,underlying22];exact List.mem_cons_self ..)
  rw[qp5]at this;simp at this;have e:len+(m-len)=m:=by omega
  have f:(len+(m-len))*16<=reachBytes:=by simpa using this
  rwa[e]at f
 have P:∀i,i<m->∃z:Int×Int,w.cell? (a.add (i*2))=some (.int .i64 z.1)/\w.cell? ((a.add (i*2)).add 1)=some (.int .i64 z.2):=λi c=>by
  obtain⟨E,r,f⟩:=M i c;rw[qqW]at r;obtain⟨_,F,t⟩:=World.cells?_some r;obtain⟨A,n',_,_,_,N,u⟩:=DataW.trod_struct underlying40 f;obtain⟨l,o,rfl⟩:∃l o,E=[l,o]:=by
   exact qtL F
  obtain⟨B,C,rfl⟩:∃B C,A=[B,C]:=by
   have O:A.length=2:=N;exact qtL O
  ·have Q:=qod u 0 rfl 3 0 rfl rfl qdw rfl rfl;have R:=qod u 1 rfl 3 1 rfl rfl qdw rfl rfl;obtain⟨S,p,_⟩:=DataW.trod_int underlying3 Q;obtain⟨T,q,_⟩:=DataW.trod_int underlying3 R;simp at p q;subst p q;refine⟨(S,T),?_,?_⟩
   ·have:=t 0 (by omega);rw[add_add,Nat.add_zero]at this;exact this
   exact t 1 (by omega)
 obtain⟨Z,s⟩:=choose_lt P;refine⟨some a,m,(List.range len).map Z,by simp,⟨λi c=>?_⟩,λK=>(by cases K),?_⟩
 ·have W:i<len:=by simpa using c
  obtain⟨b,off,rfl,G⟩:=qkd (by have:=(s 0 (by omega)).1;rwa[Nat.zero_mul]at this);have g:=s i (by omega);rw[add_add,qdg,qdg]at g;refine⟨b,off,rfl,G,?_,?_⟩
  ·rw[g.1];simp
  rw[Nat.add_assoc,g.2];simp
 have:reachBytes=140737488351232:=rfl;simp;omega
theorem qfC{z:Int}(h:(Lit.int .i64 z).wf=true):-9223372036854775808<=z/\z<=9223372036854775807:=by
 simp[Lit.wf,IntKind.min,IntKind.max,IntKind.signed,IntKind.bits]at h;omega
theorem qva{x:DataW H×List MemPlace}(h:DataW.trod enc prog w 0 (λ_=>true) true fuel 25 cs=some x)(d:(x.1.weights prog 25).all (·<=reachBytes)=true):∃c:Cfg,cs=c.arr.toList/\qin w c/\(∀x∈[c.labels,c.dflt,c.clr,c.inn,c.out,c.depth,c.bytes,c.key],-9223372036854775808<=x/\x<=9223372036854775807)/\c.pol.size<=281474976710656:=by
 obtain⟨xs,aa,_,rfl,q,V,a⟩:=DataW.trod_struct underlying25 h;rw[qs2]at q
 match cs,q,xs,V with
 |[v0,v1,v2,v3,v4,v5,v6,v7,v8,v9,v10],_,[y0,y1,y2,y3,y4,y5,y6,y7,y8,y9,y10],_ =>
  simp only[DataW.weights,underlying25,List.map_cons,List.map_nil,DataW.weightsEach,List.all_append,Bool.and_eq_true]at d;have C:=qod a 0 rfl 3 0 rfl rfl qdw rfl rfl;have D:=qod a 1 rfl 22 1 rfl rfl quT rfl rfl;have F:=qod a 2 rfl 3 2 rfl rfl qdw rfl rfl;have G:=qod a 3 rfl 9 3 rfl rfl qmR rfl rfl;have I:=qod a 4 rfl 3 4 rfl rfl qdw rfl rfl;have J:=qod a 5 rfl 3 5 rfl rfl qdw rfl rfl;have K:=qod a 6 rfl 3 6 rfl rfl qdw rfl rfl;have M:=qod a 7 rfl 3 7 rfl rfl qdw rfl rfl;have N:=qod a 8 rfl 3 8 rfl rfl qdw rfl rfl;have O:=qod a 9 rfl 3 9 rfl rfl qdw rfl rfl;have E:=qod a 10 rfl 23 10 rfl rfl qwa rfl rfl;obtain⟨z0,e,_,X⟩:=DataW.trod_int underlying3 C;obtain⟨z2,f,_,Y⟩:=DataW.trod_int underlying3 F;obtain⟨b,g,x3,_⟩:=DataW.trod_string underlying9 G;obtain⟨z4,i,_,Z⟩:=DataW.trod_int underlying3 I;obtain⟨z5,j,_,n⟩:=DataW.trod_int underlying3 J;obtain⟨z6,k,_,w6⟩:=DataW.trod_int underlying3 K;obtain⟨z7,l,_,w7⟩:=DataW.trod_int underlying3 M;obtain⟨z8,m,_,w8⟩:=DataW.trod_int underlying3 N;obtain⟨z9,o,_,w9⟩:=DataW.trod_int underlying3 O;obtain⟨z,A,L,u,P,R,Q⟩:=qs5 (v:=v1) (by simpa using D) d.2.1;obtain⟨s,t,B,y,S,U,T⟩:=qvD (v:=v10) (by simpa using E) d.2.2.2.2.2.2.2.2.2.2.1;have W:b.size<=281474976710656:=by
   have p:=d.2.2.2.1;rw[show y3.1=.lit (.string b.data.toList)from congrArg Prod.fst x3]at p;have h4:=of_decide_eq_true (List.all_eq_true.1 p b.data.toList.length (by unfold DataW.weights;exact List.mem_singleton.2 rfl));have h5:reachBytes=140737488351232:=rfl;have h6:b.data.toList.length=b.size:=rfl;omega
  simp at e f g i j k l m o;subst e f g i j k l m o u y;refine⟨⟨z0,L,z,A,z2,b,z4,z5,z6,z7,z8,z9,B,s,t⟩,rfl,⟨P,S,R,U,Q,T⟩,λx r=>?_,W⟩;simp at r;rcases r with rfl|rfl|rfl|rfl|rfl|rfl|rfl|rfl
  all_goals
   first
   |exact qfC X
   |exact qfC Y
   |exact qfC Z
   |exact qfC n
   |exact qfC w6
   |exact qfC w7
   |exact qfC w8
   |exact qfC w9
end

end
section
open Go.RowKit Go.Deep Go.Shelf Go.Lib
def q08:Cfg:=⟨0,[],none,0,0,ByteArray.empty,0,0,0,0,0,0,[],none,0⟩
section
variable{H:Type} {enc:TypeId×Value->H} {w:World}
end
theorem Tryz.gSignsT:(prog.globals[2]?).map (·.type)=some 210:=by kernel_rfl
theorem Tryz.x8:U8Extra prog Tryz.lays196_ren:=⟨by kernel_rfl,by kernel_rfl,by kernel_rfl,by kernel_rfl,by kernel_rfl,by kernel_rfl,by kernel_rfl⟩
theorem qjP:prog.cellsOf 209=2:=by kernel_rfl
theorem qpB:prog.cellsOf 149=1:=by kernel_rfl
theorem qo8:prog.cellsOf 210=6:=by kernel_rfl
theorem qlQ{held:Bool}{b:List UInt8}{k:Int}{p:List MemPlace}(h:DataW.trod (λ_=>()) prog W 0 sp held fuel 209 cs=some (.agg [.lit (.string b),.lit (.int .i64 k)],p)):cs=[.string ⟨b.toArray⟩,.int .i64 k]:=by
 obtain⟨s,n,_,f,e,m,d⟩:=DataW.trod_struct underlying209 h;rw[qjP]at e;have o:s.length=2:=m;obtain⟨j,l,rfl⟩:=qtL e;obtain⟨t,u,rfl⟩:=qtL o;have g:DataW.trod (λ_=>()) prog W 0 sp held n 9 (([j,l].drop 0).take (prog.cellsOf 9))=some t:=d 0 _ rfl;have i:DataW.trod (λ_=>()) prog W 0 sp held n 149 (([j,l].drop 1).take (prog.cellsOf 149))=some u:=d 1 _ rfl;rw[qmR]at g;rw[qpB]at i;obtain⟨v,a,q⟩:=DataW.trod_string underlying9 g;obtain⟨w,c,r⟩:=DataW.trod_int underlying149 i;simp at a c;subst a c;obtain⟨rfl,_⟩:=q;obtain⟨rfl,_⟩:=r;simp only[List.map_cons,List.map_nil,Prod.mk.injEq,DataW.agg.injEq,List.cons.injEq,DataW.lit.injEq,Lit.string.injEq,Lit.int.injEq,and_true,true_and]at f;obtain⟨⟨rfl,rfl⟩,_⟩:=f;simp
theorem qxj{H:Type}{enc:TypeId×Value->H}{held:Bool}{t e:TypeId}{x:DataW H×List MemPlace}(a:P.underlying t=some (.array n e))(h:DataW.trod enc P w base sp held fuel t cs=some x):cs.length=P.cellsOf t:=by
 cases fuel with
 |zero=>simp[DataW.trod]at h
 |succ fuel =>
  simp only[DataW.trod,a]at h;split at h
  ·next hh=>simpa using hh
  cases h
theorem six(d:cs.length=6){a0 a1 b0 b1 c0 c1:Value}(a:(cs.drop (0*2)).take 2=[a0,a1])(b:(cs.drop (1*2)).take 2=[b0,b1])(c:(cs.drop (2*2)).take 2=[c0,c1]):cs=[a0,a1,b0,b1,c0,c1]:=by
 match cs,d with
 |[x0,x1,x2,x3,x4,x5],_ =>
  simp at a b c;obtain⟨rfl,rfl⟩:=a;obtain⟨rfl,rfl⟩:=b;obtain⟨rfl,rfl⟩:=c;rfl
theorem qrm(q:laidMetH prog Rows.paddedRow.laid W)(r:W.ShapedOpen prog):qmF W:=by
 have c:laidMet prog Rows.paddedRow.laid W:=q;refine⟨?_,?_,Tryz.laysM145.s1_3 W r⟩
 ·obtain⟨g,t,cs,l,p,f,z,a,v⟩:=laidMet.reads c (d:=Rows.laid_redact_policy_signs) (.tail _ (.tail _ (.tail _ (.tail _ (.tail _ (.tail _ (.head _)))))));obtain rfl:g=2:=Option.some.inj (f.symm.trans (by kernel_rfl));obtain rfl:=Option.some.inj (Tryz.gSignsT.symm.trans z);have b:DataW.trod (λ_=>()) prog W 0 (λ_=>true) false l 210 cs.toList=some (.agg [.agg [.lit (.string [42]),.lit (.int .i64 0)],.agg [.lit (.string [42,42]),.lit (.int .i64 1)],.agg [.lit (.string [91,93]),.lit (.int .i64 2)]],p):=v;obtain⟨D,A,q0,w,m⟩:=array_elem underlying210 b 0 (by omega);obtain⟨f1,B,q1,x,n⟩:=array_elem underlying210 b 1 (by omega);obtain⟨E,C,F,y,o⟩:=array_elem underlying210 b 2 (by omega);cases w;cases x;cases y;have i:=qlQ m;have j:=qlQ n;have k:=qlQ o;rw[qjP]at i j k;have s:=(qxj underlying210 b).trans qo8;have u:=six s i j k;unfold World.var? at a;rw[f]at a;simp only[Option.bind_some]at a;split at a
  ·next cs' t fr hh =>
   cases a;refine⟨t,fr,?_⟩;rw[hh];have:cs=[Value.string ⟨[42].toArray⟩,.int .i64 0,.string ⟨[42,42].toArray⟩,.int .i64 1,.string ⟨[91,93].toArray⟩,.int .i64 2].toArray:=by rw[<-u]
   rw[this]
  cases a
 refine utf8Tabs_of_readsT (U8Types.of196 Tryz.lays196) Tryz.x8 ?_ ?_
 ·rw[<-Pinned.utf8First_eq];exact laidMet.reads c (.tail _ (.tail _ (.tail _ (.tail _ (.tail _ (.tail _ (.tail _ (.head _))))))))
 have e:(Rows.laid_unicode_utf8_acceptRanges:DataW Unit)=acceptData:=by kernel_rfl
 have h:=laidMet.reads c (d:=Rows.laid_unicode_utf8_acceptRanges) (.tail _ (.tail _ (.tail _ (.head _))));rw[e]at h;exact h

end
section
open Go.RowKit Go.Lib
def qa1(x:Nat):List UInt8:=if x<32 then[UInt8.ofNat (160+x)]else if x<=255 then 217::beF x 1 else if x<=65535 then 218::beF x 2 else 219::beF x 4
theorem qia:∀x:Fin 32,bits .or .u8 160 (x.val:Int)=((160+x.val:Nat):Int):=by decide
theorem qoF(W:World)(b:Nat)(v:Value)(bs:List UInt8)(x:Nat)(S:x<4294967296)(R:bs.length<=999999999)(h:Own W b v bs):Calls prog 129 #[v,.int .u64 x] W λe K=>∃j,e=.returned j/\Own K b j (bs++qa1 x)/\Below b W K:=by
 obtain⟨E,A,B,C,D⟩:=info_parts Tryz.infoU8;obtain⟨Q,z,a,n,c,rfl⟩:=h;have k:=qab Q;by_cases q:x<32
 ·have m:Hid (qa1 x=[UInt8.ofNat (160+x)]):=by show _=_;unfold qa1;rw[if_pos q]
  have L:=qia ⟨x,q⟩;simp only[]at L;have O:Hid (qax (UInt8.ofNat (160+x))=.int .u8 (bits .or .u8 160 (x:Int))):=by show _=_;rw[L,qbb _ (by omega)]
  have P:Hid (qax (UInt8.ofNat (160+x))=.int .u8 (160+(x:Int))):=by show _=_;rw[qbb _ (by omega)];simp
  go_enter func129,ntmps129
  go_wp2_with(first
   |(at_builtin;refine wpList_append_own _ rfl _ _ 35 rfl b 5 E (.int .u8 0) 1 1 underlying35 A B C D rfl (by decide) _ _ _ rfl (k.out.alloc _) ⟨W.heap.size,0,none⟩ 1 1 [.int .u8 (bits .or .u8 160 (x:Int))] rfl rfl (qag _ _ _) (λu f=>by simp at f;subst f;rfl) (by unfold maxLen;omega) (by omega) (by simp;omega) ?_;intro j g d l I;have i:=qab (qa0 z k.out O.out d l);obtain⟨H,G,rfl⟩:=ownsRow_succ d)
   |(at_builtin;refine wpList_append_own _ rfl _ _ 35 rfl b 5 E (.int .u8 0) 1 1 underlying35 A B C D rfl (by decide) _ _ _ rfl (k.out.alloc _) ⟨W.heap.size,0,none⟩ 1 1 [.int .u8 (160+(x:Int))] rfl rfl (qag _ _ _) (λu f=>by simp at f;subst f;rfl) (by unfold maxLen;omega) (by omega) (by simp;omega) ?_;intro j g d l I;have i:Hid (Own g b j (bs++[UInt8.ofNat (160+x)])/\Below b W g):=qa0 z k.out P.out d l;obtain⟨H,G,rfl⟩:=ownsRow_succ d))
  go_ret;rw[m.out];exact⟨_,rfl,i.out⟩
 by_cases J:x<=255
 ·have m:Hid (qa1 x=217::beF x 1):=by show _=_;unfold qa1;rw[if_neg q];rw[if_pos J]
  go_enter func129,ntmps129
  go_wp2_with(first
   |(at_builtin;refine wpList_append_own _ rfl _ _ 35 rfl b 5 E (.int .u8 0) 1 1 underlying35 A B C D rfl (by decide) _ _ _ rfl (k.out.alloc _) ⟨W.heap.size,0,none⟩ 1 1 [.int .u8 217] rfl rfl (qag _ _ _) (λu f=>by simp at f;subst f;rfl) (by unfold maxLen;omega) (by omega) (by simp;omega) ?_;intro j g d l I;have i:Hid (Own g b j (bs++[217])/\Below b W g):=qa0 z k.out rfl d l;obtain⟨H,G,rfl⟩:=ownsRow_succ d)
   |(go_at_call 128;refine(qar _ b _ _ x 1 (by omega) (by omega) (by simp;omega) i.out.1).mono ?_;rintro e N ⟨M,rfl,s,y⟩;obtain⟨t,w,p,F,r,rfl⟩:=s;have o:=qab (qaP i.out ⟨t,w,p,F,r,rfl⟩ y (m.out.symm))))
  go_ret;exact⟨_,rfl,o.out⟩
 by_cases c2:x<=65535
 ·have m:Hid (qa1 x=218::beF x 2):=by show _=_;unfold qa1;rw[if_neg q];rw[if_neg J];rw[if_pos c2]
  go_enter func129,ntmps129
  go_wp2_with(first
   |(at_builtin;refine wpList_append_own _ rfl _ _ 35 rfl b 5 E (.int .u8 0) 1 1 underlying35 A B C D rfl (by decide) _ _ _ rfl (k.out.alloc _) ⟨W.heap.size,0,none⟩ 1 1 [.int .u8 218] rfl rfl (qag _ _ _) (λu f=>by simp at f;subst f;rfl) (by unfold maxLen;omega) (by omega) (by simp;omega) ?_;intro j g d l I;have i:Hid (Own g b j (bs++[218])/\Below b W g):=qa0 z k.out rfl d l;obtain⟨H,G,rfl⟩:=ownsRow_succ d)
   |(go_at_call 128;refine(qar _ b _ _ x 2 (by omega) (by omega) (by simp;omega) i.out.1).mono ?_;rintro e N ⟨M,rfl,s,y⟩;obtain⟨t,w,p,F,r,rfl⟩:=s;have o:=qab (qaP i.out ⟨t,w,p,F,r,rfl⟩ y (m.out.symm))))
  go_ret;exact⟨_,rfl,o.out⟩
 have m:Hid (qa1 x=219::beF x 4):=by show _=_;unfold qa1;rw[if_neg q];rw[if_neg J];rw[if_neg c2]
 go_enter func129,ntmps129
 go_wp2_with(first
  |(at_builtin;refine wpList_append_own _ rfl _ _ 35 rfl b 5 E (.int .u8 0) 1 1 underlying35 A B C D rfl (by decide) _ _ _ rfl (k.out.alloc _) ⟨W.heap.size,0,none⟩ 1 1 [.int .u8 219] rfl rfl (qag _ _ _) (λu f=>by simp at f;subst f;rfl) (by unfold maxLen;omega) (by omega) (by simp;omega) ?_;intro j g d l I;have i:Hid (Own g b j (bs++[219])/\Below b W g):=qa0 z k.out rfl d l;obtain⟨H,G,rfl⟩:=ownsRow_succ d)
  |(go_at_call 128;refine(qar _ b _ _ x 4 (by omega) (by omega) (by simp;omega) i.out.1).mono ?_;rintro e N ⟨M,rfl,s,y⟩;obtain⟨t,w,p,F,r,rfl⟩:=s;have o:=qab (qaP i.out ⟨t,w,p,F,r,rfl⟩ y (m.out.symm))))
 go_ret;exact⟨_,rfl,o.out⟩
theorem qla(W:World)(b:Nat)(v:Value)(bs l:List UInt8)(y:bs.length<=999999999)(J:l.length<=999999999)(h:Own W b v bs):Calls prog 111 #[v,.string ⟨l.toArray⟩] W λe i=>∃g,e=.returned g/\Own i b g (bs++(qa1 l.length++l))/\Below b W i:=by
 obtain⟨D,w,A,B,C⟩:=info_parts Tryz.infoU8;have q:=qoF W b v bs l.length (by omega) y h;have I:(qa1 l.length).length<=9:=by
  unfold qa1;have t:∀x k,(beF x k).length=k:=λx k=>by induction k with|zero=>rfl|succ k E=>rw[beF,List.length_cons,E]
  repeat' split
  all_goals simp[t]
 have j:(⟨l.toArray⟩:ByteArray).size=l.length:=List.size_toArray ..;obtain⟨_,_,a,n,c,rfl⟩:=h;go_enter func111,ntmps111
 go_wp2_with(first
  |(go_at_call 129;refine q.mono ?_;rintro e H ⟨L,rfl,r,s⟩;obtain⟨G,p,o,F,c2,rfl⟩:=r;have f:Hid (Own H b (.slice o F c2) (bs++qa1 l.length)):=⟨G,p,_,_,_,rfl⟩;have m:=qab s)
  |(at_builtin;refine wpList_append_own_string _ rfl _ _ 35 9 rfl b 5 D underlying35 underlying9 w A B C _ _ _ rfl f.out.1 ⟨l.toArray⟩ rfl (by rw[j,List.length_append];unfold maxLen;omega) (by rw[j,List.length_append];omega) f.out.2.1 ?_;intro g M z u K;have d:=qab (qaU f.out z u)))
 go_ret;rw[List.append_assoc]at d;exact⟨_,rfl,d.out.1,m.out.trans d.out.2⟩

def qhl(W:World)(base e:Nat)(v:Value)(bs:List UInt8):Prop:=Own W base v bs/\v.ownBlock≠some e/\e<W.heap.size
def qhz(base e:Nat)(W W':World):Prop:=Below base W W'/\W'.heap[e]?=W.heap[e]?
theorem qhz.trans{A B C:World}(h:qhz base e A B)(k:qhz base e B C):qhz base e A C:=⟨h.1.trans k.1,k.2.trans h.2⟩
theorem qbF{a:Option Addr}{c:Nat}{b:UInt8}{u:Value}(h:qhl W base e (.slice a n c) bs)(p:qax b=u)(m:W'.ownsRow base 5 1 v' (bs.length+1) (bs.map qax++[u]))(f:(W.alloc (Obj.cells #[u] 5)).grownBy W' (Value.slice a n c).ownBlock)(d:v'.ownBlock=(Value.slice a n c).ownBlock\/v'.ownBlock=some (W.alloc (Obj.cells #[u] 5)).heap.size):qhl W' base e v' (bs++[b])/\qhz base e W W':=by
 obtain⟨⟨l,j,_⟩,i,k⟩:=h;have g:=qa0 j l p m f;have o:=f.size;simp at o;refine⟨⟨g.1,?_,by omega⟩,g.2,?_⟩
 ·rcases d with d|d
  ·rw[d];exact i
  rw[d];simp;omega
 rw[f.block e (by simp;omega) (λx=>i x.symm)];exact((Below.refl W.heap.size W).alloc (Nat.le_refl _) _).block e k
theorem qdP{W2:World}{ys zs:List UInt8}{b:UInt8}{v2:Value}(h:qhl W' base e v' (bs++[b])/\qhz base e W W')(a:qhl W2 base e v2 ((bs++[b])++ys))(c:qhz base e W' W2)(k:b::ys=zs):qhl W2 base e v2 (bs++zs)/\qhz base e W W2:=by
 subst k;refine⟨?_,h.2.trans c⟩;rw[List.append_assoc]at a;exact a
theorem qcg(W:World)(d e:Nat)(v:Value)(bs:List UInt8)(x w:Nat)(_hx:x<18446744073709551616)(L:w<=8)(J:bs.length<=1000000000)(h:qhl W d e v bs):Calls prog 128 #[v,.int .u64 x,.int .i64 w] W λr o=>∃i,r=.returned i/\qhl o d e i (bs++beF x w)/\qhz d e W o:=by
 obtain⟨E,A,B,C,D⟩:=info_parts Tryz.infoU8;obtain⟨a,n,c,rfl⟩:=h.1.2.2;have b:=qab h;go_enter func128,ntmps128;go_wp2
 go_loopg[0,7] w (λg y z wr=>∃(f:List UInt8) (a n c:_),y=.slice a n c/\z=.int .i64 ((g:Int)-1)/\g<=w/\f.length<=1000000000+(w-g)/\Hid (qhl wr d e (.slice a n c) f)/\Hid (qhz d e W wr)/\Hid (f++beF x g=bs++beF x w))
 case atStart=>exact⟨bs,a,n,c,rfl,by go_num,Nat.le_refl _,by omega,b,⟨Below.refl _ _,rfl⟩,rfl⟩
 case round =>
  obtain⟨f,a,n,c,rfl,rfl,I,M,b,j,l⟩:=hrel;have H:=b.out.1.2.1
  cases gk with
  |zero =>
   go_wp2;go_ret;have k:f=bs++beF x w:=by have:=l.out;simpa[beF]using this
   subst k;exact⟨_,rfl,b.out,j.out⟩
  |succ k =>
   go_wp2_with(first
    |(at_builtin;refine wpList_append_own_at _ rfl _ _ 35 rfl d 5 E (.int .u8 0) 1 1 underlying35 A B C D rfl (by decide) _ _ _ rfl (b.out.1.1.alloc _) ⟨wr.heap.size,0,none⟩ 1 1 [.int .u8 ((x:Int)/2^(8*k)%256)] rfl rfl (qag _ _ _) (λu q=>by simp at q;subst q;rfl) (by unfold maxLen;omega) (by omega) (by simp;omega) ?_;intro i N p t K s;have m:=qab (qbF b.out (qnq x k) p t s);obtain⟨G,F,rfl⟩:=ownsRow_succ p))
   go_roundg k
   case measure=>omega
   case rel =>
    refine⟨f++[UInt8.ofNat (x/2^(8*k)%256)],_,_,_,rfl,by go_num,by omega,by rw[List.length_append];simp;omega,m.out.1,j.out.trans m.out.2,?_⟩;show _=_;have:=l.out;rw[beF]at this;rw[List.append_assoc];exact this

end
section
open Go.RowKit
theorem qad.same{s0:Src}(c:qad W b s0)(q:s.ia=s0.ia)(o:s.bs=s0.bs)(h:qad V b s)(e:∀k,k<W.heap.size->V'.heap[k]?=V.heap[k]?):qad V' b s:=by
 have n:=ltA c.row;refine⟨(e b n).trans h.row,λi d=>?_,h.len,h.le⟩;obtain⟨g,off,a,f,j⟩:=h.inp i d;obtain⟨m,t,f1,r,l⟩:=c.inp i (by rw[<-o];exact d);have p:g=m:=by
  rw[q,f1]at a;injection a with a;injection a with a;exact a.symm
 refine⟨g,off,a,f,?_⟩;rw[World.cell?_of_block (w:=V) (e g (by rw[p];exact block_lt_of_cell l))];exact j
theorem qet{t t':Array Value}(h:results fn t=results fn t'):∀(a:List Deferred) (u:FrameMode) (w:World),Leaves P fn t R a u w->Leaves P fn t' R a u w
 |[],.returning,_,H=>by
  unfold Leaves at *;rw[<-h];exact H
 |[],.panicking _,_,H=>H
 |[],.run,_,H=>H
 |_::a,_,_,H=>by
  obtain⟨j,i,g,f,d,k,l,m⟩:=H;refine⟨j,i,g,f,d,k,l,m.mono λe n o b=>?_⟩
  cases e with
  |returned v=>exact qet h a _ _ b
  |panicked c=>exact qet h a _ _ b
  |outgrown=>exact b
theorem qb8(f:fn.results=#[.tmp 2])(d:Tmp)(b:d≠2)(v:Value)(c:List PanicEntry)(a:Act)(w:World)(h:bodyPostD P fn R (.panic c) (a.put (some d) v) w):bodyPostD P fn R (.panic c) a w:=by
 refine qet (t:=(a.put (some d) v).tmps) ?_ _ _ _ h;unfold results;rw[f];have e:(a.put (some d) v).tmps[2]?.getD undef=a.tmps[2]?.getD undef:=by
  show(a.tmps.setIfInBounds d v)[2]?.getD undef=_;rw[Array.getElem?_setIfInBounds_ne b]
 simp[e]
theorem qe7(a:fn.results=#[.tmp 2])(t:Array Value)(w:World):(results fn t).run P w=.ok (t.getD 2 undef) w:=by
 unfold results;rw[a];simp
structure qoW(W0:World)(b N M:Nat)(fv:Value)(so w g:Nat)(s:Src)(W:World):Prop where
 src:qad W b s
 but:But b W0 W
 box:W.heap[N]?=some (.cells #[.pointer (some ⟨b,0,none⟩),fv] 133)
 hd:W.heap[M]?=some (.cells #[.int .i64 so,.int .i64 w,.int .u64 g] 171)
 ne:b<N
 nm:b<M
theorem qoW.step{W0:World}{N M:Nat}{w:Nat}{s':Src}(h:qoW W0 b N M fv so w g s W)(c:qad W' b s')(a:But b W W'):qoW W0 b N M fv so w g s' W' :=
 ⟨c,h.but.trans a,(a.block _ (ltA h.box) (by have:=h.ne;omega)).trans h.box,(a.block _ (ltA h.hd) (by have:=h.nm;omega)).trans h.hd,h.ne,h.nm⟩
theorem qfn{w:Nat}(M:Nat)(c:qad W b s)(e:qad V b s.next)(a:But b W V)(h:V.heap[W.heap.size]?=some (.cells #[.pointer (some ⟨b,0,none⟩),fv] 133))(l:W.heap.size<M)(j:V.heap[M]?=some (.cells #[.int .i64 0,.int .i64 0,.int .u64 0] 171)):qoW W b W.heap.size M fv so w g s.next (V.setRow M #[.int .i64 so,.int .i64 w,.int .u64 g]):=by
 have f:=ltA c.row;refine⟨c.same rfl rfl e (λk d=>setRow_other _ _ _ _ (by omega)),⟨a.os,a.tape,a.output,by simpa using a.size,λk d i=>sx (by omega) (a.block k d i)⟩,sx (by omega) h,setRow_heap _ _ _ _ _ _ j,f,by omega⟩

def qgp(bs:List UInt8)(lim:Int):Nat->Nat->List UInt8->Except (Int×Int) (List UInt8×Nat)
 |0,p,acc=>.ok (acc,p)
 |k+1,p,acc=>match bs[p]? with
  |none=>.error (9,p)
  |some c=>if(p:Int)=lim then .error (8,p)else qgp bs lim k (p+1) (acc++[c])
def qii{α:Type}(W:World)(b:Nat)(s:Src)(val:World->Value->α->Prop)(r:Except (Int×Int) (α×Nat))(e:Ending)(W':World):Prop :=
 But b W W'/\match r with
 |.ok (x,p)=>(∃v,e=.returned v/\val W' v x)/\qad W' b {s with pos:=p}
 |.error (en,pl)=>qan en pl e/\∃p,qad W' b {s with pos:=p}
structure qt4(W:World)(b:Nat)(fv:Value)(s:Src)(p:Nat)(v:Value)(acc:List UInt8)(V:World):Prop where
 src:qad V b {s with pos:=p}
 but:But b W V
 box:V.heap[W.heap.size]?=some (.cells #[.pointer (some ⟨b,0,none⟩),fv] 133)
 own:Own V (W.heap.size+1) v acc
theorem qwN(h:Own W base v bs)(c:But b W W')(o:b<base):Own W' base v bs:=by
 obtain⟨⟨j,a⟩,k,l⟩:=h;refine⟨⟨j,?_⟩,Nat.le_trans k c.size,l⟩;rcases a with a|⟨g,f,i,e,n,d,m⟩
 ·exact .inl a
 exact .inr ⟨g,f,i,e,n,(c.block g (ltA d) (by omega)).trans d,m⟩
theorem qt4.take{q:Nat}(h:qt4 W b fv s p v acc V)(d:b<W.heap.size)(c:qad V' b {s with pos:=q})(a:But b V V'):qt4 W b fv s q v acc V' :=
 ⟨c,h.but.trans a,(a.block _ (ltA h.box) (by omega)).trans h.box,qwN h.own a (by omega)⟩
theorem qt4.grow{acc':List UInt8}(h:qt4 W b fv s p v acc V)(d:qad W b s)(a:Below (W.heap.size+1) V V')(f:Own V' (W.heap.size+1) v' acc'):qt4 W b fv s p v' acc' V' :=
 ⟨d.same rfl rfl h.src (λk c=>a.block k (by omega)),⟨a.os.trans h.but.os,a.tape.trans h.but.tape,a.output.trans h.but.output,Nat.le_trans h.but.size a.size,λk c e=>(a.block k (by omega)).trans (h.but.block k c e)⟩,(a.block _ (by omega)).trans h.box,f⟩
theorem qvB(a:Value)(h:qad W b s):qt4 W b a s s.pos (.slice none 0 0) [] (W.alloc (.cells #[.pointer (some ⟨b,0,none⟩),a] 133)):=by
 have c:Below W.heap.size W (W.alloc (.cells #[.pointer (some ⟨b,0,none⟩),a] 133)):=bwA;refine⟨h.below c,But.of_below c,qac W _,World.ownsRow_nil _ _ _ _,?_,none,0,0,rfl⟩;simp
theorem qiX(W:World)(b:Nat)(s:Src)(f n:Nat)(hn:n<18446744073709551616)(h:qad W b s)(ag:s.bs.length<=200000000):Calls prog 220 #[.agg #[.pointer (some ⟨b,0,none⟩),.func (.func f) #[] #[]],.int .u64 n] W (qii W b s (λV aa z=>Own V (W.heap.size+1) aa z) (qgp s.bs s.lim n s.pos [])):=by
 obtain⟨i0,Y,l,v,y⟩:=info_parts Tryz.infoU8;have F:Hid (qt4 W b (.func (.func f) #[] #[]) s s.pos (.slice none 0 0) [] (W.alloc (.cells #[.pointer (some ⟨b,0,none⟩),.func (.func f) #[] #[]] 133))):=qvB _ h;have M:=qab h;have S:=ltA h.row;have u:=h.le;obtain⟨R,j⟩:∃R,Hid (qgp s.bs s.lim n s.pos []=R):=⟨_,show _=_ from rfl⟩
 rw[j.out];clear h;go_enter func220,ntmps220;go_wp2;generalize W.alloc (.cells #[.pointer (some ⟨b,0,none⟩),.func (.func f) #[] #[]] 133)=W0 at *
 go_loopg[5,7] n (λg ab ac wr=>∃(k p:Nat) (a:Option Addr) (m c:Nat) (o:List UInt8),ab=.slice a m c/\ac=.int .u64 k/\Hid (k+g=n)/\Hid (p<=s.bs.length)/\Hid (o.length<=p)/\Hid (qt4 W b (.func (.func f) #[] #[]) s p (.slice a m c) o wr)/\Hid (qgp s.bs s.lim g p o=R))
 case atStart=>exact⟨0,s.pos,none,0,0,[],rfl,rfl,by show _=_;omega,u,by show 0<=_;omega,F,j⟩
 case round =>
  clear F j;obtain⟨k,p,a,m,c0,o,rfl,rfl,x,hp,H,d,j⟩:=hrel;have kb:=qaa d.out.box 0
  cases gk with
  |zero =>
   have Z:k=n:=by have:=x.out;omega
   subst Z;have t:Hid (R=.ok (o,p)):=j.out.symm;clear j x;go_wp2;go_ret;rw[t.out];exact⟨d.out.but,⟨_,rfl,d.out.own⟩,d.out.src⟩
  |succ g =>
   have af:k<n:=by have:=x.out;omega
   have e1:decide ((k:Int)<(n:Int))=true:=by simp;omega
   have e2:decide (k<n)=true:=by simp;omega
   rcases qaR d.out.src with i|i|⟨c,i⟩
   ·have t:Hid (R=.error (9,(p:Int))):=by
     show _=_;rw[<-j.out,qgp,List.getElem?_eq_none (by have:p=s.bs.length:=i;omega)]
    have r:=qb1 _ b {s with pos:=p} d.out.src i;clear j i
    go_wp2_with(first
     |(go_at_call 186;refine r.mono ?_;clear r;rintro e B ⟨hF,q⟩;obtain rfl:=hF))
    rw[t.out];exact⟨rfl,d.out.but.trans (But.of_below q),rfl,_,d.out.src.below q⟩
   ·have t:Hid (R=.error (8,(p:Int))):=by
     show _=_;have O:(p:Int)=s.lim:=i.2;have P:p<s.bs.length:=i.1;rw[<-j.out,qgp,List.getElem?_eq_getElem P];simp only[];rw[if_pos O]
    have r:=qbd _ b {s with pos:=p} d.out.src i;clear j i
    go_wp2_with(first
     |(go_at_call 186;refine r.mono ?_;rintro e B ⟨hF,q⟩;obtain rfl:=hF))
    rw[t.out];exact⟨rfl,d.out.but.trans (But.of_below q),rfl,_,d.out.src.below q⟩
   have T:s.bs[p]?=some c:=i.1;have U:¬(p:Int)=s.lim:=i.2;have L:Hid (p<s.bs.length):=i.lt;have A:=j.out;rw[qgp,T]at A;simp only[]at A;rw[if_neg U]at A;have K:=qab A;have r:Calls prog 186 #[.pointer (some ⟨b,0,none⟩)] wr λe G=>e=.returned (.int .u8 c.toNat)/\qad G b {s with pos:=p+1}/\But b wr G:=qaw _ b {s with pos:=p} c d.out.src i;have ae:o.length<=999999999:=by have:=H.out;have:=hp.out;omega
   go_wp2_with(first
    |(go_at_call 186;refine r.mono ?_;rintro e B ⟨rfl,Q,q⟩;have C:=qab (d.out.take S Q q);have E:=qab C.out.own.1;have w:=qab C.out.own.2.1)
    |(at_builtin;refine wpList_append_own _ rfl _ _ 192 rfl (W.heap.size+1) 5 i0 (.int .u8 0) 1 1 underlying192 Y l v y rfl (by decide) _ _ _ rfl (E.out.alloc _) ⟨B.heap.size,0,none⟩ 1 1 [.int .u8 c.toNat] rfl rfl (qag _ _ _) (λai J=>by simp at J;subst J;rfl) (by unfold maxLen;omega) (by omega) (by simp;have:=w.out;omega) ?_;intro v' w5 I X ah;obtain⟨g5,ad,rfl⟩:=ownsRow_succ I;have D:=qab (qa3 ((Below.refl _ B).alloc w.out _) (E.out.alloc _) X (by simp;have:=w.out;omega));have N:=qab (C.out.grow M.out D.out ⟨qbR I rfl,Nat.le_trans w.out D.out.size,_,_,_,rfl⟩)))
   go_roundg g
   case measure=>omega
   case rel=>exact⟨k+1,p+1,_,_,_,o++[c],rfl,by go_num,by show _=_;have:=x.out;omega,L,by show _<=_;rw[List.length_append];have:=H.out;simp;omega,N,K⟩

def qb7(V:World)(t:TypeId)(size:Nat)(F:Nat->Prop)(v:Value)(n:Nat)(xs:List Value):Prop :=
 xs.length=n*size/\((v=.slice none 0 0/\n=0)\/∃g cap cur,v=.slice (some ⟨g,0,none⟩) n cap/\F g/\V.heap[g]?=some (.cells cur t (0,0))/\n<=cap/\cap<=maxLen/\cur.size=cap*size/\cur.toList.take (n*size)=xs)
def qai:Nat->World->(Nat->Prop)->Value->DataW Unit->Prop
 |0,_,_,_,_=>False
 |k+1,V,F,v,d=>match d with
  |.nil=>v=.iface 164 (.agg #[])
  |.lit (.bool b)=>v=.iface 217 (.bool b)
  |.lit (.int .i64 z)=>v=.iface 219 (.int .i64 z) /\ -9223372036854775808<=z/\z<=9223372036854775807
  |.lit (.string l)=>v=.iface 190 (.string ⟨l.toArray⟩)
  |.ptr (.lit (.string l))=>∃u,v=.iface 192 u/\qb7 V 5 1 F u l.length (l.map qax)
  |.agg ds=>∃u xs,v=.iface 194 u/\qb7 V 82 1 F u ds.length xs/\∀(i:Nat) (x:Value) (d:DataW Unit),xs[i]?=some x->ds[i]?=some d->qai k V F x d
  |.map es=>∃u xs,v=.iface 196 u/\qb7 V 198 2 F u es.length xs/\∀(i:Nat) (key:Lit) (d:DataW Unit),es[i]?=some (key,d)->∃l x,key=.string l/\xs[2*i]?=some (.string ⟨l.toArray⟩)/\xs[2*i+1]?=some x/\qai k V F x d
  |_=>False
theorem qb7.same{t:TypeId}{size:Nat}{xs:List Value}(h:qb7 V t size F v n xs)(j:∀k,F k->G k)(m:∀k,F k->V'.heap[k]?=V.heap[k]?):qb7 V' t size G v n xs:=by
 obtain⟨f,a⟩:=h;refine⟨f,?_⟩;rcases a with a|⟨g,c,d,e,b,l,i⟩
 ·exact .inl a
 exact .inr ⟨g,c,d,e,j g b,(m g b).trans l,i⟩
theorem qai.same(a:∀k,F k->G k)(b:∀k,F k->V'.heap[k]?=V.heap[k]?):∀{k:Nat} {v:Value} {d:DataW Unit},qai k V F v d->qai k V' G v d
 |0,_,_,h=>h
 |k+1,v,d,h=>by
  unfold qai at h ⊢;split at h
  ·exact h
  ·exact h
  ·exact h
  ·exact h
  ·obtain⟨u,e,c⟩:=h;exact⟨u,e,c.same a b⟩
  ·obtain⟨u,j,e,c,g⟩:=h;exact⟨u,j,e,c.same a b,λi x d f q=>qai.same a b (g i x d f q)⟩
  ·obtain⟨u,j,e,c,g⟩:=h;refine⟨u,j,e,c.same a b,λi r d f=>?_⟩;obtain⟨l,x,m,n,o,p⟩:=g i r d f;exact⟨l,x,m,n,o,qai.same a b p⟩
  exact h
theorem qai.more:∀{k m:Nat} {v:Value} {d:DataW Unit},k<=m->qai k V F v d->qai m V F v d
 |0,_,_,_,_,h=>h.elim
 |k+1,0,_,_,hm,_=>absurd hm (by omega)
 |k+1,m+1,v,d,hm,h=>by
  unfold qai at h ⊢;split at h
  ·exact h
  ·exact h
  ·exact h
  ·exact h
  ·exact h
  ·obtain⟨u,f,e,c,b⟩:=h;exact⟨u,f,e,c,λi x d a p=>qai.more (by omega) (b i x d a p)⟩
  ·obtain⟨u,f,e,c,b⟩:=h;refine⟨u,f,e,c,λi q d a=>?_⟩;obtain⟨l,x,g,j,n,o⟩:=b i q d a;exact⟨l,x,g,j,n,qai.more (by omega) o⟩
  exact h

theorem qdi(w:World)(C:Nat)(t k e:TypeId)(i:TypeInfo)(z:Value)(size r:Nat)(q:P.underlying t=some (.slice e))(hi:P.info? e=some i)(A:i.zero=some z)(M:i.size=size)(G:i.bytes=r)(v:Value)(n:Nat)(B:List Value)(p:w.ownsRow C e size v n B)(a:Addr)(m c:Nat)(b:List Value)(h:b.length=m*size)(o:∀j u,b[j]?=some u->w.cell? (a.add j)=some u)(D:∀u∈b,u.oneCell'=true)(K:0<m)(E:n+m<=maxLen)(x:(n+m)*r<=140737488355328){w':World}(d:(Builtin.append_ #[t,t] k #[v,.slice (some a) m c]).run P w=.ok v' w'):v'.ownBlock=v.ownBlock\/v'.ownBlock=some w.heap.size:=by
 subst M;subst G;have R:n+m<=9223372036854775807:=by simp only[maxLen]at E;omega
 rcases p.2 with⟨rfl,rfl⟩|⟨g,l,s,rfl,N,J,Q,O,H,S⟩
 ·have f:=run_append_nil (P:=P) w t k e i z q hi A a m c b h o K (by omega) (by have F:=x;simp only[Nat.zero_add]at F;omega);rw[f]at d;injection d with e1 e2;right;rw[<-e1];rfl
 by_cases y:n+m<=l
 ·have I:n*i.size+b.length<=s.size:=by rw[h,H,<-Nat.add_mul];exact Nat.mul_le_mul_right _ y
  have f:=run_append_room (P:=P) w t k e i q hi g n l s J a m c b h o D y I;rw[f]at d;injection d with e1 e2;left;rw[<-e1];rfl
 have L:=p.cells (g:=g) rfl;have f:=run_append_grow (P:=P) w t k e i z q hi A ⟨g,0,none⟩ n l B p.1 L a m c b h o (by omega) (by omega) (growslice_fits (by omega) x);rw[f]at d;injection d with e1 e2;right;rw[<-e1];rfl
theorem qbg(w:World){rest:List Oper}(O:o.guard=none)(s x:Operand)(t:TypeId)(S:o.op=.call {callee:=.builtin .append,args:=#[s,x],argTypes:=#[t,t]})(f:Nat)(e:TypeId)(i:TypeInfo)(z:Value)(size l:Nat)(G:P.underlying t=some (.slice e))(hi:P.info? e=some i)(H:i.zero=some z)(F:i.size=size)(y:i.bytes=l)(W:z.cells.size=size)(U:0<size)(v:Value)(n:Nat)(p:List Value)(T:a.eval s=v)(D:w.ownsRow f e size v n p)(k:Addr)(m c:Nat)(b:List Value)(V:a.eval x=.slice (some k) m c)(B:b.length=m*size)(C:∀j u,b[j]?=some u->w.cell? (k.add j)=some u)(q:∀u∈b,u.oneCell'=true)(R:0<m)(r:n+m<=maxLen)(A:(n+m)*l<=140737488355328)(N:f<=w.heap.size)(h:∀d g,g.ownsRow f e size d (n+m) (p++b)->w.grownBy g v.ownBlock->(d.ownBlock=v.ownBlock\/d.ownBlock=some w.heap.size)->wpList P ops Q rest (a.put o.dst d) g):wpList P ops Q (o::rest) a w:=by
 refine wpList_plain O λK M=>?_;obtain⟨d,g,E,I,J,_⟩:=run_append_own (P:=P) w f t o.type e i z size l G hi H F y W U v n p D k m c b B C q r A N;have L:=qdi (P:=P) w f t o.type e i z size l G hi H F y v n p D k m c b B C q R r A E;unfold Oper.wp execOp;simp only[S,resolve,invoke,builtin,Sem.run_bind,Sem.run_pure,Result.andThen_ok,List.map_toArray,List.map_cons,List.map_nil,T,V,E];exact M _ _ (h d g I J L)

theorem qgP(c:UInt8):∀l:List UInt8,(Lib.index l [c] = -1/\qam c l=[l])\/∃a r,l=a++c::r/\Lib.index l [c]=a.length/\qam c l=a::qam c r
 |[]=>Or.inl ⟨rfl,rfl⟩
 |x::r=>by
  by_cases e:x=c
  ·subst e;right;exact⟨[],r,rfl,by simp[Lib.index],by simp[qam]⟩
  have g:([c].isPrefixOf (x::r))=false:=by simp[List.isPrefixOf,Ne.symm e]
  have f:(x==c)=false:=by simp[e]
  rcases qgP c r with⟨b,d⟩|⟨a,q,b,d,h⟩
  ·left;refine⟨?_,?_⟩
   ·unfold Lib.index;rw[g,b];rfl
   unfold qam;rw[f,d];rfl
  right;refine⟨x::a,q,by rw[b];rfl,?_,?_⟩
  ·unfold Lib.index;rw[g,d];have:((a.length:Int) == -1)=false:=by rw[beq_eq_false_iff_ne];omega
   rw[this];simp
  rw[qam,f,h];rfl
theorem qbJ(c:UInt8)(l:List UInt8):(Lib.cut l [c]=(l,[],false)/\qam c l=[l])\/∃a r,Lib.cut l [c]=(a,r,true)/\l=a++c::r/\qam c l=a::qam c r:=by
 rcases qgP c l with⟨b,d⟩|⟨a,r,b,d,e⟩
 ·left;refine⟨?_,d⟩;unfold Lib.cut;rw[b,if_neg (by omega)]
 right;refine⟨a,r,?_,b,e⟩;unfold Lib.cut;rw[d,if_pos (by omega)];simp[b]
def qsG(n:Nat)(l:List UInt8):Bool :=
 qfl (Lib.cut l [32]).1&&(qiK (Lib.cut (Lib.cut l [32]).2.1 [32]).1 n&&qeM ⟨(Lib.cut (Lib.cut l [32]).2.1 [32]).2.1.toArray⟩ != 0)
theorem qi7(l:List UInt8):qeM ⟨l.toArray⟩=if l==[100,114,111,112]then 1 else if l==[109,97,115,107]then 2 else if l==[116,97,103]then 3 else 0:=by
 unfold qeM;rw[Lib.toList_data]
theorem qkv(a r:List UInt8):qeM ⟨(a++32::r).toArray⟩=0:=by
 have b:(32:UInt8)∈a++32::r:=by simp
 rw[qi7];generalize a++32::r=l at *;rw[if_neg (by intro h;rw[eq_of_beq h]at b;revert b;decide),if_neg (by intro h;rw[eq_of_beq h]at b;revert b;decide),if_neg (by intro h;rw[eq_of_beq h]at b;revert b;decide)]
theorem qrZ(n:Nat)(l:List UInt8):qsG n l=qaD n l:=by
 unfold qsG qaD;rcases qbJ 32 l with⟨g,h⟩|⟨a,r,g,_,h⟩
 ·rw[g,h];rcases qbJ 32 []with⟨c,f⟩|⟨a,r,_,c,_⟩
  ·simp[c,qiK,qkl]
  simp at c
 rw[g,h];rcases qbJ 32 r with⟨c,f⟩|⟨b,q,c,_,f⟩
 ·rw[c,f];have:qeM ⟨([]:List UInt8).toArray⟩=0:=by rw[qi7];rfl
  simp[this,qkl]
 rw[c,f];rcases qbJ 32 q with⟨j,i⟩|⟨d,e,j,i,k⟩
 ·rw[i];rfl
 rw[k,qkU (by have:=List.length_pos_iff.2 (qhn 32 e);simp only[List.length_cons];omega),i];simp[qkv]

end
section
open Go.RowKit Go.Deep
theorem qlB(h:∀i j,i<n->j<n->m i j=m' i j):qaC n m = !qby n m':=by
 cases c:qaC n m
 ·symm;rw[Bool.not_eq_false'];refine qfH (λa b d e=>?_);cases l:qdU n m' a b
  ·rfl
  exfalso;unfold qdU at l;simp only[Bool.and_eq_true,Bool.not_eq_true',beq_eq_false_iff_ne]at l;obtain⟨_,⟨r,f⟩,g⟩:=l;rw[<-h a b d e]at f;rw[<-h b a e d]at g;rcases Nat.lt_or_ge b a with o|q
  ·have:=qd4 (m:=m) d o (by unfold qqI;rw[f,g];rfl);rw[c]at this;cases this
  have:=qd4 (m:=m) e (show a<b by omega) (by unfold qqI;rw[f,g];rfl);rw[c]at this;cases this
 symm;rw[Bool.not_eq_true'];unfold qaC at c;rw[List.any_eq_true]at c;obtain⟨a,d,c⟩:=c;rw[List.any_eq_true]at c;obtain⟨b,e,c⟩:=c;have k:=List.mem_range.1 d;have p:=List.mem_range.1 e;unfold qqI at c;simp only[Bool.and_eq_true]at c;refine qgE (a:=a) (b:=b) k (by omega) ?_;unfold qdU;rw[<-h a b k (by omega),<-h b a (by omega) k,c.1,c.2,beq_eq_false_iff_ne.2 (show a≠b by omega)];simp
theorem qmJ(m:Nat->Nat->Bool)(a b k:Nat):ubB m a b k=ubB m b a k:=by unfold ubB;exact Bool.and_comm _ _
theorem qe9(n:Nat)(m:Nat->Nat->Bool)(a b:Nat):qa4 n m a b=qa4 n m b a:=by
 unfold qa4;congr 1;funext j;unfold qaS;rw[qmJ];congr 2;funext k;rw[qmJ]
theorem qe3{a:Nat}(c:a<n)(d:m a a=true):qa4 n m a a=true:=by
 refine qdR c (qgk (by unfold ubB;rw[d];rfl) (λk _ b=>?_));unfold ubB at b;simp only[Bool.and_eq_true]at b;exact b.1
theorem qnH(h:∀i j,i<n->j<n->m i j=m' i j)(l:∀i,i<n->m' i i=true):qa9 n m=qb2 n m':=by
 have k:∀a b,a<n->b<n->qfp n m a b=qbI n m' a b:=λa b c e=>by
  unfold qfp qbI;rw[qcE h c e,qcE (λi j q r=>h j i r q) c e]
 have t:∀a b,qbI n m' a b=qbI n m' b a:=λa b=>by
  unfold qbI;rw[qe9,qe9 n (λi j=>m' j i)]
 have u:∀a,a<n->qbI n m' a a=true:=λa c=>by
  unfold qbI;rw[qe3 c (l a c),qe3 (m:=λi j=>m' j i) c (l a c)];rfl
 cases d:qa9 n m
 ·symm;unfold qa9 at d;rw[List.all_eq_false]at d;obtain⟨a,c,d⟩:=d;rw[Bool.not_eq_true,List.all_eq_false]at d;obtain⟨b,e,d⟩:=d;have f:=List.mem_range.1 c;have v:=List.mem_range.1 e;exact qeo (a:=a) (b:=b) f (by omega) (by rw[<-k a b f (by omega)];exact Bool.not_eq_true _▸d)
 symm;refine qf7 (λa b c e=>?_);have g:∀a b,a<n->b<a->qbI n m' a b=true:=λa b c e=>by
  rw[<-k a b c (by omega)];exact List.all_eq_true.1 (List.all_eq_true.1 d a (List.mem_range.2 c)) b (List.mem_range.2 e)
 rcases Nat.lt_trichotomy a b with s|o|p
 ·rw[t];exact g b a e s
 ·subst o;exact u a c
 exact g a b c p

end
section
open Go.RowKit
def qfO(c:Cfg):Bool:=qbD c.labels c.L&&qbM c.labels.toNat c.dflt&&qbM c.labels.toNat c.clr
def qb3(c:Cfg):Int :=
 if qfO c=false then 1
 else if qby c.labels.toNat (qbf c.labels.toNat c.L)=false then 2
 else if qb2 c.labels.toNat (qbf c.labels.toNat c.L)=false then 3
 else if qeZ c.inn c.out c.depth c.bytes=false then 4
 else if qaF c.B=false then 5
 else if 0<=qa5 c.labels.toNat c.pol.data.toList then 6 else 0
def qew(c:Cfg):Int:=if qb3 c=6 then qa5 c.labels.toNat c.pol.data.toList else 0
structure qh8(w:World)(c:Cfg)(W:World):Prop where
 below:Below w.heap.size w W
 box:W.heap[w.heap.size]?=some (.cells c.arr 25)
theorem qh8.step(h:qh8 w c W)(a:Below W.heap.size W W'):qh8 w c W' :=
 ⟨h.below.trans (a.mono h.below.size),(a.block _ (ltA h.box)).trans h.box⟩
theorem qgs(w:World)(c:Cfg):qh8 w c (w.alloc (.cells c.arr 25)):=⟨bwA,qac _ _⟩
theorem qh8.cell(h:qh8 w c W)(j:Nat):W.cell? ⟨w.heap.size,j,none⟩=c.arr[j]?:=qaa h.box j
theorem qh8.cfg(h:qh8 w c W)(a:qin w c):qin W c:=a.below h.below
theorem qtQ(c:Cfg)(w:World)(h:qin w c):Calls prog 18 #[.agg c.arr] w λe d=>e=.returned (.bool (qbD c.labels c.L))/\Below w.heap.size w d:=by
 by_cases a:1<=c.labels/\c.labels<=6/\c.L.length<=30
 ·have e:qbD c.labels c.L=qaV c.labels.toNat c.L:=by unfold qbD;rw[decide_eq_true a];rfl
  rw[e];have b:((c.labels.toNat:Nat):Int)=c.labels:=Int.toNat_of_nonneg (by omega);exact qrP c.arr c.labels.toNat c.L c.ea c.ecap ⟨c.size,by rw[b];rfl,rfl⟩ (by omega) (by omega) a.2.2 w h.edges
 have e:qbD c.labels c.L=false:=by unfold qbD;rw[decide_eq_false a];rfl
 rw[e];exact qnZ c.arr c.labels c.L c.ea c.ecap rfl rfl (by have:=h.eb;unfold maxLen;omega) w a
theorem qek(h:qbD c.labels c.L=true):((c.labels.toNat:Nat):Int)=c.labels/\qj7 c.arr c.labels.toNat c.L c.ea c.ecap:=by
 unfold qbD at h;rw[Bool.and_eq_true]at h;have b:=of_decide_eq_true h.1;have a:((c.labels.toNat:Nat):Int)=c.labels:=Int.toNat_of_nonneg (by omega);exact⟨a,⟨⟨c.size,by rw[a];rfl,rfl⟩,by omega,b.2.2,h.2⟩⟩

theorem q0y{ev:Operand->Value}(a:TypeId)(x:Operand)(f:o.op=.load a x)(g:Nat)(i:ev x=.pointer (some ⟨g,0,none⟩))(t:TypeId)(cs:Array Value)(b:Nat×Nat)(d:TypeDesc)(e:W.heap[g]?=some (.cells cs t b))(h:P.underlying a=some d)(c:(match d with|.struct _|.array _ _=>true|_=>false)=true)(hi:(P.info? a).map (·.size)=some cs.size):(execOp ev o).run P W=.ok (.value (.agg cs)) W:=by
 unfold execOp;simp only[f,i,Instr.loadAt,Instr.sureAddr,Sem.run_bind,Sem.run_pure,Result.andThen_ok,run_loadVar_row W g t a cs b d e h c hi]
theorem qxt(x:Int)(h : -9223372036854775808<=x/\x<=9223372036854775807):IntKind.i64.wrap x=x:=(IntKind.wrap_i64 x).trans (by omega)
theorem ck{f:FuncId}{args:Array Value}{r:Ending}{Q:Ending->World->Prop}(c:Calls P f args V λe a=>e=r/\Below V.heap.size V a)(b:∀{V':World},Below V.heap.size V V'->S V')(k:∀w,Hid (S w)->Q r w):Calls P f args V Q :=
 c.mono λ_ _ h=>h.1▸k _ (b h.2)
theorem tk{md:Region.Mode}{oi:Oper}{listed:Array Bool}(i d:Nat)(v:Value)(hi:ops[i]?=some oi)(b:(Region.noSelect ops&&Region.free md ops listed i&&(Region.ready md ops listed).contains i&&oi.dst==some d&&Region.wanted oi (yielded ops a.tmps))=true)(e:∀c a w,Q (.panic c) (a.put (some d) v) w->Q (.panic c) a w)(g:∀Z,S Z->(execOp a.eval oi).run P Z=.ok (.value v) Z)(f:S w)(h:wpAnyH P md ops Q S fuel (listed.setIfInBounds i true) (a.put (some d) v) w):wpAnyH P md ops Q S (fuel+1) listed a w:=by
 simp only[Bool.and_eq_true]at b;exact qwh (some d) hi b.1.1.1.1 b.1.1.1.2 b.1.1.2 e (by simpa using b.1.2) (.inl ⟨b.2,g⟩) f h

end
end Go.Proofs.YtpifimohecagoaaGreatDoor
