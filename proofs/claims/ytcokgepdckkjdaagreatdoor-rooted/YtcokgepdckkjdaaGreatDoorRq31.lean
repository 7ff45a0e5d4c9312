import Derived.Test.YtcokgepdckkjdaaGreatDoorCards
import Derived.Test.YtcokgepdckkjdaaGreatDoorTie
import Derived.Carry
import Derived.Deep.DeepHandedRow
import Derived.Lib.LaidTab
import Derived.Test.YtcokgepdckkjdaaGreatDoorRq18
import Derived.Test.YtcokgepdckkjdaaGreatDoorRq21
set_option maxRecDepth 100000
set_option maxHeartbeats 8000000
namespace Go.Proofs.YtcokgepdckkjdaaGreatDoor
open Go.Proofs.Tryz
variable {V W w2:World}{A L j k tb:Nat}{q:Aut}{sv:Value}{st:Nat->Nat}{tk:Nat->Nat->Nat}
section
open Go.ChangeShapes Go.WideShapes Go.ChangeAt Go.RowKit Go.Lib
theorem Tryz.own:ownKnob prog.godebug=none:=by kernel_rfl
theorem Tryz.laidOut:laidOutB prog=true:=by kernel_rfl
def qhX:Nat->DataW Unit->List Value
 |0,_=>[]
 |_+1,.lit (.int k z)=>[.int k z]
 |_+1,.lit (.string b)=>[.string ⟨b.toArray⟩]
 |n+1,.agg ds=>ds.flatMap (qhX n)
 |_+1,_=>[]
def qdl (h:Array Obj)(g:Nat)(cs:Array Value):Array Obj:=h.modify g fun
 |.cells _ t frozen=>.cells cs t frozen
 |o=>o
def quD (w0:World):World :=
 let h0:=qdl w0.heap 7 (qhX 5 Rows.laid_math_bits_deBruijn32tab).toArray
 let h1:=qdl h0 8 (qhX 5 Rows.laid_math_bits_deBruijn64tab).toArray
 let h2:=qdl h1 6 (qhX 5 Rows.laid_internal_strconv_uint64pow10).toArray
 let h3:=qdl h2 5 (qhX 5 Rows.laid_unicode_utf8_acceptRanges).toArray
 let h4:=qdl h3 1 (qhX 5 Rows.laid_redact_reading_cborSorts).toArray
 let h5:=qdl h4 2 (qhX 5 Rows.laid_redact_reading_packHeads).toArray
 let h6:=qdl h5 0 (qhX 5 Rows.laid_redact_policy_signs).toArray
 let h7:=qdl h6 4 (qhX 5 Rows.laid_unicode_utf8_first).toArray
 {w0 with heap:=h7}

end
section
open Go.RowKit
theorem qnN (q:Aut)(st:Nat->Nat)(b a:Value):(qhM q st b a)[2]? = some (.map (some q.lm)):=by kernel_rfl
theorem qp9 (q:Aut)(st:Nat->Nat)(a b:Value):(qhM q st a b)[19]? = some a:=by kernel_rfl
theorem Tryz.infoPlc:(prog.info? 129).map (fun i=>(i.zero,i.size,i.bytes))=some (some (.agg (plA zPl)),16,32):=by kernel_rfl
theorem qxi (n:Nat)(h:n<=128)(w:World):(Instr.makeSlice 130 (.int .i64 (wrap64 (2+(n:Int)))) (.int .i64 (wrap64 (2+(n:Int))))).run prog w=.ok (.slice (some ⟨w.heap.size,0,none⟩) (2+n) (2+n)) (w.alloc (.cells (madeCells (plA zPl) ((2+n)*16)) 129)):=by
 obtain⟨i,f,c,a,d⟩:=info_parts Tryz.infoPlc;have e:((2+n:Nat):Int).toNat=2+n:=Int.toNat_natCast _;have b:=run_makeSlice (P:=prog) (w:=w) 130 129 i (.agg (plA zPl)) underlying130 f c .i64 .i64 ((2+n:Nat):Int) ((2+n:Nat):Int) (by omega) (Int.le_refl _) (by rw[e,a];omega) (by rw[d];omega) (by omega);rw[e,a] at b;rw[wr2 n h];exact b

theorem qsO (L:Nat):TkC (madeCells (plA zPl) (L*16)) L (fun _ _=>0):=by
 refine⟨size_madeCells _ _,fun x r d c => ?_⟩;have a:x*16+r<L*16:=by omega
 have b:(x*16+r)%16<16:=Nat.mod_lt _ (by omega);have h:=qcR zPl ((x*16+r)%16) b;have e:(plA zPl)[(x*16+r)%(plA zPl).size]! = .int .u16 0:=by
  rw[qbR,getElem!_def,h];rfl
 unfold madeCells;rw[Array.getElem?_map,Array.getElem?_range,if_pos a,Option.map_some,e];rfl
theorem qmB (b:W.heap[A]? = some (.cells (qhM q (fun _=>0) (.slice none 0 0) sv) 133)):qci W A W.heap.size L q sv (fun _=>0) (fun _ _=>0) ((W.alloc (.cells (madeCells (plA zPl) (L*16)) 129)).setCell ⟨A,19,none⟩ (.slice (some ⟨W.heap.size,0,none⟩) L L)):=by
 have f:=ltA b;have a:=heap_setCell_same (W.alloc (.cells (madeCells (plA zPl) (L*16)) 129)) A 19 _ _ (.slice (some ⟨W.heap.size,0,none⟩) L L) ((Below.heap_alloc W _ A f).trans b);rw[qo9] at a;refine⟨a,⟨_,(Below.heap_setCell _ _ _ _ (by simp;omega)).trans (qac W _),qsO L⟩,rfl,rfl,rfl,?_,fun k c d=>(Below.heap_setCell _ _ _ _ (by simpa using d)).trans (Below.heap_alloc W _ k c)⟩;have e:((W.alloc (.cells (madeCells (plA zPl) (L*16)) 129)).setCell ⟨A,19,none⟩ (.slice (some ⟨W.heap.size,0,none⟩) L L)).heap.size=(W.alloc (.cells (madeCells (plA zPl) (L*16)) 129)).heap.size:=by simp[World.setCell]
 rw[e,World.size_alloc];omega

theorem qpF (q:Aut)(st:Nat->Nat)(b a:Value):(qhM q st b a)[0]? = some (.slice q.ra q.rs.length q.rc):=by kernel_rfl
theorem qci.low {W0:World}(h:qci W A tb L q sv st tk V)(a:Below W0.heap.size W0 W)(c:W0.heap.size<=A):Below W0.heap.size W0 V :=
 ⟨h.os.trans a.os,h.tape.trans a.tape,h.output.trans a.output,Nat.le_trans a.size h.size,fun i b=>(h.block i (Nat.lt_of_lt_of_le b a.size) (by omega)).trans (a.block i b)⟩
theorem qci.names {lm:Nat}{ks:List (List UInt8)}(h:qci W A tb L q sv st tk V)(b:ImK W lm ks)(d:A≠lm):ImK V lm ks :=
 b.kept (row:=some A) ⟨h.os,h.tape,h.output,h.size,fun i a c=>h.block i a (by simpa using c)⟩ (by simpa using d.symm)
theorem qci.c2 (h:qci W A tb L q sv st tk V):V.cell? ⟨A,2,none⟩=some (.map (some q.lm)):=(cell_of_row V A 2 _ _ _ h.row).trans (qnN _ _ _ _)
theorem qci.c19 (h:qci W A tb L q sv st tk V):V.cell? ⟨A,19,none⟩=some (.slice (some ⟨tb,0,none⟩) L L):=(cell_of_row V A 19 _ _ _ h.row).trans (qp9 _ _ _ _)
theorem qci.cs (h:qci W A tb L q sv st tk V)(r:Nat)(a:r<16):V.cell? ⟨A,3+r,none⟩=some (.int .u16 (st r))/\V.frozen? ⟨A,3+r,none⟩=false :=
 ⟨(cell_of_row V A (3+r) _ _ _ h.row).trans (qtu _ _ _ _ r a),frozen_of_row V A (3+r) _ _ h.row⟩
theorem qci.ct (h:qci W A tb L q sv st tk V)(x r:Nat)(d:x<L)(c:r<16):V.cell? ⟨tb,x*16+r,none⟩=some (.int .u16 (tk x r))/\V.frozen? ⟨tb,x*16+r,none⟩=false:=by
 obtain⟨e,a,b⟩:=h.tks;exact⟨(cell_of_row V tb (x*16+r) _ _ _ a).trans (b.at_ x r d c),frozen_of_row V tb (x*16+r) _ _ a⟩
theorem qrV (st:Nat->Nat)(k j:Nat):(fun i=>if i=k then st k ||| 2^j else st i)=stU st k j true:=by
 funext i;unfold stU;by_cases h:i=k
 ·subst h;rw[if_pos rfl,if_pos ⟨rfl,rfl⟩]
 rw[if_neg h,if_neg (fun e=>h e.1)]
theorem qec (st:Nat->Nat)(k j:Nat):stU st k j false=st:=by
 funext i;unfold stU;rw[if_neg (by simp)]
theorem qci.alike {tk':Nat->Nat->Nat}(h:qci W A tb L q sv st tk V)(f:∀x r,x<L->tk' x r=tk x r):qci W A tb L q sv st tk' V:=by
 obtain⟨b,c,d,e⟩:=h.tks;exact⟨h.row,⟨b,c,d,fun x r a g=>by rw[f x r a];exact e x r a g⟩,h.os,h.tape,h.output,h.size,h.block⟩
def tk1 (tk:Nat->Nat->Nat)(x k j:Nat):Nat->Nat->Nat:=fun y i=>if y=x/\i=k then tk x k ||| 2^j else tk y i
theorem qci.one (h:qci W A tb L q sv st tk V)(b:A≠tb)(c:W.heap.size<=tb)(x k j:Nat)(d:x<L)(a:k<16):qci W A tb L q sv st (tk1 tk x k j) (V.drew.setCell ⟨tb,x*16+k,none⟩ (.int .u16 ((tk x k ||| 2^j:Nat):Int))):=h.took b c x k (tk x k ||| 2^j) d a
def tkm (tk:Nat->Nat->Nat)(m k j:Nat):Nat->Nat->Nat:=fun y=>if y<m then stU (tk y) k j true else tk y
theorem qq3 (tk:Nat->Nat->Nat)(k j:Nat):tkm tk 0 k j=tk:=by
 funext y;unfold tkm;rw[if_neg (by omega)]
theorem qqH (tk:Nat->Nat->Nat)(m k j:Nat):tk1 (tkm tk m k j) m k j=tkm tk (m+1) k j:=by
 funext y i;unfold tk1 tkm;by_cases h:y=m
 ·subst h;rw[if_pos (by omega:y<y+1)];by_cases a:i=k
  ·subst a;rw[if_pos ⟨rfl,rfl⟩,if_neg (by omega:¬y<y)];unfold stU;rw[if_pos ⟨rfl,rfl⟩]
  rw[if_neg (fun e=>a e.2),if_neg (by omega:¬y<y)];unfold stU;rw[if_neg (fun e=>a e.1)]
 rw[if_neg (fun e=>h e.1)];by_cases b:y<m
 ·rw[if_pos b,if_pos (by omega:y<m+1)]
 rw[if_neg b,if_neg (by omega:¬y<m+1)]
theorem qsr (tk:Nat->Nat->Nat)(x k j:Nat)(y:Nat):tk1 tk x k j y=stU (tk y) k j (y==x):=by
 funext i;unfold tk1 stU;by_cases h:y=x
 ·subst h;by_cases a:i=k
  ·subst a;rw[if_pos ⟨rfl,rfl⟩,if_pos ⟨rfl,by simp⟩]
  rw[if_neg (fun e=>a e.2),if_neg (fun e=>a e.1)]
 rw[if_neg (fun e=>h e.1),if_neg (fun e=>h (by simpa using e.2))]

theorem quN (h:qci W A tb L q sv st tk V)(b:A≠tb)(a:k<16)(c:w2=V.drew.setCell ⟨A,3+k,none⟩ (.int .u16 ((st k ||| 2^j:Nat):Int))):qci W A tb L q sv (stU st k j true) tk w2:=by
 rw[c,<-qrV];exact h.stays b k (st k ||| 2^j) a
theorem qk0 (h:qci W A tb L q sv st tk V)(b:A≠tb)(d:W.heap.size<=tb){x o:Nat}(f:x<L)(a:k<16)(c:o=x*16)(e:w2=V.drew.setCell ⟨tb,o+k,none⟩ (.int .u16 ((tk x k ||| 2^j:Nat):Int))):qci W A tb L q sv st (tk1 tk x k j) w2:=by
 rw[e,c];exact h.one b d x k j f a
def qwo (W:World)(A:Nat)(q:Aut)(sv:Value)(ks:List (List UInt8))(e:Ending)(W':World):Prop :=
 e=.returned (.tuple #[])/\∃tb st tk,W.heap.size<=tb/\qci W A tb (2+ks.length) q sv st tk W'/\LyD q.rs ks st tk
theorem qgm (F W:World)(A:Nat)(q:Aut)(f:Value)(ks:List (List UInt8))(a3:Below F.heap.size F W)(Y:W.heap[A]? = some (.cells (qhM q (fun _=>0) (.slice none 0 0) f) 133))(aj:F.heap.size<=A)(hn:q.rs.length<=16)(h8:∀i (h:i<q.rs.length),q.rs[i].1.length<=8)(a5:∀i (h:i<q.rs.length) j (U:j<q.rs[i].1.length),q.rs[i].1[j].1<=3/\q.rs[i].1[j].2.length<=1000000000)(hr:qdW F q.ra q.rs)(hm:ImK W q.lm ks)(am:ks.length<=128)(a4:∀i (h:i<q.rs.length) j (U:j<q.rs[i].1.length),q.rs[i].1[j].1=3->q.rs[i].1[j].2∈ks)(bl:A≠q.lm):Calls prog 61 #[.pointer (some ⟨A,0,none⟩)] W (qwo W A q f ks):=by
 have c2:=(cell_of_row W A 2 _ _ _ Y).trans (qnN _ _ _ _);have bo:=hm.len underlying124;have ae:=qaa Y;have bk:=frozen_of_row W A 19 _ _ Y;have c19:=(cell_of_row W A 19 _ _ _ Y).trans (qp9 _ _ _ _);have HR:=qaa hr;have ag:=qaa a3;have HM:=qaa hm;have bd:=qaa a5;have bc:=qaa a4;have H8:=qaa h8;have ax:=qaa (qxi ks.length am);have be:=qaa am;clear Y hr a3 hm a5 a4 h8 am;go_enter func61,ntmps61;have bs:=ax.out;have lA:=ltA ae.out;have bx:A≠W.heap.size:=by omega
 have ao:Hid ((W.alloc (.cells (madeCells (plA zPl) ((2+ks.length)*16)) 129)).setCell ⟨A,19,none⟩ (.slice (some ⟨W.heap.size,0,none⟩) (2+ks.length) (2+ks.length))=(W.setCell ⟨A,19,none⟩ (.slice (some ⟨W.heap.size,0,none⟩) (2+ks.length) (2+ks.length))).alloc (.cells (madeCells (plA zPl) ((2+ks.length)*16)) 129)):=by show _=_;go_simp
 have au:Hid (qci W A W.heap.size (2+ks.length) q f (fun _=>0) (fun _ _=>0) ((W.setCell ⟨A,19,none⟩ (.slice (some ⟨W.heap.size,0,none⟩) (2+ks.length) (2+ks.length))).alloc (.cells (madeCells (plA zPl) ((2+ks.length)*16)) 129))):=by
  have h:=qmB (L:=2+ks.length) ae.out;rw[ao.out] at h;exact h
 have c0:=(cell_of_row _ A 0 _ _ _ ae.out).trans (qpF _ _ _ _);obtain⟨ra,ad⟩:∃ra,Hid (q.ra=ra):=⟨_,rfl⟩
 rw[ad.out] at c0;have a0:Hid (qdW F ra q.rs):=by rw[<-ad.out];exact HR.out
 clear HR ad;go_wp2;clear c2 bo bk c19 c0 bs ax ao;obtain⟨L,N⟩:∃L,Hid (L=2+ks.length):=⟨_,rfl⟩
 obtain⟨a,E⟩:∃a,Hid (W.heap.size<=a/\a=W.heap.size):=⟨_,Nat.le_refl _,rfl⟩
 have g:A≠a:=by have:=E.out.2;omega
 have av:Hid (qci W A a L q f (fun _=>0) (fun _ _=>0) ((W.setCell ⟨A,19,none⟩ (.slice (some ⟨W.heap.size,0,none⟩) (2+ks.length) (2+ks.length))).alloc (.cells (madeCells (plA zPl) ((2+ks.length)*16)) 129))):=by
  rw[N.out,E.out.2];exact au.out
 clear au;generalize (W.setCell ⟨A,19,none⟩ (.slice (some ⟨W.heap.size,0,none⟩) (2+ks.length) (2+ks.length))).alloc (.cells (madeCells (plA zPl) ((2+ks.length)*16)) 129)=V00 at *
 go_loopg [22] q.rs.length (fun ai z wr=>∃(k:Nat) (st:Nat->Nat) (tk:Nat->Nat->Nat),z=.int .i64 k/\Hid (k+ai=q.rs.length)/\Hid (qci W A a L q f st tk wr)/\Hid (LyM q.rs ks k 0 st tk))
 case atStart=>exact⟨0,_,_,rfl,by show _=_;omega,av,qos _ _⟩
 case round =>
  clear av;obtain⟨k,st,tk,rfl,y,O,HK⟩:=hrel
  cases gk with
  |zero =>
   have bp:¬(k:Int)<(q.rs.length:Int):=by have:=y.out;omega
   go_wp2;go_end0;refine⟨rfl,a,st,tk,E.out.1,?_,HK.out.done (by have:=y.out;omega)⟩;rw[<-N.out];exact O.out
  |succ ai =>
   have I:k<q.rs.length:=by have:=y.out;omega
   have bp:(k:Int)<(q.rs.length:Int):=by omega
   obtain⟨bj,off,pa,pc,rfl,hb,e0,e1,T,bu⟩:=(a0.out.below (O.out.low ag.out aj)).at_ k I;have a1:Hid (qks F pa q.rs[k].1):=by
    obtain⟨b',b5,b7,b8,ak,bm,f0,f1,f2,bt⟩:=a0.out.at_ k I;injection ak with ak;injection ak with hab1 hab2;subst hab1;subst hab2;have G:=((O.out.low ag.out aj).cell (p:=⟨bj,off+k*3,none⟩) bm).trans f0;rw[e0] at G;injection G with G;injection G with G _ _;subst G;exact bt
   have bn:=H8.out k I;have n:k<16:=by omega
   have aq:Hid (∀j (U:j<q.rs[k].1.length),(q.rs[k].1[j].1<=3/\q.rs[k].1[j].2.length<=1000000000)/\(q.rs[k].1[j].1=3->q.rs[k].1[j].2∈ks)):=fun j U=>⟨bd.out k I j U,bc.out k I j U⟩
   have az:=qaa (List.getElem?_eq_getElem I);have ay:Hid (qci W A a L q f st tk (wr.alloc (.cells #[.slice pa q.rs[k].1.length pc,.int .i64 q.rs[k].2.1,.int .i64 q.rs[k].2.2] 164))):=O.out.next bwA
   clear bu;go_wp2;clear e0 e1 T O;generalize wr.alloc (.cells #[.slice pa q.rs[k].1.length pc,.int .i64 q.rs[k].2.1,.int .i64 q.rs[k].2.2] 164)=V0 at *;generalize q.rs[k]=R at *;obtain⟨D,lb,ac⟩:=R;dsimp only at a1 bn aq
   go_loopg [30] D.length (fun H z ah=>∃(j:Nat) (st:Nat->Nat) (tk:Nat->Nat->Nat),z=.int .i64 j/\Hid (j+H=D.length)/\Hid (qci W A a L q f st tk ah)/\Hid (LyM q.rs ks k j st tk))
   case atStart=>exact⟨0,st,tk,rfl,by show _=_;omega,ay,HK⟩
   case round =>
    clear ay HK;obtain⟨j,st,tk,rfl,C,w,b⟩:=hrel
    cases gk with
    |zero =>
     have bq:¬(j:Int)<(D.length:Int):=by have:=C.out;omega
     go_wp2;go_roundg ai
     case measure=>omega
     case rel=>exact⟨k+1,st,tk,by go_num,by show _=_;have:=y.out;omega,w,b.out.rule az.out (by have:=C.out;show D.length<=j;omega)⟩
    |succ H =>
     have al:j<D.length:=by have:=C.out;omega
     have bq:(j:Int)<(D.length:Int):=by omega
     obtain⟨b2,b6,rfl,b3,s0,s1⟩:=(a1.out.below (w.out.low ag.out aj)).at_ j al;obtain⟨⟨a6,a7⟩,ba⟩:=aq.out j al;have bf:=qaa (List.getElem?_eq_getElem al);have ar:=qaa a7;have aw:=qaa ba;have ap:=qaa a6;have aa:j<16:=by omega
     clear a7 ba a6;generalize D[j]=sg at *;have l:Hid (qci W A a L q f st tk (wr.alloc (.cells #[.int .i64 sg.1,.string ⟨sg.2.toArray⟩] 169))):=w.out.next bwA
     have ab:=b.out.lt H8.out;have bg:=qaa ab.1;have af:=qaa ab.2;clear ab;have v:=qaa (b.out.place az.out bf.out);have bh:Hid (a<wr.heap.size):=by
      obtain⟨bw,h1,_⟩:=w.out.tks;exact ltA h1
     obtain⟨J,key⟩:=sg;have K:Hid ((wr.alloc (.cells #[.int .i64 J,.string ⟨key.toArray⟩] 169)).heap[wr.heap.size]? = some (.cells #[.int .i64 J,.string ⟨key.toArray⟩] 169)):=qac _ _;dsimp only at ar aw ap;have Q:=w.out.c19;have bz:=ltA w.out.row;have b0:(1:Int)<(L:Int):=by have:=N.out;omega
     have b1:L<=130:=by have:=N.out;have:=be.out;omega
     clear w b;rcases(by have:=ap.out;omega:J=0\/J=1\/J=2\/J=3) with rfl|rfl|rfl|rfl
     ·have B:Hid (LyM q.rs ks k (j+1) st (fun x=>stU (tk x) k j true)):=by
       have h:=v.out;have e:stU st k j (((0,key):Nat×List UInt8).1==1)=st:=qec st k j;rw[e] at h;exact h
      clear v;go_wp2;generalize wr.alloc (.cells #[.int .i64 ((0:Nat):Int),.string ⟨key.toArray⟩] 169)=V1 at *
      go_loopg [44] L (fun g3 z ah=>∃m:Nat,z=.int .i64 m/\Hid (m+g3=L)/\Hid (qci W A a L q f st (tkm tk m k j) ah))
      case atStart=>exact⟨0,rfl,by show _=_;omega,by rw[qq3];exact l⟩
      case round =>
       clear l K Q;obtain⟨m,rfl,V,P⟩:=hrel
       cases gk with
       |zero =>
        have br:¬(m:Int)<(L:Int):=by have:=V.out;omega
        have u:Hid (qci W A a L q f st (fun x=>stU (tk x) k j true) wr):=P.out.alike fun x b9 hx=>by
         unfold tkm;rw[if_pos (by have:=V.out;omega)]
        clear P;go_wp2;go_roundg H
        case measure=>omega
        case rel=>exact⟨j+1,st,_,by go_num,by show _=_;have:=C.out;omega,u,B⟩
       |succ g3 =>
        have a9:m<L:=by have:=V.out;omega
        have br:(m:Int)<(L:Int):=by omega
        have Q:=P.out.c19;obtain⟨ct,t⟩:=P.out.ct m k a9 n;have a8:tkm tk m k j m k<65536:=by
         unfold tkm;rw[if_neg (by omega)];have:=af.out m k;omega
        have s:=qdf wr a (m*16) (tkm tk m k j m k) k j n aa a8 ct t;clear ct t a8
        go_wp2_with (first
         |(go_at_call 86;refine s.mono ?_;clear s;rintro e r ⟨rfl,o⟩;have u:=qaa (qk0 P.out g E.out.1 a9 n rfl o);clear o Q))
        go_roundg g3
        case measure=>omega
        case rel=>exact⟨m+1,by go_num,by show _=_;have:=V.out;omega,by rw[<-qqH];exact u⟩
     ·have B:Hid (LyM q.rs ks k (j+1) (stU st k j true) tk):=by
       have h:=v.out;have e:(fun x=>stU (tk x) k j (tkX ks (1,key) x))=tk:=by
        funext x;exact qec (tk x) k j
       rw[e] at h;exact h
      obtain⟨ct,t⟩:=l.out.cs k n;have s:=qdf _ A 3 (st k) k j n aa (by have:=bg.out k;omega) ct t;clear v ct t
      go_wp2_with (first
       |(go_at_call 86;refine s.mono ?_;clear s;rintro e r ⟨rfl,o⟩;have u:=qaa (quN l.out g n o);clear o Q l))
      go_roundg H
      case measure=>omega
      case rel=>exact⟨j+1,_,tk,by go_num,by show _=_;have:=C.out;omega,u,B⟩
     ·have B:Hid (LyM q.rs ks k (j+1) st (tk1 tk 1 k j)):=by
       have h:=v.out;have e:(fun x=>stU (tk x) k j (tkX ks (2,key) x))=tk1 tk 1 k j:=by
        funext x;exact(qsr tk 1 k j x).symm
       have T:stU st k j (((2,key):Nat×List UInt8).1==1)=st:=qec st k j;rw[e,T] at h;exact h
      obtain⟨ct,t⟩:=l.out.ct 1 k (by omega) n;have s:=qdf _ a 16 (tk 1 k) k j n aa (by have:=af.out 1 k;omega) ct t;clear v ct t
      go_wp2_with (first
       |(go_at_call 86;refine s.mono ?_;clear s;rintro e r ⟨rfl,o⟩;have u:Hid (qci W A a L q f st (tk1 tk 1 k j) r):=qk0 l.out g E.out.1 (by omega) n rfl o;clear o Q l))
      go_roundg H
      case measure=>omega
      case rel=>exact⟨j+1,st,_,by go_num,by show _=_;have:=C.out;omega,u,B⟩
     obtain⟨x,HX⟩:∃x,Hid (x=(fnL ks (.string key)).getD 0):=⟨_,rfl⟩
     have bi:Hid (x<L):=by
      have h:=aw.out rfl;show x<L;rw[HX.out,qes h,N.out];have:=List.idxOf_lt_length_iff.2 h;show 2+ks.idxOf key<_;omega
     have B:Hid (LyM q.rs ks k (j+1) st (tk1 tk x k j)):=by
      have h:=v.out;have e:(fun an=>stU (tk an) k j (tkX ks (3,key) an))=tk1 tk x k j:=by
       funext an;rw[qsr,HX.out];rfl
      have T:stU st k j (((3,key):Nat×List UInt8).1==1)=st:=qec st k j;rw[e,T] at h;exact h
     have hxL:=bi.out;have b4:(x:Int)<(L:Int):=by omega
     clear v;go_wp2;generalize wr.alloc (.cells #[.int .i64 ((3:Nat):Int),.string ⟨key.toArray⟩] 169)=V1 at *;generalize wr.heap.size=M at *;refine rgn (S:=fun Z=>(∃tk,qci W A a L q f st tk Z)/\Z.heap[M]? = some (.cells #[.int .i64 ((3:Nat):Int),.string ⟨key.toArray⟩] 169)) (⟨⟨tk,l.out.next (Below.refl _ _).drew⟩,K.out⟩) (by kernel_rfl) ?_;intro d;refine tkH 0 77 (.pointer (some ⟨A,0,none⟩)) rfl (by kernel_rfl) (fun _ _ _ h=>h) (fun Z c=>by kernel_rfl) d ?_;refine tkH 1 78 (.pointer (some ⟨A,0,none⟩)) rfl (by kernel_rfl) (fun _ _ _ h=>h) (fun Z c=>by kernel_rfl) d ?_;refine tkH 2 79 (.pointer (some ⟨A,19,none⟩)) rfl (by kernel_rfl) (fun _ _ _ h=>h) (fun Z c=>by kernel_rfl) d ?_;refine tkH 3 80 (.slice (some ⟨a,0,none⟩) L L) rfl (by kernel_rfl) (fun _ _ _ h=>h) (fun Z c => ?y3) d ?_
     case y3=>(obtain⟨bb,X⟩:=c.1;have z1:=X.c19;go_simp)
     refine tkH 4 81 (.pointer (some ⟨A,0,none⟩)) rfl (by kernel_rfl) (fun _ _ _ h=>h) (fun Z c=>by kernel_rfl) d ?_;refine tkH 5 82 (.pointer (some ⟨A,0,none⟩)) rfl (by kernel_rfl) (fun _ _ _ h=>h) (fun Z c=>by kernel_rfl) d ?_;refine tkH 6 83 (.pointer (some ⟨A,2,none⟩)) rfl (by kernel_rfl) (fun _ _ _ h=>h) (fun Z c=>by kernel_rfl) d ?_;refine tkH 7 84 (.map (some q.lm)) rfl (by kernel_rfl) (fun _ _ _ h=>h) (fun Z c => ?y7) d ?_
     case y7=>(obtain⟨bb,X⟩:=c.1;have z1:=X.c2;go_simp)
     refine tkH 8 85 (.pointer (some ⟨M,1,none⟩)) rfl (by kernel_rfl) (fun _ _ _ h=>h) (fun Z c=>by kernel_rfl) d ?_;refine tkH 9 86 (.string ⟨key.toArray⟩) rfl (by kernel_rfl) (fun _ _ _ h=>h) (fun Z c => ?y9) d ?_
     case y9=>(have z1:=qab c.2 1;go_simp)
     refine tkH 10 87 (.int .i64 x) rfl (by kernel_rfl) (fun _ _ _ h=>h) (fun Z c => ?y10) d ?_
     case y10=>(obtain⟨bb,X⟩:=c.1;have z3:=qf8 (X.names HM.out bl).im stK underlying124 (ql8 key ar.out);rw[<-HX.out] at z3;go_simp)
     refine tkH 11 88 (.pointer (some ⟨a,x*16,none⟩)) rfl (by kernel_rfl) (fun _ _ _ h=>h) (fun Z c => ?y11) d ?_
     case y11=>(go_simp)
     refine tkH 12 89 (.int .i64 k) rfl (by kernel_rfl) (fun _ _ _ h=>h) (fun Z c=>by kernel_rfl) d ?_;refine tkH 13 90 (.int .i64 j) rfl (by kernel_rfl) (fun _ _ _ h=>h) (fun Z c=>by kernel_rfl) d ?_;obtain⟨ct,t⟩:=(l.out.next (Below.refl _ _).drew).ct x k hxL n;have s:=qdf _ a (x*16) (tk x k) k j n aa (by have:=af.out x k;omega) ct t;clear ct t;refine rdS 14 rfl (by kernel_rfl) (fun bv hK => ?_);go_simp;refine s.mono ?_;clear s;rintro e r ⟨rfl,o⟩;have u:=qaa (qk0 (l.out.next (Below.refl _ _).drew) g E.out.1 hxL n rfl o);have a2:(fun Z:World=>(∃tk,qci W A a L q f st tk Z)/\Z.heap[M]? = some (.cells #[.int .i64 ((3:Nat):Int),.string ⟨key.toArray⟩] 169)) r:=⟨⟨_,u.out⟩,by rw[o];exact(Below.heap_setCell _ _ _ _ (by have:=bh.out;simp;omega)).trans K.out⟩
     clear o l K;refine hK.out _ _ a2 (fun _ => ?_);clear hK d a2;refine wpAnyH_done (by kernel_rfl) ?_ _;go_simp;go_wp2;go_roundg H
     case measure=>omega
     case rel=>exact⟨j+1,st,_,by go_num,by show _=_;have:=C.out;omega,u,B⟩

end
end Go.Proofs.YtcokgepdckkjdaaGreatDoor
