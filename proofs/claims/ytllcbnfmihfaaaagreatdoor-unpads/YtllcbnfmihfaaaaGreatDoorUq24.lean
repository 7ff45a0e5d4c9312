import Derived.Lib.LaidU8T
import Derived.PinnedBridge
import Derived.Test.YtllcbnfmihfaaaaGreatDoorCards
import Derived.Test.YtllcbnfmihfaaaaGreatDoorTie
import Derived.Carry
import Derived.Deep.DeepHandedRow
import Derived.Lib.LaidTab
import Derived.Test.YtllcbnfmihfaaaaGreatDoorUq14
import Derived.Test.YtllcbnfmihfaaaaGreatDoorUq23
set_option maxRecDepth 100000
set_option maxHeartbeats 8000000
namespace Go.Proofs.YtllcbnfmihfaaaaGreatDoor
open Go.Proofs.Tryz
section
open Go.RowKit Go.Deep Go.Shelf Go.Lib
def op0:OpD:=⟨0,0,0,0,0,ByteArray.empty,none,0,0⟩
section
variable {H:Type} {enc:TypeId×Value→H} {w:World}
end
theorem Tryz.gSignsT:(prog.globals[2]?).map (·.type)=some 337:=by kernel_rfl
theorem Tryz.x8:U8Extra prog Tryz.lays196_ren:=⟨by kernel_rfl,by kernel_rfl,by kernel_rfl,by kernel_rfl,by kernel_rfl,by kernel_rfl,by kernel_rfl⟩
theorem qg1:prog.cellsOf 336=2:=by kernel_rfl
theorem qk2:prog.cellsOf 233=1:=by kernel_rfl
theorem qjx:prog.cellsOf 337=6:=by kernel_rfl
theorem qix {W:World}{sp:Nat→Bool}{held:Bool}{fuel:Nat}{cs:List Value}{b:List UInt8}{k:Int}{p:List MemPlace}(h:DataW.trod (fun _=>()) prog W 0 sp held fuel 336 cs=some (.agg [.lit (.string b),.lit (.int .i64 k)],p)):cs=[.string ⟨b.toArray⟩,.int .i64 k]:=by
 obtain⟨xs,n,_,hx,hl,hlen,hf⟩:=DataW.trod_struct underlying336 h
 rw[qg1] at hl
 have hxl:xs.length=2:=hlen
 obtain⟨v0,v1,rfl⟩:=qnM hl
 obtain⟨y0,y1,rfl⟩:=qnM hxl
 have t0:DataW.trod (fun _=>()) prog W 0 sp held n 9 (([v0,v1].drop 0).take (prog.cellsOf 9))=some y0:=hf 0 _ rfl
 have t1:DataW.trod (fun _=>()) prog W 0 sp held n 233 (([v0,v1].drop 1).take (prog.cellsOf 233))=some y1:=hf 1 _ rfl
 rw[qi5] at t0
 rw[qk2] at t1
 obtain⟨s0,e0,hy0⟩:=DataW.trod_string underlying9 t0
 obtain⟨z1,e1,hy1⟩:=DataW.trod_int underlying233 t1
 simp at e0 e1
 subst e0 e1
 obtain⟨rfl,_⟩:=hy0
 obtain⟨rfl,_⟩:=hy1
 simp only[List.map_cons,List.map_nil,Prod.mk.injEq,DataW.agg.injEq,List.cons.injEq,DataW.lit.injEq,Lit.string.injEq,Lit.int.injEq,and_true,true_and] at hx
 obtain⟨⟨rfl,rfl⟩,_⟩:=hx
 simp
theorem qn2 {H:Type}{enc:TypeId×Value→H}{P:Program}{w:World}{base:Nat}{sp:Nat→Bool}{held:Bool}{fuel:Nat}{t e:TypeId}{n:Nat}{cs:List Value}{x:DataW H×List MemPlace}(ht:P.underlying t=some (.array n e))(h:DataW.trod enc P w base sp held fuel t cs=some x):cs.length=P.cellsOf t:=by
 cases fuel with
 |zero=>simp[DataW.trod] at h
 |succ fuel =>
  simp only[DataW.trod,ht] at h
  split at h
  ·next hh=>simpa using hh
  ·cases h
theorem six {cs:List Value}(hl:cs.length=6){a0 a1 b0 b1 c0 c1:Value}(h0:(cs.drop (0*2)).take 2=[a0,a1])(h1:(cs.drop (1*2)).take 2=[b0,b1])(h2:(cs.drop (2*2)).take 2=[c0,c1]):cs=[a0,a1,b0,b1,c0,c1]:=by
 match cs,hl with
 |[x0,x1,x2,x3,x4,x5],_ =>
  simp at h0 h1 h2
  obtain⟨rfl,rfl⟩:=h0
  obtain⟨rfl,rfl⟩:=h1
  obtain⟨rfl,rfl⟩:=h2
  rfl
theorem qnF {W:World}(hL:laidMetH prog Rows.checksRow.laid W)(hS:W.ShapedOpen prog):qop W:=by
 have hL':laidMet prog Rows.checksRow.laid W:=hL
 refine⟨?_,?_,Tryz.laysM145.s1_3 W hS⟩
 ·obtain⟨g,t,cs,fuel,p,hg,hty,hvar,hd⟩:=laidMet.reads hL' (d:=Rows.laid_redact_policy_signs) (.tail _ (.tail _ (.tail _ (.tail _ (.tail _ (.tail _ (.head _)))))))
  obtain rfl:g=2:=Option.some.inj (hg.symm.trans (by kernel_rfl))
  obtain rfl:=Option.some.inj (Tryz.gSignsT.symm.trans hty)
  have hd':DataW.trod (fun _=>()) prog W 0 (fun _=>true) false fuel 337 cs.toList=some (.agg [.agg [.lit (.string [42]),.lit (.int .i64 0)],.agg [.lit (.string [42,42]),.lit (.int .i64 1)],.agg [.lit (.string [91,93]),.lit (.int .i64 2)]],p):=hd
  obtain⟨f0,d0,q0,hd0,h0⟩:=array_elem underlying337 hd' 0 (by omega)
  obtain⟨f1,d1,q1,hd1,h1⟩:=array_elem underlying337 hd' 1 (by omega)
  obtain⟨f2,d2,q2,hd2,h2⟩:=array_elem underlying337 hd' 2 (by omega)
  cases hd0
  cases hd1
  cases hd2
  have r0:=qix h0
  have r1:=qix h1
  have r2:=qix h2
  rw[qg1] at r0 r1 r2
  have hcl:cs.toList.length=6:=(qn2 underlying337 hd').trans qjx
  have hcs:=six hcl r0 r1 r2
  unfold World.var? at hvar
  rw[hg] at hvar
  simp only[Option.bind_some] at hvar
  split at hvar
  ·next cs' t fr hh =>
   cases hvar
   refine⟨t,fr,?_⟩
   rw[hh]
   have:cs=[Value.string ⟨[42].toArray⟩,.int .i64 0,.string ⟨[42,42].toArray⟩,.int .i64 1,.string ⟨[91,93].toArray⟩,.int .i64 2].toArray:=by rw[←hcs]
   rw[this]
  ·cases hvar
 ·refine utf8Tabs_of_readsT (U8Types.of196 Tryz.lays196) Tryz.x8 ?_ ?_
  ·rw[←Pinned.utf8First_eq]
   exact laidMet.reads hL' (.tail _ (.tail _ (.tail _ (.tail _ (.tail _ (.tail _ (.tail _ (.head _))))))))
  ·have e:(Rows.laid_unicode_utf8_acceptRanges:DataW Unit)=acceptData:=by kernel_rfl
   have hr:=laidMet.reads hL' (d:=Rows.laid_unicode_utf8_acceptRanges) (.tail _ (.tail _ (.tail _ (.head _))))
   rw[e] at hr
   exact hr
end
section
open Go.ChangeShapes Go.WideShapes Go.ChangeAt Go.RowKit Go.Lib
theorem Tryz.own:ownKnob prog.godebug=none:=by kernel_rfl
theorem Tryz.laidOut:laidOutB prog=true:=by kernel_rfl
def qft:Nat→DataW Unit→List Value
 |0,_=>[]
 |_+1,.lit (.int k z)=>[.int k z]
 |_+1,.lit (.string b)=>[.string ⟨b.toArray⟩]
 |n+1,.agg ds=>ds.flatMap (qft n)
 |_+1,_=>[]
def qc0 (h:Array Obj)(g:Nat)(cs:Array Value):Array Obj:=h.modify g fun
 |.cells _ t frozen=>.cells cs t frozen
 |o=>o
def qnl (w0:World):World :=
 let h0:=qc0 w0.heap 7 (qft 5 Rows.laid_math_bits_deBruijn32tab).toArray
 let h1:=qc0 h0 8 (qft 5 Rows.laid_math_bits_deBruijn64tab).toArray
 let h2:=qc0 h1 6 (qft 5 Rows.laid_internal_strconv_uint64pow10).toArray
 let h3:=qc0 h2 5 (qft 5 Rows.laid_unicode_utf8_acceptRanges).toArray
 let h4:=qc0 h3 0 (qft 5 Rows.laid_redact_reading_cborSorts).toArray
 let h5:=qc0 h4 1 (qft 5 Rows.laid_redact_reading_packHeads).toArray
 let h6:=qc0 h5 2 (qft 5 Rows.laid_redact_policy_signs).toArray
 let h7:=qc0 h6 4 (qft 5 Rows.laid_unicode_utf8_first).toArray
 {w0 with heap:=h7}
theorem qmh (os:Os):laidMet prog Rows.checksRow.laid ((qnl (World.holding prog os ⟨#[],#[],[]⟩)).forCall (fun _ _=>0) ⟨#[],#[.slice none 0 0,.slice none 0 0],[]⟩).memory :=
 laidMet_of_run' 8 (by kernel_rfl) (by kernel_rfl)
end
section
open Go.RowKit Go.Lib
def qca (w w':World)(c:Value):Prop:=w.heap.size≤w'.heap.size∧∀(g:Nat) (cur:Array Value) (t:TypeId) (fr:Nat×Nat),w.heap[g]? = some (.cells cur t fr)→∃cur',w'.heap[g]? = some (.cells cur' t fr)∧cur'.size=cur.size∧∀j:Nat,cur'[j]? = cur[j]?∨(j<cur.size∧cur'[j]? = some c)
theorem qcG {w w':World}{c:Value}(hs:w.heap.size≤w'.heap.size)(h:∀j,j<w.heap.size→w'.heap[j]? = w.heap[j]?):qca w w' c :=
 ⟨hs,fun g cur _ _ hg=>⟨cur,(h g (ltA hg)).trans hg,rfl,fun _=>.inl rfl⟩⟩
theorem qca.trans {a b d:World}{c:Value}(h1:qca a b c)(h2:qca b d c):qca a d c:=by
 refine⟨Nat.le_trans h1.1 h2.1,fun g cur t fr hg => ?_⟩
 obtain⟨c1,e1,e2,e3⟩:=h1.2 g cur t fr hg
 obtain⟨c2,f1,f2,f3⟩:=h2.2 g c1 t fr e1
 refine⟨c2,f1,f2.trans e2,fun j => ?_⟩
 rcases f3 j with h|⟨h,h'⟩
 ·rcases e3 j with k|⟨k,k'⟩
  ·exact .inl (h.trans k)
  ·exact .inr ⟨k,h.trans k'⟩
 ·exact .inr ⟨by omega,h'⟩
theorem qaC (w:World)(o:Obj)(c:Value):qca w (w.alloc o) c:=qcG (by simp) (fun j hj=>Below.heap_alloc _ _ _ hj)
theorem qgc {P:Program}(w:World)(base:Nat)(t ty e:TypeId)(i:TypeInfo)(z:Value)(bytes:Nat)(ht:P.underlying t=some (.slice e))(hi:P.info? e=some i)(hz:i.zero=some z)(hsize:i.size=1)(hby:i.bytes=bytes)(v:Value)(n:Nat)(xs:List Value)(hown:w.ownsRow base e 1 v n xs)(a:Addr)(m c:Nat)(cv:Value)(hnews:∀j u,(List.replicate m cv)[j]? = some u→w.cell? (a.add j)=some u)(h1:cv.oneCell'=true)(hm:0<m)(h63:n+m≤maxLen)(hbytes:(n+m)*bytes≤140737488355328){v':Value}{w':World}(hr:(Builtin.append_ #[t,t] ty #[v,.slice (some a) m c]).run P w=.ok v' w'):qca w w' cv:=by
 subst hby
 have hsmall:n+m≤9223372036854775807:=by simp only[maxLen] at h63;omega
 have hl:(List.replicate m cv).length=m*i.size:=by rw[hsize];simp
 rcases hown.2 with ⟨rfl,rfl⟩|⟨g,cap,cur,rfl,hbg,hg,hnc,hcm,hcs,htake⟩
 ·have h2:=run_append_nil (P:=P) w t ty e i z ht hi hz a m c _ hl hnews hm (by omega) (by have hb:=hbytes;simp only[Nat.zero_add] at hb;omega)
  rw[h2] at hr
  injection hr with e1 e2
  rw[←e2]
  exact qcG (by simp) (fun j hj=>Below.heap_alloc w.drew _ j hj)
 ·by_cases hroom:n+m≤cap
  ·have hfit:n*i.size+(List.replicate m cv).length≤cur.size:=by rw[hsize,hcs];simp;omega
   have h2:=run_append_room (P:=P) w t ty e i ht hi g n cap cur hg a m c _ hl hnews (fun u hu=>by rw[List.mem_replicate] at hu;rw[hu.2];exact h1) hroom hfit
   rw[h2] at hr
   injection hr with e1 e2
   rw[←e2,hsize]
   refine⟨by simp,fun g' cur' t' fr' hg' => ?_⟩
   by_cases hgg:g'=g
   ·subst hgg
    rw[hg] at hg'
    injection hg' with hg'
    injection hg' with h3 h4 h5
    subst h3
    subst h4
    subst h5
    have hcl:cur.toList.length=cap:=by simpa using hcs
    refine⟨_,setRow_heap _ _ _ _ _ _ hg,?_,fun j => ?_⟩
    ·simp;omega
    ·simp only[List.getElem?_toArray,Nat.mul_one]
     by_cases hj:j<n
     ·left
      rw[List.append_assoc,List.getElem?_append_left (by simp;omega),List.getElem?_take_of_lt hj]
      simp
     ·by_cases hj2:j<n+m
      ·right
       refine⟨by omega,?_⟩
       rw[List.append_assoc,List.getElem?_append_right (by simp;omega),List.getElem?_append_left (by simp;omega),List.getElem?_replicate,if_pos (by simp;omega)]
      ·left
       rw[List.getElem?_append_right (by simp;omega),List.getElem?_drop]
       simp only[List.length_append,List.length_take,List.length_replicate,Array.length_toList]
       rw[show n+m+(j-(min n cur.size+m))=j by omega]
       simp
   ·exact⟨cur',(setRow_other _ _ _ _ hgg).trans hg',rfl,fun _=>.inl rfl⟩
  ·have holds:∀j u,xs[j]? = some u→w.cell? ((⟨g,0,none⟩:Addr).add j)=some u:=hown.cells (g:=g) rfl
   have h2:=run_append_grow (P:=P) w t ty e i z ht hi hz ⟨g,0,none⟩ n cap xs (by rw[hsize];exact hown.1) holds a m c _ hl hnews (by omega) (by omega) (growslice_fits (by omega) hbytes)
   rw[h2] at hr
   injection hr with e1 e2
   rw[←e2]
   exact qcG (by simp) (fun j hj=>Below.heap_alloc w.drew _ j hj)
theorem qa8 {P:Program}(w:World){ops:Array Oper}{rest:List Oper}{o:Oper}{a:Act}{Q:Exit→Act→World→Prop}(hgd:o.guard=none)(s x:Operand)(t:TypeId)(ho:o.op=.call {callee:=.builtin .append,args:=#[s,x],argTypes:=#[t,t]})(base:Nat)(e:TypeId)(i:TypeInfo)(z:Value)(bytes:Nat)(ht:P.underlying t=some (.slice e))(hi:P.info? e=some i)(hz:i.zero=some z)(hsize:i.size=1)(hby:i.bytes=bytes)(hzs:z.cells.size=1)(v:Value)(n:Nat)(cv:Value)(hs:a.eval s=v)(hown:w.ownsRow base e 1 v n (List.replicate n cv))(ad:Addr)(m c:Nat)(hx:a.eval x=.slice (some ad) m c)(hnews:∀j u,(List.replicate m cv)[j]? = some u→w.cell? (ad.add j)=some u)(h1:cv.oneCell'=true)(hm:0<m)(h63:n+m≤maxLen)(hbytes:(n+m)*bytes≤140737488355328)(hbase:base≤w.heap.size)(h:∀v' w',w'.ownsRow base e 1 v' (n+m) (List.replicate (n+m) cv)→qca w w' cv→w.grownBy w' v.ownBlock→(v'.ownBlock=v.ownBlock∨v'.ownBlock=some w.heap.size)→wpList P ops Q rest (a.put o.dst v') w'):wpList P ops Q (o::rest) a w:=by
 refine wpList_plain hgd fun K hK => ?_
 have hl:(List.replicate m cv).length=m*1:=by simp
 have hone:∀u∈List.replicate m cv,u.oneCell'=true:=fun u hu=>by rw[List.mem_replicate] at hu;rw[hu.2];exact h1
 obtain⟨v',w',hr,h2,h3,_⟩:=run_append_own (P:=P) w base t o.type e i z 1 bytes ht hi hz hsize hby hzs (by decide) v n _ hown ad m c _ hl hnews hone h63 hbytes hbase
 have h4:=qbI (P:=P) w base t o.type e i z 1 bytes ht hi hz hsize hby v n _ hown ad m c _ hl hnews hone hm h63 hbytes hr
 have h5:=qgc (P:=P) w base t o.type e i z bytes ht hi hz hsize hby v n _ hown ad m c cv hnews h1 hm h63 hbytes hr
 rw[List.replicate_append_replicate] at h2
 unfold Oper.wp execOp
 simp only[ho,resolve,invoke,builtin,Sem.run_bind,Sem.run_pure,Result.andThen_ok,List.map_toArray,List.map_cons,List.map_nil,hs,hx,hr]
 exact hK _ _ (h v' w' h2 h5 h3 h4)
def qfx (V:World)(v c:Value)(lo:Nat):Prop:=∃a n cap,v=.slice a n cap∧(n=0∨∃g cur,a=some ⟨g,0,none⟩∧lo≤g∧V.heap[g]? = some (.cells cur 5 (0,0))∧n≤cur.size∧∀j,j<n→cur[j]? = some c)
theorem qfx.marks {V V':World}{v c:Value}{lo:Nat}(h:qfx V v c lo)(hm:qca V V' c):qfx V' v c lo:=by
 obtain⟨a,n,cap,rfl,h⟩:=h
 refine⟨a,n,cap,rfl,?_⟩
 rcases h with h|⟨g,cur,h1,h2,h3,h4,h5⟩
 ·exact .inl h
 ·obtain⟨cur',e1,e2,e3⟩:=hm.2 g cur _ _ h3
  refine .inr ⟨g,cur',h1,h2,e1,by omega,fun j hj => ?_⟩
  rcases e3 j with e|⟨_,e⟩
  ·exact e.trans (h5 j hj)
  ·exact e
theorem qfx.own {V:World}{v c:Value}{lo n:Nat}(h:V.ownsRow lo 5 1 v n (List.replicate n c)):qfx V v c lo:=by
 rcases h.2 with ⟨rfl,rfl⟩|⟨g,cap,cur,rfl,h1,h2,h3,h4,h5,h6⟩
 ·exact⟨none,0,0,rfl,.inl rfl⟩
 ·refine⟨_,n,cap,rfl,.inr ⟨g,cur,rfl,h1,h2,by omega,fun j hj => ?_⟩⟩
  have e:(cur.toList.take (n*1))[j]? = some c:=by rw[h6,List.getElem?_replicate,if_pos hj]
  rw[List.getElem?_take_of_lt (by omega)] at e
  simpa using e
theorem qaW {V V':World}{v c:Value}{lo n:Nat}(h:V.ownsRow lo 5 1 v n (List.replicate n c))(hm:qca V V' c):V'.ownsRow lo 5 1 v n (List.replicate n c):=by
 refine⟨h.1,?_⟩
 rcases h.2 with h2|⟨g,cap,cur,e,h1,h2,h3,h4,h5,h6⟩
 ·exact .inl h2
 ·obtain⟨cur',e1,e2,e3⟩:=hm.2 g cur _ _ h2
  refine .inr ⟨g,cap,cur',e,h1,e1,h3,h4,by omega,?_⟩
  apply List.ext_getElem?
  intro j
  by_cases hj:j<n
  ·rw[List.getElem?_take_of_lt (by omega),List.getElem?_replicate,if_pos hj]
   have e5:(cur.toList.take (n*1))[j]? = some c:=by rw[h6,List.getElem?_replicate,if_pos hj]
   rw[List.getElem?_take_of_lt (by omega)] at e5
   rcases e3 j with e|⟨_,e⟩
   ·rw[Array.getElem?_toList] at e5 ⊢
    rw[e,e5]
   ·rw[Array.getElem?_toList,e]
  ·rw[List.getElem?_eq_none (by simp;omega),List.getElem?_eq_none (by simp;omega)]
def mkN (n:Nat):Nat:=200+n / 4%50
theorem qdR (n:Nat)(hn:n≤9223372036854775807)(W:World):Calls prog 61 #[.int .i64 n] W fun e W'=>e=.returned (.int .u8 (mkN n))∧W'=W:=by
 go_enter func61,ntmps61
 go_wp2
 go_ret
 refine⟨?_,rfl⟩
 have e:(200+(n:Int) / 4%50)=((mkN n:Nat):Int):=by unfold mkN;omega
 rw[←e]
 rfl
theorem Tryz.infoBs:(prog.info? 28).map (fun i=>(i.zero,i.size,i.bytes))=some (some (.slice none 0 0),1,24):=by kernel_rfl
structure qnj (B b0:Nat)(cs gv lv:Value)(N:Nat)(xs:List Value)(V:World):Prop where
 wd:V.heap[B]? = some (.cells #[cs,gv,lv] 71)
 row:V.ownsRow b0 28 1 lv N xs
 ne:∀g,lv.ownBlock=some g→g≠B
structure Frm (W V:World)(X:Nat→Prop):Prop where
 os:V.os=W.os
 tape:V.tape=W.tape
 output:V.output=W.output
 size:W.heap.size≤V.heap.size
 block:∀j,j<W.heap.size→¬X j→V.heap[j]? = W.heap[j]?
theorem Frm.refl (W:World)(X:Nat→Prop):Frm W W X:=⟨rfl,rfl,rfl,Nat.le_refl _,fun _ _ _=>rfl⟩
theorem Frm.next {W V V':World}{X:Nat→Prop}(h:Frm W V X)(h2:Frm V V' X):Frm W V' X:=⟨h2.os.trans h.os,h2.tape.trans h.tape,h2.output.trans h.output,Nat.le_trans h.size h2.size,fun j hj hx=>(h2.block j (Nat.lt_of_lt_of_le hj h.size) hx).trans (h.block j hj hx)⟩
theorem qkv {W V:World}{X:Nat→Prop}(h:Below W.heap.size W V):Frm W V X:=⟨h.os,h.tape,h.output,h.size,fun j hj _=>h.block j hj⟩
theorem qbO {W V:World}{X:Nat→Prop}{o:Obj}{r:Option Nat}(h:(W.alloc o).grownBy V r)(hr:∀g,r=some g→g<W.heap.size→X g):Frm W V X :=
 ⟨h.os,h.tape,h.output,by have:=h.size;simp at this;omega,fun j hj hx=>(h.block j (by simp;omega) (fun e=>hx (hr j e.symm hj))).trans (Below.heap_alloc _ _ _ hj)⟩
theorem qfC {W:World}{X:Nat→Prop}{g k:Nat}{v:Value}(hx:X g):Frm W (W.setCell ⟨g,k,none⟩ v) X:=⟨rfl,rfl,rfl,by simp[World.setCell],fun j _ hn=>heap_setCell_other W _ _ _ (by simp;intro e;subst e;exact hn hx)⟩
end
section
open Go.RowKit
theorem qhV (p q:Addr)(w:World):CallsD prog 193 #[.pointer (some p),.pointer (some q)] .returning w fun e u' w'=>e=.returned (.tuple #[])∧u'=.returning∧w'=w:=by
 refine callsD_of_wpS func193 rfl fun c₀ cs hu => ?_
 simp only[ntmps193,List.size_toArray,List.length_cons,List.length_nil,Nat.reduceAdd,Nat.reduceSub,Array.replicate_succ,Array.replicate_zero,List.push_toArray,List.append_toArray,List.nil_append,List.cons_append]
 apply wpS_seq
 apply wpS_region
 simp[wpOpsS,go_sem,recoverD,hu,Exit.thenS]
 refine wpS_of_wp ?_
 go_wp2
 cases c₀
 simp_all[bodyPostS,results,results193]
theorem qir (p q:Nat)(en pl x y:Int)(w:World)(hp:w.cell? ⟨p,0,none⟩=some (.int .i64 x))(hq:w.cell? ⟨q,0,none⟩=some (.int .i64 y))(fp:w.frozen? ⟨p,0,none⟩=false)(fq:w.frozen? ⟨q,0,none⟩=false)(hne:p≠q):CallsD prog 193 #[.pointer (some ⟨p,0,none⟩),.pointer (some ⟨q,0,none⟩)] (.panicking [{v:=qco en pl,recovered:=false}]) w fun e u' w'=>e=.returned (.tuple #[])∧u'=.panicking [{v:=qco en pl,recovered:=true}] ∧
   (w'.cell? ⟨p,0,none⟩=some (.int .i64 en)∧w'.cell? ⟨q,0,none⟩=some (.int .i64 pl)∧∀B,B≤p→B≤q→B≤w.heap.size→Below B w w'):=by
 refine callsD_of_wpS func193 rfl fun c₀ cs hu => ?_
 simp only[ntmps193,List.size_toArray,List.length_cons,List.length_nil,Nat.reduceAdd,Nat.reduceSub,Array.replicate_succ,Array.replicate_zero,List.push_toArray,List.append_toArray,List.nil_append,List.cons_append]
 apply wpS_seq
 apply wpS_region
 simp[wpOpsS,go_sem,recoverD,hu,Exit.thenS,qco]
 refine wpS_of_wp ?_
 have hta:∀w:World,(Instr.typeAssert (.iface 134 (.agg #[.int .i64 en,.int .i64 pl])) 20 134 true).run prog w=.ok (.tuple #[.agg #[.int .i64 en,.int .i64 pl],.bool true]) w:=fun w=>by kernel_rfl
 go_wp2
 have hN:w.heap.size≠p∧w.heap.size≠q:=⟨by have h1:p<w.heap.size:=block_lt_of_cell hp;omega,by have h1:q<w.heap.size:=block_lt_of_cell hq;omega⟩
 have a1:(w.alloc (.cells #[.int .i64 en,.int .i64 pl] 134)).cell? ⟨p,0,none⟩=some (.int .i64 x):=(World.cell?_alloc_some w _ _ (by rw[hp];rfl)).trans hp
 have a2:(w.alloc (.cells #[.int .i64 en,.int .i64 pl] 134)).cell? ⟨q,0,none⟩=some (.int .i64 y):=(World.cell?_alloc_some w _ _ (by rw[hq];rfl)).trans hq
 have hb1:Below w.heap.size w (w.alloc (.cells #[.int .i64 en,.int .i64 pl] 134)):=bwA
 have g1:(w.alloc (.cells #[.int .i64 en,.int .i64 pl] 134)).frozen? ⟨p,0,none⟩=false:=(hb1.frozen (p:=⟨p,0,none⟩) (block_lt_of_cell hp)).trans fp
 have g2:(w.alloc (.cells #[.int .i64 en,.int .i64 pl] 134)).frozen? ⟨q,0,none⟩=false:=(hb1.frozen (p:=⟨q,0,none⟩) (block_lt_of_cell hq)).trans fq
 have a3:(w.alloc (.cells #[.int .i64 en,.int .i64 pl] 134)).cell? ⟨w.heap.size,0,none⟩=some (.int .i64 en):=qaa (qab _ _) 0
 have a4:(w.alloc (.cells #[.int .i64 en,.int .i64 pl] 134)).cell? ⟨w.heap.size,1,none⟩=some (.int .i64 pl):=qaa (qab _ _) 1
 have HB:Hid (Below w.heap.size w (w.alloc (.cells #[.int .i64 en,.int .i64 pl] 134))):=hb1
 have hn1:=hN.1
 have hn2:=hN.2
 have hn3:q≠p:=fun e=>hne e.symm
 clear hp hq fp fq hb1 hN
 generalize w.alloc (.cells #[.int .i64 en,.int .i64 pl] 134)=V at *
 go_region
 have r1:((V.setCell ⟨p,0,none⟩ (.int .i64 en)).setCell ⟨q,0,none⟩ (.int .i64 pl)).drew.cell? ⟨p,0,none⟩=some (.int .i64 en):=by
  show((V.setCell ⟨p,0,none⟩ (.int .i64 en)).setCell ⟨q,0,none⟩ (.int .i64 pl)).cell? ⟨p,0,none⟩=_
  rw[World.cell?_of_block (w:=V.setCell ⟨p,0,none⟩ (.int .i64 en)) (heap_setCell_other _ _ _ _ (by simpa using hne))]
  exact World.cell?_setCell_same' _ _ _ (by rw[a1];rfl)
 have r2:((V.setCell ⟨p,0,none⟩ (.int .i64 en)).setCell ⟨q,0,none⟩ (.int .i64 pl)).drew.cell? ⟨q,0,none⟩=some (.int .i64 pl):=by
  show((V.setCell ⟨p,0,none⟩ (.int .i64 en)).setCell ⟨q,0,none⟩ (.int .i64 pl)).cell? ⟨q,0,none⟩=_
  refine World.cell?_setCell_same' _ _ _ ?_
  rw[World.cell?_of_block (w:=V) (heap_setCell_other _ _ _ _ (by simpa using hn3)),a2]
  rfl
 have r3:∀B,B≤p→B≤q→B≤w.heap.size→Below B w ((V.setCell ⟨p,0,none⟩ (.int .i64 en)).setCell ⟨q,0,none⟩ (.int .i64 pl)).drew:=fun B h1 h2 h3 =>
  (HB.out.mono h3).trans ⟨rfl,rfl,rfl,by simp[World.setCell,World.drew],fun k hk=>(heap_setCell_other _ _ _ _ (by simp;omega)).trans (heap_setCell_other V _ _ _ (by simp;omega))⟩
 generalize ((V.setCell ⟨p,0,none⟩ (.int .i64 en)).setCell ⟨q,0,none⟩ (.int .i64 pl)).drew=X at *
 clear a1 a2 a3 a4 g1 g2 HB hta hn1 hn2 hn3 hne
 exact⟨rfl,_,rfl,_,results_none rfl _ _ _,rfl,rfl,r1,r2,r3⟩
def qnP {α:Type}(val:α→Value)(r:Except (Int×Int) α):Value:=match r with
 |.ok z=>.tuple #[val z,.int .i64 0,.int .i64 0]
 |.error (en,pl)=>.tuple #[.int .i64 0,.int .i64 en,.int .i64 pl]
theorem qi1 {α:Type}(val:α→Value)(W:World)(f:Nat)(caps:Array Value)(r:Except (Int×Int) α)(hf:f=144)(cR:Calls prog f caps ((W.alloc (.cells #[.int .i64 0] 31)).alloc (.cells #[.int .i64 0] 3)) (qkd ((W.alloc (.cells #[.int .i64 0] 31)).alloc (.cells #[.int .i64 0] 3)) val r)):Calls prog 143 #[.func (.func f) #[] caps] W fun e W'=>e=.returned (qnP val r)∧Below W.heap.size W W':=by
 subst hf
 have hmf:∀(fn:Fn) (first cap:Array Value) (w:World),(Instr.makeFunc fn first cap).run prog w=.ok (.func fn first cap) w:=fun _ _ _ _=>rfl
 have b1:Below W.heap.size W ((W.alloc (.cells #[.int .i64 0] 31)).alloc (.cells #[.int .i64 0] 3)):=(bwA).alloc (by simp) _
 have k1:=Boxed.new W 31 (.int .i64 0)
 have k2:=Boxed.new (W.alloc (.cells #[.int .i64 0] 31)) 3 (.int .i64 0)
 have k1':=k1.alloc (.cells #[.int .i64 0] 3)
 rw[World.size_alloc] at k2
 have HB:Hid (Below W.heap.size W ((W.alloc (.cells #[.int .i64 0] 31)).alloc (.cells #[.int .i64 0] 3))):=b1
 have HK1:Hid (Boxed ((W.alloc (.cells #[.int .i64 0] 31)).alloc (.cells #[.int .i64 0] 3)) W.heap.size 31 (.int .i64 0)):=k1'
 have HK2:Hid (Boxed ((W.alloc (.cells #[.int .i64 0] 31)).alloc (.cells #[.int .i64 0] 3)) (W.heap.size+1) 3 (.int .i64 0)):=k2
 clear b1 k1 k2 k1'
 go_enter_defers func143,ntmps143
 go_wp2_with fail
 refine cR.mono ?_
 clear cR
 rcases r with ⟨en,pl⟩|z
 ·rintro e w2 ⟨hB2,hF⟩
  obtain rfl:=hF
  have q1:Boxed w2 W.heap.size 31 (.int .i64 0):=(hB2.block _ HK1.out.lt).trans HK1.out
  have q2:Boxed w2 (W.heap.size+1) 3 (.int .i64 0):=(hB2.block _ HK2.out.lt).trans HK2.out
  have hBW:Below W.heap.size W w2:=HB.out.trans (hB2.mono HB.out.size)
  have HQ1:Hid (Boxed w2 W.heap.size 31 (.int .i64 0)):=q1
  have HQ2:Hid (Boxed w2 (W.heap.size+1) 3 (.int .i64 0)):=q2
  have HBW:Hid (Below W.heap.size W w2):=hBW
  clear q1 q2 hBW hB2 HB HK1 HK2
  go_wp2
  refine leaves_cons (f:=193) (args:=#[.pointer (some ⟨W.heap.size,0,none⟩),.pointer (some ⟨W.heap.size+1,0,none⟩)]) (by simp) (by simp[go_sem]) ?_
  refine(qir W.heap.size (W.heap.size+1) en pl 0 0 w2 HQ1.out.cell HQ2.out.cell HQ1.out.frozen HQ2.out.frozen (by omega)).mono ?_
  rintro e u' w3 ⟨rfl,rfl,c1,c2,c3⟩
  have hfin:Below W.heap.size W w3:=HBW.out.trans (c3 _ (Nat.le_refl _) (by omega) HBW.out.size)
  simp[Leaves,settle,results,results143,go_sem,c1,c2,qnP,hfin]
 ·rintro e w2 ⟨hB2,rfl⟩
  have q1:Boxed w2 W.heap.size 31 (.int .i64 0):=(hB2.block _ HK1.out.lt).trans HK1.out
  have q2:Boxed w2 (W.heap.size+1) 3 (.int .i64 0):=(hB2.block _ HK2.out.lt).trans HK2.out
  have hBW:Below W.heap.size W w2:=HB.out.trans (hB2.mono HB.out.size)
  have HQ1:Hid (Boxed w2 W.heap.size 31 (.int .i64 0)):=q1
  have HQ2:Hid (Boxed w2 (W.heap.size+1) 3 (.int .i64 0)):=q2
  have HBW:Hid (Below W.heap.size W w2):=hBW
  have c1:=q1.cell
  have f1:=q1.frozen
  have c2:=q2.cell
  have f2:=q2.frozen
  clear q1 q2 hBW hB2 HB HK1 HK2
  go_wp2
  have g1:=grownBy_setCell' w2 W.heap.size (.int .i64 0)
  have g2:=grownBy_setCell' (w2.setCell ⟨W.heap.size,0,none⟩ (.int .i64 0)) (W.heap.size+1) (.int .i64 0)
  have t1:=((HQ1.out.set (.int .i64 0)).kept g2 (by intro e;injection e with e;omega)).cell
  have t2:=(Boxed.set (.int .i64 0) (HQ2.out.kept g1 (by intro e;injection e with e;omega))).cell
  have hfin:Below W.heap.size W ((w2.setCell ⟨W.heap.size,0,none⟩ (.int .i64 0)).setCell ⟨W.heap.size+1,0,none⟩ (.int .i64 0)) :=
   HBW.out.trans ⟨rfl,rfl,rfl,by simp[World.setCell],fun k hk=>(heap_setCell_other _ _ _ _ (by simp;omega)).trans (heap_setCell_other w2 _ _ _ (by simp;omega))⟩
  generalize (w2.setCell ⟨W.heap.size,0,none⟩ (.int .i64 0)).setCell ⟨W.heap.size+1,0,none⟩ (.int .i64 0)=V at *
  refine leaves_cons (f:=193) (args:=#[.pointer (some ⟨W.heap.size,0,none⟩),.pointer (some ⟨W.heap.size+1,0,none⟩)]) (by simp) (by simp[go_sem]) ?_
  refine(qhV ⟨W.heap.size,0,none⟩ ⟨W.heap.size+1,0,none⟩ V).mono ?_
  rintro e u' w3 ⟨rfl,rfl,rfl⟩
  simp[Leaves,settle,results,results143,go_sem,t1,t2,qnP,hfin]
def qbi (fm:Int):Nat:=if fm=1 then 32 else 0
theorem qjy (fm:Int)(W:World):Calls prog 142 #[.int .i64 fm] W fun e W'=>e=.returned (.int .u8 (qbi fm))∧W'=W:=by
 by_cases h:fm=1
 ·have e1:(fm==1)=true:=by simpa using h
  have hb:qbi fm=32:=by unfold qbi;rw[if_pos h]
  rw[hb]
  clear h hb
  go_enter func142,ntmps142
  go_wp2
  go_ret
  exact⟨rfl,rfl⟩
 ·have e1:(fm==1)=false:=by simpa using h
  have hb:qbi fm=0:=by unfold qbi;rw[if_neg h]
  rw[hb]
  clear h hb
  go_enter func142,ntmps142
  go_wp2
  go_ret
  exact⟨rfl,rfl⟩
theorem qjS (W:World)(fm:Int)(ia:Option Addr)(bs:List UInt8)(cap:Nat)(h:qaD W ia bs):Calls prog 146 #[.int .i64 fm,.slice ia bs.length cap] W fun e W'=>e=.returned (.bool (bs.all (fun c=>c.toNat==qbi fm)))∧W'=W:=by
 have HB:Hid (qaD W ia bs):=h
 have cB:=qjy fm W
 obtain⟨R,HR⟩:∃R,Hid (bs.all (fun c=>c.toNat==qbi fm)=R):=⟨_,show _=_ from rfl⟩
 rw[HR.out]
 have hlen:=h.len
 unfold maxLen at hlen
 clear h
 go_enter func146,ntmps146
 go_wp2_with (first
  |(go_at_call 142;refine cB.mono ?_;clear cB;rintro e w2 ⟨rfl,rfl⟩))
 go_loopg [12] bs.length (fun g z wr=>∃k:Nat,z=.int .i64 k∧Hid (k+g=bs.length)∧wr=w2∧Hid ((bs.drop k).all (fun c=>c.toNat==qbi fm)=R))
 case atStart=>exact⟨0,rfl,by show _=_;omega,rfl,HR⟩
 case round =>
  clear HR
  obtain⟨k,rfl,hg,rfl,HR⟩:=hrel
  cases gk with
  |zero =>
   have hk:¬(k:Int)<bs.length:=by have:=hg.out;omega
   have HE:Hid (R=true):=by
    show _=_
    rw[←HR.out,List.drop_of_length_le (by have:=hg.out;omega)]
    rfl
   clear HR hg
   go_wp2
   go_ret
   rw[HE.out]
   exact⟨rfl,rfl⟩
  |succ g =>
   have hkn:k<bs.length:=by have:=hg.out;omega
   have hk:(k:Int)<bs.length:=by omega
   obtain⟨b0,off,e1,e2,e3⟩:=HB.out.at_ k hkn
   subst e1
   have hr:=HR.out
   rw[List.drop_eq_getElem_cons hkn,List.all_cons] at hr
   obtain⟨c,hc⟩:∃c,bs[k]=c:=⟨_,rfl⟩
   rw[hc] at e3 hr
   clear HR hc
   cases hq:(c.toNat==qbi fm)
   ·rw[hq,Bool.false_and] at hr
    have hn:((c.toNat:Int) != (qbi fm:Int))=true:=by
     have:=beq_eq_false_iff_ne.1 hq
     simp
     omega
    have hn2:((c.toNat:Int)==(qbi fm:Int))=false:=by
     have:=beq_eq_false_iff_ne.1 hq
     simp
     omega
    have HE:Hid (R=false):=hr.symm
    clear hr hq
    go_wp2
    go_ret
    rw[HE.out]
    exact⟨rfl,rfl⟩
   ·rw[hq,Bool.true_and] at hr
    have hn:((c.toNat:Int) != (qbi fm:Int))=false:=by
     have:=beq_iff_eq.1 hq
     simp
     omega
    have hn2:((c.toNat:Int)==(qbi fm:Int))=true:=by
     have:=beq_iff_eq.1 hq
     simp
     omega
    have HN:Hid ((bs.drop (k+1)).all (fun c=>c.toNat==qbi fm)=R):=hr
    clear hr hq
    go_wp2
    go_roundg g
    case measure=>omega
    case rel=>exact⟨k+1,by go_num,by show _=_;have:=hg.out;omega,rfl,HN⟩
end
end Go.Proofs.YtllcbnfmihfaaaaGreatDoor
