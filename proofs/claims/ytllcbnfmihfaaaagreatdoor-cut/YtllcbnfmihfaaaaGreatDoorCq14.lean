import Derived.Test.YtllcbnfmihfaaaaGreatDoorCq12
import Derived.Test.YtllcbnfmihfaaaaGreatDoorCq13
set_option maxRecDepth 100000
set_option maxHeartbeats 8000000
namespace Go.Proofs.YtllcbnfmihfaaaaGreatDoor
open Go.Proofs.Tryz
variable {P:Program}{v:Value}{W W':World}{base lo lo' n:Nat}{l:List UInt8}{pa:Option Addr}{cs xs:List Value}{es:List (List Value×Nat×Int×Int)}
section
open Go.RowKit
theorem qcS (w:World)(base:Nat)(t ty e:TypeId)(i:TypeInfo)(z:Value)(size bytes:Nat)(ht:P.underlying t=some (.slice e))(hi:P.info? e=some i)(hz:i.zero=some z)(hsize:i.size=size)(hby:i.bytes=bytes)(v:Value)(n:Nat)(xs:List Value)(hown:w.ownsRow base e size v n xs)(a:Addr)(m c:Nat)(news:List Value)(hl:news.length=m*size)(hnews:∀j u,news[j]? = some u→w.cell? (a.add j)=some u)(h1:∀u∈news,u.oneCell'=true)(hm:0<m)(h63:n+m≤maxLen)(hbytes:(n+m)*bytes≤140737488355328){v':Value}{w':World}(hr:(Builtin.append_ #[t,t] ty #[v,.slice (some a) m c]).run P w=.ok v' w'):v'.ownBlock=v.ownBlock∨v'.ownBlock=some w.heap.size:=by
 subst hsize;subst hby;have hsmall:n+m≤9223372036854775807:=by simp only[maxLen] at h63;omega
 rcases hown.2 with ⟨rfl,rfl⟩|⟨g,cap,cur,rfl,hbg,hg,hnc,hcm,hcs,htake⟩
 ·have h2:=run_append_nil (P:=P) w t ty e i z ht hi hz a m c news hl hnews hm (by omega) (by have hb:=hbytes;simp only[Nat.zero_add] at hb;omega);rw[h2] at hr;injection hr with e1 e2;right;rw[←e1];rfl
 by_cases hroom:n+m≤cap
 ·have hfit:n*i.size+news.length≤cur.size:=by rw[hl,hcs,←Nat.add_mul];exact Nat.mul_le_mul_right _ hroom
  have h2:=run_append_room (P:=P) w t ty e i ht hi g n cap cur hg a m c news hl hnews h1 hroom hfit;rw[h2] at hr;injection hr with e1 e2;left;rw[←e1];rfl
 have holds:=hown.cells (g:=g) rfl;have h2:=run_append_grow (P:=P) w t ty e i z ht hi hz ⟨g,0,none⟩ n cap xs hown.1 holds a m c news hl hnews (by omega) (by omega) (growslice_fits (by omega) hbytes);rw[h2] at hr;injection hr with e1 e2;right;rw[←e1];rfl
theorem qaX (w:World){ops:Array Oper}{rest:List Oper}{o:Oper}{a:Act}{Q:Exit→Act→World→Prop}(hgd:o.guard=none)(s x:Operand)(t:TypeId)(ho:o.op=.call {callee:=.builtin .append,args:=#[s,x],argTypes:=#[t,t]})(base:Nat)(e:TypeId)(i:TypeInfo)(z:Value)(size bytes:Nat)(ht:P.underlying t=some (.slice e))(hi:P.info? e=some i)(hz:i.zero=some z)(hsize:i.size=size)(hby:i.bytes=bytes)(hzs:z.cells.size=size)(hsz:0<size)(v:Value)(n:Nat)(xs:List Value)(hs:a.eval s=v)(hown:w.ownsRow base e size v n xs)(ad:Addr)(m c:Nat)(news:List Value)(hx:a.eval x=.slice (some ad) m c)(hl:news.length=m*size)(hnews:∀j u,news[j]? = some u→w.cell? (ad.add j)=some u)(h1:∀u∈news,u.oneCell'=true)(hm:0<m)(h63:n+m≤maxLen)(hbytes:(n+m)*bytes≤140737488355328)(hbase:base≤w.heap.size)(h:∀v' w',w'.ownsRow base e size v' (n+m) (xs++news)→w.grownBy w' v.ownBlock→(v'.ownBlock=v.ownBlock∨v'.ownBlock=some w.heap.size)→wpList P ops Q rest (a.put o.dst v') w'):wpList P ops Q (o::rest) a w:=by
 refine wpList_plain hgd fun K hK => ?_;obtain⟨v',w',hr,h2,h3,_⟩:=run_append_own (P:=P) w base t o.type e i z size bytes ht hi hz hsize hby hzs hsz v n xs hown ad m c news hl hnews h1 h63 hbytes hbase;have h4:=qcS (P:=P) w base t o.type e i z size bytes ht hi hz hsize hby v n xs hown ad m c news hl hnews h1 hm h63 hbytes hr;unfold Oper.wp execOp;simp only[ho,resolve,invoke,builtin,Sem.run_bind,Sem.run_pure,Result.andThen_ok,List.map_toArray,List.map_cons,List.map_nil,hs,hx,hr];exact hK _ _ (h v' w' h2 h3 h4)
def sgS (l:List UInt8):Nat×List UInt8:=if l==[42] then (0,[]) else if l==[42,42] then (1,[]) else if l==[91,93] then (2,[]) else (3,l)
def sgC (s:Nat×List UInt8):List Value:=[.int .i64 s.1,.string ⟨s.2.toArray⟩]
def qiL (l:List UInt8):List (List UInt8):=if l==[46] then [] else qal 47 l
def qdE (l:List UInt8):List (List UInt8)×Int×Int:=match qal 32 l with
 |[p,b,c]=>(qiL p,qoC b,qeu ⟨c.toArray⟩)
 |_=>([],0,0)
def qcA (l:List UInt8):List (List (List UInt8)×Int×Int):=if l.length=0 then [] else (qal 10 l).map qdE
def enS (r:List (List UInt8)×Int×Int):List (Nat×List UInt8)×Int×Int:=(r.1.map sgS,r.2)
theorem qqu (l:List UInt8):(sgS l).1≤3:=by
 unfold sgS;split
 ·exact Nat.zero_le _
 split
 ·show(1:Nat)≤3;omega
 split
 ·show(2:Nat)≤3;omega
 exact Nat.le_refl _
theorem qtT (l:List UInt8):(sgS l).2.length≤l.length:=by
 unfold sgS;split
 ·simp
 split
 ·simp
 split
 ·simp
 exact Nat.le_refl _
theorem qgV (h:qa9 n l=true):qal 32 l=[(Lib.cut l [32]).1,(Lib.cut (Lib.cut l [32]).2.1 [32]).1,(Lib.cut (Lib.cut l [32]).2.1 [32]).2.1]:=by
 rw[←qn3] at h;unfold qqG at h;rcases qby 32 l with ⟨h1,h2⟩|⟨a,r,h1,_,h2⟩
 ·rw[h1] at h;rcases qby 32 [] with ⟨h3,h4⟩|⟨a,r,_,h3,_⟩
  ·simp[h3,qh5] at h
  simp at h3
 rw[h1] at h ⊢;rw[h2];rcases qby 32 r with ⟨h3,h4⟩|⟨b,q,h3,_,h4⟩
 ·rw[h3] at h;have:qeu ⟨([]:List UInt8).toArray⟩=0:=by rw[qif];rfl
  simp[this] at h
 rw[h3] at h ⊢;rw[h4];rcases qby 32 q with ⟨h5,h6⟩|⟨d,e,h5,h6,h7⟩
 ·rw[h6]
 rw[h6] at h;simp[qkb] at h
theorem qqd {p b c:List UInt8}(h:qal 32 l=[p,b,c]):qdE l=(qiL p,qoC b,qeu ⟨c.toArray⟩):=by
 unfold qdE;rw[h]
def qkk (W:World)(lo:Nat)(t:TypeId)(pa:Option Addr)(cs:List Value):Prop :=
 cs=[]∨∃b off cur fr,pa=some ⟨b,off,none⟩∧lo≤b∧W.heap[b]? = some (.cells cur t fr)∧∀j (h:j<cs.length),cur[off+j]? = some cs[j]
theorem qkk.kept {t:TypeId}(h:qkk W lo t pa cs)(hk:∀b cur fr,lo≤b→W.heap[b]? = some (.cells cur t fr)→lo'≤b∧W'.heap[b]? = some (.cells cur t fr)):qkk W' lo' t pa cs:=by
 rcases h with h|⟨b,off,cur,fr,h1,h2,h4,h5⟩
 ·exact .inl h
 obtain⟨k1,k3⟩:=hk b cur fr h2 h4;exact .inr ⟨b,off,cur,fr,h1,k1,k3,h5⟩
theorem qkk.below {t:TypeId}(h:qkk W lo t pa cs)(hb:Below W.heap.size W W'):qkk W' lo t pa cs :=
 h.kept fun b _ _ h1 h3=>⟨h1,(hb.block b (ltA h3)).trans h3⟩
theorem quU {e:TypeId}{size:Nat}(h:W.ownsRow base e size v n xs)(hl:lo≤base):∃pa cap,v=.slice pa n cap∧qkk W lo e pa xs:=by
 obtain⟨h1,⟨h2,h3⟩|⟨g,cap,cur,h2,h3,h4,_,_,_,h8⟩⟩:=h
 ·subst h3;exact⟨none,0,h2,.inl (List.eq_nil_of_length_eq_zero (by omega))⟩
 refine⟨_,_,h2,.inr ⟨g,0,cur,_,rfl,by omega,h4,fun j hj => ?_⟩⟩;have e1:=congrArg (·[j]?) h8;simp only[List.getElem?_take] at e1;rw[if_pos (by omega),List.getElem?_eq_getElem hj] at e1;rw[Nat.zero_add];simpa using e1
def RwB (W:World)(lo:Nat)(t:TypeId)(xs:List Value)(es:List (List Value×Nat×Int×Int)):Prop :=
 xs.length=es.length*3∧∀i (h:i<es.length),∃pa pc,xs[i*3]? = some (.slice pa es[i].2.1 pc)∧xs[i*3+1]? = some (.int .i64 es[i].2.2.1)∧xs[i*3+2]? = some (.int .i64 es[i].2.2.2)∧qkk W lo t pa es[i].1
theorem qnO (W:World)(lo:Nat)(t:TypeId):RwB W lo t [] []:=⟨rfl,fun i h=>by simp at h⟩
theorem RwB.kept {t:TypeId}(h:RwB W lo t xs es)(hk:∀b cur fr,lo≤b→W.heap[b]? = some (.cells cur t fr)→lo'≤b∧W'.heap[b]? = some (.cells cur t fr)):RwB W' lo' t xs es:=by
 refine⟨h.1,fun i hi => ?_⟩;obtain⟨pa,pc,h1,h2,h3,h4⟩:=h.2 i hi;exact⟨pa,pc,h1,h2,h3,h4.kept hk⟩
theorem RwB.below {t:TypeId}(h:RwB W lo t xs es)(hb:Below W.heap.size W W'):RwB W' lo t xs es :=
 h.kept fun b _ _ h1 h3=>⟨h1,(hb.block b (ltA h3)).trans h3⟩
theorem RwB.push {t:TypeId}(h:RwB W lo t xs es){e:List Value×Nat×Int×Int}{pc:Nat}(hc:qkk W lo t pa e.1):RwB W lo t (xs++[.slice pa e.2.1 pc,.int .i64 e.2.2.1,.int .i64 e.2.2.2]) (es++[e]):=by
 have hl:=h.1;refine⟨by simp[hl];omega,fun i hi => ?_⟩;by_cases hie:i<es.length
 ·obtain⟨pa',pc',h1,h2,h3,h4⟩:=h.2 i hie;rw[List.getElem_append_left hie];refine⟨pa',pc',?_,?_,?_,h4⟩
  ·rw[List.getElem?_append_left (by omega)];exact h1
  ·rw[List.getElem?_append_left (by omega)];exact h2
  rw[List.getElem?_append_left (by omega)];exact h3
 have hi2:i=es.length:=by simp at hi;omega
 subst hi2;rw[List.getElem_append_right (Nat.le_refl _)];simp only[Nat.sub_self,List.getElem_cons_zero];refine⟨pa,pc,?_,?_,?_,hc⟩
 ·rw[List.getElem?_append_right (by omega),hl,Nat.sub_self];rfl
 ·rw[List.getElem?_append_right (by omega),hl,show es.length*3+1-es.length*3=1 by omega];rfl
 rw[List.getElem?_append_right (by omega),hl,show es.length*3+2-es.length*3=2 by omega];rfl
theorem qv0:∀(ss:List (Nat×List UInt8)) (j:Nat) (h:j<ss.length),(ss.flatMap sgC)[j*2]? = some (.int .i64 ss[j].1)∧(ss.flatMap sgC)[j*2+1]? = some (.string ⟨ss[j].2.toArray⟩)
 |x::ss,0,_=>⟨rfl,rfl⟩
 |x::ss,j+1,h=>by
  have h1:=qv0 ss j (by simpa using h);rw[List.flatMap_cons,show(j+1)*2=j*2+2 by omega];exact h1
theorem qw5 (ss:List (Nat×List UInt8)):(ss.flatMap sgC).length=ss.length*2:=by
 induction ss with
 |nil=>rfl
 |cons x ss ih =>
  rw[List.flatMap_cons,List.length_append,ih,List.length_cons];show 2+_=_;omega
def enP (r:List (Nat×List UInt8)×Int×Int):List Value×Nat×Int×Int:=(r.1.flatMap sgC,r.1.length,r.2.1,r.2.2)
theorem qtI {t:TypeId}{ss:List (Nat×List UInt8)}(h:qkk W lo t pa (ss.flatMap sgC)):qks W pa ss:=by
 refine⟨fun i hi => ?_⟩;have hl:=qw5 ss;rcases h with h|⟨b,off,cur,fr,h1,h2,h4,h5⟩
 ·rw[h] at hl;simp at hl;omega
 obtain⟨a1,a2⟩:=qv0 ss i hi;have b1:=h5 (i*2) (by omega);have b2:=h5 (i*2+1) (by omega);rw[←List.getElem?_eq_getElem] at b1 b2;refine⟨b,off,h1,(ltA h4),?_,?_⟩
 ·rw[cell_of_row W b _ cur _ fr h4,b1,a1]
 rw[Nat.add_assoc,cell_of_row W b _ cur _ fr h4,b2,a2]
theorem qth {t:TypeId}{rs:List (List (Nat×List UInt8)×Int×Int)}(h:W.ownsRow base 230 3 v rs.length xs)(hr:RwB W lo t xs (rs.map enP)):∃a cap,v=.slice a rs.length cap∧qdW W a rs:=by
 obtain⟨h1,⟨h2,h3⟩|⟨g,cap,cur,h2,h3,h4,_,_,_,h8⟩⟩:=h
 ·exact⟨none,0,by rw[h2,h3],⟨fun i hi=>by omega⟩⟩
 refine⟨_,_,h2,⟨fun i hi => ?_⟩⟩;obtain⟨pa,pc,k1,k2,k3,k4⟩:=hr.2 i (by simpa using hi);have key:∀j u,xs[j]? = some u→W.cell? ⟨g,0+j,none⟩=some u:=by
  intro j u hj;have hjl:=ltL hj;have e1:=congrArg (·[j]?) h8;simp only[List.getElem?_take] at e1;rw[if_pos (by omega),hj] at e1;rw[Nat.zero_add,cell_of_row W g j cur _ _ h4];simpa using e1
 have e2:(rs.map enP)[i]'(by simpa using hi)=enP rs[i]:=by simp
 rw[e2] at k1 k2 k3 k4;exact⟨g,0,pa,pc,rfl,(ltA h4),key _ _ k1,by have:=key _ _ k2;rwa [Nat.zero_add] at this ⊢,by have:=key _ _ k3;rwa [Nat.zero_add] at this ⊢,qtI k4⟩
theorem qpw:∀(q:List (List UInt8)) (i:Nat),qaW n q i<0→i≤16→(∀x∈q,qa9 n x=true)∧i+q.length≤16
 |[],i,_,hi=>⟨fun x hx=>absurd hx (by simp),by simpa using hi⟩
 |x::q,i,h,_=>by
  unfold qaW at h;split at h
  ·next hc =>
   obtain⟨h1,h2⟩:=qpw q (i+1) h (by omega);refine⟨fun y hy => ?_,by rw[List.length_cons];omega⟩;rcases List.mem_cons.1 hy with rfl|hy
   ·exact hc.1
   exact h1 y hy
  omega
theorem qnD (h:qe8 l=true):(qiL l).length≤8:=by
 unfold qe8 at h;unfold qiL
 cases h0:(l==[46]) with
 |true=>simp
 |false =>
  rw[h0,Bool.false_or,Bool.and_eq_true] at h;have:=of_decide_eq_true h.2;simpa using this
theorem qpA {s:List UInt8}(h:s∈qiL l):s.length≤l.length:=by
 unfold qiL at h;split at h
 ·cases h
 exact qbr 47 l s h
theorem qoP (h:qa9 n l=true):(qdE l).1.length≤8∧∀s∈(qdE l).1,s.length≤l.length:=by
 have hp:=qgV h;have hr:=qqd hp;have hb:qiX n [(Lib.cut l [32]).1,(Lib.cut (Lib.cut l [32]).2.1 [32]).1,(Lib.cut (Lib.cut l [32]).2.1 [32]).2.1]=true:=by
  rw[←hp];exact h
 unfold qiX at hb;rw[Bool.and_eq_true] at hb;rw[hr];have hsz:(Lib.cut l [32]).1.length≤l.length:=qbr 32 l _ (by rw[hp];simp);exact⟨qnD hb.1,fun s hs=>Nat.le_trans (qpA hs) hsz⟩
theorem qpP (h:qez n l=0):(qcA l).length≤16∧∀r∈qcA l,r.1.length≤8∧∀s∈r.1,s.length≤2000:=by
 have hv:qa3 n l<0:=by
  unfold qez at h;split at h
  ·cases h
  omega
 unfold qa3 at hv;unfold qcA;split at hv
 ·omega
 next hb =>
 split at hv
 ·next h0 =>
  rw[if_pos h0];exact⟨by simp,fun r hr=>by cases hr⟩
 next h0 =>
 rw[if_neg h0];obtain⟨h1,h2⟩:=qpw (qal 10 l) 0 hv (by omega);refine⟨by rw[List.length_map];omega,fun r hr => ?_⟩;obtain⟨x,hx,rfl⟩:=List.mem_map.1 hr;obtain⟨k1,k2⟩:=qoP (h1 x hx);refine⟨k1,fun s hs => ?_⟩;have:=k2 s hs;have:=qbr 10 l x hx;omega
theorem qoK (h:qez n l=0):((qcA l).map enS).length≤16∧(∀i (h:i<((qcA l).map enS).length),((qcA l).map enS)[i].1.length≤8)∧∀i (h:i<((qcA l).map enS).length) j (h2:j<((qcA l).map enS)[i].1.length),((qcA l).map enS)[i].1[j].1≤3∧((qcA l).map enS)[i].1[j].2.length≤1000000000:=by
 obtain⟨h1,h2⟩:=qpP h;refine⟨by rw[List.length_map];exact h1,fun i hi => ?_,fun i hi j hj => ?_⟩
 ·rw[List.getElem_map];have hi':i<(qcA l).length:=by rwa [List.length_map] at hi
  show((qcA l)[i].1.map sgS).length≤8;rw[List.length_map];exact(h2 _ (List.getElem_mem _)).1
 have hi':i<(qcA l).length:=by rwa [List.length_map] at hi
 have e:((qcA l).map enS)[i]=enS (qcA l)[i]:=List.getElem_map _;have hj':j<(qcA l)[i].1.length:=by
  rw[List.getElem_map] at hj;have:((qcA l)[i].1.map sgS).length=(qcA l)[i].1.length:=List.length_map _;exact this▸hj
 have e2:((qcA l).map enS)[i].1[j]=sgS ((qcA l)[i].1[j]):=by
  have:(((qcA l).map enS)[i].1)[j]? = ((enS (qcA l)[i]).1)[j]?:=by rw[e]
  rw[List.getElem?_eq_getElem hj] at this;have e3:((enS (qcA l)[i]).1)[j]? = some (sgS ((qcA l)[i].1[j])):=by
   show((qcA l)[i].1.map sgS)[j]? = _;rw[List.getElem?_map,List.getElem?_eq_getElem hj'];rfl
  rw[e3] at this;injection this
 rw[e2];have:=(h2 _ (List.getElem_mem hi')).2 _ (List.getElem_mem hj');have:=qtT (qcA l)[i].1[j];exact⟨qqu _,by omega⟩
end
end Go.Proofs.YtllcbnfmihfaaaaGreatDoor
