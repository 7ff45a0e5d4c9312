import Derived.Test.YtllcbnfmihfaaaaGreatDoorTq14
import Derived.Test.YtllcbnfmihfaaaaGreatDoorTq22
set_option maxRecDepth 100000
set_option maxHeartbeats 8000000
namespace Go.Proofs.YtllcbnfmihfaaaaGreatDoor
open Go.Proofs.Tryz
variable {V V' w':World}{c v:Value}{P:Program}{g lo n num:Nat}
section
open Go.RowKit Go.Lib
def qz1 (w w':World)(c:Value):Prop:=w.heap.size≤w'.heap.size∧∀(g:Nat) (cur:Array Value) (t:TypeId) (fr:Nat×Nat),w.heap[g]? = some (.cells cur t fr)→∃cur',w'.heap[g]? = some (.cells cur' t fr)∧cur'.size=cur.size∧∀j:Nat,cur'[j]? = cur[j]?∨(j<cur.size∧cur'[j]? = some c)
theorem qyV {w:World}(hs:w.heap.size≤w'.heap.size)(h:∀j,j<w.heap.size→w'.heap[j]? = w.heap[j]?):qz1 w w' c :=
 ⟨hs,fun g cur _ _ hg=>⟨cur,(h g (ltA hg)).trans hg,rfl,fun _=>.inl rfl⟩⟩
theorem qz1.trans {a b d:World}(h1:qz1 a b c)(h2:qz1 b d c):qz1 a d c:=by
 refine⟨Nat.le_trans h1.1 h2.1,fun g cur t fr hg => ?_⟩;obtain⟨c1,e1,e2,e3⟩:=h1.2 g cur t fr hg;obtain⟨c2,f1,f2,f3⟩:=h2.2 g c1 t fr e1;refine⟨c2,f1,f2.trans e2,fun j => ?_⟩;rcases f3 j with h|⟨h,h'⟩
 ·rcases e3 j with k|⟨k,k'⟩
  ·exact .inl (h.trans k)
  exact .inr ⟨k,h.trans k'⟩
 exact .inr ⟨by omega,h'⟩
theorem qxP (w:World)(o:Obj)(c:Value):qz1 w (w.alloc o) c:=qyV (by simp) (fun j hj=>Below.heap_alloc _ _ _ hj)
theorem q13 (w:World)(base:Nat)(t ty e:TypeId)(i:TypeInfo)(z:Value)(bytes:Nat)(ht:P.underlying t=some (.slice e))(hi:P.info? e=some i)(hz:i.zero=some z)(hsize:i.size=1)(hby:i.bytes=bytes)(v:Value)(n:Nat)(xs:List Value)(hown:w.ownsRow base e 1 v n xs)(a:Addr)(m c:Nat)(cv:Value)(hnews:∀j u,(List.replicate m cv)[j]? = some u→w.cell? (a.add j)=some u)(h1:cv.oneCell'=true)(hm:0<m)(h63:n+m≤maxLen)(hbytes:(n+m)*bytes≤140737488355328){v':Value}(hr:(Builtin.append_ #[t,t] ty #[v,.slice (some a) m c]).run P w=.ok v' w'):qz1 w w' cv:=by
 subst hby;have hsmall:n+m≤9223372036854775807:=by simp only[maxLen] at h63;omega
 have hl:(List.replicate m cv).length=m*i.size:=by rw[hsize];simp
 rcases hown.2 with ⟨rfl,rfl⟩|⟨g,cap,cur,rfl,hbg,hg,hnc,hcm,hcs,htake⟩
 ·have h2:=run_append_nil (P:=P) w t ty e i z ht hi hz a m c _ hl hnews hm (by omega) (by have hb:=hbytes;simp only[Nat.zero_add] at hb;omega);rw[h2] at hr;injection hr with e1 e2;rw[←e2];exact qyV (by simp) (fun j hj=>Below.heap_alloc w.drew _ j hj)
 by_cases hroom:n+m≤cap
 ·have hfit:n*i.size+(List.replicate m cv).length≤cur.size:=by rw[hsize,hcs];simp;omega
  have h2:=run_append_room (P:=P) w t ty e i ht hi g n cap cur hg a m c _ hl hnews (fun u hu=>by rw[List.mem_replicate] at hu;rw[hu.2];exact h1) hroom hfit;rw[h2] at hr;injection hr with e1 e2;rw[←e2,hsize];refine⟨by simp,fun g' cur' t' fr' hg' => ?_⟩;by_cases hgg:g'=g
  ·subst hgg;rw[hg] at hg';injection hg' with hg';injection hg' with h3 h4 h5;subst h3;subst h4;subst h5;have hcl:cur.toList.length=cap:=by simpa using hcs
   refine⟨_,setRow_heap _ _ _ _ _ _ hg,?_,fun j => ?_⟩
   ·simp;omega
   simp only[List.getElem?_toArray,Nat.mul_one];by_cases hj:j<n
   ·left;rw[List.append_assoc,List.getElem?_append_left (by simp;omega),List.getElem?_take_of_lt hj];simp
   by_cases hj2:j<n+m
   ·right;refine⟨by omega,?_⟩;rw[List.append_assoc,List.getElem?_append_right (by simp;omega),List.getElem?_append_left (by simp;omega),List.getElem?_replicate,if_pos (by simp;omega)]
   left;rw[List.getElem?_append_right (by simp;omega),List.getElem?_drop];simp only[List.length_append,List.length_take,List.length_replicate,Array.length_toList];rw[show n+m+(j-(min n cur.size+m))=j by omega];simp
  exact⟨cur',(setRow_other _ _ _ _ hgg).trans hg',rfl,fun _=>.inl rfl⟩
 have holds:=hown.cells (g:=g) rfl;have h2:=run_append_grow (P:=P) w t ty e i z ht hi hz ⟨g,0,none⟩ n cap xs (by rw[hsize];exact hown.1) holds a m c _ hl hnews (by omega) (by omega) (growslice_fits (by omega) hbytes);rw[h2] at hr;injection hr with e1 e2;rw[←e2];exact qyV (by simp) (fun j hj=>Below.heap_alloc w.drew _ j hj)
theorem qxN (w:World){ops:Array Oper}{rest:List Oper}{o:Oper}{a:Act}{Q:Exit→Act→World→Prop}(hgd:o.guard=none)(s x:Operand)(t:TypeId)(ho:o.op=.call {callee:=.builtin .append,args:=#[s,x],argTypes:=#[t,t]})(base:Nat)(e:TypeId)(i:TypeInfo)(z:Value)(bytes:Nat)(ht:P.underlying t=some (.slice e))(hi:P.info? e=some i)(hz:i.zero=some z)(hsize:i.size=1)(hby:i.bytes=bytes)(hzs:z.cells.size=1)(v:Value)(n:Nat)(cv:Value)(hs:a.eval s=v)(hown:w.ownsRow base e 1 v n (List.replicate n cv))(ad:Addr)(m c:Nat)(hx:a.eval x=.slice (some ad) m c)(hnews:∀j u,(List.replicate m cv)[j]? = some u→w.cell? (ad.add j)=some u)(h1:cv.oneCell'=true)(hm:0<m)(h63:n+m≤maxLen)(hbytes:(n+m)*bytes≤140737488355328)(hbase:base≤w.heap.size)(h:∀v' w',w'.ownsRow base e 1 v' (n+m) (List.replicate (n+m) cv)→qz1 w w' cv→w.grownBy w' v.ownBlock→(v'.ownBlock=v.ownBlock∨v'.ownBlock=some w.heap.size)→wpList P ops Q rest (a.put o.dst v') w'):wpList P ops Q (o::rest) a w:=by
 refine wpList_plain hgd fun K hK => ?_;have hl:(List.replicate m cv).length=m*1:=by simp
 have hone:∀u∈List.replicate m cv,u.oneCell'=true:=fun u hu=>by rw[List.mem_replicate] at hu;rw[hu.2];exact h1
 obtain⟨v',w',hr,h2,h3,_⟩:=run_append_own (P:=P) w base t o.type e i z 1 bytes ht hi hz hsize hby hzs (by decide) v n _ hown ad m c _ hl hnews hone h63 hbytes hbase;have h4:=qcS (P:=P) w base t o.type e i z 1 bytes ht hi hz hsize hby v n _ hown ad m c _ hl hnews hone hm h63 hbytes hr;have h5:=q13 (P:=P) w base t o.type e i z bytes ht hi hz hsize hby v n _ hown ad m c cv hnews h1 hm h63 hbytes hr;rw[List.replicate_append_replicate] at h2;unfold Oper.wp execOp;simp only[ho,resolve,invoke,builtin,Sem.run_bind,Sem.run_pure,Result.andThen_ok,List.map_toArray,List.map_cons,List.map_nil,hs,hx,hr];exact hK _ _ (h v' w' h2 h5 h3 h4)
def q1c (V:World)(v c:Value)(lo:Nat):Prop:=∃a n cap,v=.slice a n cap∧(n=0∨∃g cur,a=some ⟨g,0,none⟩∧lo≤g∧V.heap[g]? = some (.cells cur 5 (0,0))∧n≤cur.size∧∀j,j<n→cur[j]? = some c)
theorem q1c.marks (h:q1c V v c lo)(hm:qz1 V V' c):q1c V' v c lo:=by
 obtain⟨a,n,cap,rfl,h⟩:=h;refine⟨a,n,cap,rfl,?_⟩;rcases h with h|⟨g,cur,h1,h2,h3,h4,h5⟩
 ·exact .inl h
 obtain⟨cur',e1,e2,e3⟩:=hm.2 g cur _ _ h3;refine .inr ⟨g,cur',h1,h2,e1,by omega,fun j hj => ?_⟩;rcases e3 j with e|⟨_,e⟩
 ·exact e.trans (h5 j hj)
 exact e
theorem q1c.own (h:V.ownsRow lo 5 1 v n (List.replicate n c)):q1c V v c lo:=by
 rcases h.2 with ⟨rfl,rfl⟩|⟨g,cap,cur,rfl,h1,h2,h3,h4,h5,h6⟩
 ·exact⟨none,0,0,rfl,.inl rfl⟩
 refine⟨_,n,cap,rfl,.inr ⟨g,cur,rfl,h1,h2,by omega,fun j hj => ?_⟩⟩;have e:(cur.toList.take (n*1))[j]? = some c:=by rw[h6,List.getElem?_replicate,if_pos hj]
 rw[List.getElem?_take_of_lt (by omega)] at e;simpa using e
theorem qyh (h:V.ownsRow lo 5 1 v n (List.replicate n c))(hm:qz1 V V' c):V'.ownsRow lo 5 1 v n (List.replicate n c):=by
 refine⟨h.1,?_⟩;rcases h.2 with h2|⟨g,cap,cur,e,h1,h2,h3,h4,h5,h6⟩
 ·exact .inl h2
 obtain⟨cur',e1,e2,e3⟩:=hm.2 g cur _ _ h2;refine .inr ⟨g,cap,cur',e,h1,e1,h3,h4,by omega,?_⟩;apply List.ext_getElem?;intro j;by_cases hj:j<n
 ·rw[List.getElem?_take_of_lt (by omega),List.getElem?_replicate,if_pos hj];have e5:(cur.toList.take (n*1))[j]? = some c:=by rw[h6,List.getElem?_replicate,if_pos hj]
  rw[List.getElem?_take_of_lt (by omega)] at e5;rcases e3 j with e|⟨_,e⟩
  ·rw[Array.getElem?_toList] at e5 ⊢;rw[e,e5]
  rw[Array.getElem?_toList,e]
 rw[List.getElem?_eq_none (by simp;omega),List.getElem?_eq_none (by simp;omega)]
def mkN (n:Nat):Nat:=200+n / 4%50
theorem qzF (n:Nat)(hn:n≤9223372036854775807)(W:World):Calls prog 61 #[.int .i64 n] W fun e W'=>e=.returned (.int .u8 (mkN n))∧W'=W:=by
 go_enter func61,ntmps61;go_wp2;go_ret;refine⟨?_,rfl⟩;have e:(200+(n:Int) / 4%50)=((mkN n:Nat):Int):=by unfold mkN;omega
 rw[←e];rfl
def q5d (r:Except (Int×Int) (Nat×Nat)):Value:=match r with
 |.ok (x,_)=>if 9223372036854775807<x then .tuple #[.int .i64 9223372036854775807,.bool true,.agg (qqp (0,0))] else .tuple #[.int .i64 x,.bool false,.agg (qqp (0,0))]
 |.error f=>.tuple #[.int .i64 0,.bool false,.agg (qqp f)]
theorem qyU {bs:List UInt8}{lim:Int}:∀(k p a x q:Nat),InR bs lim p→qd9 bs lim k p a=.ok (x,q)→q=p+k∧InR bs lim q
 |0,p,a,x,q,hi,h=>by
  rw[qd9] at h;injection h with h;injection h with _ h2;subst h2;exact⟨rfl,hi⟩
 |k+1,p,a,x,q,hi,h=>by
  rw[qd9] at h
  cases hc:bs[p]? with
  |none=>rw[hc] at h;cases h
  |some c =>
   rw[hc] at h;simp only[] at h;by_cases hp:(p:Int)=lim
   ·rw[if_pos hp] at h;cases h
   rw[if_neg hp] at h;obtain⟨e,h2⟩:=qyU k (p+1) _ x q (qxJ hi hc hp) h;exact⟨by omega,h2⟩
theorem q5k (h:(num+1)*256^(g+1)≤18446744073709551616)(hn:36028797018963967<num):g=0:=by
 cases g with
 |zero=>rfl
 |succ g =>
  have h0:(num+1)*256^(g+2)≤18446744073709551616:=h;have h1:36028797018963968*256^(g+2)≤(num+1)*256^(g+2):=Nat.mul_le_mul_right _ (by omega);have h2:65536≤256^(g+2):=by
   have:0<256^g:=Nat.pow_pos (by decide);rw[Nat.pow_succ,Nat.pow_succ];omega
  omega
theorem q4Q {c:Nat}(h:(num+1)*256^(g+1)≤18446744073709551616)(hc:c<256):(num*256+c+1)*256^g≤18446744073709551616:=by
 refine Nat.le_trans (Nat.mul_le_mul_right _ (show num*256+c+1≤(num+1)*256 by omega)) ?_;rw[Nat.mul_assoc,←Nat.pow_succ'];exact h
theorem q4k {k:Nat}(hk:k≤8):(0+1)*256^k≤18446744073709551616:=by
 have:256^k≤256^8:=Nat.pow_le_pow_right (by decide) hk;omega
theorem q0N (W:World)(bs:List UInt8)(fm d l lim:Int)(i k:Nat)(hk:k≤8)(hl:Lm bs l lim)(hi:InR bs lim i)(hb:bs.length≤200000000):Calls prog 231 #[.agg (inA bs fm d l),.int .i64 i,.int .i64 k] W fun e W'=>e=.returned (q5d (qd9 bs lim k i 0))∧Below W.heap.size W W':=by
 obtain⟨R,HR⟩:∃R,Hid (qd9 bs lim k i 0=R):=⟨_,show _=_ from rfl⟩
 rw[HR.out];have hil:=hi.1;have HL:=qaa hl;have HI:=qaa hi;have cH:=qzv bs fm d l;have cB:=qzy bs fm d l;clear hl hi;unfold inA;go_enter func231,ntmps231;go_wp2
 go_loopg [9,10,11] k (fun g zn zo zj wr=>∃j num:Nat,zj=.int .i64 j∧Hid (j+g=i+k)∧((zn=.int .i64 num∧zo=.bool false∧Hid (num≤9223372036854775807))∨(∃z,g=0∧zn=.int .i64 z∧zo=.bool true∧Hid (9223372036854775807<num)))∧Hid ((num+1)*256^g≤18446744073709551616)∧Hid (RIn W (inA bs fm d l) (W.heap.size+1) wr)∧Hid (qd9 bs lim g j num=R)∧Hid (InR bs lim j))
 case atStart=>exact⟨i,0,rfl,rfl,.inl ⟨rfl,rfl,Nat.zero_le _⟩,q4k hk,qzj _ _,HR,HI⟩
 case round =>
  clear HR HI;obtain⟨j,num,rfl,hg,hst,hbn,HX,HR,HI⟩:=hrel;have hjl:=HI.out.1;obtain⟨c0,c1,c2,c3⟩:=qyf HX.out.box;have cH1:=fun V=>cH V j;have cB1:=fun V=>cB V j 9;have hr:=HR.out
  cases gk with
  |zero =>
   rw[qd9] at hr;have hlt:¬(j:Int)<(i:Int)+(k:Int):=by have:=hg.out;omega
   rcases hst with ⟨rfl,rfl,hn⟩|⟨z,_,rfl,rfl,hn⟩
   ·have HE:Hid (q5d R=.tuple #[.int .i64 num,.bool false,.agg (qqp (0,0))]):=by
     show _=_;rw[←hr];unfold q5d;simp only[];rw[if_neg (by have:=hn.out;omega)]
    clear hr HR hg cH cB cH1 cB1
    go_wp2_with (first
     |((with_reducible refine stF 8 40 rfl rfl (W.heap.size+1) (0,0) ?_ ?_ ?_ ?_);exact rfl;exact rfl;exact HX.out.flt))
    have hf:=qxK HX.out bwR (0,0);refine qzl results231 hf (.int .i64 num) (.bool false) rfl rfl rfl rfl ⟨?_,hf.2⟩;rw[HE.out]
   have HE:Hid (q5d R=.tuple #[.int .i64 9223372036854775807,.bool true,.agg (qqp (0,0))]):=by
    show _=_;rw[←hr];unfold q5d;simp only[];rw[if_pos hn.out]
   clear hr HR hg cH cB cH1 cB1
   go_wp2_with (first
    |((with_reducible refine stF 8 38 rfl rfl (W.heap.size+1) (0,0) ?_ ?_ ?_ ?_);exact rfl;exact rfl;exact HX.out.flt))
   have hf:=qxK HX.out bwR (0,0);refine qzl results231 hf (.int .i64 9223372036854775807) (.bool true) rfl rfl rfl rfl ⟨?_,hf.2⟩;rw[HE.out]
  |succ g =>
   rw[qd9] at hr;have hlt:(j:Int)<(i:Int)+(k:Int):=by have:=hg.out;omega
   obtain⟨rfl,rfl,hn⟩:_∧_∧Hid (num≤9223372036854775807):=by
    rcases hst with h|⟨z,h,_⟩
    ·exact h
    omega
   cases hc:bs[j]? with
   |none =>
    rw[hc] at hr;simp only[] at hr;rw[qxS hc] at cH1;rw[qxY hjl hc] at cB1;have HE:=qaa hr.symm;clear hr hc cB cH HR hg
    go_wp2_with (first
     |(go_at_call 113;refine ck4 (cH1 _) HX.out.next (fun _ h=>h.box) ?_;clear cH1 c0 c1 c2 c3;intro w2 HX2 c0 c1 c2 c3)
     |(go_at_call 71;refine ck4 (cB1 _) HX2.out.next (fun _ h=>h.box) ?_;clear cB1 c0 c1 c2 c3;intro w3 HX3 c0 c1 c2 c3)
     |((with_reducible refine stF 8 26 rfl rfl (W.heap.size+1) (9,(j:Int)) ?_ ?_ ?_ ?_);exact rfl;exact rfl;exact HX3.out.flt))
    have hf:=qxK HX3.out bwR (9,(j:Int));refine qzl results231 hf (.int .i64 0) (.bool false) rfl rfl rfl rfl ⟨?_,hf.2⟩;rw[HE.out];rfl
   |some c =>
    rw[hc] at hr;simp only[] at hr;have hix:=fun V=>qxH bs j c hc V;have hjb:=ltL hc;by_cases hp:(j:Int)=lim
    ·rw[if_pos hp] at hr;rw[qyg HL.out hc hp] at cH1;rw[qxW HL.out hc hp] at cB1;have HE:=qaa hr.symm;clear hr hc cB cH HR hg hp hix
     go_wp2_with (first
      |(go_at_call 113;refine ck4 (cH1 _) HX.out.next (fun _ h=>h.box) ?_;clear cH1 c0 c1 c2 c3;intro w2 HX2 c0 c1 c2 c3)
      |(go_at_call 71;refine ck4 (cB1 _) HX2.out.next (fun _ h=>h.box) ?_;clear cB1 c0 c1 c2 c3;intro w3 HX3 c0 c1 c2 c3)
      |((with_reducible refine stF 8 26 rfl rfl (W.heap.size+1) (8,(j:Int)) ?_ ?_ ?_ ?_);exact rfl;exact rfl;exact HX3.out.flt))
     have hf:=qxK HX3.out bwR (8,(j:Int));refine qzl results231 hf (.int .i64 0) (.bool false) rfl rfl rfl rfl ⟨?_,hf.2⟩;rw[HE.out];rfl
    rw[if_neg hp] at hr;rw[qxO HL.out HI.out hc hp] at cH1;have HN:=qaa hr;have HNX:=qaa (qxJ HI.out hc hp);have hc255:=c.toNat_lt;have HB2:=qaa (q4Q hbn.out (by omega));by_cases hov:36028797018963967<num
    ·have hg0:=q5k hbn.out hov;subst hg0;have d1:decide (36028797018963967<(num:Int))=true:=by simp;omega
     have HO:Hid (9223372036854775807<num*256+c.toNat):=by show _<_;omega
     clear hr hc cB cB1 cH HR hp hov hn hbn
     go_wp2_with (first
      |(go_at_call 113;refine ck4 (cH1 _) HX.out.next (fun _ h=>h.box) ?_;clear cH1 c0 c1 c2 c3;intro w2 HX2 c0 c1 c2 c3))
     go_roundg 0
     case measure=>omega
     case rel=>exact⟨j+1,num*256+c.toNat,by go_num,by show _=_;have:=hg.out;omega,.inr ⟨_,rfl,rfl,rfl,HO⟩,HB2,HX2,HN,HNX⟩
    have d1:decide (36028797018963967<(num:Int))=false:=by simp;omega
    have hnb:(num:Int)≤36028797018963967:=by omega
    clear hr hc cB cB1 cH HR hp hov hn hbn
    go_wp2_with (first
     |(go_at_call 113;refine ck4 (cH1 _) HX.out.next (fun _ h=>h.box) ?_;clear cH1 c0 c1 c2 c3;intro w2 HX2 c0 c1 c2 c3))
    go_roundg g
    case measure=>omega
    case rel=>exact⟨j+1,num*256+c.toNat,by go_num,by show _=_;have:=hg.out;omega,.inl ⟨by go_num,rfl,by show _≤_;omega⟩,HB2,HX2,HN,HNX⟩
theorem qxG {a b:Bool}(h:a=b):Ending.returned (.bool a)=.returned (.bool b):=by rw[h]
theorem q3h (W:World)(bs:List UInt8)(fm d l:Int)(i:Nat)(c:UInt8)(hc:bs[i]? = some c)(hfm:fm=2)(h1:c.toNat / 32=3)(h2:c.toNat%32≤27):Calls prog 209 #[.agg (inA bs fm d l),.int .i64 i] W fun e W'=>e=.returned (.bool true)∧Below W.heap.size W W':=by
 have hix:=qxH bs i c hc;have tf:(fm==2)=true:=by rw[hfm];rfl
 have q3:((c.toNat:Int) / 32%256==3)=true:=by simp;have:=c.toNat_lt;omega
 have p3:((c.toNat:Int) / 32==3)=true:=by simp;omega
 have r1:(c.toNat:Int)%32≤27:=by omega
 unfold inA;go_enter func209,ntmps209;go_wp2;go_ret
 first|exact⟨rfl,bwA⟩|exact⟨qxG (by simp;omega),bwA⟩|exact⟨qxG r1,bwA⟩
theorem q3l (W:World)(bs:List UInt8)(fm d l:Int)(i:Nat)(c:UInt8)(hc:bs[i]? = some c)(hfm:fm=2)(h1:c.toNat / 32=3)(h2:¬c.toNat%32≤27):Calls prog 209 #[.agg (inA bs fm d l),.int .i64 i] W fun e W'=>e=.returned (.bool false)∧Below W.heap.size W W':=by
 have hix:=qxH bs i c hc;have tf:(fm==2)=true:=by rw[hfm];rfl
 have q3:((c.toNat:Int) / 32%256==3)=true:=by simp;have:=c.toNat_lt;omega
 have p3:((c.toNat:Int) / 32==3)=true:=by simp;omega
 have r1:decide ((c.toNat:Int)%32≤27)=false:=by simp;omega
 unfold inA;go_enter func209,ntmps209;go_wp2;go_ret
 first|exact⟨rfl,bwA⟩|exact⟨qxG (by simp;omega),bwA⟩|exact⟨qxG r1,bwA⟩
theorem q3r (W:World)(bs:List UInt8)(fm d l:Int)(i:Nat)(c:UInt8)(hc:bs[i]? = some c)(hfm:fm=2)(h1:¬c.toNat / 32=3):Calls prog 209 #[.agg (inA bs fm d l),.int .i64 i] W fun e W'=>e=.returned (.bool false)∧Below W.heap.size W W':=by
 have hix:=qxH bs i c hc;have tf:(fm==2)=true:=by rw[hfm];rfl
 have q3:((c.toNat:Int) / 32%256==3)=false:=by simp;have:=c.toNat_lt;omega
 have p3:((c.toNat:Int) / 32==3)=false:=by simp;omega
 unfold inA;go_enter func209,ntmps209;go_wp2;go_ret
 first|exact⟨rfl,bwA⟩|exact⟨qxG (by simp;omega),bwA⟩|exact⟨qxG r1,bwA⟩
theorem q3z (W:World)(bs:List UInt8)(fm d l:Int)(i:Nat)(c:UInt8)(hc:bs[i]? = some c)(hfm:fm=3)(h1:0≤(c.toNat:Int))(h2:(c.toNat:Int)≤159):Calls prog 209 #[.agg (inA bs fm d l),.int .i64 i] W fun e W'=>e=.returned (.bool false)∧Below W.heap.size W W':=by
 have hix:=qxH bs i c hc;have tf:(fm==2)=false:=by rw[hfm];rfl
 unfold inA;go_enter func209,ntmps209;go_wp2;go_ret
 first|exact⟨rfl,bwA⟩|exact⟨qxG (by simp;omega),bwA⟩|exact⟨qxG r1,bwA⟩
theorem q3S (W:World)(bs:List UInt8)(fm d l:Int)(i:Nat)(c:UInt8)(hc:bs[i]? = some c)(hfm:fm=3)(h1:160≤(c.toNat:Int))(h2:(c.toNat:Int)≤191):Calls prog 209 #[.agg (inA bs fm d l),.int .i64 i] W fun e W'=>e=.returned (.bool true)∧Below W.heap.size W W':=by
 have hix:=qxH bs i c hc;have tf:(fm==2)=false:=by rw[hfm];rfl
 unfold inA;go_enter func209,ntmps209;go_wp2;go_ret
 first|exact⟨rfl,bwA⟩|exact⟨qxG (by simp;omega),bwA⟩|exact⟨qxG r1,bwA⟩
theorem q3Q (W:World)(bs:List UInt8)(fm d l:Int)(i:Nat)(c:UInt8)(hc:bs[i]? = some c)(hfm:fm=3)(h1:192≤(c.toNat:Int))(h2:(c.toNat:Int)≤216):Calls prog 209 #[.agg (inA bs fm d l),.int .i64 i] W fun e W'=>e=.returned (.bool false)∧Below W.heap.size W W':=by
 have hix:=qxH bs i c hc;have tf:(fm==2)=false:=by rw[hfm];rfl
 unfold inA;go_enter func209,ntmps209;go_wp2;go_ret
 first|exact⟨rfl,bwA⟩|exact⟨qxG (by simp;omega),bwA⟩|exact⟨qxG r1,bwA⟩
theorem q4i (W:World)(bs:List UInt8)(fm d l:Int)(i:Nat)(c:UInt8)(hc:bs[i]? = some c)(hfm:fm=3)(h1:217≤(c.toNat:Int))(h2:(c.toNat:Int)≤219):Calls prog 209 #[.agg (inA bs fm d l),.int .i64 i] W fun e W'=>e=.returned (.bool true)∧Below W.heap.size W W':=by
 have hix:=qxH bs i c hc;have tf:(fm==2)=false:=by rw[hfm];rfl
 unfold inA;go_enter func209,ntmps209;go_wp2;go_ret
 first|exact⟨rfl,bwA⟩|exact⟨qxG (by simp;omega),bwA⟩|exact⟨qxG r1,bwA⟩
theorem q4e (W:World)(bs:List UInt8)(fm d l:Int)(i:Nat)(c:UInt8)(hc:bs[i]? = some c)(hfm:fm=3)(h1:220≤(c.toNat:Int))(h2:(c.toNat:Int)≤255):Calls prog 209 #[.agg (inA bs fm d l),.int .i64 i] W fun e W'=>e=.returned (.bool false)∧Below W.heap.size W W':=by
 have hix:=qxH bs i c hc;have tf:(fm==2)=false:=by rw[hfm];rfl
 unfold inA;go_enter func209,ntmps209;go_wp2;go_ret
 first|exact⟨rfl,bwA⟩|exact⟨qxG (by simp;omega),bwA⟩|exact⟨qxG r1,bwA⟩
theorem qzM (W:World)(bs:List UInt8)(fm d l:Int)(i:Nat)(c:UInt8)(hc:bs[i]? = some c)(hfm:fm=2)(h1:c.toNat / 32=4)(h2:c.toNat%32≤27):Calls prog 174 #[.agg (inA bs fm d l),.int .i64 i] W fun e W'=>e=.returned (.bool true)∧Below W.heap.size W W':=by
 have hix:=qxH bs i c hc;have tf:(fm==2)=true:=by rw[hfm];rfl
 have q4:((c.toNat:Int) / 32%256==4)=true:=by simp;have:=c.toNat_lt;omega
 have p4:((c.toNat:Int) / 32==4)=true:=by simp;omega
 have r1:(c.toNat:Int)%32≤27:=by omega
 unfold inA;go_enter func174,ntmps174;go_wp2;go_ret
 first|exact⟨rfl,bwA⟩|exact⟨qxG (by simp;omega),bwA⟩|exact⟨qxG r1,bwA⟩
theorem qzX (W:World)(bs:List UInt8)(fm d l:Int)(i:Nat)(c:UInt8)(hc:bs[i]? = some c)(hfm:fm=2)(h1:c.toNat / 32=4)(h2:¬c.toNat%32≤27):Calls prog 174 #[.agg (inA bs fm d l),.int .i64 i] W fun e W'=>e=.returned (.bool false)∧Below W.heap.size W W':=by
 have hix:=qxH bs i c hc;have tf:(fm==2)=true:=by rw[hfm];rfl
 have q4:((c.toNat:Int) / 32%256==4)=true:=by simp;have:=c.toNat_lt;omega
 have p4:((c.toNat:Int) / 32==4)=true:=by simp;omega
 have r1:decide ((c.toNat:Int)%32≤27)=false:=by simp;omega
 unfold inA;go_enter func174,ntmps174;go_wp2;go_ret
 first|exact⟨rfl,bwA⟩|exact⟨qxG (by simp;omega),bwA⟩|exact⟨qxG r1,bwA⟩
theorem qzS (W:World)(bs:List UInt8)(fm d l:Int)(i:Nat)(c:UInt8)(hc:bs[i]? = some c)(hfm:fm=2)(h1:c.toNat / 32=5)(h2:c.toNat%32≤27):Calls prog 174 #[.agg (inA bs fm d l),.int .i64 i] W fun e W'=>e=.returned (.bool true)∧Below W.heap.size W W':=by
 have hix:=qxH bs i c hc;have tf:(fm==2)=true:=by rw[hfm];rfl
 have q4:((c.toNat:Int) / 32%256==4)=false:=by simp;have:=c.toNat_lt;omega
 have p4:((c.toNat:Int) / 32==4)=false:=by simp;omega
 have q5:((c.toNat:Int) / 32%256==5)=true:=by simp;have:=c.toNat_lt;omega
 have p5:((c.toNat:Int) / 32==5)=true:=by simp;omega
 have r1:(c.toNat:Int)%32≤27:=by omega
 unfold inA;go_enter func174,ntmps174;go_wp2;go_ret
 first|exact⟨rfl,bwA⟩|exact⟨qxG (by simp;omega),bwA⟩|exact⟨qxG r1,bwA⟩
theorem q0d (W:World)(bs:List UInt8)(fm d l:Int)(i:Nat)(c:UInt8)(hc:bs[i]? = some c)(hfm:fm=2)(h1:c.toNat / 32=5)(h2:¬c.toNat%32≤27):Calls prog 174 #[.agg (inA bs fm d l),.int .i64 i] W fun e W'=>e=.returned (.bool false)∧Below W.heap.size W W':=by
 have hix:=qxH bs i c hc;have tf:(fm==2)=true:=by rw[hfm];rfl
 have q4:((c.toNat:Int) / 32%256==4)=false:=by simp;have:=c.toNat_lt;omega
 have p4:((c.toNat:Int) / 32==4)=false:=by simp;omega
 have q5:((c.toNat:Int) / 32%256==5)=true:=by simp;have:=c.toNat_lt;omega
 have p5:((c.toNat:Int) / 32==5)=true:=by simp;omega
 have r1:decide ((c.toNat:Int)%32≤27)=false:=by simp;omega
 unfold inA;go_enter func174,ntmps174;go_wp2;go_ret
 first|exact⟨rfl,bwA⟩|exact⟨qxG (by simp;omega),bwA⟩|exact⟨qxG r1,bwA⟩
theorem qzW (W:World)(bs:List UInt8)(fm d l:Int)(i:Nat)(c:UInt8)(hc:bs[i]? = some c)(hfm:fm=2)(h1:¬c.toNat / 32=4)(h2:¬c.toNat / 32=5):Calls prog 174 #[.agg (inA bs fm d l),.int .i64 i] W fun e W'=>e=.returned (.bool false)∧Below W.heap.size W W':=by
 have hix:=qxH bs i c hc;have tf:(fm==2)=true:=by rw[hfm];rfl
 have q4:((c.toNat:Int) / 32%256==4)=false:=by simp;have:=c.toNat_lt;omega
 have p4:((c.toNat:Int) / 32==4)=false:=by simp;omega
 have q5:((c.toNat:Int) / 32%256==5)=false:=by simp;have:=c.toNat_lt;omega
 have p5:((c.toNat:Int) / 32==5)=false:=by simp;omega
 unfold inA;go_enter func174,ntmps174;go_wp2;go_ret
 first|exact⟨rfl,bwA⟩|exact⟨qxG (by simp;omega),bwA⟩|exact⟨qxG r1,bwA⟩
theorem q0w (W:World)(bs:List UInt8)(fm d l:Int)(i:Nat)(c:UInt8)(hc:bs[i]? = some c)(hfm:fm=3)(h1:0≤(c.toNat:Int))(h2:(c.toNat:Int)≤127):Calls prog 174 #[.agg (inA bs fm d l),.int .i64 i] W fun e W'=>e=.returned (.bool false)∧Below W.heap.size W W':=by
 have hix:=qxH bs i c hc;have tf:(fm==2)=false:=by rw[hfm];rfl
 unfold inA;go_enter func174,ntmps174;go_wp2;go_ret
 first|exact⟨rfl,bwA⟩|exact⟨qxG (by simp;omega),bwA⟩|exact⟨qxG r1,bwA⟩
theorem q0t (W:World)(bs:List UInt8)(fm d l:Int)(i:Nat)(c:UInt8)(hc:bs[i]? = some c)(hfm:fm=3)(h1:128≤(c.toNat:Int))(h2:(c.toNat:Int)≤159):Calls prog 174 #[.agg (inA bs fm d l),.int .i64 i] W fun e W'=>e=.returned (.bool true)∧Below W.heap.size W W':=by
 have hix:=qxH bs i c hc;have tf:(fm==2)=false:=by rw[hfm];rfl
 unfold inA;go_enter func174,ntmps174;go_wp2;go_ret
 first|exact⟨rfl,bwA⟩|exact⟨qxG (by simp;omega),bwA⟩|exact⟨qxG r1,bwA⟩
theorem q0u (W:World)(bs:List UInt8)(fm d l:Int)(i:Nat)(c:UInt8)(hc:bs[i]? = some c)(hfm:fm=3)(h1:160≤(c.toNat:Int))(h2:(c.toNat:Int)≤219):Calls prog 174 #[.agg (inA bs fm d l),.int .i64 i] W fun e W'=>e=.returned (.bool false)∧Below W.heap.size W W':=by
 have hix:=qxH bs i c hc;have tf:(fm==2)=false:=by rw[hfm];rfl
 unfold inA;go_enter func174,ntmps174;go_wp2;go_ret
 first|exact⟨rfl,bwA⟩|exact⟨qxG (by simp;omega),bwA⟩|exact⟨qxG r1,bwA⟩
theorem q0s (W:World)(bs:List UInt8)(fm d l:Int)(i:Nat)(c:UInt8)(hc:bs[i]? = some c)(hfm:fm=3)(h1:220≤(c.toNat:Int))(h2:(c.toNat:Int)≤223):Calls prog 174 #[.agg (inA bs fm d l),.int .i64 i] W fun e W'=>e=.returned (.bool true)∧Below W.heap.size W W':=by
 have hix:=qxH bs i c hc;have tf:(fm==2)=false:=by rw[hfm];rfl
 unfold inA;go_enter func174,ntmps174;go_wp2;go_ret
 first|exact⟨rfl,bwA⟩|exact⟨qxG (by simp;omega),bwA⟩|exact⟨qxG r1,bwA⟩
theorem q0z (W:World)(bs:List UInt8)(fm d l:Int)(i:Nat)(c:UInt8)(hc:bs[i]? = some c)(hfm:fm=3)(h1:224≤(c.toNat:Int))(h2:(c.toNat:Int)≤255):Calls prog 174 #[.agg (inA bs fm d l),.int .i64 i] W fun e W'=>e=.returned (.bool false)∧Below W.heap.size W W':=by
 have hix:=qxH bs i c hc;have tf:(fm==2)=false:=by rw[hfm];rfl
 unfold inA;go_enter func174,ntmps174;go_wp2;go_ret
 first|exact⟨rfl,bwA⟩|exact⟨qxG (by simp;omega),bwA⟩|exact⟨qxG r1,bwA⟩
theorem q5R:(List.range 256).all (fun c=>decide (((qiN c).1=8↔(c / 32=3∧c%32≤27))∧(((qiN c).1=9∨(qiN c).1=10)↔((c / 32=4∨c / 32=5)∧c%32≤27))))=true:=by kernel_rfl
theorem cbT (c:UInt8):((qiN c.toNat).1=8↔(c.toNat / 32=3∧c.toNat%32≤27))∧(((qiN c.toNat).1=9∨(qiN c.toNat).1=10)↔((c.toNat / 32=4∨c.toNat / 32=5)∧c.toNat%32≤27)):=of_decide_eq_true (List.all_eq_true.1 q5R c.toNat (List.mem_range.2 c.toNat_lt))
theorem q5N:(List.range 256).all (fun c=>decide (((qfo c).1=8↔((160≤c∧c≤191)∨(217≤c∧c≤219)))∧(((qfo c).1=9∨(qfo c).1=10)↔((128≤c∧c≤159)∨(220≤c∧c≤223)))))=true:=by kernel_rfl
theorem pkT (c:UInt8):((qfo c.toNat).1=8↔((160≤c.toNat∧c.toNat≤191)∨(217≤c.toNat∧c.toNat≤219)))∧(((qfo c.toNat).1=9∨(qfo c.toNat).1=10)↔((128≤c.toNat∧c.toNat≤159)∨(220≤c.toNat∧c.toNat≤223))):=of_decide_eq_true (List.all_eq_true.1 q5N c.toNat (List.mem_range.2 c.toNat_lt))
def hdO (fm:Int)(c:Nat):Nat×Nat×Nat:=if fm=2 then qiN c else qfo c
theorem q3f (W:World)(bs:List UInt8)(fm d l:Int)(i:Nat)(c:UInt8)(hc:bs[i]? = some c)(hfm:fm=2∨fm=3):Calls prog 209 #[.agg (inA bs fm d l),.int .i64 i] W fun e W'=>e=.returned (.bool (decide ((hdO fm c.toNat).1=8)))∧Below W.heap.size W W':=by
 have h255:=c.toNat_lt;rcases hfm with rfl|rfl
 ·have ht:=(cbT c).1;have hd:(hdO 2 c.toNat).1=(qiN c.toNat).1:=rfl;rw[hd];by_cases h1:c.toNat / 32=3
  ·by_cases h2:c.toNat%32≤27
   ·rw[decide_eq_true (ht.2 ⟨h1,h2⟩)];exact q3h W bs 2 d l i c hc rfl h1 h2
   rw[decide_eq_false (fun h=>h2 (ht.1 h).2)];exact q3l W bs 2 d l i c hc rfl h1 h2
  rw[decide_eq_false (fun h=>h1 (ht.1 h).1)];exact q3r W bs 2 d l i c hc rfl h1
 have ht:=(pkT c).1;have hd:(hdO 3 c.toNat).1=(qfo c.toNat).1:=rfl;rw[hd];by_cases h1:c.toNat≤159
 ·rw[decide_eq_false (fun h=>by have:=ht.1 h;omega)];exact q3z W bs 3 d l i c hc rfl (by omega) (by omega)
 by_cases h2:c.toNat≤191
 ·rw[decide_eq_true (ht.2 (by omega))];exact q3S W bs 3 d l i c hc rfl (by omega) (by omega)
 by_cases h3:c.toNat≤216
 ·rw[decide_eq_false (fun h=>by have:=ht.1 h;omega)];exact q3Q W bs 3 d l i c hc rfl (by omega) (by omega)
 by_cases h4:c.toNat≤219
 ·rw[decide_eq_true (ht.2 (by omega))];exact q4i W bs 3 d l i c hc rfl (by omega) (by omega)
 rw[decide_eq_false (fun h=>by have:=ht.1 h;omega)];exact q4e W bs 3 d l i c hc rfl (by omega) (by omega)
theorem qzN (W:World)(bs:List UInt8)(fm d l:Int)(i:Nat)(c:UInt8)(hc:bs[i]? = some c)(hfm:fm=2∨fm=3):Calls prog 174 #[.agg (inA bs fm d l),.int .i64 i] W fun e W'=>e=.returned (.bool (decide ((hdO fm c.toNat).1=9∨(hdO fm c.toNat).1=10)))∧Below W.heap.size W W':=by
 have h255:=c.toNat_lt;rcases hfm with rfl|rfl
 ·have ht:=(cbT c).2;have hd:(hdO 2 c.toNat).1=(qiN c.toNat).1:=rfl;rw[hd];by_cases h1:c.toNat / 32=4
  ·by_cases h2:c.toNat%32≤27
   ·rw[decide_eq_true (ht.2 ⟨.inl h1,h2⟩)];exact qzM W bs 2 d l i c hc rfl h1 h2
   rw[decide_eq_false (fun h=>h2 (ht.1 h).2)];exact qzX W bs 2 d l i c hc rfl h1 h2
  by_cases h5:c.toNat / 32=5
  ·by_cases h2:c.toNat%32≤27
   ·rw[decide_eq_true (ht.2 ⟨.inr h5,h2⟩)];exact qzS W bs 2 d l i c hc rfl h5 h2
   rw[decide_eq_false (fun h=>h2 (ht.1 h).2)];exact q0d W bs 2 d l i c hc rfl h5 h2
  rw[decide_eq_false (fun h=>by have:=(ht.1 h).1;omega)];exact qzW W bs 2 d l i c hc rfl h1 h5
 have ht:=(pkT c).2;have hd:(hdO 3 c.toNat).1=(qfo c.toNat).1:=rfl;rw[hd];by_cases h1:c.toNat≤127
 ·rw[decide_eq_false (fun h=>by have:=ht.1 h;omega)];exact q0w W bs 3 d l i c hc rfl (by omega) (by omega)
 by_cases h2:c.toNat≤159
 ·rw[decide_eq_true (ht.2 (by omega))];exact q0t W bs 3 d l i c hc rfl (by omega) (by omega)
 by_cases h3:c.toNat≤219
 ·rw[decide_eq_false (fun h=>by have:=ht.1 h;omega)];exact q0u W bs 3 d l i c hc rfl (by omega) (by omega)
 by_cases h4:c.toNat≤223
 ·rw[decide_eq_true (ht.2 (by omega))];exact q0s W bs 3 d l i c hc rfl (by omega) (by omega)
 rw[decide_eq_false (fun h=>by have:=ht.1 h;omega)];exact q0z W bs 3 d l i c hc rfl (by omega) (by omega)
end
end Go.Proofs.YtllcbnfmihfaaaaGreatDoor
