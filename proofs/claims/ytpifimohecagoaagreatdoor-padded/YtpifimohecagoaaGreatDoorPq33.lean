import Derived.Test.YtpifimohecagoaaGreatDoorPq32
set_option maxRecDepth 100000
set_option maxHeartbeats 8000000
namespace Go.Proofs.YtpifimohecagoaaGreatDoor
open Go.Proofs.Tryz
variable{bs l:List UInt8}{P:Program}{N k:Nat}{d:DataW Unit}{fm:Int}{c:Cfg}{V w:World}{td:Array Value}
section
open Go.RowKit Go.Lib
def Hx(l:List UInt8):Prop:=∀c∈l,∃x,c=qeu (x%16)
theorem q0m:∀(k u:Nat),u<16^(k+1)->Hx (hxL u)
 |k,u,hu=>by
  by_cases h:u<16
  ·rw[qmK h];intro c a;rw[List.mem_singleton]at a;exact⟨u,by rw[a,Nat.mod_eq_of_lt h]⟩
  rw[qr8 h];intro c a;rcases List.mem_append.1 a with a|a
  ·match k with
   |0=>omega
   |k+1=>exact q0m k (u/16) (by rw[Nat.pow_succ]at hu;omega) c a
  rw[List.mem_singleton]at a;exact⟨u,a⟩

theorem qn4(h:∀c∈l,c.toNat<128):Vt l:=by
 refine⟨l.map λc=>[c],λf b=>?_,?_⟩
 ·obtain⟨c,a,rfl⟩:=List.mem_map.1 b;exact ch1 (h c a)
 induction l with
 |nil=>rfl
 |cons c l e=>rw[List.map_cons,List.flatten_cons,<-e λx d=>h x (List.mem_cons_of_mem _ d)];rfl
theorem qvE:∀x:Fin 16,(qeu x.val).toNat<128:=by decide
theorem qrw{f:DataW Unit->Rep->Option (DataW Unit)×Rep}{P:DataW Unit->Prop}:∀(ds:List (DataW Unit)) (a:List (DataW Unit)×Rep),(∀x∈a.1,P x)->(∀d∈ds,∀R x,(f d R).1=some x->P x)->∀x∈(ds.foldl (λa d=>(a.1++(f d a.2).1.toList,(f d a.2).2)) a).1,P x
 |[],a,h,_=>h
 |d::ds,a,h,H=>by
  rw[List.foldl_cons];refine qrw ds _ (λx b=>?_) (λd c=>H d (List.mem_cons_of_mem _ c));rcases List.mem_append.1 b with b|b
  ·exact h x b
  exact H d (List.mem_cons_self ..) a.2 x (Option.mem_toList.1 b)
theorem qpm{f:List UInt8->DataW Unit->Rep->Option (DataW Unit)×Rep}{P:Lit×DataW Unit->Prop}:∀(es:List (Lit×DataW Unit)) (a:List (Lit×DataW Unit)×Rep) (ks:List (List UInt8)),(a.1.map λe=>qaG e.1).Sublist ks->(∀x∈a.1,P x)->(∀e∈es,∀R x,(f (qaG e.1) e.2 R).1=some x->P (e.1,x))->(((es.foldl (λa e=>(a.1++((f (qaG e.1) e.2 a.2).1.map λd=>(e.1,d)).toList,(f (qaG e.1) e.2 a.2).2)) a).1).map λe=>qaG e.1).Sublist (ks++es.map λe=>qaG e.1)/\∀x∈(es.foldl (λa e=>(a.1++((f (qaG e.1) e.2 a.2).1.map λd=>(e.1,d)).toList,(f (qaG e.1) e.2 a.2).2)) a).1,P x
 |[],a,ks,hs,h,_=>⟨by rw[List.map_nil,List.append_nil];exact hs,h⟩
 |e::es,a,ks,hs,h,H=>by
  rw[List.foldl_cons];have:=qpm (f:=f) (P:=P) es (a.1++((f (qaG e.1) e.2 a.2).1.map λd=>(e.1,d)).toList,(f (qaG e.1) e.2 a.2).2) (ks++[qaG e.1]) ?_ (λx b=>?_) (λd g=>H d (List.mem_cons_of_mem _ g))
  ·rw[List.append_assoc]at this;exact this
  ·cases c:(f (qaG e.1) e.2 a.2).1 with
   |none=>simpa using hs.trans (List.sublist_append_left _ _)
   |some d=>simpa using hs.append (List.Sublist.refl [qaG e.1])
  rcases List.mem_append.1 b with b|b
  ·exact h x b
  cases c:(f (qaG e.1) e.2 a.2).1 with
  |none=>rw[c]at b;cases b
  |some d =>
   rw[c]at b;have:x=(e.1,d):=by simpa using b
   rw[this];exact H e (List.mem_cons_self ..) a.2 d c
theorem qxR(c:Rv)(i:∀b o m,Vt (qoH b o m)):∀(k:Nat) (p:List (List UInt8×Bool)) (d:DataW Unit) (R:Rep) (d':DataW Unit),Gd k d->(rwF c k p d R).1=some d'->Gd k d'
 |0,_,_,_,_,h,_=>h.elim
 |k+1,p,d,R,d',h,hr=>by
  have j:=qxR c i k;rw[rwF]at hr;split at hr
  ·injection hr with hr;subst hr;unfold Gd at h;split at h
   ·exact trivial
   ·exact trivial
   ·exact h
   ·exact h
   ·exact trivial
   ·next ds =>
    refine⟨h.1,qrw (P:=Gd k) ds _ (λx a=>(List.not_mem_nil a).elim) λd n R x a=>j _ d R x (h.2 d n) a⟩
   ·next es =>
    have:=qpm (f:=λb=>rwF c k ((b,false)::p)) (P:=λe=>(∃l,e.1=.string l/\Vt l)/\Gd k e.2) es ([],(R.1+1,R.2)) [] (List.Sublist.refl _) (λx a=>(List.not_mem_nil a).elim) λe g R x a=>⟨(h.2.2 e g).1,j _ e.2 R x (h.2.2 e g).2 a⟩
    exact⟨h.1,this.1.nodup h.2.1,this.2⟩
   exact h.elim
  split at hr
  ·injection hr with hr;subst hr;exact qn4 (by decide)
  split at hr
  ·injection hr with hr;subst hr;exact i _ _ _
  cases hr
theorem qxL(c:Rv)(e:∀f g a,Vt (qoH f g a))(R:Rep)(h:Gd (k+1) d):Gd (k+1) ((rwF c (k+1) [] d R).1.getD .nil):=by
 cases b:(rwF c (k+1) [] d R).1 with
 |none=>exact trivial
 |some x=>exact qxR c e (k+1) [] d R x h b
theorem qiG(s n:Nat):1<=(qaj s n).length:=by
 unfold qaj
 repeat' split
 all_goals simp
theorem qyu(n:Nat):1<=(qbu n).length/\1<=(qbp n).length/\1<=(qbo n).length/\1<=(qa1 n).length:=by
 unfold qbu qbp qbo qa1;refine⟨?_,?_,?_,?_⟩
 all_goals
  repeat' split
  all_goals simp
theorem qyT(f:fm=1\/fm=2\/fm=3)(b:k<=17)(h:Gd k d)(o:¬(fm=1/\qdu k d=true))(m:Nat)(l:(wrO fm k d).length+m<=65536):qsi fm (wrO fm k d++List.replicate m (UInt8.ofNat (qcq fm)))=.ok (wrO fm k d):=by
 have j:(wrO fm k d++List.replicate m (UInt8.ofNat (qcq fm))).length<=65536:=by simpa using l
 have g:qh0 (thO fm (wrO fm k d++List.replicate m (UInt8.ofNat (qcq fm))) 16 (wrO fm k d++List.replicate m (UInt8.ofNat (qcq fm))).length)=.ok (wrO fm k d).length:=by
  generalize hr:List.replicate m (UInt8.ofNat (qcq fm))=r at *;generalize hb:wrO fm k d++r=bs at *;unfold qh0 thO;rcases f with rfl|rfl|rfl
  ·have i:qdu k d=false:=by cases e:qdu k d with|false=>rfl|true=>exact absurd ⟨rfl,e⟩ o
   have:=quj bs bs.length 16 (Int.le_refl _) k 17 0 d 0 r h i b (by omega) (λc a=>by
    rw[<-hr]at a;have a:=List.mem_of_getElem? a;have:=List.eq_of_mem_replicate a;subst this;decide) hb.symm
   rw[show(16:Int).toNat+1=17 from rfl,if_pos rfl,this,Nat.zero_add];rfl
  ·have:=qrS qzx (λn=>⟨qiG _ _,qiG _ _,qiG _ _,qiG _ _⟩) bs bs.length 16 (Int.le_refl _) (by omega) k 17 0 d 0 r h b (by omega) hb.symm;rw[show(16:Int).toNat+1=17 from rfl,if_neg (by decide),if_pos rfl,this,Nat.zero_add];rfl
  have:=qrS qzM qyu bs bs.length 16 (Int.le_refl _) (by omega) k 17 0 d 0 r h b (by omega) hb.symm;rw[show(16:Int).toNat+1=17 from rfl,if_neg (by decide),if_neg (by decide),this,Nat.zero_add];rfl
 unfold qsi;rw[if_pos ⟨by rcases f with rfl|rfl|rfl<;>rfl,j⟩,g];simp only[];rw[List.drop_left,List.take_left,if_pos];rw[List.all_eq_true];intro c a;rw[List.eq_of_mem_replicate a];unfold qcq;split<;>rfl

theorem qv6(d:Int)(e:Nat)(b:List UInt8):Vt (qoH d e b):=qn4 λc a=>by
 have f:Hx (qoH d e b):=by
  intro c a;unfold qoH quJ at a;rcases List.mem_append.1 a with a|a
  ·exact⟨0,(List.mem_replicate.1 a).2⟩
  exact q0m 15 _ (Nat.lt_of_lt_of_le (ql9 _ _ (qhQ _ _)) (by decide)) c a
 obtain⟨x,rfl⟩:=f c a;exact qvE ⟨x%16,Nat.mod_lt _ (by decide)⟩
theorem quX:∀k:Nat,k=0\/k=1\/k=2\/k=3\/k=4\/k=5->qbD (1+(k:Int)) (qlp k)=true/\qby (1+k) (qbf (1+k) (qlp k))=true/\qb2 (1+k) (qbf (1+k) (qlp k))=true:=by
 rintro k (rfl|rfl|rfl|rfl|rfl|rfl)<;>exact⟨by kernel_rfl,by kernel_rfl,by kernel_rfl⟩
theorem qyD{d:Cfg}{rules:List UInt8}(r:∀k:Nat,k=0\/k=1\/k=2\/k=3\/k=4\/k=5->qa5 (1+k) rules = -1)(h:qzr c rules d):qb3 d=0:=by
 obtain⟨s,t,⟨_,h⟩|⟨rfl,_⟩⟩:=h
 ·exact h
 have u:=qbi c.labels 6 (by omega);have v:=qbi c.dflt (1+qaZ c.labels 6) (by omega);have w:=qbi c.clr (1+qaZ c.labels 6) (by omega);have o:=qbi c.inn 3 (by omega);have q:=qbi c.out 3 (by omega);have x:=qbi c.depth 16 (by omega);have y:=qbi c.bytes 4096 (by omega);unfold opG opC;generalize qaZ c.labels 6=k at *;generalize qaZ c.dflt (1+k)=p2 at *;generalize qaZ c.clr (1+k)=p3 at *;generalize qaZ c.inn 3=p4 at *;generalize qaZ c.out 3=p5 at *;generalize qaZ c.depth 16=p6 at *;generalize qaZ c.bytes 4096=p7 at *;have a:k=0\/k=1\/k=2\/k=3\/k=4\/k=5:=by omega
 obtain⟨i,j,l⟩:=quX k a;have m:=r k a;have n:(1+(k:Int)).toNat=1+k:=by omega
 have b:qbM (1+k) (p2:Int)=true:=decide_eq_true (by omega);have e:qbM (1+k) (p3:Int)=true:=decide_eq_true (by omega);have g:qeZ (1+(p4:Int)) (1+(p5:Int)) (1+(p6:Int)) (1+(p7:Int))=true:=by
  unfold qeZ;have f:∀p:Nat,p<3->qeN (1+(p:Int))=true:=λp z=>by
   rcases(by omega:p=0\/p=1\/p=2)with rfl|rfl|rfl<;>rfl
  rw[f p4 o,f p5 q,decide_eq_true (by omega),decide_eq_true (by omega),decide_eq_true (by omega),decide_eq_true (by omega)];rfl
 unfold qb3 qfO;simp only[n,i,j,l,m,b,e,g];rfl
def noB(c:Cfg):Cfg:={c with B:=[],ba:=none,bcap:=0}
theorem qvI(h:qb3 c=0):qb3 (noB c)=0:=by
 unfold qb3 at h ⊢;split at h
 ·cases h
 next h1 =>
 split at h
 ·cases h
 next h2 =>
 split at h
 ·cases h
 next h3 =>
 split at h
 ·cases h
 next h4 =>
 split at h
 ·cases h
 next h5 =>
 split at h
 ·cases h
 next h6 =>
 rw[if_neg (show¬qfO (noB c)=false from h1),if_neg (show¬qby (noB c).labels.toNat (qbf (noB c).labels.toNat (noB c).L)=false from h2),if_neg (show¬qb2 (noB c).labels.toNat (qbf (noB c).labels.toNat (noB c).L)=false from h3),if_neg (show¬qeZ (noB c).inn (noB c).out (noB c).depth (noB c).bytes=false from h4),if_neg (show¬qaF (noB c).B=false from(by decide:¬qaF []=false)),if_neg (show¬0<=qa5 (noB c).labels.toNat (noB c).pol.data.toList from h6)]
theorem qk8:∀{B:List Int},qh1 fm bs B=none->∀x∈B,x<(bs.length:Int)
 |[],_,x,a=>by cases a
 |y::B,h,x,a=>by
  rw[qh1]at h;split at h
  ·cases h
  next e =>
  rcases List.mem_cons.1 a with rfl|a
  ·omega
  exact qk8 h x a
theorem qjT:∀{B:List Int},qh1 fm bs B=some l->∃x∈B,l=bs++List.replicate (x.toNat-bs.length) (UInt8.ofNat (qcq fm))/\(bs.length:Int)<=x
 |[],h=>by cases h
 |y::B,h=>by
  rw[qh1]at h;split at h
  ·next e =>
   injection h with h;exact⟨y,List.mem_cons_self ..,h.symm,e⟩
  obtain⟨x,c,a,b⟩:=qjT h;exact⟨x,List.mem_cons_of_mem _ c,a,b⟩
def PdW(out:Int)(B:List Int)(x y:Cz):Prop :=
 (x=y/\¬czE x=14/\¬czE x=0)\/(czE x=14/\czE y=0/\0<B.length/\∀b∈B,b<((czS y).length:Int)) \/
 (czE x=0/\czE y=0/\czR x=czR y/\czP x=czP y/\((czS x).length<=65536->qsi out (czS x)=.ok (czS y))/\(65536<(czS x).length->czS x=czS y))
theorem qv8(ck:qoI c)(l:List UInt8)(n:∀f y,qgn c.inn l c.depth c.bytes=.error (f,y)->f≠0/\f≠14):PdW c.out c.B (clO c l) (clO (noB c) l):=by
 have z:=ck.dep;unfold clO;show PdW _ _ _ (match qgn c.inn l c.depth c.bytes with
  |.error e=>.error e
  |.ok d=>.ok ((rwF (rvC c) (kC c) [] d (0,0,0,0)).2,poF c.out (kC c) ((rwF (rvC c) (kC c) [] d (0,0,0,0)).1.getD .nil) []))
 cases j:qgn c.inn l c.depth c.bytes with
 |error e=>exact .inl ⟨rfl,(n e.1 e.2 j).2,(n e.1 e.2 j).1⟩
 |ok d =>
  have p:=qy8 (by omega) j;have q:=qxL (rvC c) qv6 (0,0,0,0) p;show PdW _ _ (.ok (_,poF c.out (kC c) _ _)) (.ok (_,poF c.out (kC c) _ _));have s:kC c=c.depth.toNat+1:=rfl;rw[s];generalize(rwF (rvC c) (c.depth.toNat+1) [] d (0,0,0,0)).1.getD .nil=d' at *;generalize(rwF (rvC c) (c.depth.toNat+1) [] d (0,0,0,0)).2=R at *;by_cases a:c.out=1/\qdu (c.depth.toNat+1) d'=true
  ·rw[qiL a,qiL a];exact .inl ⟨rfl,(by decide:¬(13:Int)=14),(by decide:¬(13:Int)=0)⟩
  have v:poF c.out (c.depth.toNat+1) d' []=.ok (wrO c.out (c.depth.toNat+1) d'):=qga a rfl;have o:=λm h=>qyT ck.out (k:=c.depth.toNat+1) (by omega) q a m h;rw[v];by_cases g:c.B.length=0
  ·rw[qga a (show qfN c.out _ c.B=_ from if_pos g)];refine .inr (.inr ⟨rfl,rfl,rfl,rfl,λh=>?_,λ_=>rfl⟩);have:=o 0 h;rw[List.replicate_zero,List.append_nil]at this;exact this
  cases b:qh1 c.out (wrO c.out (c.depth.toNat+1) d') c.B with
  |none =>
   rw[qn8 a (show qfN c.out _ c.B=_ from(if_neg g).trans b)];exact .inr (.inl ⟨rfl,rfl,by omega,qk8 b⟩)
  |some w =>
   rw[qga a (show qfN c.out _ c.B=_ from(if_neg g).trans b)];obtain⟨x,u,e,A⟩:=qjT b;have C:x<=65536:=by
    obtain⟨i,r,rfl⟩:=List.mem_iff_getElem.1 u;exact ck.b6 i r
   subst e;have t:(wrO c.out (c.depth.toNat+1) d').length+(x.toNat-(wrO c.out (c.depth.toNat+1) d').length)<=65536:=by omega
   refine .inr (.inr ⟨rfl,rfl,rfl,rfl,λ_=>o _ t,λh=>?_⟩);have h:65536<(wrO c.out (c.depth.toNat+1) d'++List.replicate (x.toNat-(wrO c.out (c.depth.toNat+1) d').length) (UInt8.ofNat (qcq c.out))).length:=h;rw[List.length_append,List.length_replicate]at h;omega

theorem qlk.nb(h:qlk w c N td V):qlk w (noB c) N td (V.setCell ⟨w.heap.size,10,none⟩ (.slice none 0 0)):=by
 have b:∀j,j≠w.heap.size->(V.setCell ⟨w.heap.size,10,none⟩ (.slice none 0 0)).heap[j]?=V.heap[j]?:=λj a=>heap_setCell_other V _ _ _ (by simpa using a);have d:=h.lt;refine⟨h.below.trans ⟨rfl,rfl,rfl,by simp[World.setCell],λj a=>b j (by omega)⟩,?_,(b _ (by omega)).trans h.told,h.lt⟩;rw[heap_setCell_same _ _ _ _ _ _ h.cfg];rfl
theorem qlk.setT{T:Nat}(h:qlk w c N td V)(b:N<T)(x:Array Value):qlk w c N td (V.setRow T x):=by
 have a:=h.lt;exact⟨qah h.below (by omega) _,sx (by omega) h.cfg,sx (by omega) h.told,a⟩
theorem yCf{ev:Operand->Value}{W:World}{o:Oper}(x:Nat){g:Nat}(a:W.heap[g]?=some (.cells c.arr 25))(b:o.op=.load 25 (.tmp x))(d:ev (.tmp x)=.pointer (some ⟨g,0,none⟩)):(execOp ev o).run prog W=.ok (.value (.agg c.arr)) W :=
 q0y _ _ b g d _ _ _ _ a underlying25 rfl (qaA c.size)
theorem sTd{ops:Array Oper}{Q:Exit->Act->World->Prop}{md:Region.Mode}{S:World->Prop}{fuel:Nat}{listed:Array Bool}{a:Act}(i x y g:Nat)(s:List UInt8)(R:Rep)(e p:Int)(q:(Region.ready md ops listed,ops[i]?.map λo=>(Region.wanted o (yielded ops a.tmps),o.op,o.dst),a.eval (.tmp x),a.eval (.tmp y))=([i],some (true,.store 31 (.tmp x) (.tmp y),none),.pointer (some ⟨g,0,none⟩),.agg (tdA s R e p)))(n:w.heap[g]?=some (.cells tdZ 31))(m:S (w.setRow g (tdA s R e p)))(h:wpAnyH prog md ops Q S fuel (listed.setIfInBounds i true) a (w.setRow g (tdA s R e p))):wpAnyH prog md ops Q S (fuel+1) listed a w:=by
 obtain⟨j,b⟩:=Prod.mk.inj q;obtain⟨b,c⟩:=Prod.mk.inj b;obtain⟨c,k⟩:=Prod.mk.inj c;obtain⟨o,r,d⟩:=Option.map_eq_some_iff.1 b;obtain⟨d,f⟩:=Prod.mk.inj d;obtain⟨f,l⟩:=Prod.mk.inj f;exact qrR i j r d _ _ _ f l g _ c k _ _ n (qiu _ _ _ _) rfl (qne _ _ _ _) m h
theorem q0r:∀k:Nat,k=0\/k=1\/k=2\/k=3\/k=4\/k=5->qa5 (1+k) [46,32,48,32,100,114,111,112] = -1:=by
 rintro k (rfl|rfl|rfl|rfl|rfl|rfl)<;>kernel_rfl
theorem qzR(h:qin w c):qin w (noB c):=⟨h.edges,⟨λi a=>absurd a (Nat.not_lt_zero i)⟩,h.en,λ_=>⟨rfl,rfl⟩,h.eb,by show(0+8)*8<=_;omega⟩
theorem qyZ(h:qb3 c=0)(s:List UInt8){z:Cz}(a:clO c (s.take (c.bytes.toNat+1))=z):tdO c s=tdA (czS z) (czR z) (czE z) (czP z):=by
 unfold tdO;rw[if_pos h,a]
theorem qnS(c:Cfg)(w:World)(hc:qin w c)(hk:q0j c)(a1:I64 c.key)(ht:qhR w.heap.size w)(s:List UInt8)(a3:c.pol.size<=281474976710656)(hs:s.length<=281474976710656):Calls prog 3 #[.agg c.arr,.string ⟨s.toArray⟩] w λe E=>e=.returned (.bool true)/\Below w.heap.size w E:=by
 have t:=qab (qgs w c);have cO:=qvr c _ (hc.below t.out.below) hk (ht.below t.out.below).top [46,32,48,32,100,114,111,112] (by decide) a3;have HG:=qab ht;have HS:=qab c.size;have cK:=qfB c.key 9 (by omega) (by omega) a1;have hp:=qbi c.key 9 (by omega);generalize qaZ c.key 9=p at *;have ao:=qab (qxt (1+(p:Int)) (by omega));clear hc hk ht a3 a1;go_enter func3,ntmps3
 go_wp2_with(first
  |(refine wpList_load_row rfl 25 _ rfl w.heap.size rfl _ _ _ _ t.out.box underlying25 rfl (qaA HS.out) ?_))
 go_at_call 4
 refine cO.mono ?_;clear cO;rintro e j ⟨d,rfl,hd,hB,hI⟩;have v:=qyD q0r hI;have ck:=qk4 v;have a5:=qab ck;have C:=qab (t.out.below.trans (hB.mono t.out.below.size));have ac:=qab (t.out.step hB);have R:=qab (qgs j d);obtain⟨f,ad⟩:∃z,Hid (clO d (s.take (d.bytes.toNat+1))=z):=⟨_,show _=_ from rfl⟩
 obtain⟨a,ae⟩:∃z,Hid (clO (noB d) (s.take (d.bytes.toNat+1))=z):=⟨_,show _=_ from rfl⟩
 have G:Hid (PdW d.out d.B f a):=by
  show PdW _ _ _ _;rw[<-ad.out,<-ae.out];exact qv8 ck _ (qmB _ _ _ _ (by have:=ck.dep;omega))
 have am:Hid (∀V,Below j.heap.size j V->Calls prog 5 #[.agg d.arr,.string ⟨s.toArray⟩,.int .i64 100] V λe E=>e=.returned (.tuple #[.agg (tdA (czS f) (czR f) (czE f) (czP f)),.bool true])/\Below V.heap.size V E):=λV L=>by
  have h:=qhL d (λh=>⟨qrq (qk4 h),qrL (qk4 h)⟩) V (hd.below L) ((HG.out.below (C.out.trans (L.mono C.out.size))).top) s (by unfold maxLen;omega) 100 (by omega) (by unfold maxLen;omega);rw[qyZ v s ad.out]at h;exact h
 have an:Hid (∀V,Below j.heap.size j V->Calls prog 5 #[.agg (noB d).arr,.string ⟨s.toArray⟩,.int .i64 (1+(p:Int))] V λe E=>e=.returned (.tuple #[.agg (tdA (czS a) (czR a) (czE a) (czP a)),.bool true])/\Below V.heap.size V E):=λV L=>by
  have h:=qhL (noB d) (λh=>⟨qrq (qk4 h),qrL (qk4 h)⟩) V (qzR (hd.below L)) ((HG.out.below (C.out.trans (L.mono C.out.size))).top) s (by unfold maxLen;omega) (1+p) (by omega) (by unfold maxLen;omega);rw[qyZ (qvI v) s ae.out,show(((1+p:Nat)):Int)=1+(p:Int) by omega]at h;exact h
 have a6:=qab hd.ints;clear hd hB hI v ck t ad ae
 go_wp2_with(first
  |(refine wpList_store_row rfl 25 _ _ rfl j.heap.size d.arr rfl rfl 25 _ (qac j _) (qaA d.size) rfl d.one ?_;rw[World.setRow_alloc_new])
  |(refine wpList_load_row rfl 25 _ rfl j.heap.size rfl _ _ _ _ R.out.box underlying25 rfl (qaA d.size) ?_)
  |(go_at_call 5;refine(am.out _ R.out.below).mono ?_;clear am;rintro e w3 ⟨rfl,ap⟩;have N:=qab (qzY R.out ap (tdA (czS f) (czR f) (czE f) (czP f)));clear ap R)
  |(refine wpList_store_row rfl 31 _ _ rfl w3.heap.size (tdA (czS f) (czR f) (czE f) (czP f)) rfl rfl 31 _ (qac w3 _) (qiu _ _ _ _) rfl (qne _ _ _ _) ?_;rw[World.setRow_alloc_new];generalize w3.alloc (.cells (tdA (czS f) (czR f) (czE f) (czP f)) 31)=V3 at *;generalize w3.heap.size=M at *;have bc:_=some (Value.slice d.ba d.B.length d.bcap):=qaa N.out.cfg 10;have f10:=frozen_of_row V3 j.heap.size 10 _ _ N.out.cfg))
 have aa:=qab N.out.nb;have al:=qab ((aa.out.below.block _ (ltA ac.out.box)).trans ac.out.box);clear N bc f10;generalize V3.setCell _ _=V4 at *;have D:Hid (qlk j (noB d) M (tdA (czS f) (czR f) (czE f) (czP f)) {V4 with drawn:=V4.drawn+1}):=aa.out.next (Below.refl _ _).drew
 have au:({V4 with drawn:=V4.drawn+1}:World).heap[w.heap.size]?=some (.cells c.arr 25):=al.out;refine rgn (S:=λZ=>Z.heap[j.heap.size]?=some (.cells (noB d).arr 25)/\Z.heap[w.heap.size]?=some (.cells c.arr 25)) ⟨D.out.cfg,au⟩ (by kernel_rfl) ?_;clear aa al;generalize({V4 with drawn:=V4.drawn+1}:World)=V5 at *;intro g;have x:(V5.alloc (.cells tdZ 31)).heap[j.heap.size]?=some (.cells (noB d).arr 25)/\(V5.alloc (.cells tdZ 31)).heap[w.heap.size]?=some (.cells c.arr 25):=⟨qhr g.1,qhr g.2⟩
 have aq:=D.out.below;have ab:Hid (qlk j (noB d) M (tdA (czS f) (czR f) (czE f) (czP f)) (V5.alloc (.cells tdZ 31))):=D.out.next bwA
 have ar:=ab.out.below;have a9:=qab (ltA D.out.told);refine tkq 0 25 (.agg (noB d).arr) rfl (λZ k=>yCf 5 k.1 rfl rfl) g ?_;refine tkp 1 26 (.string ⟨s.toArray⟩) g ?_;refine tkp 2 27 (.pointer (some ⟨w.heap.size,5,none⟩)) g ?_;refine tkq 3 28 (.int .i64 c.key) rfl (λZ k=>by have z:_=some (Value.int .i64 c.key):=qaa k.2 5;go_simp) g ?_;have A:=g;refine qll 4 10 (λK i=>?_) (λK i=>?_)
 rotate_left
 (go_simp;refine i.out _ (V5.alloc (.cells tdZ 31)) x (λ_=>?_);clear i A;have A:=x;have hA:=True.intro;refine rdq 4 (λK i=>?_))
 all_goals
  go_simp;refine(cK _).mono ?_;rintro e E ⟨rfl,rfl⟩;refine i.out _ _ A (λ_=>?_);clear i;refine tkq 5 30 (.int .i64 (1+(p:Int))) rfl (λZ _=>by go_simp<;>exact ao.out) A ?_
 all_goals
  first
  |(have _:=hA;refine rdq 6 (λK i=>?_))
  |(refine qll 6 10 (λK i=>?_) (λK i=>?_);rotate_left;(go_simp;refine i.out _ (V5.alloc (.cells tdZ 31)) x (λ_=>?_);clear i A;have A:=x;have hA:=True.intro;refine rdq 6 (λK i=>?_)))
 all_goals
  go_simp;refine(an.out _ (by first|exact ar|exact aq)).mono ?_;rintro e l ⟨rfl,u⟩;simp only[]
 all_goals
  first
  |(have _:=hA;have F:=qab (ab.out.next u);have Q:Hid (l.heap[V5.heap.size]?=some (.cells tdZ 31)):=(u.block _ (by simp)).trans (qac V5 _);have q:l.heap[j.heap.size]?=some (.cells (noB d).arr 25)/\l.heap[w.heap.size]?=some (.cells c.arr 25):=⟨F.out.cfg,(u.block _ (ltA x.2)).trans x.2⟩;have P:=a9;refine i.out _ _ q (λ_=>?_);clear i u;refine tkp 7 24 (.tuple #[.agg (tdA (czS a) (czR a) (czE a) (czP a)),.bool true]) q ?_;refine tkp 8 32 (.agg (tdA (czS a) (czR a) (czE a) (czP a))) q ?_;refine tkp 9 33 (.bool true) q ?_;generalize V5.heap.size=T at *;generalize l=w7 at *)
  |(have O:=qab (D.out.next u);have y:l.heap[j.heap.size]?=some (.cells (noB d).arr 25)/\l.heap[w.heap.size]?=some (.cells c.arr 25):=⟨O.out.cfg,(u.block _ (ltA g.2)).trans g.2⟩;have P:Hid (M<l.heap.size):=ltA O.out.told;refine i.out _ _ y (λ_=>?_);clear i u;refine tkp 7 24 (.tuple #[.agg (tdA (czS a) (czR a) (czE a) (czP a)),.bool true]) y ?_;refine tkp 8 32 (.agg (tdA (czS a) (czR a) (czE a) (czP a))) y ?_;refine tkp 9 33 (.bool true) y ?_;refine rdq 10 (λK i=>?_);go_simp;have F:Hid (qlk j (noB d) M (tdA (czS f) (czR f) (czE f) (czP f)) (l.alloc (.cells tdZ 31))):=O.out.next bwA;have Q:Hid ((l.alloc (.cells tdZ 31)).heap[l.heap.size]?=some (.cells tdZ 31)):=qac l _;have q:(l.alloc (.cells tdZ 31)).heap[j.heap.size]?=some (.cells (noB d).arr 25)/\(l.alloc (.cells tdZ 31)).heap[w.heap.size]?=some (.cells c.arr 25):=⟨qhr y.1,qhr y.2⟩;refine i.out _ (l.alloc (.cells tdZ 31)) q (λ_=>?_);clear i O y;generalize l.heap.size=T at *;generalize l.alloc (.cells tdZ 31)=w7 at *)
 all_goals
  have ak:=qab F.out.lt;have a7:=qab (ltA ac.out.box);have ag:(w7.setRow T (tdA (czS a) (czR a) (czE a) (czP a))).heap[j.heap.size]?=some (.cells (noB d).arr 25)/\(w7.setRow T (tdA (czS a) (czR a) (czE a) (czP a))).heap[w.heap.size]?=some (.cells c.arr 25):=⟨sx (by have:=P.out;have:=ak.out;omega) q.1,sx (by have:=P.out;have:=ak.out;have:=a7.out;omega) q.2⟩
  refine sTd 11 9 32 T (czS a) (czR a) (czE a) (czP a) (by kernel_rfl) Q.out ag ?_;refine tkp 12 10 (.bool true) ag ?_;refine wdn ?_;go_simp;have n:=qab (F.out.setT P.out (tdA (czS a) (czR a) (czE a) (czP a)));have o:Hid ((w7.setRow T (tdA (czS a) (czR a) (czE a) (czP a))).heap[T]?=some (.cells (tdA (czS a) (czR a) (czE a) (czP a)) 31)):=setRow_heap _ _ _ _ _ _ Q.out;generalize w7.setRow T (tdA (czS a) (czR a) (czE a) (czP a))=X at *;clear F Q q ag x g D ab aq ar A an cK ao au
 all_goals
  have x0:_=some (Value.string ⟨(czS f).toArray⟩):=qaa n.out.told 0;have x5:_=some (Value.int .i64 (czE f)):=qaa n.out.told 5;have x6:_=some (Value.int .i64 (czP f)):=qaa n.out.told 6;have y0:_=some (Value.string ⟨(czS a).toArray⟩):=qaa o.out 0;have y5:_=some (Value.int .i64 (czE a)):=qaa o.out 5;have y6:_=some (Value.int .i64 (czP a)):=qaa o.out 6;have b7:_=some (Value.int .i64 d.out):=qaa n.out.cfg 7;have r:=qab (C.out.trans (n.out.below.mono C.out.size));rcases G.out with⟨rfl,I,H⟩|⟨I,H,bj,av⟩|⟨W,e2,e3,Y,aj,ah⟩
  ·have f1:(czE f==14)=false:=by simpa using I
   have f2:(czE f != 0)=true:=by simpa using H
   have f3:(czE f != czE f)=false:=by simp
   have f4:(czP f != czP f)=false:=by simp
   have f5:(czS f==czS f)=true:=by simp
   have bf:(qaH (czR f))[0]?=some (.int .i64 (czR f).1):=rfl;have bg:(qaH (czR f))[1]?=some (.int .i64 (czR f).2.1):=rfl;have bh:(qaH (czR f))[2]?=some (.int .i64 (czR f).2.2.1):=rfl;have bi:(qaH (czR f))[3]?=some (.int .i64 (czR f).2.2.2):=rfl;clear I H G
   go_wp2_with(first
    |(refine qaK 28 (.tmp 69) rfl rfl M 1 rfl (qaH (czR f)) _ (qhS _ _ _ _ n.out.told) underlying28 rfl (qaM _) ?_)
    |(refine qaK 28 (.tmp 71) rfl rfl T 1 rfl (qaH (czR f)) _ (qhS _ _ _ _ o.out) underlying28 rfl (qaM _) ?_))
   go_ret;exact⟨rfl,r.out⟩
  ·rw[I]at x5;rw[H]at y5;obtain⟨m,hm⟩:∃m,d.B.length=m+1:=⟨d.B.length-1,by omega⟩
   obtain⟨b,off,aw,_,a0⟩:=(a6.out.below n.out.below).at_ m (by omega);obtain⟨U,ax⟩:∃U,U=d.B[m]:=⟨_,rfl⟩
   have a2:=a0 m (by omega);have be:=av _ (List.getElem_mem (show m<d.B.length by omega));rw[<-ax]at a2 be;have bo:=a5.out.b8;have bb:=qab (qxt (m:Int) (by omega));have bp:(0:Int)<((m+1:Nat):Int):=by omega
   have bq:(((m+1:Nat):Int))-1=(m:Int):=by omega
   have bm:¬(((m+1:Nat):Int))<=(m:Int):=by omega
   have bn:¬(m:Int)<0:=by omega
   rw[aw,hm];clear I H av G a0 ax aw
   go_wp2_with fail
   refine rgn (S:=λZ=>Z.cell? ⟨T,5,none⟩=some (.int .i64 0)/\Z.cell? ⟨T,0,none⟩=some (.string ⟨(czS a).toArray⟩)/\Z.cell? ⟨b,off+m,none⟩=some (.int .i64 U)) ⟨y5,y0,a2⟩ (by kernel_rfl) ?_;intro g;refine tkp 0 43 (.pointer (some ⟨T,5,none⟩)) g ?_;refine tkq 1 44 (.int .i64 0) rfl (λZ k=>by have z:=k.1;go_simp) g ?_;refine tkp 2 45 (.bool true) g ?_;refine tkp 3 46 (.bool true) g ?_;refine tkp 4 47 (.slice (some ⟨b,off,none⟩) (m+1) d.bcap) g ?_;refine tkq 5 48 (.int .i64 ((m+1:Nat):Int)) rfl (λZ k=>by go_simp) g ?_;refine tkq 6 49 (.bool true) rfl (λZ k=>by go_simp) g ?_;refine tkp 7 50 (.bool true) g ?_;refine tkp 8 51 (.bool true) g ?_;refine tkp 9 52 (.pointer (some ⟨T,0,none⟩)) g ?_;refine tkq 10 53 (.string ⟨(czS a).toArray⟩) rfl (λZ k=>by have z:=k.2.1;go_simp) g ?_;refine tkq 11 54 (.int .i64 ((czS a).length:Int)) rfl (λZ k=>by go_simp) g ?_;refine tkp 12 55 (.slice (some ⟨b,off,none⟩) (m+1) d.bcap) g ?_;refine tkp 13 56 (.slice (some ⟨b,off,none⟩) (m+1) d.bcap) g ?_;refine tkq 14 57 (.int .i64 ((m+1:Nat):Int)) rfl (λZ k=>by go_simp) g ?_;refine tkq 15 58 (.int .i64 (m:Int)) rfl (λZ k=>by go_simp;exact bb.out) g ?_;refine tkq 16 59 (.pointer (some ⟨b,off+m,none⟩)) rfl (λZ k=>by go_simp;intro e;omega) g ?_;refine tkq 17 60 (.int .i64 U) rfl (λZ k=>by have z:=k.2.2;go_simp) g ?_;refine tkq 18 61 (.bool true) rfl (λZ k=>by go_simp) g ?_;refine tkp 19 62 (.bool true) g ?_;refine tkp 20 4 (.bool true) g ?_;refine wdn ?_;go_simp;go_wp2;go_ret;exact⟨rfl,r.out.drew⟩
  rw[W]at x5;rw[e2]at y5;rw[Y]at x6;rw[W,e3,Y]at n;have f4:(czP a != czP a)=false:=by simp
  have bf:(qaH (czR a))[0]?=some (.int .i64 (czR a).1):=rfl;have bg:(qaH (czR a))[1]?=some (.int .i64 (czR a).2.1):=rfl;have bh:(qaH (czR a))[2]?=some (.int .i64 (czR a).2.2.1):=rfl;have bi:(qaH (czR a))[3]?=some (.int .i64 (czR a).2.2.2):=rfl;have br:=qsq (czS f);by_cases ai:(czS f).length<=65536
  ·have hu:=aj ai;obtain⟨bd,V2,bl,J,ay,az⟩:=qmw X (czS f) (by unfold maxLen;omega);have cU:=qp2 V2 d.out _ (czS f) bd ay az ((HG.out.below (r.out.trans (J.mono r.out.size))).rd) (λen pl h=>(qtP d.out (czS f) 16 _ (by decide) en pl h).1);rw[hu]at cU;have f5:(czS a==czS a)=true:=by simp
   have f6:¬(65536:Int)<((czS f).length:Int):=by omega
   clear W e2 e3 Y aj ah G ai hu ay az
   go_wp2_with(first
    |(refine qaK 28 (.tmp 69) rfl rfl M 1 rfl (qaH (czR a)) _ (qhS _ _ _ _ n.out.told) underlying28 rfl (qaM _) ?_)
    |(refine qaK 28 (.tmp 71) rfl rfl T 1 rfl (qaH (czR a)) _ (qhS _ _ _ _ o.out) underlying28 rfl (qaM _) ?_)
    |(go_at_call 7;refine cU.mono ?_;clear cU;rintro e w8 ⟨af,bs,rfl,hO⟩;have bk:=qiA hO;obtain⟨a8,n8,c8,rfl⟩:=hO.2.2;have y0:_=some (Value.string ⟨(czS a).toArray⟩):=qaa ((af.block _ (Nat.lt_of_lt_of_le (ltA o.out) J.size)).trans ((J.block _ (ltA o.out)).trans o.out)) 0;have a4:=qab (r.out.trans ((J.trans (af.mono J.size)).mono r.out.size));clear hO af))
   go_ret;exact⟨rfl,a4.out⟩
  have f5:(czS f==czS a)=true:=by rw[ah (by omega)];simp
  have f6:(65536:Int)<((czS f).length:Int):=by omega
  clear W e2 e3 Y aj ah G ai
  go_wp2_with(first
   |(refine qaK 28 (.tmp 69) rfl rfl M 1 rfl (qaH (czR a)) _ (qhS _ _ _ _ n.out.told) underlying28 rfl (qaM _) ?_)
   |(refine qaK 28 (.tmp 71) rfl rfl T 1 rfl (qaH (czR a)) _ (qhS _ _ _ _ o.out) underlying28 rfl (qaM _) ?_))
  go_ret;exact⟨rfl,r.out⟩

end
section
open Go.ChangeShapes Go.WideShapes Go.ChangeAt Go.RowKit Go.Lib Go.Deep
theorem qtl{H:Type}{t1 t2:TypeId}{d0 d1:DataW H}(h:(DataW.weightsEach P ([t1,t2]++[]) ([d0,d1]++[])).all (·<=reachBytes)=true):(d0.weights P t1).all (·<=reachBytes)=true/\(d1.weights P t2).all (·<=reachBytes)=true:=by
 simp only[List.append_nil,DataW.weightsEach,List.all_append,Bool.and_eq_true]at h;exact⟨h.1,h.2⟩
theorem qx2{H:Type}{t:TypeId}{s:ByteArray}(h:((DataW.lit (.string s.data.toList):DataW H).weights P t).all (·<=reachBytes)=true):s.data.toList.length<=281474976710656:=by
 have a:=of_decide_eq_true (List.all_eq_true.1 h s.data.toList.length (by unfold DataW.weights;exact List.mem_singleton.2 rfl));have b:reachBytes=140737488351232:=rfl;omega
theorem qg2(H:Type)(enc:TypeId×Value->H)(W:World)(args:Array Value)(d l:List (DataW H))(A:List MemPlace)(z:Nat)(f:∀(j:Nat) t v,f3.params[j]?=some t->args[j]?=some v->Value.okWide prog W .any z t v)(r:DataW.Whole enc prog f3.params.toList Rows.paddedSpec.vars false W args.toList d l A)(y:(DataW.weightsEach prog (f3.params.toList++[]) (d++l)).all (·<=reachBytes)=true)(G:laidMetH prog Rows.paddedRow.laid W)(J:W.ShapedOpen prog):Calls prog 3 args W λe i=>∃v,e=.returned v/\Rows.paddedSpec.post enc prog f3 false true false false W args v i:=by
 have u:=r;obtain⟨p,q,E,K,rfl,X,Y⟩:=r;have n:DataW.TrodAll enc prog W 0 (λ_=>true) true f3.params.toList args.toList d p:=E;rw[Tryz.params3]at n y f;obtain⟨T,U,k,V,b,Z,rfl,rfl,rfl,C,D⟩:=trodAll_two n;obtain⟨rfl,rfl⟩:=trodVars_none K;obtain⟨B,rfl,_⟩:=okWide_struct underlying25 (f 0 25 T rfl rfl);obtain⟨Q,R⟩:=qtl y;obtain⟨s,rfl,rfl,rfl,O⟩:=Go.ChangeMaps.open_string underlying9 (f 1 9 U rfl rfl) D;obtain⟨S,m⟩:=C;obtain⟨c,M,F,a,I⟩:=qva (x:=(k,b)) m Q;have L:B=c.arr:=Array.ext' M;subst L;have w:=qnS c W F ⟨a _ (by simp),a _ (by simp),a _ (by simp),a _ (by simp),a _ (by simp),a _ (by simp),a _ (by simp)⟩ (a _ (by simp)) (qwU G J) s.data.toList I (qx2 R);have P:∀s:ByteArray,(⟨s.data.toList.toArray⟩:ByteArray)=s:=λs=>by
  apply ByteArray.ext;simp
 rw[P]at w;refine w.mono ?_;rintro e i ⟨rfl,o⟩;have N:∀x∈b++[]++[],x.block<W.heap.size:=λx g=>u.lt x g;refine⟨_,rfl,[k,.lit (.string s.data.toList)],[],b++[]++[],[],b++[],[],u,trodAll_mk1 (shut_bool underlying4 true),?_,rfl,o.frame _,λh=>by cases h⟩;exact trodAll_mk2 (Below.trod Tryz.laidOut (by kernel_rfl) (of_decide_eq_true (by kernel_rfl)) ⟨S,m⟩ o (λx g=>N x (by simp[g]))) (Go.ChangeMaps.shut_string underlying9 O)
def qdQ:Array Value:=#[.agg q08.arr,.string ByteArray.empty]
theorem qnY(a:Os):laidMet prog Rows.paddedRow.laid ((qxo (World.holding prog a ⟨#[],#[],[]⟩)).forCall (λ_ _=>0) ⟨#[],qdQ,[]⟩).memory :=
 laidMet_of_run' 8 (by kernel_rfl) (by kernel_rfl)
theorem qkV(b:Os){H:Type}(enc:TypeId×Value->H):∃a c,DataW.whole enc prog ((qxo (World.holding prog b ⟨#[],#[],[]⟩)).forCall (λ_ _=>0) ⟨#[],qdQ,[]⟩).memory f3.params.toList Rows.paddedSpec.vars false qdQ.toList 8=some (a,[],c) :=
 ⟨[.agg [.lit (.int .i64 0),.nil,.lit (.int .i64 0),.lit (.string []),.lit (.int .i64 0),.lit (.int .i64 0),.lit (.int .i64 0),.lit (.int .i64 0),.lit (.int .i64 0),.lit (.int .i64 0),.nil],.lit (.string [])],[],by kernel_rfl⟩

end
section
open Go.ChangeShapes Go.WideShapes Go.ChangeAt Go.RowKit Go.Lib
theorem qjr(a:Os)(o:a.Started)(H:Type)(enc:TypeId×Value->H)(F:Stop.Interp):ReturnsInHanded {} Tryz.checked a 3 .any ((OpenSpec.ofChange Rows.paddedSpec).preRow enc prog f3 Rows.paddedRow.domain false Rows.paddedRow.laid) (((OpenSpec.ofChange Rows.paddedSpec).at F).post enc prog f3 false true false false):=by
 obtain⟨b,p,n⟩:=qkV a enc;refine returnsInHanded_of_row (C:=Tryz.checked) (s:=OpenSpec.ofChange Rows.paddedSpec) Tryz.own o (by kernel_rfl) func3
  (witness_row_at (enc:=enc) (C:=Tryz.checked) false (qxo (World.holding prog a ⟨#[],#[],[]⟩)) qdQ rfl (by kernel_rfl) (by kernel_rfl) (by kernel_rfl)
   (OpenSpec.preRow_of_cond 8 n (by kernel_rfl) (λk j=>by cases j) (by kernel_rfl) (qnY a))) ?_
 intro W d c b f e l i _ _ m g h _;exact qg2 H enc W c b f e d l i m g h
theorem qr6:(Rows.paddedRow.inPlace==Tryz.pinned.checked.prog.inPlace 3)=true:=by kernel_rfl
theorem qp1:(Rows.paddedRow.unfollowed==Tryz.pinned.checked.prog.unfollowed 3)=true:=by kernel_rfl
theorem qqO:(Rows.paddedRow.recurses==Tryz.pinned.checked.prog.recurses 3)=true:=by kernel_rfl
theorem qpH:(Rows.paddedRow.named==Tryz.pinned.checked.prog.varsNamed 3)=true:=by kernel_rfl
theorem qjZ:joinedFacts Tryz.pinned.checked.prog 3 f3 (OpenSpec.ofChange Rows.paddedSpec).bare Rows.paddedRow=true:=by
 unfold joinedFacts;rw[qr6,qp1,qqO,qpH];kernel_rfl
theorem qlA:Rows.PaddedSaid :=
 OpenClaim.holds_of_cond 3 f3 rfl rfl rfl rfl rfl rfl rfl ⟨rfl,rfl,rfl,rfl,rfl⟩ rfl rfl rfl rfl rfl (by kernel_rfl) func3 qjZ
  (of_decide_eq_true (by kernel_rfl)) (by unfold Func.isWrapper;first|(rw[if_pos (by decide +kernel)];kernel_rfl)|(rw[if_neg (by decide +kernel)];exact⟨rfl,rfl⟩))
  (λb c H a _ F=>by rw[OpenClaim.pre_eq_preRow];exact qjr b c H a F)
theorem qkK(f:FuncId)(a:Func)(c:Tryz.pinned.checked.prog.funcNamed Rows.paddedRow.func=some f)(d:Tryz.pinned.checked.prog.funcs[f]?=some a):true=Tryz.pinned.checked.prog.looks []/\∀(j:Nat) t,a.params[j]?=some t->Tryz.pinned.checked.prog.wantsStandIn t=false:=by
 obtain rfl:f=3:=Option.some.inj ((show prog.funcNamed Rows.paddedRow.func=some 3 by kernel_rfl).symm.trans c) |>.symm;obtain rfl:a=f3:=(Option.some.inj (func3.symm.trans d)).symm;refine⟨by kernel_rfl,λj t b=>?_⟩;rw[Tryz.params3]at b;have e:t∈#[(25:TypeId),9]:=Array.mem_of_getElem? b;rcases(by simpa using e:t=25\/t=9)with rfl|rfl
 ·exact(show prog.wantsStandIn 25=false by kernel_rfl)
 exact(show prog.wantsStandIn 9=false by kernel_rfl)
theorem padded_card:Rows.PaddedCardSaid :=
 Claim7.holds_tied_plain_at .later [] _ _ _ _ qlA (λ_ h=>by cases h) (by kernel_rfl) (λ_ h=>by cases h) padded_row_tie rfl ⟨rfl,rfl⟩ (by kernel_rfl) rfl qkK (by kernel_rfl)

#print axioms padded_card
end
end Go.Proofs.YtpifimohecagoaaGreatDoor
