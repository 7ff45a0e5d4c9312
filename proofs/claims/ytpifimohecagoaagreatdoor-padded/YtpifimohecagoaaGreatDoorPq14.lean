import Derived.Test.YtpifimohecagoaaGreatDoorPq11
import Derived.Test.YtpifimohecagoaaGreatDoorPq12
set_option maxRecDepth 100000
set_option maxHeartbeats 8000000
namespace Go.Proofs.YtpifimohecagoaaGreatDoor
open Go.Proofs.Tryz
variable{V V' W:World}{b base g k n p q size so w wh x:Nat}{fv v:Value}{s:Src}{acc bs:List UInt8}{xs:List Value}{ds:List (DataW Unit)}{d:DataW Unit}
section
open Go.RowKit Go.Lib
def qdk(bs:List UInt8)(lim:Int):Nat->Nat->List UInt8->Nat->Except (Int×Int) (List UInt8×Nat)
 |0,p,acc,wh=>if wh=acc.length then .ok (acc,p)else .error (9,(p:Int)-1)
 |k+1,p,acc,wh=>match bs[p]? with
  |none=>.error (9,p)
  |some c=>if(p:Int)=lim then .error (8,p)else if qbC (acc.drop wh) c=0 then .error (9,p)else
   qdk bs lim k (p+1) (acc++[c]) (if qbC (acc.drop wh) c=2 then acc.length+1 else wh)
structure qnN(W:World)(b:Nat)(fv:Value)(s:Src)(p:Nat)(acc:List UInt8)(wh:Nat)(V:World):Prop where
 src:qad V b {s with pos:=p}
 but:But b W V
 box:V.heap[W.heap.size]?=some (.cells #[.pointer (some ⟨b,0,none⟩),fv] 133)
 gat:qcz V (W.heap.size+1) (W.heap.size+2) acc wh
theorem qnN.take(h:qnN W b fv s p acc wh V)(d:b<W.heap.size)(c:qad V' b {s with pos:=q})(a:But b V V'):qnN W b fv s q acc wh V' :=
 ⟨c,h.but.trans a,(a.block _ (ltA h.box) (by omega)).trans h.box,h.gat.but a (by omega) (by omega)⟩
theorem qnN.below(h:qnN W b fv s p acc wh V)(a:Below V.heap.size V V'):qnN W b fv s p acc wh V' :=
 ⟨h.src.below a,h.but.trans (But.of_below a),(a.block _ (ltA h.box)).trans h.box,h.gat.below a⟩
theorem qnN.keep{acc':List UInt8}{wh':Nat}(h:qnN W b fv s p acc wh V)(d:qad W b s)(a:qdc (W.heap.size+1) (W.heap.size+2) V V')(e:qcz V' (W.heap.size+1) (W.heap.size+2) acc' wh'):qnN W b fv s p acc' wh' V' :=
 ⟨d.same rfl rfl h.src (λk c=>a.block k (by omega) (by omega)),⟨a.os.trans h.but.os,a.tape.trans h.but.tape,a.output.trans h.but.output,Nat.le_trans h.but.size a.size,λk c f=>(a.block k (by omega) (by omega)).trans (h.but.block k c f)⟩,(a.block _ (by omega) (by omega)).trans h.box,e⟩
theorem qvh(a:Value)(h:qad W b s):qnN W b a s s.pos [] 0 ((W.alloc (.cells #[.pointer (some ⟨b,0,none⟩),a] 133)).alloc (.cells #[.slice none 0 0,.int .i64 0] 303)):=by
 have c:Below W.heap.size W ((W.alloc (.cells #[.pointer (some ⟨b,0,none⟩),a] 133)).alloc (.cells #[.slice none 0 0,.int .i64 0] 303)):=(bwA).alloc (by simp) _;have d:=qac (W.alloc (.cells #[.pointer (some ⟨b,0,none⟩),a] 133)) (.cells #[.slice none 0 0,.int .i64 0] 303);rw[World.size_alloc]at d;refine⟨h.below c,But.of_below c,?_,⟨⟨_,d,?_⟩,by omega,Nat.le_refl _⟩⟩
 ·have e:=qac W (.cells #[.pointer (some ⟨b,0,none⟩),a] 133);exact(Below.heap_alloc _ _ _ (by simp)).trans e
 refine⟨World.ownsRow_nil _ _ _ _,?_,none,0,0,rfl⟩;simp
theorem qeD(W:World)(b:Nat)(s:Src)(f n:Nat)(hn:n<18446744073709551616)(h:qad W b s)(ht:U8 W)(h7:7<b)(ak:s.bs.length<=200000000):Calls prog 221 #[.agg #[.pointer (some ⟨b,0,none⟩),.func (.func f) #[] #[]],.int .u64 n] W (qg5 W b s (λl:List UInt8=>.string ⟨l.toArray⟩) (qdk s.bs s.lim n s.pos [] 0)):=by
 have U:Hid (qnN W b (.func (.func f) #[] #[]) s s.pos [] 0 ((W.alloc (.cells #[.pointer (some ⟨b,0,none⟩),.func (.func f) #[] #[]] 133)).alloc (.cells #[.slice none 0 0,.int .i64 0] 303))):=qvh _ h;have T:=qab h;have J:=qab ht;have Z:=ltA h.row;have ag:=h.le;obtain⟨R,t⟩:∃R,Hid (qdk s.bs s.lim n s.pos [] 0=R):=⟨_,show _=_ from rfl⟩
 rw[t.out];clear h ht;go_enter func221,ntmps221;go_wp2;generalize(W.alloc (.cells #[.pointer (some ⟨b,0,none⟩),.func (.func f) #[] #[]] 133)).alloc (.cells #[.slice none 0 0,.int .i64 0] 303)=W0 at *
 go_loopg[7] n (λg ah wr=>∃(k p:Nat) (d:List UInt8) (r:Nat),ah=.int .u64 k/\Hid (k+g=n)/\Hid (p<=s.bs.length)/\Hid (d.length<=p)/\Hid (qus (d.drop r)=true)/\Hid (qnN W b (.func (.func f) #[] #[]) s p d r wr)/\Hid (qdk s.bs s.lim g p d r=R))
 case atStart=>exact⟨0,s.pos,[],0,rfl,by show _=_;omega,ag,by show 0<=_;omega,rfl,U,t⟩
 case round =>
  clear U t;obtain⟨k,p,d,r,rfl,G,hp,Y,i,a,t⟩:=hrel;have H:=qaa a.out.box 0;have HU:Hid (∀V,But b W V->U8 V):=by
   show∀V,_;intro V F;have P:∀(q off:Nat) (v:Value),q<=7->W.cell? ⟨q,off,none⟩=some v->V.cell? ⟨q,off,none⟩=some v:=λq off v hq hv=>(World.cell?_of_block (w:=W) (F.block q (by omega) (by omega))).trans hv;exact⟨λc ad=>P _ _ _ (by decide) (J.out.1 c ad),λaa z=>⟨P _ _ _ (by decide) (J.out.2 aa z).1,P _ _ _ (by decide) (J.out.2 aa z).2⟩⟩
  cases gk with
  |zero =>
   have hk:k=n:=by have:=G.out;omega
   subst hk;have o:=t.out;rw[qdk]at o;have A:=qhk wr (W.heap.size+1) (W.heap.size+2) d r a.out.gat;clear t G;by_cases B:r=d.length
   ·rw[if_pos B]at o;subst o;rw[decide_eq_true B]at A;clear B
    go_wp2_with(first
     |(go_at_call 197;refine A.mono ?_;clear A H;rintro e w3 ⟨rfl,j⟩;have u:=qab (a.out.below j);clear a j;obtain⟨v3,r3,o3⟩:=u.out.gat.row;obtain⟨_,_,a3,n3,c3,rfl⟩:=(show Own w3 _ _ _ from o3);have ai:=qiA o3;have k3:=qaa r3 0))
    go_ret;exact⟨u.out.but,rfl,u.out.src⟩
   rw[if_neg B]at o;subst o;rw[decide_eq_false B]at A;clear B
   go_wp2_with(first
    |(go_at_call 197;refine A.mono ?_;clear A H;rintro e w3 ⟨rfl,j⟩;have u:=qab (a.out.below j);clear a j;have H:=qaa u.out.box 0)
    |(go_at_call 187;refine(qau _ b {s with pos:=p} _ u.out.src).mono ?_;rintro e w7 ⟨hF,rfl⟩;obtain rfl:=hF))
   exact⟨rfl,u.out.but,rfl,_,u.out.src⟩
  |succ g =>
   have aj:k<n:=by have:=G.out;omega
   have e1:decide ((k:Int)<(n:Int))=true:=by simp;omega
   have e2:decide (k<n)=true:=by simp;omega
   rcases qaR a.out.src with m|m|⟨c,m⟩
   ·have I:Hid (R=.error (9,(p:Int))):=by
     show _=_;rw[<-t.out,qdk,List.getElem?_eq_none (by have:p=s.bs.length:=m;omega)]
    have x:=qb1 _ b {s with pos:=p} a.out.src m;clear t m
    go_wp2_with(first
     |(go_at_call 186;refine x.mono ?_;clear x;rintro e Q ⟨hF,j⟩;obtain rfl:=hF))
    rw[I.out];exact⟨rfl,a.out.but.trans (But.of_below j),rfl,_,a.out.src.below j⟩
   ·have I:Hid (R=.error (8,(p:Int))):=by
     show _=_;have h2:(p:Int)=s.lim:=m.2;have h3:p<s.bs.length:=m.1;rw[<-t.out,qdk,List.getElem?_eq_getElem h3];simp only[];rw[if_pos h2]
    have x:=qbd _ b {s with pos:=p} a.out.src m;clear t m
    go_wp2_with(first
     |(go_at_call 186;refine x.mono ?_;rintro e Q ⟨hF,j⟩;obtain rfl:=hF))
    rw[I.out];exact⟨rfl,a.out.but.trans (But.of_below j),rfl,_,a.out.src.below j⟩
   have ae:s.bs[p]?=some c:=m.1;have af:¬(p:Int)=s.lim:=m.2;have ac:Hid (p<s.bs.length):=m.lt;have o:=t.out;rw[qdk,ae]at o;simp only[]at o;rw[if_neg af]at o;have x:Calls prog 186 #[.pointer (some ⟨b,0,none⟩)] wr λe X=>e=.returned (.int .u8 c.toNat)/\qad X b {s with pos:=p+1}/\But b wr X:=qaw _ b {s with pos:=p} c a.out.src m;obtain⟨S,K⟩:∃S,Hid ((if qbC (d.drop r) c=2 then d.length+1 else r)=S):=⟨_,show _=_ from rfl⟩
   have D:=λV (F:qnN W b (.func (.func f) #[] #[]) s (p+1) d r V)=>qpW V (W.heap.size+1) (W.heap.size+2) d r c F.gat i.out (HU.out V F.but) (by omega) (by have:=Y.out;have:=hp.out;omega);rw[K.out]at D;by_cases E:qbC (d.drop r) c=0
   ·rw[if_pos E]at o;subst o;have O:(qbC (d.drop r) c != 0)=false:=by rw[E];rfl
    rw[O]at D
    go_wp2_with(first
     |(go_at_call 186;refine x.mono ?_;rintro e Q ⟨rfl,N,j⟩;have C:=qab (a.out.take Z N j))
     |(go_at_call 200;refine(D _ C.out).mono ?_;rintro e w4 ⟨rfl,M,L⟩;have y:=qab (C.out.keep T.out M L);have H:=qaa y.out.box 0)
     |(go_at_call 187;refine(qau _ b {s with pos:=p+1} _ y.out.src).mono ?_;rintro e w7 ⟨hF,rfl⟩;obtain rfl:=hF))
    exact⟨rfl,y.out.but,by show qan _ _ _;unfold qan qd5;simp,_,y.out.src⟩
   rw[if_neg E,K.out]at o;have HN:=qab o;have O:(qbC (d.drop r) c != 0)=true:=by simpa using E
   rw[O]at D;have ab:=qab (qk5 a.out.gat.le i.out E K.out)
   go_wp2_with(first
    |(go_at_call 186;refine x.mono ?_;rintro e Q ⟨rfl,N,j⟩;have C:=qab (a.out.take Z N j))
    |(go_at_call 200;refine(D _ C.out).mono ?_;rintro e w4 ⟨rfl,M,L⟩;have y:=qab (C.out.keep T.out M L)))
   go_roundg g
   case measure=>omega
   case rel=>exact⟨k+1,p+1,d++[c],S,by go_num,by show _=_;have:=G.out;omega,ac,by show _<=_;rw[List.length_append];have:=Y.out;simp;omega,ab,y,HN⟩

end
section
open Go.RowKit
def qbn(rd:Nat->Except (Int×Int) (DataW Unit×Nat)):Nat->Nat->List (DataW Unit)->Except (Int×Int) (List (DataW Unit)×Nat)
 |0,p,acc=>.ok (acc,p)
 |k+1,p,acc=>match rd p with
  |.error e=>.error e
  |.ok (d,q)=>qbn rd k q (acc++[d])
def qes(hd:Nat->Nat×Nat×Nat)(bs:List UInt8)(lim:Int)(ks:List (List UInt8))(p:Nat):Except (Int×Int) (List UInt8×Nat) :=
 match bs[p]? with
 |none=>.error (9,p)
 |some c=>if(p:Int)=lim then .error (8,p)else if(hd c.toNat).1=8 then
   match qc2 bs lim (hd c.toNat).2.1 (p+1) (hd c.toNat).2.2 with
   |.error e=>.error e
   |.ok (x,q)=>match qdk bs lim x q [] 0 with
    |.error e=>.error e
    |.ok (l,r)=>if l∈ks then .error (12,(r:Int)-1)else .ok (l,r)
  else .error (9,p)
def qa7(kf:List (List UInt8)->Nat->Except (Int×Int) (List UInt8×Nat))(rd:Nat->Except (Int×Int) (DataW Unit×Nat)):Nat->Nat->List (List UInt8)->List (Lit×DataW Unit)->Except (Int×Int) (List (Lit×DataW Unit)×Nat)
 |0,p,_,acc=>.ok (acc,p)
 |k+1,p,ks,acc=>match kf ks p with
  |.error e=>.error e
  |.ok (l,q)=>match rd q with
   |.error e=>.error e
   |.ok (d,r)=>qa7 kf rd k r (l::ks) (acc++[(.string l,d)])
def qgr(bs:List UInt8)(lim:Int)(li:Nat->Nat->Except (Int×Int) (List (DataW Unit)×Nat))(ma:Nat->Nat->Except (Int×Int) (List (Lit×DataW Unit)×Nat))(so w x q:Nat):Except (Int×Int) (DataW Unit×Nat) :=
 match so with
 |2=>.ok (.lit (.bool false),q)
 |3=>.ok (.lit (.bool true),q)
 |4=>match nbF 4 w x q with
  |.error e=>.error e
  |.ok z=>.ok (.lit (.int .i64 z),q)
 |5=>match nbF 5 w x q with
  |.error e=>.error e
  |.ok z=>.ok (.lit (.int .i64 z),q)
 |6=>match nbF 6 w x q with
  |.error e=>.error e
  |.ok z=>.ok (.lit (.int .i64 z),q)
 |7=>match qgp bs lim x q []with
  |.error e=>.error e
  |.ok (l,r)=>.ok (.ptr (.lit (.string l)),r)
 |8=>match qdk bs lim x q [] 0 with
  |.error e=>.error e
  |.ok (l,r)=>.ok (.lit (.string l),r)
 |9=>match li x q with
  |.error e=>.error e
  |.ok (ds,r)=>.ok (.agg ds,r)
 |10=>match ma x q with
  |.error e=>.error e
  |.ok (es,r)=>.ok (.map es,r)
 |_=>.ok (.nil,q)
def thB(hd:Nat->Nat×Nat×Nat)(bs:List UInt8)(lim depth:Int):Nat->Nat->Nat->Except (Int×Int) (DataW Unit×Nat)
 |0,_,_=>.error (0,0)
 |g+1,wi,p=>match bs[p]? with
  |none=>.error (9,p)
  |some c=>if(p:Int)=lim then .error (8,p)else if(hd c.toNat).1=0 then .error (9,p)else
   if((hd c.toNat).1=9\/(hd c.toNat).1=10)/\(wi:Int)=depth then .error (11,p)else
   match qc2 bs lim (hd c.toNat).2.1 (p+1) (hd c.toNat).2.2 with
   |.error e=>.error e
   |.ok (x,q)=>qgr bs lim (λx q=>qbn (thB hd bs lim depth g (wi+1)) x q []) (λx q=>qa7 (qes hd bs lim) (thB hd bs lim depth g (wi+1)) x q [] []) (hd c.toNat).1 (hd c.toNat).2.1 x q
theorem qeF{hd:Nat->Nat×Nat×Nat}{lim depth:Int}{wi:Nat}{c:UInt8}{ar:Nat}(a:bs[p]?=some c)(b:¬(p:Int)=lim)(d:hd c.toNat=(so,w,ar)):thB hd bs lim depth (g+1) wi p=(if so=0 then .error (9,(p:Int))else if(so=9\/so=10)/\(wi:Int)=depth then .error (11,(p:Int))else
   match qc2 bs lim w (p+1) ar with
   |.error e=>.error e
   |.ok (x,q)=>qgr bs lim (λx q=>qbn (thB hd bs lim depth g (wi+1)) x q []) (λx q=>qa7 (qes hd bs lim) (thB hd bs lim depth g (wi+1)) x q [] []) so w x q):=by
 conv=>lhs;unfold thB
 rw[a];simp only[];rw[if_neg b,d]
def qkJ(k:Nat)(W:World)(b:Nat)(s:Src)(r:Except (Int×Int) (DataW Unit×Nat))(e:Ending)(W':World):Prop :=
 But b W W'/\match r with
 |.ok (d,p)=>(∃t y,e=.returned (.iface t y)/\qai k W' (λj=>W.heap.size<=j/\j<W'.heap.size) (.iface t y) d)/\qad W' b {s with pos:=p}
 |.error (en,pl)=>qan en pl e/\∃p,qad W' b {s with pos:=p}
def qrY(k f b:Nat)(s:Src)(W0:World)(rd:Nat->Except (Int×Int) (DataW Unit×Nat)):Prop :=
 ∀(V:World) (p:Nat),qad V b {s with pos:=p}->But b W0 V->Calls prog 217 #[.agg #[.pointer (some ⟨b,0,none⟩),.func (.func f) #[] #[]]] V (qkJ k V b {s with pos:=p} (rd p))

structure qrM(k:Nat)(W:World)(b:Nat)(fv:Value)(s:Src)(p:Nat)(v:Value)(ds:List (DataW Unit))(V:World):Prop where
 src:qad V b {s with pos:=p}
 but:But b W V
 box:V.heap[W.heap.size]?=some (.cells #[.pointer (some ⟨b,0,none⟩),fv] 133)
 own:∃xs,V.ownsRow (W.heap.size+1) 82 1 v ds.length xs/\∀(i:Nat) (x:Value) (d:DataW Unit),xs[i]?=some x->ds[i]?=some d->qai k V (λj=>W.heap.size+1<=j/\j<V.heap.size/\some j≠v.ownBlock) x d
 size:W.heap.size+1<=V.heap.size
theorem qdb{W':World}{t:TypeId}(h:W.ownsRow base t size v n xs)(k:But b W W')(m:b<base):W'.ownsRow base t size v n xs:=by
 obtain⟨i,a⟩:=h;refine⟨i,?_⟩;rcases a with a|⟨g,d,f,e,l,c,j⟩
 ·exact .inl a
 exact .inr ⟨g,d,f,e,l,(k.block g (ltA c) (by omega)).trans c,j⟩
theorem qrM.but'(h:qrM k W b fv s p v ds V)(o:b<W.heap.size)(l:qad V' b {s with pos:=q})(a:But b V V'):qrM k W b fv s q v ds V':=by
 obtain⟨n,e,f⟩:=h.own;refine⟨l,h.but.trans a,(a.block _ (ltA h.box) (by omega)).trans h.box,⟨n,qdb e a (by omega),λi x d m g=>?_⟩,Nat.le_trans h.size a.size⟩;refine(f i x d m g).same (λj c=>⟨c.1,Nat.lt_of_lt_of_le c.2.1 a.size,c.2.2⟩) (λj c=>a.block j c.2.1 (by omega))
theorem qvA(k:Nat)(a:Value)(h:qad W b s):qrM k W b a s s.pos (.slice none 0 0) [] (W.alloc (.cells #[.pointer (some ⟨b,0,none⟩),a] 133)):=by
 have c:Below W.heap.size W (W.alloc (.cells #[.pointer (some ⟨b,0,none⟩),a] 133)):=bwA;exact⟨h.below c,But.of_below c,qac W _,⟨[],World.ownsRow_nil _ _ _ _,λi x d e=>by simp at e⟩,by simp⟩
theorem qrM.push{w5:World}{v' x:Value}{V0:World}(h:qrM k W b fv s p v ds V)(z:qad W b s)(u:V.ownsRow (W.heap.size+1) 82 1 v ds.length xs)(D:∀(i:Nat) (x:Value) (d:DataW Unit),xs[i]?=some x->ds[i]?=some d->qai k V (λj=>W.heap.size+1<=j/\j<V.heap.size/\some j≠v.ownBlock) x d)(A:qai k V (λj=>V0.heap.size<=j/\j<V.heap.size) x d)(C:∀g,v.ownBlock=some g->g<V0.heap.size)(G:W.heap.size+1<=V0.heap.size)(B:w5.ownsRow (W.heap.size+1) 82 1 v' (ds.length+1) (xs++[x]))(f:(V.alloc (.cells #[x] 82)).grownBy w5 v.ownBlock)(n:v'.ownBlock=v.ownBlock\/v'.ownBlock=some (V.alloc (.cells #[x] 82)).heap.size):qrM k W b fv s p v' (ds++[d]) w5:=by
 have J:=h.size;have H:V.heap.size+1<=w5.heap.size:=by have:=f.size;simpa using this
 have F:∀g,v.ownBlock=some g->W.heap.size+1<=g:=λg f=>qbE u f;have q:∀j,j<V.heap.size->some j≠v.ownBlock->w5.heap[j]?=V.heap[j]?:=λj a m=>(f.block j (by simp;omega) m).trans (Below.heap_alloc _ _ _ a);have r:∀j,j<W.heap.size+1->w5.heap[j]?=V.heap[j]?:=λj a=>q j (by omega) (λe=>by have:=F j e.symm;omega);refine⟨z.same rfl rfl h.src (λj a=>r j (by omega)),⟨f.os.trans h.but.os,f.tape.trans h.but.tape,f.output.trans h.but.output,by have:=h.but.size;omega,λj a m=>(r j (by omega)).trans (h.but.block j a m)⟩,(r _ (by omega)).trans h.box,⟨xs++[x],by rw[List.length_append];exact B,λi y c o l=>?_⟩,by omega⟩;have t:∀j,j<V.heap.size->some j≠v.ownBlock->some j≠v'.ownBlock:=λj a m=>by
  rcases n with n|n
  ·rw[n];exact m
  rw[n];intro e;injection e with e;simp at e;omega
 have E:xs.length=ds.length:=by have:=u.1;omega
 by_cases I:i<ds.length
 ·rw[List.getElem?_append_left (by omega)]at o l;exact(D i y c o l).same (λj a=>⟨a.1,by have:=a.2.1;omega,t j a.2.1 a.2.2⟩) (λj a=>q j a.2.1 a.2.2)
 have e:i=ds.length:=by
  have:=ltL l;rw[List.length_append]at this;simp at this;omega
 subst e;rw[List.getElem?_append_right (by omega)]at l;rw[List.getElem?_append_right (by omega),E]at o;simp at o l;subst o;subst l;have w:∀j,V0.heap.size<=j->some j≠v.ownBlock:=λj a e=>by have:=C j e.symm;omega
 exact A.same (λj a=>⟨by omega,by omega,t j a.2 (w j a.1)⟩) (λj a=>q j a.2 (w j a.1))
theorem qid{t:TypeId}(h:V.ownsRow base t size v n xs):∀g,v.ownBlock=some g->g<V.heap.size:=λg a=>by
 rcases h.2 with⟨b,_⟩|⟨f,d,e,rfl,i,c,_⟩
 ·subst b;cases a
 cases a;exact ltA c
theorem qrM.row(h:qrM k W b fv s p v ds V):qai (k+1) V (λj=>W.heap.size<=j/\j<V.heap.size) (.iface 194 v) (.agg ds):=by
 obtain⟨u,a,m⟩:=h.own;unfold qai;refine⟨v,u,rfl,⟨a.1,?_⟩,λi x d t q=>(m i x d t q).same (λj r=>⟨by omega,r.2.1⟩) (λ_ _=>rfl)⟩;rcases a.2 with n|⟨g,f,l,e,w,c,o⟩
 ·exact .inl n
 exact .inr ⟨g,f,l,e,⟨by omega,(ltA c)⟩,c,o⟩
theorem Tryz.infoThing:(prog.info? 82).map (λi=>(i.zero,i.size,i.bytes))=some (some .nilIface,1,16):=by kernel_rfl
theorem qjU(k:Nat)(W:World)(b:Nat)(s:Src)(f n:Nat)(x:Nat->Except (Int×Int) (DataW Unit×Nat))(hn:n<18446744073709551616)(h:qad W b s)(aq:s.bs.length<=200000000)(N:qrY k f b s W x)(L:∀p d q,x p=.ok (d,q)->p<q):Calls prog 222 #[.agg #[.pointer (some ⟨b,0,none⟩),.func (.func f) #[] #[]],.int .u64 n] W (qii W b s (λV v o=>(∃a n c,v=.slice a n c)/\qai (k+1) V (λj=>W.heap.size<=j/\j<V.heap.size) (.iface 194 v) (.agg o)) (qbn x n s.pos [])):=by
 obtain⟨i0,hi,aj,ak,al⟩:=info_parts Tryz.infoThing;have I:Hid (qrM k W b (.func (.func f) #[] #[]) s s.pos (.slice none 0 0) [] (W.alloc (.cells #[.pointer (some ⟨b,0,none⟩),.func (.func f) #[] #[]] 133))):=qvA _ _ h;have u:=qab h;have Z:=qab N;have T:=qab L;have ac:=ltA h.row;have ae:=h.le;obtain⟨R,r⟩:∃R,Hid (qbn x n s.pos []=R):=⟨_,show _=_ from rfl⟩
 rw[r.out];clear h N L;go_enter func222,ntmps222;go_wp2;generalize W.alloc (.cells #[.pointer (some ⟨b,0,none⟩),.func (.func f) #[] #[]] 133)=W0 at *
 go_loopg[5,7] n (λg y am wr=>∃(m p:Nat) (a:Option Addr) (l c:Nat) (o:List (DataW Unit)),y=.slice a l c/\am=.int .u64 m/\Hid (m+g=n)/\Hid (p<=s.bs.length)/\Hid (o.length<=p)/\Hid (qrM k W b (.func (.func f) #[] #[]) s p (.slice a l c) o wr)/\Hid (qbn x g p o=R))
 case atStart=>exact⟨0,s.pos,none,0,0,[],rfl,rfl,by show _=_;omega,ae,by show 0<=_;omega,I,r⟩
 case round =>
  clear I r;obtain⟨m,p,a,l,c0,o,rfl,rfl,C,hp,K,i,r⟩:=hrel;have kb:=qaa i.out.box 0;have au:=qaa i.out.box 1
  cases gk with
  |zero =>
   have hk:m=n:=by have:=C.out;omega
   subst hk;have E:Hid (R=.ok (o,p)):=r.out.symm;clear r C;go_wp2;go_ret;rw[E.out];exact⟨i.out.but,⟨_,rfl,⟨_,_,_,rfl⟩,i.out.row⟩,i.out.src⟩
  |succ g =>
   have ap:m<n:=by have:=C.out;omega
   have e1:decide ((m:Int)<(n:Int))=true:=by simp;omega
   have e2:decide (m<n)=true:=by simp;omega
   have B:=Z.out wr p i.out.src i.out.but;have w:=r.out;rw[qbn]at w
   cases D:x p with
   |error er =>
    rw[D]at w B;simp only[]at w;obtain⟨en,pl⟩:=er;have E:=qab w.symm;clear r w D
    go_wp2_with(first
     |(go_at_call 217;refine B.mono ?_;clear B;rintro e A ⟨G,hF⟩;obtain⟨hF,pz,ag⟩:=(show qan en pl e/\∃p,qad A b {s with pos:=p}from hF);obtain rfl:=hF))
    rw[E.out];exact⟨rfl,i.out.but.trans G,rfl,pz,ag⟩
   |ok dq =>
    obtain⟨d,q⟩:=dq;rw[D]at w B;simp only[]at w;have ar:=T.out p d q D;have U:=qab w;have ao:o.length<=200000000:=by have:=K.out;have:=hp.out;omega
    have S:Hid (o.length+1<=q):=by show _<=_;have:=K.out;omega
    have z:=qab i.out.size;have X:Hid (∀g,(Value.slice a l c0).ownBlock=some g->g<wr.heap.size):=by obtain⟨xs,h1,_⟩:=i.out.own;exact qid h1
    go_wp2_with(first
     |(go_at_call 217;refine B.mono ?_;rintro e A ⟨G,hF⟩;obtain⟨⟨t,y,rfl,hd⟩,J⟩:=(show(∃t y,e=.returned (.iface t y)/\qai k A (λj=>wr.heap.size<=j/\j<A.heap.size) (.iface t y) d)/\qad A b {s with pos:=q}from hF);have F:=qab (i.out.but' ac J G);have Q:=qab hd;have Y:Hid (q<=s.bs.length):=J.le;obtain⟨xs,af,ai⟩:=F.out.own;have H:=qab af;have ab:=qab ai;have P:=qab F.out.size)
     |(at_builtin;refine qbg _ rfl _ _ 194 rfl (W.heap.size+1) 82 i0 .nilIface 1 16 underlying194 hi aj ak al rfl (by decide) _ _ _ rfl (H.out.alloc _) ⟨A.heap.size,0,none⟩ 1 1 [.iface t y] rfl rfl (qag _ _ _) (λav O=>by simp at O;subst O;rfl) (by decide) (by unfold maxLen;omega) (by omega) (by simp;have:=P.out;omega) ?_;intro v' w5 M ad ah;have aa:=qab (F.out.push u.out H.out ab.out Q.out X.out z.out M ad ah);obtain⟨g5,an,rfl⟩:=ownsRow_succ M))
    go_roundg g
    case measure=>omega
    case rel=>exact⟨m+1,q,_,_,_,o++[d],rfl,by go_num,by show _=_;have:=C.out;omega,Y,by show _<=_;rw[List.length_append];exact S.out,aa,U⟩

theorem qum{P:Program}{c:Code}{Q:Exit->Act->World->Prop}{a:Act}{w:World}(T:Nat->World->Prop)(b:Nat->Act)(d:(∀x V,T x V->Q .normal (b x) V)->c.wp P Q a w)(e:∀x V,T x V->Q .normal (b x) V):c.wp P Q a w:=d e
theorem qoL(W:World)(b k:Nat)(s:Src)(u:FrameMode)(h:qad W b s)(d:s.within=k+1)(j:s.within<=1000000):CallsD prog 209 #[.pointer (some ⟨b,0,none⟩)] u W λe f a=>f=u/\(e=.returned (.tuple #[])/\qad a b {s with within:=k}/\But b W a):=by
 have l:W.cell? ⟨b,4,none⟩=some (.int .i64 ((k:Int)+1)):=by
  have:=qaa h.row 4;rw[this];show some (Value.int .i64 (s.within:Int))=_;rw[d];rfl
 have g:=frozen_of_row W b 4 _ _ h.row;have c:Hid (qad (W.setCell ⟨b,4,none⟩ (.int .i64 k)) b {s with within:=k}/\But b W (W.setCell ⟨b,4,none⟩ (.int .i64 k))):=qfw k 0 h;have i:k<=1000000:=by omega
 refine callsD_of_wp (R:=λe a=>e=.returned (.tuple #[])/\qad a b {s with within:=k}/\But b W a) func209 rfl ?_;simp only[ntmps209,List.size_toArray,List.length_cons,List.length_nil,Nat.reduceAdd,Nat.reduceSub,Array.replicate_succ,Array.replicate_zero,List.push_toArray,List.append_toArray,List.nil_append,List.cons_append];go_wp2;go_end0;exact⟨rfl,c.out.1,c.out.2⟩
theorem qdY(W:World)(b:Nat)(s:Src)(f:Nat)(r:Int)(h:qad W b s)(q:∀V,qad V b s->Calls prog 186 #[.pointer (some ⟨b,0,none⟩)] V λe m=>qan r s.pos e/\Below V.heap.size V m):Calls prog 217 #[.agg #[.pointer (some ⟨b,0,none⟩),.func (.func f) #[] #[]]] W λe m=>But b W m/\qan r s.pos e/\∃p,qad m b {s with pos:=p}:=by
 have l:=qab h;have x:Below W.heap.size W (W.alloc (.cells #[.pointer (some ⟨b,0,none⟩),.func (.func f) #[] #[]] 133)).drew:=(bwA).drew;have g:=qab x;have t:Hid ((W.alloc (.cells #[.pointer (some ⟨b,0,none⟩),.func (.func f) #[] #[]] 133)).drew.heap[W.heap.size]?=some (.cells #[.pointer (some ⟨b,0,none⟩),.func (.func f) #[] #[]] 133)):=qac W _
 go_enter_defers func217,ntmps217
 go_wp2_with fail
 refine wp_region_held (S:=λV=>V.heap[W.heap.size]?=some (.cells #[.pointer (some ⟨b,0,none⟩),.func (.func f) #[] #[]] 133)) (by kernel_rfl) ?_;have d:=t.out;refine wpAnyH_take (i:=0) (v:=.pointer (some ⟨W.heap.size,1,none⟩)) rfl (by kernel_rfl) (by kernel_rfl) (by kernel_rfl) (λc a w h=>qb8 results217 5 (by decide) _ c a w h) (.inl ⟨rfl,λV k=>rfl⟩) d ?_;refine wpAnyH_take (i:=1) (v:=.func (.func f) #[] #[]) rfl (by kernel_rfl) (by kernel_rfl) (by kernel_rfl) (λc a w h=>qb8 results217 6 (by decide) _ c a w h) (.inl ⟨rfl,λV k=>?y1⟩) d ?_
 case y1=>(have u:=qaa k 1;go_simp)
 refine wpAnyH_take (i:=2) (v:=.pointer (some ⟨W.heap.size,0,none⟩)) rfl (by kernel_rfl) (by kernel_rfl) (by kernel_rfl) (λc a w h=>qb8 results217 7 (by decide) _ c a w h) (.inl ⟨rfl,λV k=>rfl⟩) d ?_;refine wpAnyH_take (i:=3) (v:=.pointer (some ⟨b,0,none⟩)) rfl (by kernel_rfl) (by kernel_rfl) (by kernel_rfl) (λc a w h=>qb8 results217 8 (by decide) _ c a w h) (.inl ⟨rfl,λV k=>?y3⟩) d ?_
 case y3=>(have u:=qaa k 0;go_simp)
 refine qll 4 6 (λK o=>?_) (λK o=>?_)
 ·go_simp;refine(q _ (l.out.below g.out)).mono ?_;rintro e z ⟨hF,j⟩;obtain rfl:=hF;exact⟨(But.of_below g.out).trans (But.of_below j),rfl,_,(l.out.below g.out).below j⟩
 go_simp;have y:((W.alloc (.cells #[.pointer (some ⟨b,0,none⟩),.func (.func f) #[] #[]] 133)).drew.alloc (.cells #[.int .i64 0,.int .i64 0,.int .u64 0] 171)).heap[W.heap.size]?=_:=(Below.heap_alloc _ _ _ (ltA d)).trans d;have n:Below W.heap.size W ((W.alloc (.cells #[.pointer (some ⟨b,0,none⟩),.func (.func f) #[] #[]] 133)).drew.alloc (.cells #[.int .i64 0,.int .i64 0,.int .u64 0] 171)):=g.out.alloc g.out.size _;refine o.out _ _ y (λ_=>?_);refine rdq 4 (λK o=>?_);go_simp;refine(q _ (l.out.below n)).mono ?_;rintro e z ⟨hF,j⟩;obtain rfl:=hF;exact⟨(But.of_below n).trans (But.of_below j),rfl,_,(l.out.below n).below j⟩

section
variable{bs:List UInt8} {lim:Int} {li:Nat->Nat->Except (Int×Int) (List (DataW Unit)×Nat)} {ma:Nat->Nat->Except (Int×Int) (List (Lit×DataW Unit)×Nat)} {w x q:Nat}
theorem qxA:qgr bs lim li ma 1 w x q=.ok (.nil,q):=rfl
theorem qyR:qgr bs lim li ma 2 w x q=.ok (.lit (.bool false),q):=rfl
theorem qyS:qgr bs lim li ma 3 w x q=.ok (.lit (.bool true),q):=rfl
theorem qyo:qgr bs lim li ma 7 w x q=(match qgp bs lim x q []with|.error e=>.error e|.ok (l,r)=>.ok (.ptr (.lit (.string l)),r)):=rfl
theorem qyY:qgr bs lim li ma 8 w x q=(match qdk bs lim x q [] 0 with|.error e=>.error e|.ok (l,r)=>.ok (.lit (.string l),r)):=rfl
theorem qxE:qgr bs lim li ma 9 w x q=(match li x q with|.error e=>.error e|.ok (ds,r)=>.ok (.agg ds,r)):=rfl
theorem qv5:qgr bs lim li ma 10 w x q=(match ma x q with|.error e=>.error e|.ok (ds,r)=>.ok (.map ds,r)):=rfl
theorem qxO(h:4<=so/\so<=6):qgr bs lim li ma so w x q=(match nbF so w x q with|.error e=>.error e|.ok z=>.ok (.lit (.int .i64 z),q)):=by
 rcases(show so=4\/so=5\/so=6 by omega)with rfl|rfl|rfl<;>rfl
end
theorem qgd{so w:Int}{p z:Int}(h:nbF so w x p=.ok z):-9223372036854775808<=z/\z<=9223372036854775807:=by
 have a:∀y:Int,-9223372036854775808<=wrap64 y/\wrap64 y<=9223372036854775807:=λy=>by unfold wrap64;omega
 unfold nbF at h;split at h
 ·injection h with h;subst h;unfold qkN;split
  ·exact a _
  split
  ·exact a _
  split<;>exact a _
 split at h
 ·cases h
 split at h<;>(injection h with h;omega)
theorem qn0(bs:List UInt8)(lim:Int):∀(k p a x q:Nat),qc2 bs lim k p a=.ok (x,q)->x<(a+1)*256^k
 |0,p,a,x,q,h=>by
  unfold qc2 at h;cases h;simp
 |k+1,p,a,x,q,h=>by
  rw[qc2]at h;split at h
  ·cases h
  next c _ =>
  split at h
  ·cases h
  have b:=qn0 bs lim k (p+1) _ x q h;have d:c.toNat<256:=c.toNat_lt;have e:(a*256+c.toNat+1)*256^k<=((a+1)*256)*256^k:=Nat.mul_le_mul_right _ (by omega);have f:((a+1)*256)*256^k=(a+1)*256^(k+1):=by rw[Nat.mul_assoc,Nat.pow_succ,Nat.mul_comm 256]
  omega
theorem qra{lim:Int}(h:w<=8/\(w=0\/g=0)/\g<18446744073709551616)(d:qc2 bs lim w p g=.ok (x,q)):x<18446744073709551616:=by
 have a:=qn0 bs lim w p g x q d;obtain⟨b,c,f⟩:=h;rcases c with rfl|rfl
 ·simp at a;omega
 have:(256:Nat)^w<=256^8:=Nat.pow_le_pow_right (by decide) b;have e:(256:Nat)^8=18446744073709551616:=by decide
 omega
theorem qvH(lo:Nat)(f:W.heap.size<=lo)(e:b<W.heap.size)(h:qai k V (λj=>lo<=j/\j<V.heap.size) v d)(c:But b V V'):qai k V' (λj=>W.heap.size<=j/\j<V'.heap.size) v d :=
 h.same (λj a=>⟨by omega,Nat.lt_of_lt_of_le a.2 c.size⟩) (λj a=>c.block j a.2 (by omega))
theorem qq0{lo:Nat}{l:List UInt8}(m:W.heap.size<=lo)(h:Own V lo v l):qai (k+1) V (λj=>W.heap.size<=j/\j<V.heap.size) (.iface 192 v) (.ptr (.lit (.string l))):=by
 unfold qai;refine⟨v,rfl,by simp,?_⟩;rcases h.1.2 with a|⟨g,c,d,e,i,b,f⟩
 ·exact .inl ⟨a.1,a.2⟩
 exact .inr ⟨g,c,d,e,⟨by omega,(ltA b)⟩,b,f⟩
theorem qdq{t:Array Value}{R:Ending->World->Prop}(u:FrameMode)(i:u≠.run)(h:qad V b s)(g:s.within=k+1)(j:s.within<=1000000)(H:∀a,qad a b {s with within:=k}->But b V a->Leaves prog f217 t R [] (settle u) a):Leaves prog f217 t R [{target:=.fn (.func 209) #[],args:=#[.pointer (some ⟨b,0,none⟩)]}] u V:=by
 refine leaves_cons (f:=209) (args:=#[.pointer (some ⟨b,0,none⟩)]) i (by simp[go_sem]) ?_;refine(qoL V b k s u h g j).mono ?_;rintro e m l ⟨rfl,rfl,d,c⟩;exact H l d c
theorem qh7(g:Nat)(W:World)(b:Nat)(s:Src)(c:UInt8)(I:Nat->Nat×Nat×Nat)(f d w y:Nat)(h:qad W b s)(h1:qgu s c)(bg:I c.toNat=(d,w,y))(bq:d<=10)(hw:w<=8)(hg:w=0\/y=0)(bf:y<18446744073709551616)(bh:s.bs.length<=200000000)(br:s.within<=100000)(hf:f=53\/f=54)(hU:∀V,But b W V->U8 V)(ab:7<b)(cH:∀V,But b W V->Calls prog f #[.int .u8 c.toNat] V λe M=>e=.returned (.agg #[.int .i64 d,.int .i64 w,.int .u64 y])/\Below V.heap.size V M)(cL:¬(s.within:Int)=s.depth->∀(V:World) (p n:Nat),qad V b {s with pos:=p,within:=s.within+1}->But b W V->n<18446744073709551616->Calls prog 222 #[.agg #[.pointer (some ⟨b,0,none⟩),.func (.func f) #[] #[]],.int .u64 n] V (qii V b {s with pos:=p,within:=s.within+1} (λM v ds=>(∃a n c,v=.slice a n c)/\qai (g+1) M (λau=>V.heap.size<=au/\au<M.heap.size) (.iface 194 v) (.agg ds)) (qbn (thB I s.bs s.lim s.depth g (s.within+1)) n p [])))(cM:¬(s.within:Int)=s.depth->∀(V:World) (p n:Nat),qad V b {s with pos:=p,within:=s.within+1}->But b W V->n<18446744073709551616->Calls prog 223 #[.agg #[.pointer (some ⟨b,0,none⟩),.func (.func f) #[] #[]],.int .u64 n] V (qii V b {s with pos:=p,within:=s.within+1} (λM v es=>(∃a n c,v=.slice a n c)/\qai (g+1) M (λau=>V.heap.size<=au/\au<M.heap.size) (.iface 196 v) (.map es)) (qa7 (qes I s.bs s.lim) (thB I s.bs s.lim s.depth g (s.within+1)) n p [] []))):Calls prog 217 #[.agg #[.pointer (some ⟨b,0,none⟩),.func (.func f) #[] #[]]] W (qkJ (g+1) W b s (thB I s.bs s.lim s.depth (g+1) s.within s.pos)):=by
 obtain⟨ba,HR⟩:∃ba,Hid (thB I s.bs s.lim s.depth (g+1) s.within s.pos=ba):=⟨_,show _=_ from rfl⟩
 rw[HR.out];have o:=HR.out;rw[qeF h1.1 h1.2 bg]at o;clear HR bg;have a2:∀V,qad V b s->Calls prog 186 #[.pointer (some ⟨b,0,none⟩)] V λe l=>e=.returned (.int .u8 c.toNat)/\qad l b s.next/\But b V l:=λV A=>qaw V b s c A h1
 have cA:∀V,qad V b s.next->Calls prog 218 #[.agg #[.pointer (some ⟨b,0,none⟩),.func (.func f) #[] #[]],.agg #[.int .i64 d,.int .i64 w,.int .u64 y]] V (qg5 V b s.next (λx:Nat=>.int .u64 x) (qc2 s.bs s.lim w (s.pos+1) y)):=λV A=>qbY V b s.next f d w y hw hg A
 have j:∀V,qad V b {s.next with within:=s.within+1}->Calls prog 218 #[.agg #[.pointer (some ⟨b,0,none⟩),.func (.func f) #[] #[]],.agg #[.int .i64 d,.int .i64 w,.int .u64 y]] V (qg5 V b {s.next with within:=s.within+1} (λx:Nat=>.int .u64 x) (qc2 s.bs s.lim w (s.pos+1) y)):=λV A=>qbY V b {s.next with within:=s.within+1} f d w y hw hg A;have aa:Hid (∀x q,qc2 s.bs s.lim w (s.pos+1) y=.ok (x,q)->x<18446744073709551616):=λx q hx=>qra ⟨hw,hg,bf⟩ hx;have cN:∀(V:World) (p x:Nat),qad V b {s with pos:=p}->x<18446744073709551616->Calls prog 219 #[.agg #[.pointer (some ⟨b,0,none⟩),.func (.func f) #[] #[]],.agg #[.int .i64 d,.int .i64 w,.int .u64 y],.int .u64 x] V (quI V b {s with pos:=p} (nbF d w x p)):=λV p x A hx=>qjH V b {s with pos:=p} f d w y x hx A;have cB:∀(V:World) (p x:Nat),qad V b {s with pos:=p}->x<18446744073709551616->Calls prog 220 #[.agg #[.pointer (some ⟨b,0,none⟩),.func (.func f) #[] #[]],.int .u64 x] V (qii V b {s with pos:=p} (λM v a0=>Own M (V.heap.size+1) v a0) (qgp s.bs s.lim x p [])):=λV p x A hx=>qiX V b {s with pos:=p} f x hx A bh;have cX:∀(V:World) (p x:Nat),qad V b {s with pos:=p}->But b W V->x<18446744073709551616->Calls prog 221 #[.agg #[.pointer (some ⟨b,0,none⟩),.func (.func f) #[] #[]],.int .u64 x] V (qg5 V b {s with pos:=p} (λa0:List UInt8=>.string ⟨a0.toArray⟩) (qdk s.bs s.lim x p [] 0)):=λV p x A hB hx=>qeD V b {s with pos:=p} f x hx A (hU V hB) ab bh;have am:∀V,qad V b s.next->Calls prog 187 #[.pointer (some ⟨b,0,none⟩),.int .i64 9] V λe l=>qan 9 s.pos e/\l=V:=λV A=>by
  have:=qau V b s.next 9 A
  rwa[show((s.next.pos:Int)-1)=s.pos by show(((s.pos+1:Nat)):Int)-1=s.pos;omega]at this
 have ak:∀V,qad V b s.next->(s.within:Int)=s.depth->Calls prog 181 #[.pointer (some ⟨b,0,none⟩)] V λe l=>qan 11 s.pos e/\But b V l/\∃p,qad l b {s with pos:=p}:=λV A I=>by
  have:=qko V b s.next A I
  rwa[show((s.next.pos:Int)-1)=s.pos by show(((s.pos+1:Nat)):Int)-1=s.pos;omega]at this
 have al:∀V,qad V b s.next->¬(s.within:Int)=s.depth->Calls prog 181 #[.pointer (some ⟨b,0,none⟩)] V λe l=>e=.returned (.tuple #[])/\qad l b {s.next with within:=s.within+1}/\But b V l:=λV A I=>qjj V b s.next A I (by show s.within<=_;omega)
 have HH:=qab h;have bn:=ltA h.row;have a3:Below W.heap.size W (W.alloc (.cells #[.pointer (some ⟨b,0,none⟩),.func (.func f) #[] #[]] 133)).drew:=(bwA).drew;have av:=qab a3;have a8:=qab (h.below a3);have a9:Hid ((W.alloc (.cells #[.pointer (some ⟨b,0,none⟩),.func (.func f) #[] #[]] 133)).drew.heap[W.heap.size]?=some (.cells #[.pointer (some ⟨b,0,none⟩),.func (.func f) #[] #[]] 133)):=qac W _;have aw:Hid (∀(a1:Array Value) (V:World),(callFunc f a1).run prog V=.ok (.enter f a1) V):=by
  show∀_ _,_;rcases hf with rfl|rfl<;>exact λa1 V=>by kernel_rfl
 clear h h1 a3 hw hg bf hf hU
 go_enter_defers func217,ntmps217
 go_wp2_with fail
 refine qum (λax V=>qoW W b W.heap.size ax (.func (.func f) #[] #[]) d w y s.next V) (λax=>{tmps:=#[.agg #[.pointer (some ⟨b,0,none⟩),.func (.func f) #[] #[]],.pointer (some ⟨W.heap.size,0,none⟩),.nilIface,.pointer (some ⟨ax,0,none⟩),undef,.pointer (some ⟨W.heap.size,1,none⟩),.func (.func f) #[] #[],.pointer (some ⟨W.heap.size,0,none⟩),.pointer (some ⟨b,0,none⟩),.int .u8 c.toNat,.agg #[.int .i64 d,.int .i64 w,.int .u64 y],undef,undef,undef,undef,undef,undef,undef,undef,undef,undef,undef,undef,undef,undef,undef,undef,undef,undef,undef,undef,undef,undef,undef,undef,undef,undef,undef,undef,undef,undef,undef,undef,undef,undef,undef,undef,undef,undef,undef,undef,undef,undef,undef,undef,undef,undef,undef,undef,undef,undef,undef,undef,undef,undef,undef,undef,undef,undef,undef,undef,undef,undef],defers:=[]}) (λa7=>?reg) ?tail
 case reg =>
  refine wp_region_held (S:=λV=>V.heap[W.heap.size]?=some (.cells #[.pointer (some ⟨b,0,none⟩),.func (.func f) #[] #[]] 133)) (by kernel_rfl) ?_;have hS:=a9.out;refine wpAnyH_take (i:=0) (v:=.pointer (some ⟨W.heap.size,1,none⟩)) rfl (by kernel_rfl) (by kernel_rfl) (by kernel_rfl) (λc a w h=>qb8 results217 5 (by decide) _ c a w h) (.inl ⟨rfl,λV A=>rfl⟩) hS ?_;refine wpAnyH_take (i:=1) (v:=.func (.func f) #[] #[]) rfl (by kernel_rfl) (by kernel_rfl) (by kernel_rfl) (λc a w h=>qb8 results217 6 (by decide) _ c a w h) (.inl ⟨rfl,λV A=>?y1⟩) hS ?_
  case y1=>(have h2:=qaa A 1;go_simp)
  refine wpAnyH_take (i:=2) (v:=.pointer (some ⟨W.heap.size,0,none⟩)) rfl (by kernel_rfl) (by kernel_rfl) (by kernel_rfl) (λc a w h=>qb8 results217 7 (by decide) _ c a w h) (.inl ⟨rfl,λV A=>rfl⟩) hS ?_;refine wpAnyH_take (i:=3) (v:=.pointer (some ⟨b,0,none⟩)) rfl (by kernel_rfl) (by kernel_rfl) (by kernel_rfl) (λc a w h=>qb8 results217 8 (by decide) _ c a w h) (.inl ⟨rfl,λV A=>?y3⟩) hS ?_
  case y3=>(have h2:=qaa A 0;go_simp)
  refine qll 4 6 (λK u=>?_) (λK u=>?_)
  ·go_simp;refine(a2 _ a8.out).mono ?_;rintro e R ⟨rfl,az,ag⟩;simp only[];have ad:=(ag.block _ (ltA hS) (by omega)).trans hS;have af:=(But.of_below av.out).trans ag;have a4:=ltA ad;refine u.out _ _ ad (λ_=>?_);clear u;refine qll 5 6 (λK u=>?_) (λK u=>?_)
   ·go_simp;rw[aw.out];refine Calls.mono (cH _ af) ?_;rintro e U ⟨rfl,H⟩;simp only[];have r:=(H.block _ a4).trans ad;have ay:=ltA r;refine u.out _ _ r (λ_=>?_);clear u;refine rdq 6 (λK u=>?_);go_simp;have ae:(U.alloc (.cells #[.int .i64 0,.int .i64 0,.int .u64 0] 171)).heap[W.heap.size]?=_:=(Below.heap_alloc _ _ _ ay).trans r;refine u.out _ _ ae (λ_=>?_);clear u;refine rdq 7 (λK u=>?_);rw[if_pos (by rfl)];refine wp_store_row 171 _ _ rfl U.heap.size #[.int .i64 d,.int .i64 w,.int .u64 y] rfl rfl 171 _ (qac U _) qhq rfl (by simp[Value.oneCell']) ?_;have t:Hid (qoW W b W.heap.size U.heap.size (.func (.func f) #[] #[]) d w y s.next ((U.alloc (.cells #[.int .i64 0,.int .i64 0,.int .u64 0] 171)).setRow U.heap.size #[.int .i64 d,.int .i64 w,.int .u64 y])) :=
     qfn U.heap.size HH.out ((az.below H).below bwA) ((af.trans (But.of_below H)).trans (But.of_below bwA)) ae ay (qac U _)
    refine u.out _ _ t.out.box (λ_=>?_);clear u;refine wdn ?_;exact a7 _ _ t.out
   go_simp;have r:(R.alloc (.cells #[.int .i64 0,.int .i64 0,.int .u64 0] 171)).heap[W.heap.size]?=_:=(Below.heap_alloc _ _ _ a4).trans ad;have ah:Below R.heap.size R (R.alloc (.cells #[.int .i64 0,.int .i64 0,.int .u64 0] 171)):=bwA;have ay:=ltA r;refine u.out _ _ r (λ_=>?_);clear u;refine rdq 5 (λK u=>?_);go_simp;rw[aw.out];refine Calls.mono (cH _ (af.trans (But.of_below ah))) ?_;rintro e U ⟨rfl,H⟩;simp only[];have ae:=(H.block _ ay).trans r;have aq:=(H.block R.heap.size (by simp)).trans (qac R (.cells #[.int .i64 0,.int .i64 0,.int .u64 0] 171));refine u.out _ _ ae (λ_=>?_);clear u;refine rdq 7 (λK u=>?_);rw[if_pos (by rfl)];refine wp_store_row 171 _ _ rfl R.heap.size #[.int .i64 d,.int .i64 w,.int .u64 y] rfl rfl 171 _ aq qhq rfl (by simp[Value.oneCell']) ?_;have t:Hid (qoW W b W.heap.size R.heap.size (.func (.func f) #[] #[]) d w y s.next (U.setRow R.heap.size #[.int .i64 d,.int .i64 w,.int .u64 y])) :=
    qfn R.heap.size HH.out ((az.below ah).below H) ((af.trans (But.of_below ah)).trans (But.of_below H)) ae a4 aq
   refine u.out _ _ t.out.box (λ_=>?_);clear u;refine wdn ?_;exact a7 _ _ t.out
  go_simp;have r:((W.alloc (.cells #[.pointer (some ⟨b,0,none⟩),.func (.func f) #[] #[]] 133)).drew.alloc (.cells #[.int .i64 0,.int .i64 0,.int .u64 0] 171)).heap[W.heap.size]?=_:=(Below.heap_alloc _ _ _ (ltA hS)).trans hS;have ah:Below W.heap.size W ((W.alloc (.cells #[.pointer (some ⟨b,0,none⟩),.func (.func f) #[] #[]] 133)).drew.alloc (.cells #[.int .i64 0,.int .i64 0,.int .u64 0] 171)):=av.out.alloc av.out.size _;have be:((W.alloc (.cells #[.pointer (some ⟨b,0,none⟩),.func (.func f) #[] #[]] 133)).drew.alloc (.cells #[.int .i64 0,.int .i64 0,.int .u64 0] 171)).heap[W.heap.size+1]?=some (.cells #[.int .i64 0,.int .i64 0,.int .u64 0] 171):=by
   have:=qac (W.alloc (.cells #[.pointer (some ⟨b,0,none⟩),.func (.func f) #[] #[]] 133)).drew (.cells #[.int .i64 0,.int .i64 0,.int .u64 0] 171);rw[show(W.alloc (.cells #[.pointer (some ⟨b,0,none⟩),.func (.func f) #[] #[]] 133)).drew.heap.size=W.heap.size+1 from World.size_alloc ..]at this;exact this
  have bj:=qab (HH.out.below ah);refine u.out _ _ r (λ_=>?_);clear u;refine rdq 4 (λK u=>?_);go_simp;refine(a2 _ bj.out).mono ?_;rintro e R ⟨rfl,az,ag⟩;simp only[];have ad:=(ag.block _ (ltA r) (by omega)).trans r;have bd:=(ag.block _ (ltA be) (by omega)).trans be;have af:=(But.of_below ah).trans ag;refine u.out _ _ ad (λ_=>?_);clear u;refine rdq 5 (λK u=>?_);go_simp;rw[aw.out];refine Calls.mono (cH _ af) ?_;rintro e U ⟨rfl,H⟩;simp only[];have ae:=(H.block _ (ltA ad)).trans ad;have aq:=(H.block _ (ltA bd)).trans bd;refine u.out _ _ ae (λ_=>?_);clear u;refine rdq 7 (λK u=>?_);rw[if_pos (by rfl)];refine wp_store_row 171 _ _ rfl (W.heap.size+1) #[.int .i64 d,.int .i64 w,.int .u64 y] rfl rfl 171 _ aq qhq rfl (by simp[Value.oneCell']) ?_;have t:Hid (qoW W b W.heap.size (W.heap.size+1) (.func (.func f) #[] #[]) d w y s.next (U.setRow (W.heap.size+1) #[.int .i64 d,.int .i64 w,.int .u64 y])) :=
   qfn (W.heap.size+1) HH.out (az.below H) (af.trans (But.of_below H)) ae (by omega) aq
  refine u.out _ _ t.out.box (λ_=>?_);clear u;refine wdn ?_;exact a7 _ _ t.out
 case tail =>
  intro ax V hT;have t:=qab hT;clear hT a9 a8 av HH cH a2 aw;have N:=qaa t.out.box 0;have O:=qaa t.out.box 1;have P:=qaa t.out.hd 0;have Q:=qaa t.out.hd 1;have T:=qaa t.out.hd 2;have bo:d=0\/d=1\/d=2\/d=3\/d=4\/d=5\/d=6\/d=7\/d=8\/d=9\/d=10:=by omega
  rcases bo with k|k|k|k|k|k|k|k|k|k|k
  all_goals
   first|have e0:((d:Int)==0)=true:=by rw[k];rfl|have e0:((d:Int)==0)=false:=by rw[k];rfl
   first|have e2:((d:Int)==2)=true:=by rw[k];rfl|have e2:((d:Int)==2)=false:=by rw[k];rfl
   first|have e3:((d:Int)==3)=true:=by rw[k];rfl|have e3:((d:Int)==3)=false:=by rw[k];rfl
   first|have e4:((d:Int)==4)=true:=by rw[k];rfl|have e4:((d:Int)==4)=false:=by rw[k];rfl
   first|have e5:((d:Int)==5)=true:=by rw[k];rfl|have e5:((d:Int)==5)=false:=by rw[k];rfl
   first|have e6:((d:Int)==6)=true:=by rw[k];rfl|have e6:((d:Int)==6)=false:=by rw[k];rfl
   first|have e7:((d:Int)==7)=true:=by rw[k];rfl|have e7:((d:Int)==7)=false:=by rw[k];rfl
   first|have e8:((d:Int)==8)=true:=by rw[k];rfl|have e8:((d:Int)==8)=false:=by rw[k];rfl
   first|have e9:((d:Int)==9)=true:=by rw[k];rfl|have e9:((d:Int)==9)=false:=by rw[k];rfl
   first|have bk:((d:Int)==10)=true:=by rw[k];rfl|have bk:((d:Int)==10)=false:=by rw[k];rfl
  ·rw[if_pos k]at o;subst o;have bb:=am V t.out.src;clear k am cA j cN cB cX ak al cL cM
   go_wp2_with(first
    |(go_at_call 187;refine bb.mono ?_;clear bb;rintro e w7 ⟨hF,rfl⟩;obtain rfl:=hF))
   exact⟨t.out.but,rfl,_,t.out.src⟩
  all_goals
   rw[if_neg (by omega)]at o
   first
   |have h9:9<=d:=by omega
    clear h9;by_cases ai:(s.within:Int)=s.depth
    ·rw[if_pos ⟨by omega,ai⟩]at o;subst o;have cE:=ak V t.out.src ai;clear k am cA j cN cB cX ak al cL cM
     go_wp2_with(first
      |(go_at_call 181;refine cE.mono ?_;clear cE;rintro e w7 ⟨hF,bl,bm⟩;obtain rfl:=hF))
     exact⟨t.out.but.trans bl,rfl,bm⟩
    rw[if_neg (λhh=>ai hh.2)]at o;have cE:=al V t.out.src ai;clear am cA cN cB cX ak al
    cases L:qc2 s.bs s.lim w (s.pos+1) y with
    |error er =>
     rw[L]at o;simp only[]at o;subst o;obtain⟨en,pl⟩:=er;rw[L]at j;clear k cL cM aa
     go_wp2_with(first
      |(go_at_call 181;refine cE.mono ?_;clear cE;rintro e w4 ⟨rfl,ao,an⟩;have C:=qab (t.out.step ao an);clear t N O P Q T an ao;have N:=qaa C.out.box 0;have O:=qaa C.out.box 1;have P:=qaa C.out.hd 0;have Q:=qaa C.out.hd 1;have T:=qaa C.out.hd 2;have D:=j w4 C.out.src;clear j)
      |(go_at_call 218;refine D.mono ?_;clear D;rintro e w5 ⟨E,rfl,pz,a5⟩))
     exact qdq _ (by simp) a5 rfl (by show s.within+1<=_;omega) (λB ap ab=>⟨(C.out.but.trans E).trans ab,rfl,_,ap⟩)
    |ok xq =>
     obtain⟨x,q⟩:=xq;rw[L]at o j;simp only[]at o;rw[k]at o;have aj:=aa.out x q L
     first
     |rw[qxE]at o
      obtain⟨Z,X⟩:∃Z,Hid (qbn (thB I s.bs s.lim s.depth g (s.within+1)) x q []=Z):=⟨_,show _=_ from rfl⟩
      have G:=λB (hs:qad B b {s with pos:=q,within:=s.within+1}) (hb:But b W B)=>cL ai B q x hs hb aj
     |rw[qv5]at o
      obtain⟨Z,X⟩:∃Z,Hid (qa7 (qes I s.bs s.lim) (thB I s.bs s.lim s.depth g (s.within+1)) x q [] []=Z):=⟨_,show _=_ from rfl⟩
      have G:=λB (hs:qad B b {s with pos:=q,within:=s.within+1}) (hb:But b W B)=>cM ai B q x hs hb aj
     rw[X.out]at o G;clear k cL cM aa L X;rcases Z with⟨en,pl⟩|⟨ds,bp⟩
     all_goals
      simp only[]at o;subst o
      go_wp2_with(first
       |(go_at_call 181;refine cE.mono ?_;clear cE;rintro e w4 ⟨rfl,ao,an⟩;have C:=qab (t.out.step ao an);clear t N O P Q T an ao;have N:=qaa C.out.box 0;have O:=qaa C.out.box 1;have P:=qaa C.out.hd 0;have Q:=qaa C.out.hd 1;have T:=qaa C.out.hd 2;have D:=j w4 C.out.src;clear j)
       |(go_at_call 218;refine D.mono ?_;clear D;rintro e w5 ⟨E,rfl,z⟩;have m:=qab (C.out.step z E);clear C N O P Q T E z;have N:=qaa m.out.box 0;have O:=qaa m.out.box 1;have P:=qaa m.out.hd 0;have Q:=qaa m.out.hd 1;have T:=qaa m.out.hd 2;have J:=G w5 m.out.src m.out.but;clear G)
       |(go_at_call 222;refine J.mono ?_;clear J;rintro e w6 ⟨Y,ac⟩;first|(obtain⟨⟨v6,rfl,⟨a6,n6,c6,rfl⟩,bc⟩,F⟩:=ac)|(obtain⟨rfl,F⟩:=ac))
       |(go_at_call 223;refine J.mono ?_;clear J;rintro e w6 ⟨Y,ac⟩;first|(obtain⟨⟨v6,rfl,⟨a6,n6,c6,rfl⟩,bc⟩,F⟩:=ac)|(obtain⟨rfl,F⟩:=ac)))
      first
      |exact qdq _ (by simp) F.choose_spec rfl (by show s.within+1<=_;omega) (λB ap ab=>⟨(m.out.but.trans Y).trans ab,rfl,_,ap⟩)
      |exact qdq _ (by simp) F rfl (by show s.within+1<=_;omega) (λB ap ab=>⟨_,qe7 results217 _ _,(m.out.but.trans Y).trans ab,⟨_,_,rfl,qvH _ m.out.but.size bn bc ab⟩,ap⟩)
   |rw[if_neg (by omega)]at o
    clear am j ak al cL cM;have D:=cA V t.out.src;clear cA
    cases L:qc2 s.bs s.lim w (s.pos+1) y with
    |error er =>
     rw[L]at o D;simp only[]at o;subst o;obtain⟨en,pl⟩:=er;clear k cN cB cX aa
     go_wp2_with(first
      |(go_at_call 218;refine D.mono ?_;clear D;rintro e w5 ⟨E,rfl,pz,a5⟩))
     exact⟨t.out.but.trans E,rfl,pz,a5⟩
    |ok xq =>
     obtain⟨x,q⟩:=xq;rw[L]at o D;simp only[]at o;have aj:=aa.out x q L
     first
     |have h9:d<=3:=by omega
      clear h9;rw[k]at o
      first|rw[qxA]at o|rw[qyR]at o|rw[qyS]at o
      subst o;clear k cN cB cX aa L
      go_wp2_with(first
       |(go_at_call 218;refine D.mono ?_;clear D;rintro e w5 ⟨E,rfl,z⟩;have m:=qab (t.out.step z E);clear t N O P Q T E z;have N:=qaa m.out.box 0;have O:=qaa m.out.box 1;have P:=qaa m.out.hd 0;have Q:=qaa m.out.hd 1;have T:=qaa m.out.hd 2))
      exact⟨_,qe7 results217 _ _,m.out.but,⟨_,_,rfl,rfl⟩,m.out.src⟩
     |have h9:7<=d:=by omega
      clear h9;rw[k]at o
      first
      |rw[qyo]at o
       obtain⟨Z,X⟩:∃Z,Hid (qgp s.bs s.lim x q []=Z):=⟨_,show _=_ from rfl⟩
       have G:=λB (hs:qad B b {s with pos:=q}) (_:But b W B)=>cB B q x hs aj
      |rw[qyY]at o
       obtain⟨Z,X⟩:∃Z,Hid (qdk s.bs s.lim x q [] 0=Z):=⟨_,show _=_ from rfl⟩
       have G:=λB (hs:qad B b {s with pos:=q}) (hb:But b W B)=>cX B q x hs hb aj
      rw[X.out]at o G;clear k cN cB cX aa L X;rcases Z with⟨en,pl⟩|⟨a0,bp⟩
      all_goals
       simp only[]at o;subst o
       go_wp2_with(first
        |(go_at_call 218;refine D.mono ?_;clear D;rintro e w5 ⟨E,rfl,z⟩;have m:=qab (t.out.step z E);clear t N O P Q T E z;have N:=qaa m.out.box 0;have O:=qaa m.out.box 1;have P:=qaa m.out.hd 0;have Q:=qaa m.out.hd 1;have T:=qaa m.out.hd 2;have J:=G w5 m.out.src m.out.but;clear G)
        |(go_at_call 220;refine J.mono ?_;clear J;rintro e w6 ⟨Y,ac⟩;first|(obtain⟨⟨v6,rfl,o6,b6,a6,n6,c6,rfl⟩,F⟩:=ac)|(obtain⟨rfl,F⟩:=ac))
        |(go_at_call 221;refine J.mono ?_;clear J;rintro e w6 ⟨Y,rfl,F⟩))
       first
       |exact⟨m.out.but.trans Y,rfl,F⟩
       |exact⟨_,qe7 results217 _ _,m.out.but.trans Y,⟨_,_,rfl,rfl⟩,F⟩
       |exact⟨_,qe7 results217 _ _,m.out.but.trans Y,⟨_,_,rfl,qq0 (by have:=m.out.but.size;omega) ⟨o6,b6,_,_,_,rfl⟩⟩,F⟩
     |rw[qxO (by omega)]at o
      have G:=λB (hs:qad B b {s with pos:=q})=>cN B q x hs aj;obtain⟨Z,X⟩:∃Z,Hid (nbF d w x q=Z):=⟨_,show _=_ from rfl⟩
      rw[X.out]at o G;clear k cN cB cX aa L;rcases Z with⟨en,pl⟩|bt
      all_goals
       simp only[]at o;subst o
       try have bi:=qab (qgd X.out)
       clear X
       go_wp2_with(first
        |(go_at_call 218;refine D.mono ?_;clear D;rintro e w5 ⟨E,rfl,z⟩;have m:=qab (t.out.step z E);clear t N O P Q T E z;have N:=qaa m.out.box 0;have O:=qaa m.out.box 1;have P:=qaa m.out.hd 0;have Q:=qaa m.out.hd 1;have T:=qaa m.out.hd 2;have J:=G w5 m.out.src;clear G)
        |(go_at_call 219;refine J.mono ?_;clear J;rintro e w6 ⟨Y,rfl,F⟩))
       first
       |exact⟨m.out.but.trans Y,rfl,F⟩
       |exact⟨_,qe7 results217 _ _,m.out.but.trans Y,⟨_,_,rfl,rfl,bi.out⟩,F⟩

end
end Go.Proofs.YtpifimohecagoaaGreatDoor
