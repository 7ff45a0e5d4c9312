import Derived.Test.YtmajcjammmjimaaGreatDoorCq09
import Derived.Test.YtmajcjammmjimaaGreatDoorCq12
import Derived.Test.YtmajcjammmjimaaGreatDoorCq13
set_option maxRecDepth 100000
set_option maxHeartbeats 8000000
set_option linter.all false
namespace Go.Proofs.YtmajcjammmjimaaGreatDoor
open Go.Proofs.Tryz
variable{hd:Nat->Nat×Nat×Nat}{bs:List UInt8}{b base g k m n p q size so w x:Nat}{V V' W W':World}{fv v:Value}{xs:List Value}{s:Src}{ds:List (DataW Unit)}{d:DataW Unit}
section
open Go.RowKit
def qbn(rd:Nat->Except (Int×Int) (DataW Unit×Nat)):Nat->Nat->List (DataW Unit)->Except (Int×Int) (List (DataW Unit)×Nat)
 |0,p,acc=>.ok (acc,p)
 |k+1,p,acc=>match rd p with
  |.error e=>.error e
  |.ok (d,q)=>qbn rd k q (acc++[d])
def qet(hd:Nat->Nat×Nat×Nat)(bs:List UInt8)(lim:Int)(ks:List (List UInt8))(p:Nat):Except (Int×Int) (List UInt8×Nat) :=
 match bs[p]? with
 |none=>.error (9,p)
 |some c=>if(p:Int)=lim then .error (8,p)else if(hd c.toNat).1=8 then
   match qc4 bs lim (hd c.toNat).2.1 (p+1) (hd c.toNat).2.2 with
   |.error e=>.error e
   |.ok (x,q)=>match qdm bs lim x q [] 0 with
    |.error e=>.error e
    |.ok (l,r)=>if l∈ks then .error (12,(r:Int)-1)else .ok (l,r)
  else .error (9,p)
def qa7(kf:List (List UInt8)->Nat->Except (Int×Int) (List UInt8×Nat))(rd:Nat->Except (Int×Int) (DataW Unit×Nat)):Nat->Nat->List (List UInt8)->List (Lit×DataW Unit)->Except (Int×Int) (List (Lit×DataW Unit)×Nat)
 |0,p,_,acc=>.ok (acc,p)
 |k+1,p,ks,acc=>match kf ks p with
  |.error e=>.error e
  |.ok (l,q)=>match rd q with
   |.error e=>.error e
   |.ok (d,r)=>qa7 kf rd k r (l::ks) (acc++[(.string l,d)])
def qgw(bs:List UInt8)(lim:Int)(li:Nat->Nat->Except (Int×Int) (List (DataW Unit)×Nat))(ma:Nat->Nat->Except (Int×Int) (List (Lit×DataW Unit)×Nat))(so w x q:Nat):Except (Int×Int) (DataW Unit×Nat) :=
 match so with
 |2=>.ok (.lit (.bool false),q)
 |3=>.ok (.lit (.bool true),q)
 |4=>match nbF 4 w x q with
  |.error e=>.error e
  |.ok z=>.ok (.lit (.int .i64 z),q)
 |5=>match nbF 5 w x q with
  |.error e=>.error e
  |.ok z=>.ok (.lit (.int .i64 z),q)
 |6=>match nbF 6 w x q with
  |.error e=>.error e
  |.ok z=>.ok (.lit (.int .i64 z),q)
 |7=>match qgs bs lim x q []with
  |.error e=>.error e
  |.ok (l,r)=>.ok (.ptr (.lit (.string l)),r)
 |8=>match qdm bs lim x q [] 0 with
  |.error e=>.error e
  |.ok (l,r)=>.ok (.lit (.string l),r)
 |9=>match li x q with
  |.error e=>.error e
  |.ok (ds,r)=>.ok (.agg ds,r)
 |10=>match ma x q with
  |.error e=>.error e
  |.ok (es,r)=>.ok (.map es,r)
 |_=>.ok (.nil,q)
def thB(hd:Nat->Nat×Nat×Nat)(bs:List UInt8)(lim depth:Int):Nat->Nat->Nat->Except (Int×Int) (DataW Unit×Nat)
 |0,_,_=>.error (0,0)
 |g+1,wi,p=>match bs[p]? with
  |none=>.error (9,p)
  |some c=>if(p:Int)=lim then .error (8,p)else if(hd c.toNat).1=0 then .error (9,p)else
   if((hd c.toNat).1=9\/(hd c.toNat).1=10)/\(wi:Int)=depth then .error (11,p)else
   match qc4 bs lim (hd c.toNat).2.1 (p+1) (hd c.toNat).2.2 with
   |.error e=>.error e
   |.ok (x,q)=>qgw bs lim (λx q=>qbn (thB hd bs lim depth g (wi+1)) x q []) (λx q=>qa7 (qet hd bs lim) (thB hd bs lim depth g (wi+1)) x q [] []) (hd c.toNat).1 (hd c.toNat).2.1 x q
theorem qe6{lim depth:Int}{wi:Nat}{c:UInt8}{ar:Nat}(a:bs[p]?=some c)(b:¬(p:Int)=lim)(d:hd c.toNat=(so,w,ar)):thB hd bs lim depth (g+1) wi p=(if so=0 then .error (9,(p:Int))else if(so=9\/so=10)/\(wi:Int)=depth then .error (11,(p:Int))else
   match qc4 bs lim w (p+1) ar with
   |.error e=>.error e
   |.ok (x,q)=>qgw bs lim (λx q=>qbn (thB hd bs lim depth g (wi+1)) x q []) (λx q=>qa7 (qet hd bs lim) (thB hd bs lim depth g (wi+1)) x q [] []) so w x q):=by
 conv=>lhs;unfold thB
 rw[a];simp only[];rw[kac b,d]
def qlg(k:Nat)(W:World)(b:Nat)(s:Src)(r:Except (Int×Int) (DataW Unit×Nat))(e:Ending)(W':World):Prop :=
 But b W W'/\match r with
 |.ok (d,p)=>(∃t y,e=.returned (.iface t y)/\qah k W' (λj=>W.heap.size<=j/\j<W'.heap.size) (.iface t y) d)/\qad W' b {s with pos:=p}
 |.error (en,pl)=>qan en pl e/\∃p,qad W' b {s with pos:=p}
def qqa(k f b:Nat)(s:Src)(W0:World)(rd:Nat->Except (Int×Int) (DataW Unit×Nat)):Prop :=
 ∀(V:World) (p:Nat),qad V b {s with pos:=p}->But b W0 V->Calls prog 219 #[.agg #[.pointer (some ⟨b,0,none⟩),.func (.func f) #[] #[]]] V (qlg k V b {s with pos:=p} (rd p))

structure qpY(k:Nat)(W:World)(b:Nat)(fv:Value)(s:Src)(p:Nat)(v:Value)(ds:List (DataW Unit))(V:World):Prop where
 src:qad V b {s with pos:=p}
 but:But b W V
 box:V.heap[W.heap.size]?=some (.cells #[.pointer (some ⟨b,0,none⟩),fv] 117)
 own:∃xs,V.ownsRow (W.heap.size+1) 47 1 v ds.length xs/\∀(i:Nat) (x:Value) (d:DataW Unit),xs[i]?=some x->ds[i]?=some d->qah k V (λj=>W.heap.size+1<=j/\j<V.heap.size/\some j≠v.ownBlock) x d
 size:W.heap.size+1<=V.heap.size
theorem qcZ{t:TypeId}(h:W.ownsRow base t size v n xs)(k:But b W W')(m:b<base):W'.ownsRow base t size v n xs:=by
 obtain⟨i,a⟩:=h;refine⟨i,?_⟩;rcases a with a|⟨g,d,f,e,l,c,j⟩
 ·exact .inl a
 exact .inr ⟨g,d,f,e,l,(k.block g (ltA c) (by omega)).trans c,j⟩
theorem qpY.but'(h:qpY k W b fv s p v ds V)(o:b<W.heap.size)(l:qad V' b {s with pos:=q})(a:But b V V'):qpY k W b fv s q v ds V':=by
 obtain⟨n,e,f⟩:=h.own;refine⟨l,h.but.trans a,(a.block _ (ltA h.box) (by omega)).trans h.box,⟨n,qcZ e a (by omega),λi x d m g=>?_⟩,kaj h.size a.size⟩;refine(f i x d m g).same (λj c=>⟨c.1,kai c.2.1 a.size,c.2.2⟩) (λj c=>a.block j c.2.1 (by omega))
theorem qvs(k:Nat)(a:Value)(h:qad W b s):qpY k W b a s s.pos (.slice none 0 0) [] (W.alloc (.cells #[.pointer (some ⟨b,0,none⟩),a] 117)):=by
 have c:Below W.heap.size W (W.alloc (.cells #[.pointer (some ⟨b,0,none⟩),a] 117)):=bwA;exact⟨h.below c,But.of_below c,qac W _,⟨[],kaV _ _ _ _,λi x d e=>by simp at e⟩,by simp⟩
theorem qpY.push{w5:World}{v' x:Value}{V0:World}(h:qpY k W b fv s p v ds V)(z:qad W b s)(u:V.ownsRow (W.heap.size+1) 47 1 v ds.length xs)(D:∀(i:Nat) (x:Value) (d:DataW Unit),xs[i]?=some x->ds[i]?=some d->qah k V (λj=>W.heap.size+1<=j/\j<V.heap.size/\some j≠v.ownBlock) x d)(A:qah k V (λj=>V0.heap.size<=j/\j<V.heap.size) x d)(C:∀g,v.ownBlock=some g->g<V0.heap.size)(G:W.heap.size+1<=V0.heap.size)(B:w5.ownsRow (W.heap.size+1) 47 1 v' (ds.length+1) (xs++[x]))(f:(V.alloc (.cells #[x] 47)).grownBy w5 v.ownBlock)(n:v'.ownBlock=v.ownBlock\/v'.ownBlock=some (V.alloc (.cells #[x] 47)).heap.size):qpY k W b fv s p v' (ds++[d]) w5:=by
 have J:=h.size;have H:V.heap.size+1<=w5.heap.size:=by have:=f.size;simpa using this
 have F:∀g,v.ownBlock=some g->W.heap.size+1<=g:=λg f=>qbH u f;have q:∀j,j<V.heap.size->some j≠v.ownBlock->w5.heap[j]?=V.heap[j]?:=λj a m=>(f.block j (by simp;omega) m).trans (kae _ _ _ a);have r:∀j,j<W.heap.size+1->w5.heap[j]?=V.heap[j]?:=λj a=>q j (by omega) (λe=>by have:=F j e.symm;omega);refine⟨z.same rfl rfl h.src (λj a=>r j (by omega)),⟨f.os.trans h.but.os,f.tape.trans h.but.tape,f.output.trans h.but.output,by have:=h.but.size;omega,λj a m=>(r j (by omega)).trans (h.but.block j a m)⟩,(r _ (by omega)).trans h.box,⟨xs++[x],by rw[kaa];exact B,λi y c o l=>?_⟩,by omega⟩;have t:∀j,j<V.heap.size->some j≠v.ownBlock->some j≠v'.ownBlock:=λj a m=>by
  rcases n with n|n
  ·rw[n];exact m
  rw[n];intro e;injection e with e;simp at e;omega
 have E:xs.length=ds.length:=by have:=u.1;omega
 by_cases I:i<ds.length
 ·rw[kau (by omega)]at o l;exact(D i y c o l).same (λj a=>⟨a.1,by have:=a.2.1;omega,t j a.2.1 a.2.2⟩) (λj a=>q j a.2.1 a.2.2)
 have e:i=ds.length:=by
  have:=ltL l;rw[kaa]at this;simp at this;omega
 subst e;rw[kas (by omega)]at l;rw[kas (by omega),E]at o;simp at o l;subst o;subst l;have w:∀j,V0.heap.size<=j->some j≠v.ownBlock:=λj a e=>by have:=C j e.symm;omega
 exact A.same (λj a=>⟨by omega,by omega,t j a.2 (w j a.1)⟩) (λj a=>q j a.2 (w j a.1))
theorem qiv{t:TypeId}(h:V.ownsRow base t size v n xs):∀g,v.ownBlock=some g->g<V.heap.size:=λg a=>by
 rcases h.2 with⟨b,_⟩|⟨f,d,e,rfl,i,c,_⟩
 ·subst b;cases a
 cases a;exact ltA c
theorem qpY.row(h:qpY k W b fv s p v ds V):qah (k+1) V (λj=>W.heap.size<=j/\j<V.heap.size) (.iface 120 v) (.agg ds):=by
 obtain⟨u,a,m⟩:=h.own;unfold qah;refine⟨v,u,rfl,⟨a.1,?_⟩,λi x d t q=>(m i x d t q).same (λj r=>⟨by omega,r.2.1⟩) (λ_ _=>rfl)⟩;rcases a.2 with n|⟨g,f,l,e,w,c,o⟩
 ·exact .inl n
 exact .inr ⟨g,f,l,e,⟨by omega,(ltA c)⟩,c,o⟩
theorem Tryz.infoThing:(prog.info? 47).map (λi=>(i.zero,i.size,i.bytes))=some (some .nilIface,1,16):=by kernel_rfl
theorem qkw(k:Nat)(W:World)(b:Nat)(s:Src)(f n:Nat)(x:Nat->Except (Int×Int) (DataW Unit×Nat))(hn:n<18446744073709551616)(h:qad W b s)(aq:s.bs.length<=200000000)(N:qqa k f b s W x)(L:∀p d q,x p=.ok (d,q)->p<q):Calls prog 224 #[.agg #[.pointer (some ⟨b,0,none⟩),.func (.func f) #[] #[]],.int .u64 n] W (qib W b s (λV v o=>(∃a n c,v=.slice a n c)/\qah (k+1) V (λj=>W.heap.size<=j/\j<V.heap.size) (.iface 120 v) (.agg o)) (qbn x n s.pos [])):=by
 obtain⟨i0,hi,aj,ak,al⟩:=kaF Tryz.infoThing;have I:Hid (qpY k W b (.func (.func f) #[] #[]) s s.pos (.slice none 0 0) [] (W.alloc (.cells #[.pointer (some ⟨b,0,none⟩),.func (.func f) #[] #[]] 117))):=qvs _ _ h;have u:=qab h;have Z:=qab N;have T:=qab L;have ac:=ltA h.row;have ae:=h.le;obtain⟨R,r⟩:∃R,Hid (qbn x n s.pos []=R):=⟨_,show _=_ from rfl⟩
 rw[r.out];clear h N L;go_enter func224,ntmps224;go_wp2;generalize W.alloc (.cells #[.pointer (some ⟨b,0,none⟩),.func (.func f) #[] #[]] 117)=W0 at *
 go_loopg[5,7] n (λg y am wr=>∃(m p:Nat) (a:Option Addr) (l c:Nat) (o:List (DataW Unit)),y=.slice a l c/\am=.int .u64 m/\Hid (m+g=n)/\Hid (p<=s.bs.length)/\Hid (o.length<=p)/\Hid (qpY k W b (.func (.func f) #[] #[]) s p (.slice a l c) o wr)/\Hid (qbn x g p o=R))
 case atStart=>exact⟨0,s.pos,none,0,0,[],rfl,rfl,by show _=_;omega,ae,by show 0<=_;omega,I,r⟩
 case round =>
  clear I r;obtain⟨m,p,a,l,c0,o,rfl,rfl,C,hp,K,i,r⟩:=hrel;have kb:=qaa i.out.box 0;have au:=qaa i.out.box 1
  cases gk with
  |zero =>
   have hk:m=n:=by have:=C.out;omega
   subst hk;have E:Hid (R=.ok (o,p)):=r.out.symm;clear r C;go_wp2;go_ret;rw[E.out];exact⟨i.out.but,⟨_,rfl,⟨_,_,_,rfl⟩,i.out.row⟩,i.out.src⟩
  |succ g =>
   have ap:m<n:=by have:=C.out;omega
   have e1:decide ((m:Int)<(n:Int))=true:=by simp;omega
   have e2:decide (m<n)=true:=by simp;omega
   have B:=Z.out wr p i.out.src i.out.but;have w:=r.out;rw[qbn]at w
   cases D:x p with
   |error er =>
    rw[D]at w B;simp only[]at w;obtain⟨en,pl⟩:=er;have E:=qab w.symm;clear r w D
    go_wp2_with(first
     |(go_at_call 219;refine B.mono ?_;clear B;rintro e A ⟨G,hF⟩;obtain⟨hF,pz,ag⟩:=(show qan en pl e/\∃p,qad A b {s with pos:=p}from hF);obtain rfl:=hF))
    rw[E.out];exact⟨rfl,i.out.but.trans G,rfl,pz,ag⟩
   |ok dq =>
    obtain⟨d,q⟩:=dq;rw[D]at w B;simp only[]at w;have ar:=T.out p d q D;have U:=qab w;have ao:o.length<=200000000:=by have:=K.out;have:=hp.out;omega
    have S:Hid (o.length+1<=q):=by show _<=_;have:=K.out;omega
    have z:=qab i.out.size;have X:Hid (∀g,(Value.slice a l c0).ownBlock=some g->g<wr.heap.size):=by obtain⟨xs,h1,_⟩:=i.out.own;exact qiv h1
    go_wp2_with(first
     |(go_at_call 219;refine B.mono ?_;rintro e A ⟨G,hF⟩;obtain⟨⟨t,y,rfl,hd⟩,J⟩:=(show(∃t y,e=.returned (.iface t y)/\qah k A (λj=>wr.heap.size<=j/\j<A.heap.size) (.iface t y) d)/\qad A b {s with pos:=q}from hF);have F:=qab (i.out.but' ac J G);have Q:=qab hd;have Y:Hid (q<=s.bs.length):=J.le;obtain⟨xs,af,ai⟩:=F.out.own;have H:=qab af;have ab:=qab ai;have P:=qab F.out.size)
     |(at_builtin;refine qbg _ rfl _ _ 120 rfl (W.heap.size+1) 47 i0 .nilIface 1 16 underlying120 hi aj ak al rfl (by decide) _ _ _ rfl (H.out.alloc _) ⟨A.heap.size,0,none⟩ 1 1 [.iface t y] rfl rfl (qag _ _ _) (λav O=>by simp at O;subst O;rfl) (by decide) (by unfold maxLen;omega) (by omega) (by simp;have:=P.out;omega) ?_;intro v' w5 M ad ah;have aa:=qab (F.out.push u.out H.out ab.out Q.out X.out z.out M ad ah);obtain⟨g5,an,rfl⟩:=ownsRow_succ M))
    go_roundg g
    case measure=>omega
    case rel=>exact⟨m+1,q,_,_,_,o++[d],rfl,by go_num,by show _=_;have:=C.out;omega,Y,by show _<=_;rw[kaa];exact S.out,aa,U⟩

theorem quW{P:Program}{c:Code}{Q:Exit->Act->World->Prop}{a:Act}{w:World}(T:Nat->World->Prop)(b:Nat->Act)(d:(∀x V,T x V->Q .normal (b x) V)->c.wp P Q a w)(e:∀x V,T x V->Q .normal (b x) V):c.wp P Q a w:=d e
theorem qoA(W:World)(b k:Nat)(s:Src)(u:FrameMode)(h:qad W b s)(d:s.within=k+1)(j:s.within<=1000000):CallsD prog 211 #[.pointer (some ⟨b,0,none⟩)] u W λe f a=>f=u/\(e=.returned (.tuple #[])/\qad a b {s with within:=k}/\But b W a):=by
 have l:W.cell? ⟨b,4,none⟩=some (.int .i64 ((k:Int)+1)):=by
  have:=qaa h.row 4;rw[this];show some (Value.int .i64 (s.within:Int))=_;rw[d];rfl
 have g:=kaK W b 4 _ _ h.row;have c:Hid (qad (W.setCell ⟨b,4,none⟩ (.int .i64 k)) b {s with within:=k}/\But b W (W.setCell ⟨b,4,none⟩ (.int .i64 k))):=qff k 0 h;have i:k<=1000000:=by omega
 refine callsD_of_wp (R:=λe a=>e=.returned (.tuple #[])/\qad a b {s with within:=k}/\But b W a) func211 rfl ?_;simp only[ntmps211,kaT,kah,kay,Nat.reduceAdd,Nat.reduceSub,kbz,kb0,kbG,kb4,kbl,kbo];go_wp2;go_end0;exact⟨rfl,c.out.1,c.out.2⟩
theorem qej(W:World)(b:Nat)(s:Src)(f:Nat)(r:Int)(h:qad W b s)(q:∀V,qad V b s->Calls prog 188 #[.pointer (some ⟨b,0,none⟩)] V λe m=>qan r s.pos e/\Below V.heap.size V m):Calls prog 219 #[.agg #[.pointer (some ⟨b,0,none⟩),.func (.func f) #[] #[]]] W λe m=>But b W m/\qan r s.pos e/\∃p,qad m b {s with pos:=p}:=by
 have l:=qab h;have x:Below W.heap.size W (W.alloc (.cells #[.pointer (some ⟨b,0,none⟩),.func (.func f) #[] #[]] 117)).drew:=(bwA).drew;have g:=qab x;have t:Hid ((W.alloc (.cells #[.pointer (some ⟨b,0,none⟩),.func (.func f) #[] #[]] 117)).drew.heap[W.heap.size]?=some (.cells #[.pointer (some ⟨b,0,none⟩),.func (.func f) #[] #[]] 117)):=qac W _
 go_enter_defers func219,ntmps219
 go_wp2_with fail
 refine kaM (S:=λV=>V.heap[W.heap.size]?=some (.cells #[.pointer (some ⟨b,0,none⟩),.func (.func f) #[] #[]] 117)) (by kernel_rfl) ?_;have d:=t.out;refine kaD (i:=0) (v:=.pointer (some ⟨W.heap.size,1,none⟩)) rfl (by kernel_rfl) (by kernel_rfl) (by kernel_rfl) (λc a w h=>qbB results219 5 (by decide) _ c a w h) (.inl ⟨rfl,λV k=>rfl⟩) d ?_;refine kaD (i:=1) (v:=.func (.func f) #[] #[]) rfl (by kernel_rfl) (by kernel_rfl) (by kernel_rfl) (λc a w h=>qbB results219 6 (by decide) _ c a w h) (.inl ⟨rfl,λV k=>?y1⟩) d ?_
 case y1=>(have u:=qaa k 1;go_simp)
 refine kaD (i:=2) (v:=.pointer (some ⟨W.heap.size,0,none⟩)) rfl (by kernel_rfl) (by kernel_rfl) (by kernel_rfl) (λc a w h=>qbB results219 7 (by decide) _ c a w h) (.inl ⟨rfl,λV k=>rfl⟩) d ?_;refine kaD (i:=3) (v:=.pointer (some ⟨b,0,none⟩)) rfl (by kernel_rfl) (by kernel_rfl) (by kernel_rfl) (λc a w h=>qbB results219 8 (by decide) _ c a w h) (.inl ⟨rfl,λV k=>?y3⟩) d ?_
 case y3=>(have u:=qaa k 0;go_simp)
 refine qmU 4 6 (λK o=>?_) (λK o=>?_)
 ·go_simp;refine(q _ (l.out.below g.out)).mono ?_;rintro e z ⟨hF,j⟩;obtain rfl:=hF;exact⟨(But.of_below g.out).trans (But.of_below j),rfl,_,(l.out.below g.out).below j⟩
 go_simp;have y:((W.alloc (.cells #[.pointer (some ⟨b,0,none⟩),.func (.func f) #[] #[]] 117)).drew.alloc (.cells #[.int .i64 0,.int .i64 0,.int .u64 0] 153)).heap[W.heap.size]?=_:=(kae _ _ _ (ltA d)).trans d;have n:Below W.heap.size W ((W.alloc (.cells #[.pointer (some ⟨b,0,none⟩),.func (.func f) #[] #[]] 117)).drew.alloc (.cells #[.int .i64 0,.int .i64 0,.int .u64 0] 153)):=g.out.alloc g.out.size _;refine o.out _ _ y (λ_=>?_);refine rdq 4 (λK o=>?_);go_simp;refine(q _ (l.out.below n)).mono ?_;rintro e z ⟨hF,j⟩;obtain rfl:=hF;exact⟨(But.of_below n).trans (But.of_below j),rfl,_,(l.out.below n).below j⟩

section
variable{bs:List UInt8} {lim:Int} {li:Nat->Nat->Except (Int×Int) (List (DataW Unit)×Nat)} {ma:Nat->Nat->Except (Int×Int) (List (Lit×DataW Unit)×Nat)} {w x q:Nat}
theorem qzq:qgw bs lim li ma 1 w x q=.ok (.nil,q):=rfl
theorem qzb:qgw bs lim li ma 2 w x q=.ok (.lit (.bool false),q):=rfl
theorem qyr:qgw bs lim li ma 3 w x q=.ok (.lit (.bool true),q):=rfl
theorem qy4:qgw bs lim li ma 7 w x q=(match qgs bs lim x q []with|.error e=>.error e|.ok (l,r)=>.ok (.ptr (.lit (.string l)),r)):=rfl
theorem qyv:qgw bs lim li ma 8 w x q=(match qdm bs lim x q [] 0 with|.error e=>.error e|.ok (l,r)=>.ok (.lit (.string l),r)):=rfl
theorem qyu:qgw bs lim li ma 9 w x q=(match li x q with|.error e=>.error e|.ok (ds,r)=>.ok (.agg ds,r)):=rfl
theorem qwP:qgw bs lim li ma 10 w x q=(match ma x q with|.error e=>.error e|.ok (ds,r)=>.ok (.map ds,r)):=rfl
theorem qyU(h:4<=so/\so<=6):qgw bs lim li ma so w x q=(match nbF so w x q with|.error e=>.error e|.ok z=>.ok (.lit (.int .i64 z),q)):=by
 rcases(show so=4\/so=5\/so=6 by omega)with rfl|rfl|rfl<;>rfl
end
theorem qgy{so w:Int}{p z:Int}(h:nbF so w x p=.ok z):-9223372036854775808<=z/\z<=9223372036854775807:=by
 have a:∀y:Int,-9223372036854775808<=wrap64 y/\wrap64 y<=9223372036854775807:=λy=>by unfold wrap64;omega
 unfold nbF at h;split at h
 ·injection h with h;subst h;unfold qkZ;split
  ·exact a _
  split
  ·exact a _
  split<;>exact a _
 split at h
 ·cases h
 split at h<;>(injection h with h;omega)
theorem qnm(bs:List UInt8)(lim:Int):∀(k p a x q:Nat),qc4 bs lim k p a=.ok (x,q)->x<(a+1)*256^k
 |0,p,a,x,q,h=>by
  unfold qc4 at h;cases h;simp
 |k+1,p,a,x,q,h=>by
  rw[qc4]at h;split at h
  ·cases h
  next c _ =>
  split at h
  ·cases h
  have b:=qnm bs lim k (p+1) _ x q h;have d:c.toNat<256:=c.toNat_lt;have e:(a*256+c.toNat+1)*256^k<=((a+1)*256)*256^k:=kcW _ (by omega);have f:((a+1)*256)*256^k=(a+1)*256^(k+1):=by rw[kdR,kce,kb9 256]
  omega
theorem qrr{lim:Int}(h:w<=8/\(w=0\/g=0)/\g<18446744073709551616)(d:qc4 bs lim w p g=.ok (x,q)):x<18446744073709551616:=by
 have a:=qnm bs lim w p g x q d;obtain⟨b,c,f⟩:=h;rcases c with rfl|rfl
 ·simp at a;omega
 have:(256:Nat)^w<=256^8:=kck (by decide) b;have e:(256:Nat)^8=18446744073709551616:=by decide
 omega
theorem qwC(lo:Nat)(f:W.heap.size<=lo)(e:b<W.heap.size)(h:qah k V (λj=>lo<=j/\j<V.heap.size) v d)(c:But b V V'):qah k V' (λj=>W.heap.size<=j/\j<V'.heap.size) v d :=
 h.same (λj a=>⟨by omega,kai a.2 c.size⟩) (λj a=>c.block j a.2 (by omega))
theorem qrb{lo:Nat}{l:List UInt8}(m:W.heap.size<=lo)(h:Own V lo v l):qah (k+1) V (λj=>W.heap.size<=j/\j<V.heap.size) (.iface 118 v) (.ptr (.lit (.string l))):=by
 unfold qah;refine⟨v,rfl,by simp,?_⟩;rcases h.1.2 with a|⟨g,c,d,e,i,b,f⟩
 ·exact .inl ⟨a.1,a.2⟩
 exact .inr ⟨g,c,d,e,⟨by omega,(ltA b)⟩,b,f⟩
theorem qdF{t:Array Value}{R:Ending->World->Prop}(u:FrameMode)(i:u≠.run)(h:qad V b s)(g:s.within=k+1)(j:s.within<=1000000)(H:∀a,qad a b {s with within:=k}->But b V a->Leaves prog f219 t R [] (settle u) a):Leaves prog f219 t R [{target:=.fn (.func 211) #[],args:=#[.pointer (some ⟨b,0,none⟩)]}] u V:=by
 refine kcI (f:=211) (args:=#[.pointer (some ⟨b,0,none⟩)]) i (by simp[go_sem]) ?_;refine(qoA V b k s u h g j).mono ?_;rintro e m l ⟨rfl,rfl,d,c⟩;exact H l d c
theorem qhL(g:Nat)(W:World)(b:Nat)(s:Src)(c:UInt8)(I:Nat->Nat×Nat×Nat)(f d w y:Nat)(h:qad W b s)(h1:qgm s c)(bg:I c.toNat=(d,w,y))(bq:d<=10)(hw:w<=8)(hg:w=0\/y=0)(bf:y<18446744073709551616)(bh:s.bs.length<=200000000)(br:s.within<=100000)(hf:f=48\/f=49)(hU:∀V,But b W V->U8 V)(ab:7<b)(cH:∀V,But b W V->Calls prog f #[.int .u8 c.toNat] V λe M=>e=.returned (.agg #[.int .i64 d,.int .i64 w,.int .u64 y])/\Below V.heap.size V M)(cL:¬(s.within:Int)=s.depth->∀(V:World) (p n:Nat),qad V b {s with pos:=p,within:=s.within+1}->But b W V->n<18446744073709551616->Calls prog 224 #[.agg #[.pointer (some ⟨b,0,none⟩),.func (.func f) #[] #[]],.int .u64 n] V (qib V b {s with pos:=p,within:=s.within+1} (λM v ds=>(∃a n c,v=.slice a n c)/\qah (g+1) M (λau=>V.heap.size<=au/\au<M.heap.size) (.iface 120 v) (.agg ds)) (qbn (thB I s.bs s.lim s.depth g (s.within+1)) n p [])))(cM:¬(s.within:Int)=s.depth->∀(V:World) (p n:Nat),qad V b {s with pos:=p,within:=s.within+1}->But b W V->n<18446744073709551616->Calls prog 225 #[.agg #[.pointer (some ⟨b,0,none⟩),.func (.func f) #[] #[]],.int .u64 n] V (qib V b {s with pos:=p,within:=s.within+1} (λM v es=>(∃a n c,v=.slice a n c)/\qah (g+1) M (λau=>V.heap.size<=au/\au<M.heap.size) (.iface 122 v) (.map es)) (qa7 (qet I s.bs s.lim) (thB I s.bs s.lim s.depth g (s.within+1)) n p [] []))):Calls prog 219 #[.agg #[.pointer (some ⟨b,0,none⟩),.func (.func f) #[] #[]]] W (qlg (g+1) W b s (thB I s.bs s.lim s.depth (g+1) s.within s.pos)):=by
 obtain⟨ba,HR⟩:∃ba,Hid (thB I s.bs s.lim s.depth (g+1) s.within s.pos=ba):=⟨_,show _=_ from rfl⟩
 rw[HR.out];have o:=HR.out;rw[qe6 h1.1 h1.2 bg]at o;clear HR bg;have a2:∀V,qad V b s->Calls prog 188 #[.pointer (some ⟨b,0,none⟩)] V λe l=>e=.returned (.int .u8 c.toNat)/\qad l b s.next/\But b V l:=λV A=>qaw V b s c A h1
 have cA:∀V,qad V b s.next->Calls prog 220 #[.agg #[.pointer (some ⟨b,0,none⟩),.func (.func f) #[] #[]],.agg #[.int .i64 d,.int .i64 w,.int .u64 y]] V (qhy V b s.next (λx:Nat=>.int .u64 x) (qc4 s.bs s.lim w (s.pos+1) y)):=λV A=>qbZ V b s.next f d w y hw hg A
 have j:∀V,qad V b {s.next with within:=s.within+1}->Calls prog 220 #[.agg #[.pointer (some ⟨b,0,none⟩),.func (.func f) #[] #[]],.agg #[.int .i64 d,.int .i64 w,.int .u64 y]] V (qhy V b {s.next with within:=s.within+1} (λx:Nat=>.int .u64 x) (qc4 s.bs s.lim w (s.pos+1) y)):=λV A=>qbZ V b {s.next with within:=s.within+1} f d w y hw hg A;have aa:Hid (∀x q,qc4 s.bs s.lim w (s.pos+1) y=.ok (x,q)->x<18446744073709551616):=λx q hx=>qrr ⟨hw,hg,bf⟩ hx;have cN:∀(V:World) (p x:Nat),qad V b {s with pos:=p}->x<18446744073709551616->Calls prog 221 #[.agg #[.pointer (some ⟨b,0,none⟩),.func (.func f) #[] #[]],.agg #[.int .i64 d,.int .i64 w,.int .u64 y],.int .u64 x] V (quT V b {s with pos:=p} (nbF d w x p)):=λV p x A hx=>qkq V b {s with pos:=p} f d w y x hx A;have cB:∀(V:World) (p x:Nat),qad V b {s with pos:=p}->x<18446744073709551616->Calls prog 222 #[.agg #[.pointer (some ⟨b,0,none⟩),.func (.func f) #[] #[]],.int .u64 x] V (qib V b {s with pos:=p} (λM v a0=>Own M (V.heap.size+1) v a0) (qgs s.bs s.lim x p [])):=λV p x A hx=>qju V b {s with pos:=p} f x hx A bh;have cX:∀(V:World) (p x:Nat),qad V b {s with pos:=p}->But b W V->x<18446744073709551616->Calls prog 223 #[.agg #[.pointer (some ⟨b,0,none⟩),.func (.func f) #[] #[]],.int .u64 x] V (qhy V b {s with pos:=p} (λa0:List UInt8=>.string ⟨a0.toArray⟩) (qdm s.bs s.lim x p [] 0)):=λV p x A hB hx=>qeF V b {s with pos:=p} f x hx A (hU V hB) ab bh;have am:∀V,qad V b s.next->Calls prog 189 #[.pointer (some ⟨b,0,none⟩),.int .i64 9] V λe l=>qan 9 s.pos e/\l=V:=λV A=>by
  have:=qav V b s.next 9 A
  rwa[show((s.next.pos:Int)-1)=s.pos by show(((s.pos+1:Nat)):Int)-1=s.pos;omega]at this
 have ak:∀V,qad V b s.next->(s.within:Int)=s.depth->Calls prog 183 #[.pointer (some ⟨b,0,none⟩)] V λe l=>qan 11 s.pos e/\But b V l/\∃p,qad l b {s with pos:=p}:=λV A I=>by
  have:=qk9 V b s.next A I
  rwa[show((s.next.pos:Int)-1)=s.pos by show(((s.pos+1:Nat)):Int)-1=s.pos;omega]at this
 have al:∀V,qad V b s.next->¬(s.within:Int)=s.depth->Calls prog 183 #[.pointer (some ⟨b,0,none⟩)] V λe l=>e=.returned (.tuple #[])/\qad l b {s.next with within:=s.within+1}/\But b V l:=λV A I=>qiH V b s.next A I (by show s.within<=_;omega)
 have HH:=qab h;have bn:=ltA h.row;have a3:Below W.heap.size W (W.alloc (.cells #[.pointer (some ⟨b,0,none⟩),.func (.func f) #[] #[]] 117)).drew:=(bwA).drew;have av:=qab a3;have a8:=qab (h.below a3);have a9:Hid ((W.alloc (.cells #[.pointer (some ⟨b,0,none⟩),.func (.func f) #[] #[]] 117)).drew.heap[W.heap.size]?=some (.cells #[.pointer (some ⟨b,0,none⟩),.func (.func f) #[] #[]] 117)):=qac W _;have aw:Hid (∀(a1:Array Value) (V:World),(callFunc f a1).run prog V=.ok (.enter f a1) V):=by
  show∀_ _,_;rcases hf with rfl|rfl<;>exact λa1 V=>by kernel_rfl
 clear h h1 a3 hw hg bf hf hU
 go_enter_defers func219,ntmps219
 go_wp2_with fail
 refine quW (λax V=>qpf W b W.heap.size ax (.func (.func f) #[] #[]) d w y s.next V) (λax=>{tmps:=#[.agg #[.pointer (some ⟨b,0,none⟩),.func (.func f) #[] #[]],.pointer (some ⟨W.heap.size,0,none⟩),.nilIface,.pointer (some ⟨ax,0,none⟩),undef,.pointer (some ⟨W.heap.size,1,none⟩),.func (.func f) #[] #[],.pointer (some ⟨W.heap.size,0,none⟩),.pointer (some ⟨b,0,none⟩),.int .u8 c.toNat,.agg #[.int .i64 d,.int .i64 w,.int .u64 y],undef,undef,undef,undef,undef,undef,undef,undef,undef,undef,undef,undef,undef,undef,undef,undef,undef,undef,undef,undef,undef,undef,undef,undef,undef,undef,undef,undef,undef,undef,undef,undef,undef,undef,undef,undef,undef,undef,undef,undef,undef,undef,undef,undef,undef,undef,undef,undef,undef,undef,undef,undef,undef,undef,undef,undef,undef,undef,undef,undef,undef,undef],defers:=[]}) (λa7=>?reg) ?tail
 case reg =>
  refine kaM (S:=λV=>V.heap[W.heap.size]?=some (.cells #[.pointer (some ⟨b,0,none⟩),.func (.func f) #[] #[]] 117)) (by kernel_rfl) ?_;have hS:=a9.out;refine kaD (i:=0) (v:=.pointer (some ⟨W.heap.size,1,none⟩)) rfl (by kernel_rfl) (by kernel_rfl) (by kernel_rfl) (λc a w h=>qbB results219 5 (by decide) _ c a w h) (.inl ⟨rfl,λV A=>rfl⟩) hS ?_;refine kaD (i:=1) (v:=.func (.func f) #[] #[]) rfl (by kernel_rfl) (by kernel_rfl) (by kernel_rfl) (λc a w h=>qbB results219 6 (by decide) _ c a w h) (.inl ⟨rfl,λV A=>?y1⟩) hS ?_
  case y1=>(have h2:=qaa A 1;go_simp)
  refine kaD (i:=2) (v:=.pointer (some ⟨W.heap.size,0,none⟩)) rfl (by kernel_rfl) (by kernel_rfl) (by kernel_rfl) (λc a w h=>qbB results219 7 (by decide) _ c a w h) (.inl ⟨rfl,λV A=>rfl⟩) hS ?_;refine kaD (i:=3) (v:=.pointer (some ⟨b,0,none⟩)) rfl (by kernel_rfl) (by kernel_rfl) (by kernel_rfl) (λc a w h=>qbB results219 8 (by decide) _ c a w h) (.inl ⟨rfl,λV A=>?y3⟩) hS ?_
  case y3=>(have h2:=qaa A 0;go_simp)
  refine qmU 4 6 (λK u=>?_) (λK u=>?_)
  ·go_simp;refine(a2 _ a8.out).mono ?_;rintro e R ⟨rfl,az,ag⟩;simp only[];have ad:=(ag.block _ (ltA hS) (by omega)).trans hS;have af:=(But.of_below av.out).trans ag;have a4:=ltA ad;refine u.out _ _ ad (λ_=>?_);clear u;refine qmU 5 6 (λK u=>?_) (λK u=>?_)
   ·go_simp;rw[aw.out];refine kdl (cH _ af) ?_;rintro e U ⟨rfl,H⟩;simp only[];have r:=(H.block _ a4).trans ad;have ay:=ltA r;refine u.out _ _ r (λ_=>?_);clear u;refine rdq 6 (λK u=>?_);go_simp;have ae:(U.alloc (.cells #[.int .i64 0,.int .i64 0,.int .u64 0] 153)).heap[W.heap.size]?=_:=(kae _ _ _ ay).trans r;refine u.out _ _ ae (λ_=>?_);clear u;refine rdq 7 (λK u=>?_);rw[kag (by rfl)];refine kbL 153 _ _ rfl U.heap.size #[.int .i64 d,.int .i64 w,.int .u64 y] rfl rfl 153 _ (qac U _) qg8 rfl (by simp[Value.oneCell']) ?_;have t:Hid (qpf W b W.heap.size U.heap.size (.func (.func f) #[] #[]) d w y s.next ((U.alloc (.cells #[.int .i64 0,.int .i64 0,.int .u64 0] 153)).setRow U.heap.size #[.int .i64 d,.int .i64 w,.int .u64 y])) :=
     qfa U.heap.size HH.out ((az.below H).below bwA) ((af.trans (But.of_below H)).trans (But.of_below bwA)) ae ay (qac U _)
    refine u.out _ _ t.out.box (λ_=>?_);clear u;refine wdn ?_;exact a7 _ _ t.out
   go_simp;have r:(R.alloc (.cells #[.int .i64 0,.int .i64 0,.int .u64 0] 153)).heap[W.heap.size]?=_:=(kae _ _ _ a4).trans ad;have ah:Below R.heap.size R (R.alloc (.cells #[.int .i64 0,.int .i64 0,.int .u64 0] 153)):=bwA;have ay:=ltA r;refine u.out _ _ r (λ_=>?_);clear u;refine rdq 5 (λK u=>?_);go_simp;rw[aw.out];refine kdl (cH _ (af.trans (But.of_below ah))) ?_;rintro e U ⟨rfl,H⟩;simp only[];have ae:=(H.block _ ay).trans r;have aq:=(H.block R.heap.size (by simp)).trans (qac R (.cells #[.int .i64 0,.int .i64 0,.int .u64 0] 153));refine u.out _ _ ae (λ_=>?_);clear u;refine rdq 7 (λK u=>?_);rw[kag (by rfl)];refine kbL 153 _ _ rfl R.heap.size #[.int .i64 d,.int .i64 w,.int .u64 y] rfl rfl 153 _ aq qg8 rfl (by simp[Value.oneCell']) ?_;have t:Hid (qpf W b W.heap.size R.heap.size (.func (.func f) #[] #[]) d w y s.next (U.setRow R.heap.size #[.int .i64 d,.int .i64 w,.int .u64 y])) :=
    qfa R.heap.size HH.out ((az.below ah).below H) ((af.trans (But.of_below ah)).trans (But.of_below H)) ae a4 aq
   refine u.out _ _ t.out.box (λ_=>?_);clear u;refine wdn ?_;exact a7 _ _ t.out
  go_simp;have r:((W.alloc (.cells #[.pointer (some ⟨b,0,none⟩),.func (.func f) #[] #[]] 117)).drew.alloc (.cells #[.int .i64 0,.int .i64 0,.int .u64 0] 153)).heap[W.heap.size]?=_:=(kae _ _ _ (ltA hS)).trans hS;have ah:Below W.heap.size W ((W.alloc (.cells #[.pointer (some ⟨b,0,none⟩),.func (.func f) #[] #[]] 117)).drew.alloc (.cells #[.int .i64 0,.int .i64 0,.int .u64 0] 153)):=av.out.alloc av.out.size _;have be:((W.alloc (.cells #[.pointer (some ⟨b,0,none⟩),.func (.func f) #[] #[]] 117)).drew.alloc (.cells #[.int .i64 0,.int .i64 0,.int .u64 0] 153)).heap[W.heap.size+1]?=some (.cells #[.int .i64 0,.int .i64 0,.int .u64 0] 153):=by
   have:=qac (W.alloc (.cells #[.pointer (some ⟨b,0,none⟩),.func (.func f) #[] #[]] 117)).drew (.cells #[.int .i64 0,.int .i64 0,.int .u64 0] 153);rw[show(W.alloc (.cells #[.pointer (some ⟨b,0,none⟩),.func (.func f) #[] #[]] 117)).drew.heap.size=W.heap.size+1 from kad ..]at this;exact this
  have bj:=qab (HH.out.below ah);refine u.out _ _ r (λ_=>?_);clear u;refine rdq 4 (λK u=>?_);go_simp;refine(a2 _ bj.out).mono ?_;rintro e R ⟨rfl,az,ag⟩;simp only[];have ad:=(ag.block _ (ltA r) (by omega)).trans r;have bd:=(ag.block _ (ltA be) (by omega)).trans be;have af:=(But.of_below ah).trans ag;refine u.out _ _ ad (λ_=>?_);clear u;refine rdq 5 (λK u=>?_);go_simp;rw[aw.out];refine kdl (cH _ af) ?_;rintro e U ⟨rfl,H⟩;simp only[];have ae:=(H.block _ (ltA ad)).trans ad;have aq:=(H.block _ (ltA bd)).trans bd;refine u.out _ _ ae (λ_=>?_);clear u;refine rdq 7 (λK u=>?_);rw[kag (by rfl)];refine kbL 153 _ _ rfl (W.heap.size+1) #[.int .i64 d,.int .i64 w,.int .u64 y] rfl rfl 153 _ aq qg8 rfl (by simp[Value.oneCell']) ?_;have t:Hid (qpf W b W.heap.size (W.heap.size+1) (.func (.func f) #[] #[]) d w y s.next (U.setRow (W.heap.size+1) #[.int .i64 d,.int .i64 w,.int .u64 y])) :=
   qfa (W.heap.size+1) HH.out (az.below H) (af.trans (But.of_below H)) ae (by omega) aq
  refine u.out _ _ t.out.box (λ_=>?_);clear u;refine wdn ?_;exact a7 _ _ t.out
 case tail =>
  intro ax V hT;have t:=qab hT;clear hT a9 a8 av HH cH a2 aw;have N:=qaa t.out.box 0;have O:=qaa t.out.box 1;have P:=qaa t.out.hd 0;have Q:=qaa t.out.hd 1;have T:=qaa t.out.hd 2;have bo:d=0\/d=1\/d=2\/d=3\/d=4\/d=5\/d=6\/d=7\/d=8\/d=9\/d=10:=by omega
  rcases bo with k|k|k|k|k|k|k|k|k|k|k
  all_goals
   first|have e0:((d:Int)==0)=true:=by rw[k];rfl|have e0:((d:Int)==0)=false:=by rw[k];rfl
   first|have e2:((d:Int)==2)=true:=by rw[k];rfl|have e2:((d:Int)==2)=false:=by rw[k];rfl
   first|have e3:((d:Int)==3)=true:=by rw[k];rfl|have e3:((d:Int)==3)=false:=by rw[k];rfl
   first|have e4:((d:Int)==4)=true:=by rw[k];rfl|have e4:((d:Int)==4)=false:=by rw[k];rfl
   first|have e5:((d:Int)==5)=true:=by rw[k];rfl|have e5:((d:Int)==5)=false:=by rw[k];rfl
   first|have e6:((d:Int)==6)=true:=by rw[k];rfl|have e6:((d:Int)==6)=false:=by rw[k];rfl
   first|have e7:((d:Int)==7)=true:=by rw[k];rfl|have e7:((d:Int)==7)=false:=by rw[k];rfl
   first|have e8:((d:Int)==8)=true:=by rw[k];rfl|have e8:((d:Int)==8)=false:=by rw[k];rfl
   first|have e9:((d:Int)==9)=true:=by rw[k];rfl|have e9:((d:Int)==9)=false:=by rw[k];rfl
   first|have bk:((d:Int)==10)=true:=by rw[k];rfl|have bk:((d:Int)==10)=false:=by rw[k];rfl
  ·rw[kag k]at o;subst o;have bb:=am V t.out.src;clear k am cA j cN cB cX ak al cL cM
   go_wp2_with(first
    |(go_at_call 189;refine bb.mono ?_;clear bb;rintro e w7 ⟨hF,rfl⟩;obtain rfl:=hF))
   exact⟨t.out.but,rfl,_,t.out.src⟩
  all_goals
   rw[kac (by omega)]at o
   first
   |have h9:9<=d:=by omega
    clear h9;by_cases ai:(s.within:Int)=s.depth
    ·rw[kag ⟨by omega,ai⟩]at o;subst o;have cE:=ak V t.out.src ai;clear k am cA j cN cB cX ak al cL cM
     go_wp2_with(first
      |(go_at_call 183;refine cE.mono ?_;clear cE;rintro e w7 ⟨hF,bl,bm⟩;obtain rfl:=hF))
     exact⟨t.out.but.trans bl,rfl,bm⟩
    rw[kac (λhh=>ai hh.2)]at o;have cE:=al V t.out.src ai;clear am cA cN cB cX ak al
    cases L:qc4 s.bs s.lim w (s.pos+1) y with
    |error er =>
     rw[L]at o;simp only[]at o;subst o;obtain⟨en,pl⟩:=er;rw[L]at j;clear k cL cM aa
     go_wp2_with(first
      |(go_at_call 183;refine cE.mono ?_;clear cE;rintro e w4 ⟨rfl,ao,an⟩;have C:=qab (t.out.step ao an);clear t N O P Q T an ao;have N:=qaa C.out.box 0;have O:=qaa C.out.box 1;have P:=qaa C.out.hd 0;have Q:=qaa C.out.hd 1;have T:=qaa C.out.hd 2;have D:=j w4 C.out.src;clear j)
      |(go_at_call 220;refine D.mono ?_;clear D;rintro e w5 ⟨E,rfl,pz,a5⟩))
     exact qdF _ (by simp) a5 rfl (by show s.within+1<=_;omega) (λB ap ab=>⟨(C.out.but.trans E).trans ab,rfl,_,ap⟩)
    |ok xq =>
     obtain⟨x,q⟩:=xq;rw[L]at o j;simp only[]at o;rw[k]at o;have aj:=aa.out x q L
     first
     |rw[qyu]at o
      obtain⟨Z,X⟩:∃Z,Hid (qbn (thB I s.bs s.lim s.depth g (s.within+1)) x q []=Z):=⟨_,show _=_ from rfl⟩
      have G:=λB (hs:qad B b {s with pos:=q,within:=s.within+1}) (hb:But b W B)=>cL ai B q x hs hb aj
     |rw[qwP]at o
      obtain⟨Z,X⟩:∃Z,Hid (qa7 (qet I s.bs s.lim) (thB I s.bs s.lim s.depth g (s.within+1)) x q [] []=Z):=⟨_,show _=_ from rfl⟩
      have G:=λB (hs:qad B b {s with pos:=q,within:=s.within+1}) (hb:But b W B)=>cM ai B q x hs hb aj
     rw[X.out]at o G;clear k cL cM aa L X;rcases Z with⟨en,pl⟩|⟨ds,bp⟩
     all_goals
      simp only[]at o;subst o
      go_wp2_with(first
       |(go_at_call 183;refine cE.mono ?_;clear cE;rintro e w4 ⟨rfl,ao,an⟩;have C:=qab (t.out.step ao an);clear t N O P Q T an ao;have N:=qaa C.out.box 0;have O:=qaa C.out.box 1;have P:=qaa C.out.hd 0;have Q:=qaa C.out.hd 1;have T:=qaa C.out.hd 2;have D:=j w4 C.out.src;clear j)
       |(go_at_call 220;refine D.mono ?_;clear D;rintro e w5 ⟨E,rfl,z⟩;have m:=qab (C.out.step z E);clear C N O P Q T E z;have N:=qaa m.out.box 0;have O:=qaa m.out.box 1;have P:=qaa m.out.hd 0;have Q:=qaa m.out.hd 1;have T:=qaa m.out.hd 2;have J:=G w5 m.out.src m.out.but;clear G)
       |(go_at_call 224;refine J.mono ?_;clear J;rintro e w6 ⟨Y,ac⟩;first|(obtain⟨⟨v6,rfl,⟨a6,n6,c6,rfl⟩,bc⟩,F⟩:=ac)|(obtain⟨rfl,F⟩:=ac))
       |(go_at_call 225;refine J.mono ?_;clear J;rintro e w6 ⟨Y,ac⟩;first|(obtain⟨⟨v6,rfl,⟨a6,n6,c6,rfl⟩,bc⟩,F⟩:=ac)|(obtain⟨rfl,F⟩:=ac)))
      first
      |exact qdF _ (by simp) F.choose_spec rfl (by show s.within+1<=_;omega) (λB ap ab=>⟨(m.out.but.trans Y).trans ab,rfl,_,ap⟩)
      |exact qdF _ (by simp) F rfl (by show s.within+1<=_;omega) (λB ap ab=>⟨_,qeC results219 _ _,(m.out.but.trans Y).trans ab,⟨_,_,rfl,qwC _ m.out.but.size bn bc ab⟩,ap⟩)
   |rw[kac (by omega)]at o
    clear am j ak al cL cM;have D:=cA V t.out.src;clear cA
    cases L:qc4 s.bs s.lim w (s.pos+1) y with
    |error er =>
     rw[L]at o D;simp only[]at o;subst o;obtain⟨en,pl⟩:=er;clear k cN cB cX aa
     go_wp2_with(first
      |(go_at_call 220;refine D.mono ?_;clear D;rintro e w5 ⟨E,rfl,pz,a5⟩))
     exact⟨t.out.but.trans E,rfl,pz,a5⟩
    |ok xq =>
     obtain⟨x,q⟩:=xq;rw[L]at o D;simp only[]at o;have aj:=aa.out x q L
     first
     |have h9:d<=3:=by omega
      clear h9;rw[k]at o
      first|rw[qzq]at o|rw[qzb]at o|rw[qyr]at o
      subst o;clear k cN cB cX aa L
      go_wp2_with(first
       |(go_at_call 220;refine D.mono ?_;clear D;rintro e w5 ⟨E,rfl,z⟩;have m:=qab (t.out.step z E);clear t N O P Q T E z;have N:=qaa m.out.box 0;have O:=qaa m.out.box 1;have P:=qaa m.out.hd 0;have Q:=qaa m.out.hd 1;have T:=qaa m.out.hd 2))
      exact⟨_,qeC results219 _ _,m.out.but,⟨_,_,rfl,rfl⟩,m.out.src⟩
     |have h9:7<=d:=by omega
      clear h9;rw[k]at o
      first
      |rw[qy4]at o
       obtain⟨Z,X⟩:∃Z,Hid (qgs s.bs s.lim x q []=Z):=⟨_,show _=_ from rfl⟩
       have G:=λB (hs:qad B b {s with pos:=q}) (_:But b W B)=>cB B q x hs aj
      |rw[qyv]at o
       obtain⟨Z,X⟩:∃Z,Hid (qdm s.bs s.lim x q [] 0=Z):=⟨_,show _=_ from rfl⟩
       have G:=λB (hs:qad B b {s with pos:=q}) (hb:But b W B)=>cX B q x hs hb aj
      rw[X.out]at o G;clear k cN cB cX aa L X;rcases Z with⟨en,pl⟩|⟨a0,bp⟩
      all_goals
       simp only[]at o;subst o
       go_wp2_with(first
        |(go_at_call 220;refine D.mono ?_;clear D;rintro e w5 ⟨E,rfl,z⟩;have m:=qab (t.out.step z E);clear t N O P Q T E z;have N:=qaa m.out.box 0;have O:=qaa m.out.box 1;have P:=qaa m.out.hd 0;have Q:=qaa m.out.hd 1;have T:=qaa m.out.hd 2;have J:=G w5 m.out.src m.out.but;clear G)
        |(go_at_call 222;refine J.mono ?_;clear J;rintro e w6 ⟨Y,ac⟩;first|(obtain⟨⟨v6,rfl,o6,b6,a6,n6,c6,rfl⟩,F⟩:=ac)|(obtain⟨rfl,F⟩:=ac))
        |(go_at_call 223;refine J.mono ?_;clear J;rintro e w6 ⟨Y,rfl,F⟩))
       first
       |exact⟨m.out.but.trans Y,rfl,F⟩
       |exact⟨_,qeC results219 _ _,m.out.but.trans Y,⟨_,_,rfl,rfl⟩,F⟩
       |exact⟨_,qeC results219 _ _,m.out.but.trans Y,⟨_,_,rfl,qrb (by have:=m.out.but.size;omega) ⟨o6,b6,_,_,_,rfl⟩⟩,F⟩
     |rw[qyU (by omega)]at o
      have G:=λB (hs:qad B b {s with pos:=q})=>cN B q x hs aj;obtain⟨Z,X⟩:∃Z,Hid (nbF d w x q=Z):=⟨_,show _=_ from rfl⟩
      rw[X.out]at o G;clear k cN cB cX aa L;rcases Z with⟨en,pl⟩|bt
      all_goals
       simp only[]at o;subst o
       try have bi:=qab (qgy X.out)
       clear X
       go_wp2_with(first
        |(go_at_call 220;refine D.mono ?_;clear D;rintro e w5 ⟨E,rfl,z⟩;have m:=qab (t.out.step z E);clear t N O P Q T E z;have N:=qaa m.out.box 0;have O:=qaa m.out.box 1;have P:=qaa m.out.hd 0;have Q:=qaa m.out.hd 1;have T:=qaa m.out.hd 2;have J:=G w5 m.out.src;clear G)
        |(go_at_call 221;refine J.mono ?_;clear J;rintro e w6 ⟨Y,rfl,F⟩))
       first
       |exact⟨m.out.but.trans Y,rfl,F⟩
       |exact⟨_,qeC results219 _ _,m.out.but.trans Y,⟨_,_,rfl,rfl,bi.out⟩,F⟩

structure qjL(b m:Nat)(W W':World):Prop where
 os:W'.os=W.os
 tape:W'.tape=W.tape
 output:W'.output=W.output
 size:W.heap.size<=W'.heap.size
 block:∀k,k<W.heap.size->k≠b->k≠m->W'.heap[k]?=W.heap[k]?
theorem qjL.of1(h:But b W W'):qjL b m W W':=⟨h.os,h.tape,h.output,h.size,λk a c _=>h.block k a c⟩
theorem qjL.of2(h:But m W W'):qjL b m W W':=⟨h.os,h.tape,h.output,h.size,λk a _ c=>h.block k a c⟩
theorem qjL.trans{A B C:World}(h:qjL b m A B)(k:qjL b m B C):qjL b m A C :=
 ⟨k.os.trans h.os,k.tape.trans h.tape,k.output.trans h.output,kaj h.size k.size,λi d a c=>(k.block i (by have:=h.size;omega) a c).trans (h.block i d a c)⟩
theorem qad.off(h:qad V b s)(k:m≠b)(hi:∀g off,s.bs≠[]->s.ia=some ⟨g,off,none⟩->g≠m)(d:But m V V'):qad V' b s :=
 ⟨(d.block b (ltA h.row) (Ne.symm k)).trans h.row,λi f=>by
  obtain⟨g,off,a,j,c⟩:=h.inp i f;exact⟨g,off,a,j,(kaN (w:=V) (d.block g (kaI c) (hi g off (λe=>by simp[e]at f) a))).trans c⟩,h.len,h.le⟩
theorem qaJ.but{ks:List (List UInt8)}(h:qaJ V m ks)(d:m≠b)(a:But b V V'):qaJ V' m ks :=
 h.kept (row:=some b) ⟨a.os,a.tape,a.output,a.size,λk c f=>a.block k c (λe=>f (by rw[e]))⟩ (λe=>d (by injection e))
def qjo(W:World)(b m:Nat)(s:Src)(ks:List (List UInt8))(r:Except (Int×Int) (List UInt8×Nat))(e:Ending)(W':World):Prop :=
 qjL b m W W'/\match r with
 |.ok (l,p)=>e=.returned (.string ⟨l.toArray⟩)/\qad W' b {s with pos:=p}/\qaJ W' m (l::ks)
 |.error (en,pl)=>qan en pl e/\∃p,qad W' b {s with pos:=p}
theorem qgj(bs:List UInt8)(lim:Int):∀(n p b:Nat) (a l:List UInt8) (r:Nat),qdm bs lim n p a b=.ok (l,r)->l.length=a.length+n/\r=p+n
 |0,p,b,a,l,r,h=>by
  rw[qdm]at h;split at h
  ·injection h with h;injection h with h1 h2;subst h1;subst h2;exact⟨rfl,rfl⟩
  cases h
 |n+1,p,b,a,l,r,h=>by
  rw[qdm]at h;split at h
  ·cases h
  split at h
  ·cases h
  split at h
  ·cases h
  have:=qgj bs lim n _ _ _ l r h;rw[kaa]at this;simp at this;omega
theorem qkR(W:World)(b m:Nat)(s:Src)(c:UInt8)(ks:List (List UInt8))(hd:Nat->Nat×Nat×Nat)(f n w j:Nat)(h:qad W b s)(Y:qgm s c)(hk:qaJ W m ks)(bc:m≠b)(ba:∀a4 off,s.bs≠[]->s.ia=some ⟨a4,off,none⟩->a4≠m)(bi:ks.length<1000000000)(a9:hd c.toNat=(n,w,j))(hw:w<=8)(hg:w=0\/j=0)(a8:j<18446744073709551616)(bj:s.bs.length<=200000000)(hf:f=48\/f=49)(hU:∀V,But b W V->U8 V)(bg:7<b)(cH:∀V,But b W V->Calls prog f #[.int .u8 c.toNat] V λe T=>e=.returned (.agg #[.int .i64 n,.int .i64 w,.int .u64 j])/\Below V.heap.size V T):Calls prog 227 #[.agg #[.pointer (some ⟨b,0,none⟩),.func (.func f) #[] #[]],.map (some m)] W (qjo W b m s ks (qet hd s.bs s.lim ks s.pos)):=by
 obtain⟨az,HR⟩:∃az,Hid (qet hd s.bs s.lim ks s.pos=az):=⟨_,show _=_ from rfl⟩
 rw[HR.out];have k:=HR.out;unfold qet at k;rw[Y.1]at k;simp only[]at k;rw[kac Y.2,a9]at k;simp only[]at k;clear HR a9;have aj:∀V,qad V b s->Calls prog 188 #[.pointer (some ⟨b,0,none⟩)] V λe H=>e=.returned (.int .u8 c.toNat)/\qad H b s.next/\But b V H:=λV d=>qaw V b s c d Y
 have cA:∀V,qad V b s.next->Calls prog 220 #[.agg #[.pointer (some ⟨b,0,none⟩),.func (.func f) #[] #[]],.agg #[.int .i64 n,.int .i64 w,.int .u64 j]] V (qhy V b s.next (λx:Nat=>.int .u64 x) (qc4 s.bs s.lim w (s.pos+1) j)):=λV d=>qbZ V b s.next f n w j hw hg d
 have ag:Hid (∀x q,qc4 s.bs s.lim w (s.pos+1) j=.ok (x,q)->x<18446744073709551616):=λx q hx=>qrr ⟨hw,hg,a8⟩ hx;have cX:∀(V:World) (p x:Nat),qad V b {s with pos:=p}->But b W V->x<18446744073709551616->Calls prog 223 #[.agg #[.pointer (some ⟨b,0,none⟩),.func (.func f) #[] #[]],.int .u64 x] V (qhy V b {s with pos:=p} (λl:List UInt8=>.string ⟨l.toArray⟩) (qdm s.bs s.lim x p [] 0)):=λV p x d hB hx=>qeF V b {s with pos:=p} f x hx d (hU V hB) bg bj;have ai:∀V,qad V b s.next->Calls prog 189 #[.pointer (some ⟨b,0,none⟩),.int .i64 9] V λe H=>qan 9 s.pos e/\H=V:=λV d=>by
  have:=qav V b s.next 9 d
  rwa[show((s.next.pos:Int)-1)=s.pos by show(((s.pos+1:Nat)):Int)-1=s.pos;omega]at this
 have ad:∀(V:World) (p:Nat),qad V b {s with pos:=p}->Calls prog 189 #[.pointer (some ⟨b,0,none⟩),.int .i64 12] V λe H=>qan 12 ((p:Int)-1) e/\H=V:=λV p d=>qav V b {s with pos:=p} 12 d;have av:Hid (∀V,But b W V->qaJ V m ks):=λV d=>hk.but bc d;have bd:Hid (∀V T p,qad V b {s with pos:=p}->But m V T->qad T b {s with pos:=p}):=λV T p d hB=>d.off bc ba hB;have Q:=qab h;have bl:=ltA h.row;have ak:Below W.heap.size W (W.alloc (.cells #[.pointer (some ⟨b,0,none⟩),.func (.func f) #[] #[]] 117)).drew:=(bwA).drew;have aa:=qab ak;have ax:=qab (h.below ak);have ay:Hid ((W.alloc (.cells #[.pointer (some ⟨b,0,none⟩),.func (.func f) #[] #[]] 117)).drew.heap[W.heap.size]?=some (.cells #[.pointer (some ⟨b,0,none⟩),.func (.func f) #[] #[]] 117)):=qac W _;have ab:Hid (∀(ah:Array Value) (V:World),(callFunc f ah).run prog V=.ok (.enter f ah) V):=by
  show∀_ _,_;rcases hf with rfl|rfl<;>exact λah V=>by kernel_rfl
 clear h Y ak hw hg a8 hf hU hk ba;go_enter func227,ntmps227
 go_wp2_with fail
 refine quW (λM V=>qpf W b W.heap.size M (.func (.func f) #[] #[]) n w j s.next V) (λM=>{tmps:=#[.agg #[.pointer (some ⟨b,0,none⟩),.func (.func f) #[] #[]],.map (some m),.pointer (some ⟨W.heap.size,0,none⟩),undef,.string ⟨#[]⟩,.pointer (some ⟨M,0,none⟩),undef,.pointer (some ⟨W.heap.size,1,none⟩),.func (.func f) #[] #[],.pointer (some ⟨W.heap.size,0,none⟩),.pointer (some ⟨b,0,none⟩),.int .u8 c.toNat,.agg #[.int .i64 n,.int .i64 w,.int .u64 j],undef,undef,undef,undef,undef,undef,undef,undef,undef,undef,undef,undef,undef,undef,undef,undef,undef,undef,undef],defers:=[]}) (λaq=>?reg) ?tail
 case reg =>
  refine kaM (S:=λV=>V.heap[W.heap.size]?=some (.cells #[.pointer (some ⟨b,0,none⟩),.func (.func f) #[] #[]] 117)) (by kernel_rfl) ?_;have C:=ay.out;refine kaD (i:=0) (v:=.pointer (some ⟨W.heap.size,1,none⟩)) rfl (by kernel_rfl) (by kernel_rfl) (by kernel_rfl) (λ_ _ _ h=>h) (.inl ⟨rfl,λV d=>rfl⟩) C ?_;refine kaD (i:=1) (v:=.func (.func f) #[] #[]) rfl (by kernel_rfl) (by kernel_rfl) (by kernel_rfl) (λ_ _ _ h=>h) (.inl ⟨rfl,λV d=>?y1⟩) C ?_
  case y1=>(have h2:=qaa d 1;go_simp)
  refine kaD (i:=2) (v:=.pointer (some ⟨W.heap.size,0,none⟩)) rfl (by kernel_rfl) (by kernel_rfl) (by kernel_rfl) (λ_ _ _ h=>h) (.inl ⟨rfl,λV d=>rfl⟩) C ?_;refine kaD (i:=3) (v:=.pointer (some ⟨b,0,none⟩)) rfl (by kernel_rfl) (by kernel_rfl) (by kernel_rfl) (λ_ _ _ h=>h) (.inl ⟨rfl,λV d=>?y3⟩) C ?_
  case y3=>(have h2:=qaa d 0;go_simp)
  refine qmU 4 6 (λK a=>?_) (λK a=>?_)
  ·go_simp;refine(aj _ ax.out).mono ?_;rintro e A ⟨rfl,af,I⟩;simp only[];have D:=(I.block _ (ltA C) (by omega)).trans C;have G:=(But.of_below aa.out).trans I;have an:=ltA D;refine a.out _ _ D (λ_=>?_);clear a;refine qmU 5 6 (λK a=>?_) (λK a=>?_)
   ·go_simp;rw[ab.out];refine kdl (cH _ G) ?_;rintro e y ⟨rfl,t⟩;simp only[];have z:=(t.block _ an).trans D;have ae:=ltA z;refine a.out _ _ z (λ_=>?_);clear a;refine rdq 6 (λK a=>?_);go_simp;have E:(y.alloc (.cells #[.int .i64 0,.int .i64 0,.int .u64 0] 153)).heap[W.heap.size]?=_:=(kae _ _ _ ae).trans z;refine a.out _ _ E (λ_=>?_);clear a;refine rdq 7 (λK a=>?_);rw[kag (by rfl)];refine kbL 153 _ _ rfl y.heap.size #[.int .i64 n,.int .i64 w,.int .u64 j] rfl rfl 153 _ (qac y _) qg8 rfl (by simp[Value.oneCell']) ?_;have o:Hid (qpf W b W.heap.size y.heap.size (.func (.func f) #[] #[]) n w j s.next ((y.alloc (.cells #[.int .i64 0,.int .i64 0,.int .u64 0] 153)).setRow y.heap.size #[.int .i64 n,.int .i64 w,.int .u64 j])) :=
     qfa y.heap.size Q.out ((af.below t).below bwA) ((G.trans (But.of_below t)).trans (But.of_below bwA)) E ae (qac y _)
    refine a.out _ _ o.out.box (λ_=>?_);clear a;refine wdn ?_;exact aq _ _ o.out
   go_simp;have z:(A.alloc (.cells #[.int .i64 0,.int .i64 0,.int .u64 0] 153)).heap[W.heap.size]?=_:=(kae _ _ _ an).trans D;have L:Below A.heap.size A (A.alloc (.cells #[.int .i64 0,.int .i64 0,.int .u64 0] 153)):=bwA;have ae:=ltA z;refine a.out _ _ z (λ_=>?_);clear a;refine rdq 5 (λK a=>?_);go_simp;rw[ab.out];refine kdl (cH _ (G.trans (But.of_below L))) ?_;rintro e y ⟨rfl,t⟩;simp only[];have E:=(t.block _ ae).trans z;have R:=(t.block A.heap.size (by simp)).trans (qac A (.cells #[.int .i64 0,.int .i64 0,.int .u64 0] 153));refine a.out _ _ E (λ_=>?_);clear a;refine rdq 7 (λK a=>?_);rw[kag (by rfl)];refine kbL 153 _ _ rfl A.heap.size #[.int .i64 n,.int .i64 w,.int .u64 j] rfl rfl 153 _ R qg8 rfl (by simp[Value.oneCell']) ?_;have o:Hid (qpf W b W.heap.size A.heap.size (.func (.func f) #[] #[]) n w j s.next (y.setRow A.heap.size #[.int .i64 n,.int .i64 w,.int .u64 j])) :=
    qfa A.heap.size Q.out ((af.below L).below t) ((G.trans (But.of_below L)).trans (But.of_below t)) E an R
   refine a.out _ _ o.out.box (λ_=>?_);clear a;refine wdn ?_;exact aq _ _ o.out
  go_simp;have z:((W.alloc (.cells #[.pointer (some ⟨b,0,none⟩),.func (.func f) #[] #[]] 117)).drew.alloc (.cells #[.int .i64 0,.int .i64 0,.int .u64 0] 153)).heap[W.heap.size]?=_:=(kae _ _ _ (ltA C)).trans C;have L:Below W.heap.size W ((W.alloc (.cells #[.pointer (some ⟨b,0,none⟩),.func (.func f) #[] #[]] 117)).drew.alloc (.cells #[.int .i64 0,.int .i64 0,.int .u64 0] 153)):=aa.out.alloc aa.out.size _;have a7:((W.alloc (.cells #[.pointer (some ⟨b,0,none⟩),.func (.func f) #[] #[]] 117)).drew.alloc (.cells #[.int .i64 0,.int .i64 0,.int .u64 0] 153)).heap[W.heap.size+1]?=some (.cells #[.int .i64 0,.int .i64 0,.int .u64 0] 153):=by
   have:=qac (W.alloc (.cells #[.pointer (some ⟨b,0,none⟩),.func (.func f) #[] #[]] 117)).drew (.cells #[.int .i64 0,.int .i64 0,.int .u64 0] 153);rw[show(W.alloc (.cells #[.pointer (some ⟨b,0,none⟩),.func (.func f) #[] #[]] 117)).drew.heap.size=W.heap.size+1 from kad ..]at this;exact this
  have be:=qab (Q.out.below L);refine a.out _ _ z (λ_=>?_);clear a;refine rdq 4 (λK a=>?_);go_simp;refine(aj _ be.out).mono ?_;rintro e A ⟨rfl,af,I⟩;simp only[];have D:=(I.block _ (ltA z) (by omega)).trans z;have a6:=(I.block _ (ltA a7) (by omega)).trans a7;have G:=(But.of_below L).trans I;refine a.out _ _ D (λ_=>?_);clear a;refine rdq 5 (λK a=>?_);go_simp;rw[ab.out];refine kdl (cH _ G) ?_;rintro e y ⟨rfl,t⟩;simp only[];have E:=(t.block _ (ltA D)).trans D;have R:=(t.block _ (ltA a6)).trans a6;refine a.out _ _ E (λ_=>?_);clear a;refine rdq 7 (λK a=>?_);rw[kag (by rfl)];refine kbL 153 _ _ rfl (W.heap.size+1) #[.int .i64 n,.int .i64 w,.int .u64 j] rfl rfl 153 _ R qg8 rfl (by simp[Value.oneCell']) ?_;have o:Hid (qpf W b W.heap.size (W.heap.size+1) (.func (.func f) #[] #[]) n w j s.next (y.setRow (W.heap.size+1) #[.int .i64 n,.int .i64 w,.int .u64 j])) :=
   qfa (W.heap.size+1) Q.out (af.below t) (G.trans (But.of_below t)) E (by omega) R
  refine a.out _ _ o.out.box (λ_=>?_);clear a;refine wdn ?_;exact aq _ _ o.out
 case tail =>
  intro M V hT;have o:=qab hT;clear hT ay ax aa Q cH aj ab;have r:=qaa o.out.box 0;have k1:=qaa o.out.box 1;have m0:=qaa o.out.hd 0;have m1:=qaa o.out.hd 1;have m2:=qaa o.out.hd 2;by_cases O:n=8
  ·have e8:((n:Int)==8)=true:=by rw[O];rfl
   have bf:((n:Int) != 8)=false:=by rw[O];rfl
   rw[kag O]at k;clear ai O
   go_wp2_with fail
   refine kaM (S:=λU=>U.heap[W.heap.size]?=some (.cells #[.pointer (some ⟨b,0,none⟩),.func (.func f) #[] #[]] 117)/\U.heap[M]?=some (.cells #[.int .i64 n,.int .i64 w,.int .u64 j] 153)) (by kernel_rfl) ?_;have B:=qab (o.out.step (o.out.src.below (kam _ _).drew) (But.of_below (kam _ _).drew));change wpAnyH _ _ _ _ _ _ _ _ (World.drew V);refine kaD (i:=0) (v:=.agg #[.pointer (some ⟨b,0,none⟩),.func (.func f) #[] #[]]) rfl (by kernel_rfl) (by kernel_rfl) (by kernel_rfl) (λ_ _ _ h=>h) (.inl ⟨rfl,λU d=>?y0⟩) ⟨B.out.box,B.out.hd⟩ ?_
   case y0=>(have c0:=qaa d.1 0;have c1:=qaa d.1 1;go_simp)
   refine kaD (i:=1) (v:=.agg #[.pointer (some ⟨b,0,none⟩),.func (.func f) #[] #[]]) rfl (by kernel_rfl) (by kernel_rfl) (by kernel_rfl) (λ_ _ _ h=>h) (.inl ⟨rfl,λU d=>?y1⟩) ⟨B.out.box,B.out.hd⟩ ?_
   case y1=>(have c0:=qaa d.1 0;have c1:=qaa d.1 1;go_simp)
   refine kaD (i:=2) (v:=.agg #[.int .i64 n,.int .i64 w,.int .u64 j]) rfl (by kernel_rfl) (by kernel_rfl) (by kernel_rfl) (λ_ _ _ h=>h) (.inl ⟨rfl,λU d=>?y2⟩) ⟨B.out.box,B.out.hd⟩ ?_
   case y2=>(have c0:=qaa d.2 0;have c1:=qaa d.2 1;have c2:=qaa d.2 2;go_simp)
   have a0:=cA _ B.out.src;clear cA o r k1 m0 m1 m2;refine rdq 3 (λK a=>?_);go_simp;refine a0.mono ?_;clear a0;rintro e w5 ⟨al,Z⟩
   cases ha:qc4 s.bs s.lim w (s.pos+1) j with
   |error er =>
    rw[ha]at k Z;simp only[]at k;subst k;obtain⟨en,pl⟩:=er;obtain⟨hF,pz,ap⟩:=(show qan en pl e/\∃p,qad w5 b {s with pos:=p}from Z)
    obtain rfl:=hF;exact⟨rfl,.of1 (B.out.but.trans al),rfl,pz,ap⟩
   |ok xq =>
    obtain⟨x,q⟩:=xq;rw[ha]at k Z;simp only[]at k;have bk:=ag.out x q ha;obtain⟨rfl,a5⟩:=(show e=.returned (.int .u64 x)/\qad w5 b {s with pos:=q}from Z)
    have F:=qab (B.out.step a5 al);simp only[];refine a.out _ _ ⟨F.out.box,F.out.hd⟩ (λ_=>?_);clear a;have a3:=cX w5 q x F.out.src F.out.but bk;clear cX ag ha Z al a5 B;refine rdq 4 (λK a=>?_);go_simp;refine a3.mono ?_;clear a3;rintro e P ⟨am,g⟩
    cases hz:qdm s.bs s.lim x q [] 0 with
    |error er =>
     rw[hz]at k g;simp only[]at k;subst k;obtain⟨en,pl⟩:=er;obtain⟨hF,pz,ap⟩:=(show qan en pl e/\∃p,qad P b {s with pos:=p}from g)
     obtain rfl:=hF;exact⟨rfl,.of1 (F.out.but.trans am),rfl,pz,ap⟩
    |ok lr =>
     obtain⟨l,au⟩:=lr;rw[hz]at k g;simp only[]at k;have bb:=qgj _ _ _ _ _ _ _ _ hz;simp only[kay,kaL]at bb;obtain⟨rfl,ao⟩:=(show e=.returned (.string ⟨l.toArray⟩)/\qad P b {s with pos:=au}from g)
     have u:=qab (F.out.step ao am);have aw:Hid (l.length<=1000000000):=by
      show _<=_;have Y:au<=s.bs.length:=ao.le;omega
     simp only[];refine a.out _ _ ⟨u.out.box,u.out.hd⟩ (λ_=>?_);clear a hz bb g am ao F;refine rdq 5 (λK a=>?_);go_simp;refine a.out _ _ ⟨u.out.box,u.out.hd⟩ (λ_=>?_);clear a;refine wdn ?_;have r:=qaa u.out.box 0;by_cases N:l∈ks
     ·rw[kag N]at k;subst k;have X:=qiq P m ks l (av.out P u.out.but) N aw.out;clear N
      go_wp2_with(first
       |(go_at_call 212;refine X.mono ?_;clear X r;rintro e w7 ⟨rfl,J⟩;have ac:=qab (u.out.step (u.out.src.below J) (But.of_below J));clear u J;have r:=qaa ac.out.box 0;have a2:=ad w7 au ac.out.src;clear ad)
       |(go_at_call 189;refine a2.mono ?_;clear a2;rintro e w8 ⟨hF,rfl⟩;obtain rfl:=hF))
      exact⟨rfl,.of1 ac.out.but,rfl,_,ac.out.src⟩
     rw[kac N]at k;subst k;have X:=qmH P m ks l (av.out P u.out.but) N bi aw.out;clear N ad
     go_wp2_with(first
      |(go_at_call 212;refine X.mono ?_;clear X r;rintro e w7 ⟨rfl,bh,J⟩))
     go_ret;exact⟨(qjL.of1 u.out.but).trans (qjL.of2 J),rfl,bd.out _ _ _ u.out.src J,bh⟩
  have e8:((n:Int)==8)=false:=by simp;omega
  have bf:((n:Int) != 8)=true:=by simp;omega
  rw[kac O]at k;subst k;have a1:=ai V o.out.src;clear O ai cA cX ad ag
  go_wp2_with(first
   |(go_at_call 189;refine a1.mono ?_;clear a1;rintro e w7 ⟨hF,rfl⟩;obtain rfl:=hF))
  exact⟨rfl,.of1 o.out.but,rfl,_,o.out.src⟩
theorem qfQ(W:World)(b m:Nat)(s:Src)(f:Nat)(q:Int)(h:qad W b s)(o:∀V,qad V b s->Calls prog 188 #[.pointer (some ⟨b,0,none⟩)] V λe k=>qan q s.pos e/\Below V.heap.size V k):Calls prog 227 #[.agg #[.pointer (some ⟨b,0,none⟩),.func (.func f) #[] #[]],.map (some m)] W λe k=>But b W k/\qan q s.pos e/\∃p,qad k b {s with pos:=p}:=by
 have j:=qab h;have r:Below W.heap.size W (W.alloc (.cells #[.pointer (some ⟨b,0,none⟩),.func (.func f) #[] #[]] 117)).drew:=(bwA).drew;have c:=qab r;have t:Hid ((W.alloc (.cells #[.pointer (some ⟨b,0,none⟩),.func (.func f) #[] #[]] 117)).drew.heap[W.heap.size]?=some (.cells #[.pointer (some ⟨b,0,none⟩),.func (.func f) #[] #[]] 117)):=qac W _;clear h r;go_enter func227,ntmps227
 go_wp2_with fail
 refine kaM (S:=λV=>V.heap[W.heap.size]?=some (.cells #[.pointer (some ⟨b,0,none⟩),.func (.func f) #[] #[]] 117)) (by kernel_rfl) ?_;have a:=t.out;refine kaD (i:=0) (v:=.pointer (some ⟨W.heap.size,1,none⟩)) rfl (by kernel_rfl) (by kernel_rfl) (by kernel_rfl) (λ_ _ _ h=>h) (.inl ⟨rfl,λV g=>rfl⟩) a ?_;refine kaD (i:=1) (v:=.func (.func f) #[] #[]) rfl (by kernel_rfl) (by kernel_rfl) (by kernel_rfl) (λ_ _ _ h=>h) (.inl ⟨rfl,λV g=>?y1⟩) a ?_
 case y1=>(have u:=qaa g 1;go_simp)
 refine kaD (i:=2) (v:=.pointer (some ⟨W.heap.size,0,none⟩)) rfl (by kernel_rfl) (by kernel_rfl) (by kernel_rfl) (λ_ _ _ h=>h) (.inl ⟨rfl,λV g=>rfl⟩) a ?_;refine kaD (i:=3) (v:=.pointer (some ⟨b,0,none⟩)) rfl (by kernel_rfl) (by kernel_rfl) (by kernel_rfl) (λ_ _ _ h=>h) (.inl ⟨rfl,λV g=>?y3⟩) a ?_
 case y3=>(have u:=qaa g 0;go_simp)
 refine qmU 4 6 (λK l=>?_) (λK l=>?_)
 ·go_simp;refine(o _ (j.out.below c.out)).mono ?_;rintro e x ⟨hF,d⟩;obtain rfl:=hF;exact⟨rfl,(But.of_below c.out).trans (But.of_below d),rfl,_,(j.out.below c.out).below d⟩
 go_simp;have w:((W.alloc (.cells #[.pointer (some ⟨b,0,none⟩),.func (.func f) #[] #[]] 117)).drew.alloc (.cells #[.int .i64 0,.int .i64 0,.int .u64 0] 153)).heap[W.heap.size]?=_:=(kae _ _ _ (ltA a)).trans a;have n:Below W.heap.size W ((W.alloc (.cells #[.pointer (some ⟨b,0,none⟩),.func (.func f) #[] #[]] 117)).drew.alloc (.cells #[.int .i64 0,.int .i64 0,.int .u64 0] 153)):=c.out.alloc c.out.size _;refine l.out _ _ w (λ_=>?_);clear l;refine rdq 4 (λK l=>?_);go_simp;refine(o _ (j.out.below n)).mono ?_;rintro e x ⟨hF,d⟩;obtain rfl:=hF;exact⟨rfl,(But.of_below n).trans (But.of_below d),rfl,_,(j.out.below n).below d⟩
structure qfK(f:Nat)(hd:Nat->Nat×Nat×Nat)(b:Nat)(W:World):Prop where
 fn:f=48\/f=49
 so:∀c,c<256->(hd c).1<=10
 fit:∀c,c<256->(hd c).2.1<=8/\((hd c).2.1=0\/(hd c).2.2=0)/\(hd c).2.2<18446744073709551616
 call:∀(c:UInt8) (V:World),But b W V->Calls prog f #[.int .u8 c.toNat] V λe V'=>e=.returned (.agg #[.int .i64 (hd c.toNat).1,.int .i64 (hd c.toNat).2.1,.int .u64 (hd c.toNat).2.2])/\Below V.heap.size V V'
theorem qfK.but{f:Nat}(h:qfK f hd b W)(a:But b W V):qfK f hd b V:=⟨h.fn,h.so,h.fit,λc U d=>h.call c U (a.trans d)⟩
theorem qm2(W:World)(b m:Nat)(s:Src)(ks:List (List UInt8))(i:Nat->Nat×Nat×Nat)(f:Nat)(h:qad W b s)(q:qaJ W m ks)(u:m≠b)(p:∀g off,s.bs≠[]->s.ia=some ⟨g,off,none⟩->g≠m)(r:ks.length<1000000000)(t:s.bs.length<=200000000)(o:∀V,But b W V->U8 V)(n:7<b)(d:qfK f i b W):Calls prog 227 #[.agg #[.pointer (some ⟨b,0,none⟩),.func (.func f) #[] #[]],.map (some m)] W (qjo W b m s ks (qet i s.bs s.lim ks s.pos)):=by
 rcases qaT h with a|a|⟨c,a⟩
 ·have e:qet i s.bs s.lim ks s.pos=.error (9,(s.pos:Int)):=by
   unfold qet;rw[kaC (by have:s.pos=s.bs.length:=a;omega)]
  rw[e];refine(qfQ W b m s f 9 h (λV l=>qb0 V b s l a)).mono ?_;rintro e w ⟨a,j,k⟩;exact⟨.of1 a,j,k⟩
 ·have e:qet i s.bs s.lim ks s.pos=.error (8,(s.pos:Int)):=by
   unfold qet;rw[kab a.1];simp only[];rw[kag a.2]
  rw[e];refine(qfQ W b m s f 8 h (λV l=>qbb V b s l a)).mono ?_;rintro e w ⟨a,j,k⟩;exact⟨.of1 a,j,k⟩
 exact qkR W b m s c ks i f _ _ _ h a q u p r rfl (d.fit _ c.toNat_lt).1 (d.fit _ c.toNat_lt).2.1 (d.fit _ c.toNat_lt).2.2 t d.fn o n (d.call c)

end
end Go.Proofs.YtmajcjammmjimaaGreatDoor
