import Derived.Test.YtmajcjammmjimaaGreatDoorCq16
set_option maxRecDepth 100000
set_option maxHeartbeats 8000000
set_option linter.all false
namespace Go.Proofs.YtmajcjammmjimaaGreatDoor
open Go.Proofs.Tryz
variable{b k m p q:Nat}{V V' W:World}{xs:List Value}{es:List (Lit×DataW Unit)}{fv v:Value}{s:Src}{ks:List (List UInt8)}{bs l:List UInt8}{d:DataW Unit}{rd:Nat->Except (Int×Int) (DataW Unit×Nat)}
section
open Go.RowKit
def qc7(k:Nat)(V:World)(F:Nat->Prop)(xs:List Value)(es:List (Lit×DataW Unit)):Prop :=
 ∀(i:Nat) (key:Lit) (d:DataW Unit),es[i]?=some (key,d)->∃l x,key=.string l/\xs[2*i]?=some (.string ⟨l.toArray⟩)/\xs[2*i+1]?=some x/\qah k V F x d
theorem qc7.same{F G:Nat->Prop}(h:qc7 k V F xs es)(f:∀k,F k->G k)(j:∀k,F k->V'.heap[k]?=V.heap[k]?):qc7 k V' G xs es:=λi m d g=>by
 obtain⟨l,x,a,b,c,e⟩:=h i m d g;exact⟨l,x,a,b,c,e.same f j⟩
theorem But.trans'{A B C:World}(h:But b A B)(k:qjL b m B C)(d:A.heap.size<=m:=by omega):But b A C :=
 ⟨k.os.trans h.os,k.tape.trans h.tape,k.output.trans h.output,kaj h.size k.size,λi c a=>(k.block i (by have:=h.size;omega) a (by omega)).trans (h.block i c a)⟩
structure qrc(k:Nat)(W:World)(b:Nat)(fv:Value)(s:Src)(p:Nat)(v:Value)(es:List (Lit×DataW Unit))(ks:List (List UInt8))(V:World):Prop where
 src:qad V b {s with pos:=p}
 but:But b W V
 box:V.heap[W.heap.size]?=some (.cells #[.pointer (some ⟨b,0,none⟩),fv] 117)
 keys:qaJ V (W.heap.size+1) ks
 own:∃xs,V.ownsRow (W.heap.size+2) 124 2 v es.length xs/\qc7 k V (λj=>W.heap.size+2<=j/\j<V.heap.size/\some j≠v.ownBlock) xs es
 size:W.heap.size+2<=V.heap.size
theorem qfS{W':World}{base:Nat}{t:TypeId}{size:Nat}{n:Nat}(h:W.ownsRow base t size v n xs)(k:qjL b m W W')(p:b<base)(o:m<base):W'.ownsRow base t size v n xs:=by
 obtain⟨i,a⟩:=h;refine⟨i,?_⟩;rcases a with a|⟨g,d,f,e,l,c,j⟩
 ·exact .inl a
 exact .inr ⟨g,d,f,e,l,(k.block g (ltA c) (by omega) (by omega)).trans c,j⟩
theorem qrc.step{ks':List (List UInt8)}(h:qrc k W b fv s p v es ks V)(l:b<W.heap.size)(g:qad V' b {s with pos:=q})(a:qjL b (W.heap.size+1) V V')(f:qaJ V' (W.heap.size+1) ks'):qrc k W b fv s q v es ks' V':=by
 obtain⟨i,d,e⟩:=h.own;have m:=h.size;refine⟨g,h.but.trans' a,(a.block _ (ltA h.box) (by omega) (by omega)).trans h.box,f,⟨i,qfS d a (by omega) (by omega),?_⟩,kaj h.size a.size⟩;exact e.same (λj c=>⟨c.1,kai c.2.1 a.size,c.2.2⟩) (λj c=>a.block j c.2.1 (by omega) (by omega))
theorem qrc.push{w5:World}{v' x:Value}{V0:World}(h:qrc k W b fv s p v es ks V)(E:qad W b s)(u:V.ownsRow (W.heap.size+2) 124 2 v es.length xs)(M:qc7 k V (λj=>W.heap.size+2<=j/\j<V.heap.size/\some j≠v.ownBlock) xs es)(H:qah k V (λj=>V0.heap.size<=j/\j<V.heap.size) x d)(L:∀g,v.ownBlock=some g->g<V0.heap.size)(P:W.heap.size+2<=V0.heap.size)(K:w5.ownsRow (W.heap.size+2) 124 2 v' (es.length+1) (xs++[.string ⟨l.toArray⟩,x]))(f:(V.alloc (.cells #[.string ⟨l.toArray⟩,x] 124)).grownBy w5 v.ownBlock)(o:v'.ownBlock=v.ownBlock\/v'.ownBlock=some (V.alloc (.cells #[.string ⟨l.toArray⟩,x] 124)).heap.size):qrc k W b fv s p v' (es++[(.string l,d)]) ks w5:=by
 have R:=h.size;have Q:V.heap.size+1<=w5.heap.size:=by have:=f.size;simpa using this
 have z:∀g,v.ownBlock=some g->W.heap.size+2<=g:=λg f=>qbH u f;have q:∀j,j<V.heap.size->some j≠v.ownBlock->w5.heap[j]?=V.heap[j]?:=λj a n=>(f.block j (by simp;omega) n).trans (kae _ _ _ a);have r:∀j,j<W.heap.size+2->w5.heap[j]?=V.heap[j]?:=λj a=>q j (by omega) (λe=>by have:=z j e.symm;omega);have J:qaJ w5 (W.heap.size+1) ks:=by
  have G:But (W.heap.size+2) V (V.alloc (.cells #[.string ⟨l.toArray⟩,x] 124)):=But.of_below bwA;have F:=h.keys.but (b:=W.heap.size+2) (by omega) G;exact F.kept f (λe=>by have:=z _ e.symm;omega)
 refine⟨E.same rfl rfl h.src (λj a=>r j (by omega)),⟨f.os.trans h.but.os,f.tape.trans h.but.tape,f.output.trans h.but.output,by have:=h.but.size;omega,λj a n=>(r j (by omega)).trans (h.but.block j a n)⟩,(r _ (by omega)).trans h.box,J,⟨_,by rw[kaa];exact K,λi y c m=>?_⟩,by omega⟩;have t:∀j,j<V.heap.size->some j≠v.ownBlock->some j≠v'.ownBlock:=λj a n=>by
  rcases o with o|o
  ·rw[o];exact n
  rw[o];intro e;injection e with e;simp at e;omega
 have S:=u.1;by_cases I:i<es.length
 ·rw[kau I]at m;obtain⟨N,O,A,B,C,D⟩:=M i y c m;refine⟨N,O,A,by rw[kau (by omega)];exact B,by rw[kau (by omega)];exact C,?_⟩;exact D.same (λj a=>⟨a.1,by have:=a.2.1;omega,t j a.2.1 a.2.2⟩) (λj a=>q j a.2.1 a.2.2)
 have e:i=es.length:=by
  have:=ltL m;rw[kaa]at this;simp at this;omega
 subst e;rw[kas (by omega)]at m;simp at m;obtain⟨rfl,rfl⟩:=m;have w:∀j,V0.heap.size<=j->some j≠v.ownBlock:=λj a e=>by have:=L j e.symm;omega
 refine⟨l,x,rfl,?_,?_,H.same (λj a=>⟨by omega,by omega,t j a.2 (w j a.1)⟩) (λj a=>q j a.2 (w j a.1))⟩
 ·rw[kas (by omega),show 2*es.length-xs.length=0 by omega];rfl
 rw[kas (by omega),show 2*es.length+1-xs.length=1 by omega];rfl
theorem qrc.row(h:qrc k W b fv s p v es ks V):qah (k+1) V (λj=>W.heap.size<=j/\j<V.heap.size) (.iface 122 v) (.map es):=by
 obtain⟨o,a,i⟩:=h.own;unfold qah;refine⟨v,o,rfl,⟨a.1,?_⟩,i.same (λj n=>⟨by omega,n.2.1⟩) (λ_ _=>rfl)⟩;rcases a.2 with l|⟨g,d,f,e,q,c,m⟩
 ·exact .inl l
 exact .inr ⟨g,d,f,e,⟨by omega,(ltA c)⟩,c,m⟩
theorem Tryz.infoEntry:(prog.info? 124).map (λi=>(i.zero,i.size,i.bytes))=some (some (.agg #[.string ByteArray.empty,.nilIface]),2,32):=by kernel_rfl
theorem qgh(bs:List UInt8)(lim:Int):∀(k p a x q:Nat),qc4 bs lim k p a=.ok (x,q)->q=p+k
 |0,p,a,x,q,h=>by
  unfold qc4 at h;cases h;rfl
 |k+1,p,a,x,q,h=>by
  rw[qc4]at h;split at h
  ·cases h
  split at h
  ·cases h
  have:=qgh bs lim k (p+1) _ x q h;omega
theorem qqN{hd:Nat->Nat×Nat×Nat}{lim:Int}(h:qet hd bs lim ks p=.ok (l,q)):p<q:=by
 unfold qet at h;split at h
 ·cases h
 split at h
 ·cases h
 split at h
 ·split at h
  ·cases h
  next x q' ha =>
  split at h
  ·cases h
  next l' r hb =>
  split at h
  ·cases h
  injection h with h;injection h with h1 h2;have:=qgh _ _ _ _ _ _ _ ha;have:=qgj _ _ _ _ _ _ _ _ hb;omega
 cases h
theorem qvS(k:Nat)(a:Value)(h:qad W b s):qrc k W b a s s.pos (.slice none 0 0) [] [] ((W.alloc (.cells #[.pointer (some ⟨b,0,none⟩),a] 117)).alloc (.map #[] 0)):=by
 have c:Below W.heap.size W ((W.alloc (.cells #[.pointer (some ⟨b,0,none⟩),a] 117)).alloc (.map #[] 0)):=(bwA).alloc (by simp) _;refine⟨h.below c,But.of_below c,(kae _ _ _ (by simp)).trans (qac W _),⟨.map [],?_,λl=>by simp[Maps.has]⟩,⟨[],kaV _ _ _ _,λi f d e=>by simp at e⟩,by simp⟩;have:=kcC (W.alloc (.cells #[.pointer (some ⟨b,0,none⟩),a] 117)) prog 9 (unitElem (H:=Unit));rw[kad]at this;exact this
theorem qmi(k:Nat)(W:World)(b:Nat)(s:Src)(f n:Nat)(E:Nat->Nat×Nat×Nat)(J:Nat->Except (Int×Int) (DataW Unit×Nat))(hn:n<18446744073709551616)(h:qad W b s)(a2:s.bs.length<=200000000)(hU:∀V,But b W V->U8 V)(av:7<b)(cH:qfK f E b W)(ai:qqa k f b s W J)(ag:∀p d q,J p=.ok (d,q)->p<q):Calls prog 225 #[.agg #[.pointer (some ⟨b,0,none⟩),.func (.func f) #[] #[]],.int .u64 n] W (qib W b s (λV ak B=>(∃a n c,ak=.slice a n c)/\qah (k+1) V (λj=>W.heap.size<=j/\j<V.heap.size) (.iface 122 ak) (.map B)) (qa7 (qet E s.bs s.lim) J n s.pos [] [])):=by
 obtain⟨i0,hi,a8,a9,ba⟩:=kaF Tryz.infoEntry;have a3:∀V:World,(Instr.makeMap 310 none).run prog V=.ok (.map (some V.heap.size)) (V.alloc (.map #[] 0)):=λV=>by kernel_rfl
 have ae:Hid (qrc k W b (.func (.func f) #[] #[]) s s.pos (.slice none 0 0) [] [] ((W.alloc (.cells #[.pointer (some ⟨b,0,none⟩),.func (.func f) #[] #[]] 117)).alloc (.map #[] 0))):=qvS _ _ h;have v:=ltA h.row;have ac:Hid (∀g off,s.bs≠[]->s.ia=some ⟨g,off,none⟩->g≠W.heap.size+1):=λg off a4 e=>by
  have hl:0<s.bs.length:=by cases ax:s.bs with|nil=>exact absurd ax a4|cons _ _=>simp
  obtain⟨g',bi,H,_,e3⟩:=h.inp 0 hl;rw[e]at H;injection H with H;injection H with H;have:g'<W.heap.size:=kaI e3;omega
 have Y:∀(V:World) (p:Nat) (i:List (List UInt8)),qad V b {s with pos:=p}->But b W V->qaJ V (W.heap.size+1) i->i.length<1000000000->Calls prog 227 #[.agg #[.pointer (some ⟨b,0,none⟩),.func (.func f) #[] #[]],.map (some (W.heap.size+1))] V (qjo V b (W.heap.size+1) {s with pos:=p} i (qet E s.bs s.lim i p)):=λV p i hV D hk hl=>qm2 V b (W.heap.size+1) {s with pos:=p} i E f hV hk (by omega) ac.out hl a2 (λau aw=>hU au (D.trans aw)) av (cH.but D);have ao:=qab h;have ad:=qab ai;have am:=qab ag;have a1:=h.le;obtain⟨R,C⟩:∃R,Hid (qa7 (qet E s.bs s.lim) J n s.pos [] []=R):=⟨_,show _=_ from rfl⟩
 rw[C.out];clear h ai ag cH hU ac;go_enter func225,ntmps225;go_wp2;generalize(W.alloc (.cells #[.pointer (some ⟨b,0,none⟩),.func (.func f) #[] #[]] 117)).alloc (.map #[] 0)=W0 at *;clear a3
 go_loopg[5,10] n (λg y bc wr=>∃(m p:Nat) (a:Option Addr) (l c:Nat) (B:List (Lit×DataW Unit)) (i:List (List UInt8)),y=.slice a l c/\bc=.int .u64 m/\Hid (m+g=n)/\Hid (p<=s.bs.length)/\Hid (B.length<=p/\i.length<=p)/\Hid (qrc k W b (.func (.func f) #[] #[]) s p (.slice a l c) B i wr)/\Hid (qa7 (qet E s.bs s.lim) J g p i B=R))
 case atStart=>exact⟨0,s.pos,none,0,0,[],[],rfl,rfl,by show _=_;omega,a1,⟨kaY _,kaY _⟩,ae,C⟩
 case round =>
  clear ae C;obtain⟨m,p,a,l,c0,B,i,rfl,rfl,S,hp,Q,x,C⟩:=hrel;have kb:=qaa x.out.box 0;have aj:=qaa x.out.box 1
  cases gk with
  |zero =>
   have hk:m=n:=by have:=S.out;omega
   subst hk;have L:Hid (R=.ok (B,p)):=C.out.symm;clear C S Y;go_wp2;go_ret;rw[L.out];exact⟨x.out.but,⟨_,rfl,⟨_,_,_,rfl⟩,x.out.row⟩,x.out.src⟩
  |succ g =>
   have bf:m<n:=by have:=S.out;omega
   have H:decide ((m:Int)<(n:Int))=true:=by simp;omega
   have e2:decide (m<n)=true:=by simp;omega
   have a0:i.length<1000000000:=by have:=Q.out.2;have:=hp.out;omega
   have G:=Y wr p i x.out.src x.out.but x.out.keys a0;have w:=C.out;rw[qa7]at w;clear C Y
   cases O:qet E s.bs s.lim i p with
   |error u =>
    rw[O]at w G;simp only[]at w;obtain⟨Z,pl⟩:=u;have L:=qab w.symm;clear w O
    go_wp2_with(first
     |(go_at_call 227;refine G.mono ?_;clear G;rintro e A ⟨D,hF⟩;obtain⟨hF,pz,aa⟩:=(show qan Z pl e/\∃p,qad A b {s with pos:=p}from hF);obtain rfl:=hF))
    rw[L.out];exact⟨rfl,x.out.but.trans' D,rfl,pz,aa⟩
   |ok lq =>
    obtain⟨F,q⟩:=lq;rw[O]at w G;simp only[]at w;have bg:=qqN O;clear O;have bb:True:=trivial
    cases I:J q with
    |error u =>
     rw[I]at w;simp only[]at w;obtain⟨Z,pl⟩:=u;have L:=qab w.symm;have T:=qab I;clear w I bb
     go_wp2_with(first
      |(go_at_call 227;refine G.mono ?_;rintro e A ⟨D,hF⟩;obtain⟨rfl,U,z⟩:=(show e=.returned (.string ⟨F.toArray⟩)/\qad A b {s with pos:=q}/\qaJ A (W.heap.size+1) (F::i)from hF);have o:=qab (x.out.step v U D z);have kb:=qaa o.out.box 0;have aj:=qaa o.out.box 1;have M:=ad.out A q o.out.src o.out.but;rw[T.out]at M)
      |(go_at_call 219;refine M.mono ?_;rintro e K ⟨P,N⟩;obtain⟨N,pz,aa⟩:=(show qan Z pl e/\∃p,qad K b {s with pos:=p}from N);obtain rfl:=N))
     rw[L.out];exact⟨rfl,o.out.but.trans P,rfl,pz,aa⟩
    |ok dr =>
     obtain⟨d,r⟩:=dr;rw[I]at w;simp only[]at w;have T:=qab I;have bh:=am.out q d r I;have HN:=qab w;have be:B.length<=200000000:=by have:=Q.out.1;have:=hp.out;omega
     have ab:Hid (B.length+1<=r/\i.length+1<=r):=⟨by have:=Q.out.1;omega,by have:=Q.out.2;omega⟩
     go_wp2_with(first
      |(go_at_call 227;refine G.mono ?_;rintro e A ⟨D,hF⟩;obtain⟨rfl,U,z⟩:=(show e=.returned (.string ⟨F.toArray⟩)/\qad A b {s with pos:=q}/\qaJ A (W.heap.size+1) (F::i)from hF);have o:=qab (x.out.step v U D z);have kb:=qaa o.out.box 0;have aj:=qaa o.out.box 1;have M:=ad.out A q o.out.src o.out.but;rw[T.out]at M;have ap:=qab o.out.size;have an:Hid (∀g,(Value.slice a l c0).ownBlock=some g->g<A.heap.size):=by{obtain⟨xs,h1,_⟩:=o.out.own;exact qiv h1})
      |(go_at_call 219;refine M.mono ?_;rintro e K ⟨P,N⟩;obtain⟨⟨t,y,rfl,ay⟩,af⟩:=(show(∃t y,e=.returned (.iface t y)/\qah k K (λj=>A.heap.size<=j/\j<K.heap.size) (.iface t y) d)/\qad K b {s with pos:=r}from N);have X:=qab (o.out.step v af (.of1 P) (o.out.keys.but (by omega) P));have HD:=qab ay;have HQ:Hid (r<=s.bs.length):=af.le;obtain⟨xs,a5,a7⟩:=X.out.own;have HO:=qab a5;have ar:=qab a7;have al:=qab X.out.size)
      |(at_builtin;refine qbg _ rfl _ _ 122 rfl (W.heap.size+2) 124 i0 (.agg #[.string ByteArray.empty,.nilIface]) 2 32 underlying122 hi a8 a9 ba rfl (by decide) _ _ _ rfl (HO.out.alloc _) ⟨K.heap.size,0,none⟩ 1 1 [.string ⟨F.toArray⟩,.iface t y] rfl rfl (qag _ _ _) (λbj hu=>by simp at hu;rcases hu with rfl|rfl<;>rfl) (by decide) (by unfold maxLen;omega) (by omega) (by simp;have:=al.out;omega) ?_;intro v' w5 ah az a6;have aq:=qab (X.out.push ao.out HO.out ar.out HD.out an.out ap.out ah az a6);obtain⟨g5,bd,rfl⟩:=ownsRow_succ ah))
     go_roundg g
     case measure=>omega
     case rel=>exact⟨m+1,r,_,_,_,B++[(.string F,d)],F::i,rfl,by go_num,by show _=_;have:=S.out;omega,HQ,⟨by rw[kaa];exact ab.out.1,ab.out.2⟩,aq,HN⟩

theorem qmM(bs:List UInt8)(lim:Int):∀(n p:Nat) (a l:List UInt8) (r:Nat),qgs bs lim n p a=.ok (l,r)->r=p+n
 |0,p,a,l,r,h=>by
  rw[qgs]at h;injection h with h;injection h with h1 h2;exact h2.symm
 |n+1,p,a,l,r,h=>by
  rw[qgs]at h;split at h
  ·cases h
  split at h
  ·cases h
  have:=qmM bs lim n _ _ l r h;omega
theorem qll(a:∀p d q,rd p=.ok (d,q)->p<q):∀(n p:Nat) (acc ds:List (DataW Unit)) (r:Nat),qbn rd n p acc=.ok (ds,r)->p<=r
 |0,p,acc,ds,r,h=>by
  rw[qbn]at h;injection h with h;injection h with b c;omega
 |n+1,p,acc,ds,r,h=>by
  rw[qbn]at h;split at h
  ·cases h
  next d q hq =>
  have b:=a _ _ _ hq;have c:=qll a n q _ ds r h;omega
theorem qh2{kf:List (List UInt8)->Nat->Except (Int×Int) (List UInt8×Nat)}(b:∀a p l q,kf a p=.ok (l,q)->p<q)(c:∀p d q,rd p=.ok (d,q)->p<q):∀(n p:Nat) (a:List (List UInt8)) (acc es:List (Lit×DataW Unit)) (r:Nat),qa7 kf rd n p a acc=.ok (es,r)->p<=r
 |0,p,a,acc,es,r,h=>by
  rw[qa7]at h;injection h with h;injection h with e f;omega
 |n+1,p,a,acc,es,r,h=>by
  rw[qa7]at h;split at h
  ·cases h
  next l q hq =>
  split at h
  ·cases h
  next d r' hr =>
  have e:=b _ _ _ _ hq;have f:=c _ _ _ hr;have g:=qh2 b c n r' _ _ es r h;omega
theorem qxo{lim:Int}{li:Nat->Nat->Except (Int×Int) (List (DataW Unit)×Nat)}{ma:Nat->Nat->Except (Int×Int) (List (Lit×DataW Unit)×Nat)}{so w x:Nat}{r:Nat}(c:∀x q a r,li x q=.ok (a,r)->q<=r)(e:∀x q b r,ma x q=.ok (b,r)->q<=r)(h:qgw bs lim li ma so w x q=.ok (d,r)):q<=r:=by
 unfold qgw at h;split at h
 ·injection h with h;injection h with h1 h2;omega
 ·injection h with h;injection h with h1 h2;omega
 ·split at h
  ·cases h
  injection h with h;injection h with h1 h2;omega
 ·split at h
  ·cases h
  injection h with h;injection h with h1 h2;omega
 ·split at h
  ·cases h
  injection h with h;injection h with h1 h2;omega
 ·split at h
  ·cases h
  next l r' hl =>
  injection h with h;injection h with h1 h2;have:=qmM _ _ _ _ _ _ _ hl;omega
 ·split at h
  ·cases h
  next l r' hl =>
  injection h with h;injection h with h1 h2;have:=qgj _ _ _ _ _ _ _ _ hl;omega
 ·split at h
  ·cases h
  next a r' hl =>
  injection h with h;injection h with h1 h2;have:=c _ _ _ _ hl;omega
 ·split at h
  ·cases h
  next b r' hl =>
  injection h with h;injection h with h1 h2;have:=e _ _ _ _ hl;omega
 injection h with h;injection h with h1 h2;omega
theorem qlf(f:Nat->Nat×Nat×Nat)(bs:List UInt8)(lim depth:Int):∀(g e p:Nat) (d:DataW Unit) (q:Nat),thB f bs lim depth g e p=.ok (d,q)->p<q
 |0,_,_,_,_,h=>by rw[thB]at h;cases h
 |g+1,e,p,d,q,h=>by
  have j:=qlf f bs lim depth g (e+1)
  cases a:bs[p]? with
  |none =>
   unfold thB at h;rw[a]at h;cases h
  |some c =>
   by_cases i:(p:Int)=lim
   ·unfold thB at h;rw[a]at h;simp only[]at h;rw[kag i]at h;cases h
   rw[qe6 a i rfl]at h;split at h
   ·cases h
   split at h
   ·cases h
   split at h
   ·cases h
   next x q' ha =>
   have o:=qgh _ _ _ _ _ _ _ ha;have s:=qxo (λx q k r b=>qll j x q [] k r b) (λx q m r b=>qh2 (λt p l q n=>qqN n) j x q [] [] m r b) h;omega
theorem qbd(a:Nat->Nat×Nat×Nat)(f:Nat):∀(g:Nat) (W:World) (b:Nat) (s:Src),qad W b s->s.bs.length<=200000000->(∀V,But b W V->U8 V)->7<b->qfK f a b W->s.depth<=100000->(s.within:Int)<=s.depth->s.depth<s.within+g ->
  Calls prog 219 #[.agg #[.pointer (some ⟨b,0,none⟩),.func (.func f) #[] #[]]] W (qlg g W b s (thB a s.bs s.lim s.depth g s.within s.pos))
 |0,W,b,s,_,_,_,_,_,_,d,h2=>by omega
 |g+1,W,b,s,h,hlen,hU,h7,cH,hdp,hwd,hgd=>by
  have q:¬(s.within:Int)=s.depth->∀V,But b W V->qqa g f b {s with within:=s.within+1} V (thB a s.bs s.lim s.depth g (s.within+1)):=λl V j U p k i =>
   qbd a f g U b {s with pos:=p,within:=s.within+1} k hlen (λX m=>hU X ((j.trans i).trans m)) h7 (cH.but (j.trans i)) hdp (by show((s.within+1:Nat):Int)<=s.depth;omega) (by show s.depth<((s.within+1:Nat):Int)+g;omega)
  rcases qaT h with d|d|⟨c,d⟩
  ·have e:thB a s.bs s.lim s.depth (g+1) s.within s.pos=.error (9,(s.pos:Int)):=by
    unfold thB;rw[kaC (by have:s.pos=s.bs.length:=d;omega)]
   rw[e];exact qej W b s f 9 h (λV j=>qb0 V b s j d)
  ·have e:thB a s.bs s.lim s.depth (g+1) s.within s.pos=.error (8,(s.pos:Int)):=by
    unfold thB;rw[kab d.1];simp only[];rw[kag d.2]
   rw[e];exact qej W b s f 8 h (λV j=>qbb V b s j d)
  exact qhL g W b s c a f _ _ _ h d rfl (cH.so _ c.toNat_lt) (cH.fit _ c.toNat_lt).1 (cH.fit _ c.toNat_lt).2.1 (cH.fit _ c.toNat_lt).2.2 hlen (by omega) cH.fn hU h7 (cH.call c)
   (λl V p n k i o=>qkw g V b {s with pos:=p,within:=s.within+1} f n _ o k hlen (q l V i) (qlf a s.bs s.lim s.depth g (s.within+1)))
   (λl V p n k i o=>qmi g V b {s with pos:=p,within:=s.within+1} f n a _ o k hlen (λX m=>hU X (i.trans m)) h7 (cH.but i) (q l V i) (qlf a s.bs s.lim s.depth g (s.within+1)))

def qfZ{α:Type}(bs:List UInt8)(lim:Int)(itF:α->Nat->Except (Int×Int) (α×Nat))(last:Nat):Nat->Nat->α->Except (Int×Int) (α×Nat)
 |0,p,_=>.error (9,p)
 |g+1,p,acc=>match spF bs lim (bs.length+1-p) p with
  |.error e=>.error e
  |.ok (_,p1)=>match itF acc p1 with
   |.error e=>.error e
   |.ok (acc',p2)=>match spF bs lim (bs.length+1-p2) p2 with
    |.error e=>.error e
    |.ok (_,p3)=>match bs[p3]? with
     |none=>.error (9,p3)
     |some c=>if(p3:Int)=lim then .error (8,p3)else if c.toNat=last then .ok (acc',p3+1)else if c.toNat=44 then qfZ bs lim itF last g (p3+1) acc' else .error (9,p3)
def qdV{α:Type}(bs:List UInt8)(lim:Int)(itF:α->Nat->Except (Int×Int) (α×Nat))(last p:Nat)(acc:α):Except (Int×Int) (α×Nat) :=
 match spF bs lim (bs.length+1-p) p with
 |.error e=>.error e
 |.ok (_,p1)=>match bs[p1]? with
  |none=>qfZ bs lim itF last (bs.length+1-p1) p1 acc
  |some c=>if(p1:Int)=lim then .error (8,p1)else if c.toNat=last then .ok (acc,p1+1)else qfZ bs lim itF last (bs.length+1-p1) p1 acc
def liJ(rd:Nat->Except (Int×Int) (DataW Unit×Nat))(ds:List (DataW Unit))(p:Nat):Except (Int×Int) (List (DataW Unit)×Nat) :=
 match rd p with
 |.error e=>.error e
 |.ok (d,q)=>.ok (ds++[d],q)
def qlw(bs:List UInt8)(lim:Int)(ks:List (List UInt8))(p:Nat):Except (Int×Int) (List UInt8×Nat) :=
 match qaO bs lim [34] p with
 |.error e=>.error e
 |.ok (_,q)=>match qcU bs lim (bs.length+1-q) q [] 0 with
  |.error e=>.error e
  |.ok (l,r)=>if l∈ks then .error (12,(r:Int)-1)else .ok (l,r)
def enJ(bs:List UInt8)(lim:Int)(rd:Nat->Except (Int×Int) (DataW Unit×Nat))(a:List (List UInt8)×List (Lit×DataW Unit))(p:Nat):Except (Int×Int) ((List (List UInt8)×List (Lit×DataW Unit))×Nat) :=
 match qlw bs lim a.1 p with
 |.error e=>.error e
 |.ok (l,p1)=>match spF bs lim (bs.length+1-p1) p1 with
  |.error e=>.error e
  |.ok (_,p2)=>match qaO bs lim [58] p2 with
   |.error e=>.error e
   |.ok (_,p3)=>match spF bs lim (bs.length+1-p3) p3 with
    |.error e=>.error e
    |.ok (_,p4)=>match rd p4 with
     |.error e=>.error e
     |.ok (d,p5)=>.ok ((l::a.1,a.2++[(.string l,d)]),p5)
def qjM(bs:List UInt8)(lim depth:Int)(wi:Nat)(rd:Nat->Except (Int×Int) (DataW Unit×Nat))(nm:UInt8->Nat->Except (Int×Int) (Int×Nat))(c:UInt8)(p:Nat):Except (Int×Int) (DataW Unit×Nat) :=
 if c.toNat=110 then match qaO bs lim [117,108,108] p with
  |.error e=>.error e
  |.ok (_,q)=>.ok (.nil,q)
 else if c.toNat=116 then match qaO bs lim [114,117,101] p with
  |.error e=>.error e
  |.ok (_,q)=>.ok (.lit (.bool true),q)
 else if c.toNat=102 then match qaO bs lim [97,108,115,101] p with
  |.error e=>.error e
  |.ok (_,q)=>.ok (.lit (.bool false),q)
 else if c.toNat=34 then match qcU bs lim (bs.length+1-p) p [] 0 with
  |.error e=>.error e
  |.ok (l,q)=>.ok (.lit (.string l),q)
 else if c.toNat=91 then(if(wi:Int)=depth then .error (11,(p:Int)-1)else match qdV bs lim (liJ rd) 93 p []with
  |.error e=>.error e
  |.ok (ds,q)=>.ok (.agg ds,q))
 else if c.toNat=123 then(if(wi:Int)=depth then .error (11,(p:Int)-1)else match qdV bs lim (enJ bs lim rd) 125 p ([],[])with
  |.error e=>.error e
  |.ok (es,q)=>.ok (.map es.2,q))
 else if c.toNat=45\/qbO c=true then match nm c p with
  |.error e=>.error e
  |.ok (z,q)=>.ok (.lit (.int .i64 z),q)
 else .error (9,(p:Int)-1)
def thJ(bs:List UInt8)(lim depth:Int)(nm:UInt8->Nat->Except (Int×Int) (Int×Nat)):Nat->Nat->Nat->Except (Int×Int) (DataW Unit×Nat)
 |0,_,_=>.error (0,0)
 |g+1,wi,p=>match bs[p]? with
  |none=>.error (9,p)
  |some c=>if(p:Int)=lim then .error (8,p)else qjM bs lim depth wi (thJ bs lim depth nm g (wi+1)) nm c (p+1)
def qct(k:Nat)(W:World)(b:Nat)(s:Src)(r:Except (Int×Int) (DataW Unit×Nat))(e:Ending)(W':World):Prop :=
 But b W W'/\match r with
 |.ok (d,p)=>(∃t y,e=.returned (.iface t y)/\qah k W' (λj=>W.heap.size<=j/\j<W'.heap.size) (.iface t y) d)/\qad W' b {s with pos:=p}
 |.error (en,pl)=>qan en pl e
def qhi(k b:Nat)(s:Src)(W0:World)(rd:Nat->Except (Int×Int) (DataW Unit×Nat)):Prop :=
 ∀(V:World) (p:Nat),qad V b {s with pos:=p}->But b W0 V->Calls prog 190 #[.agg #[.pointer (some ⟨b,0,none⟩)]] V (qct k V b {s with pos:=p} (rd p))

def qcS{α:Type}(St:Nat->α->World->Prop)(Fr:World->Prop)(r:Except (Int×Int) (α×Nat))(e:Ending)(V:World):Prop :=
 match r with
 |.ok (a,q)=>e=.returned (.tuple #[])/\St q a V
 |.error (en,pl)=>qan en pl e/\Fr V
structure qiW{α:Type}(b:Nat)(s:Src)(St:Nat->Nat->Nat->α->World->Prop)(Fr:World->Prop):Prop where
 src:∀N wi p a V,St N wi p a V->qad V b {s with pos:=p,within:=wi}
 step:∀N wi p a V wi' q V',St N wi p a V->qad V' b {s with pos:=q,within:=wi' }->But b V V'->p<=q->St N wi' q a V'
 box:∀N wi p a V,St N wi p a V->V.heap[N]?=some (.cells #[.pointer (some ⟨b,0,none⟩)] 114)
 fr:∀N wi p a V,St N wi p a V->Fr V
 frb:∀V V',Fr V->But b V V'->Fr V'
theorem qc5(bs:List UInt8)(lim:Int):∀(g p:Nat) (u:Unit) (q:Nat),spF bs lim g p=.ok (u,q)->p<=q
 |0,p,u,q,h=>by
  rw[spF]at h;injection h with h;injection h with h1 h2;omega
 |g+1,p,u,q,h=>by
  rw[spF]at h;split at h
  ·injection h with h;injection h with h1 h2;omega
  split at h
  ·cases h
  split at h
  ·have:=qc5 bs lim g (p+1) u q h;omega
  injection h with h;injection h with h1 h2;omega
theorem qhH{α:Type}(W:World)(b L r:Nat)(s:Src)(itF:α->Nat->Except (Int×Int) (α×Nat))(J:α)(B:Nat->Nat->Nat->α->World->Prop)(Z:World->Prop)(hI:qiW b s B Z)(av:qad W b s)(hd:¬(s.within:Int)=s.depth)(a8:s.within<=100000)(a2:B W.heap.size s.within s.pos J (W.alloc (.cells #[.pointer (some ⟨b,0,none⟩)] 114)))(ag:∀ai p a V,B ai (s.within+1) p a V->Calls prog 204 #[.pointer (some ⟨L,0,none⟩),.pointer (some ⟨r,0,none⟩)] V (qcS (B ai (s.within+1)) Z (itF a p)))(a1:∀a p h ac,itF a p=.ok (h,ac)->p<ac):Calls prog 203 #[.agg #[.pointer (some ⟨b,0,none⟩)],.int .u8 93,.func (.func 204) #[] #[.pointer (some ⟨L,0,none⟩),.pointer (some ⟨r,0,none⟩)]] W (qcS (λac a V=>B W.heap.size s.within ac a V) Z (qdV s.bs s.lim itF 93 s.pos J)):=by
 have HS:=qab a2;have f:=qab hI;have ar:=qab a1;have cE:=qiH (W.alloc (.cells #[.pointer (some ⟨b,0,none⟩)] 114)) b s (av.below bwA) hd (by omega);have v:∀(V:World) (p:Nat),qad V b {s with pos:=p,within:=s.within+1}->Calls prog 211 #[.pointer (some ⟨b,0,none⟩)] V λe P=>e=.returned (.tuple #[])/\qad P b {s with pos:=p}/\But b V P:=λV p k=>qk7 V b s.within {s with pos:=p,within:=s.within+1} k rfl (by show s.within+1<=_;omega);obtain⟨R,I⟩:∃R,Hid (qdV s.bs s.lim itF 93 s.pos J=R):=⟨_,show _=_ from rfl⟩
 rw[I.out];have d:=I.out;unfold qdV at d;have t:=qaa (f.out.box _ _ _ _ _ HS.out) 0;go_enter func203,ntmps203;go_wp2;go_step3
 go_wp2_with fail
 refine cE.mono ?_;rintro e w2 ⟨rfl,a0,aw⟩;have u:=qab (f.out.step _ _ _ _ _ _ _ _ HS.out a0 aw (by omega));have t:=qaa (f.out.box _ _ _ _ _ u.out) 0
 go_wp2_with fail
 refine(qaR w2 b {s with pos:=s.pos,within:=s.within+1} (f.out.src _ _ _ _ _ u.out)).mono ?_;rintro e w3 ⟨aj,q⟩
 cases w:spF s.bs s.lim (s.bs.length+1-s.pos) s.pos with
 |error D =>
  obtain⟨C,F⟩:=D;simp only[w]at d q;subst d;obtain rfl:=(show qan C F e from q)
  go_wp2;exact⟨rfl,rfl,f.out.frb _ _ (f.out.fr _ _ _ _ _ u.out) aj⟩
 |ok up =>
  obtain⟨a9,i⟩:=up;simp only[w]at d q;have a4:=qc5 _ _ _ _ _ _ w;obtain⟨rfl,am⟩:=(show e=.returned (.tuple #[])/\qad w3 b {s with pos:=i,within:=s.within+1}from q)
  have y:=qab (f.out.step _ _ _ _ _ _ _ _ u.out am aj (by omega));have ah:Hid (i<=s.bs.length):=am.le;have t:=qaa (f.out.box _ _ _ _ _ y.out) 0;have a3:(qxF {s with pos:=i,within:=s.within+1}/\R=.error (8,(i:Int)))\/(∃c,qgm {s with pos:=i,within:=s.within+1} c/\c.toNat=93/\R=.ok (J,i+1))\/((Calls prog 198 #[.pointer (some ⟨b,0,none⟩),.int .u8 93] w3 λe P=>e=.returned (.bool false)/\qad P b {s with pos:=i,within:=s.within+1}/\But b w3 P)/\qfZ s.bs s.lim itF 93 (s.bs.length+1-i) i J=R):=by
   have k:=(f.out.src _ _ _ _ _ y.out)
   cases l:s.bs[i]? with
   |none =>
    rw[l]at d;refine .inr (.inr ⟨qjj 93 k ?_,d⟩);have x:i<=s.bs.length:=k.le;have K:=kch.1 l;show i=s.bs.length;omega
   |some c =>
    rw[l]at d;simp only[]at d;have K:=ltL l;by_cases o:(i:Int)=s.lim
    ·rw[kag o]at d;exact .inl ⟨⟨K,o⟩,d.symm⟩
    rw[kac o]at d;by_cases m:c.toNat=93
    ·rw[kag m]at d;exact .inr (.inl ⟨c,⟨l,o⟩,m,d.symm⟩)
    rw[kac m]at d;refine .inr (.inr ⟨?_,d⟩);have:=qdK (c:=c) 93 k ⟨l,o⟩;rwa[show((c.toNat:Int)==93)=false by simp;omega]at this
  go_wp2_with fail
  rcases a3 with⟨az,rfl⟩|⟨c,al,hc,rfl⟩|⟨N,d⟩
  ·refine(qdp w3 b {s with pos:=i,within:=s.within+1} 93 (f.out.src _ _ _ _ _ y.out) az).mono ?_;rintro e w4 ⟨rfl,S⟩;go_wp2;exact⟨rfl,rfl,f.out.frb _ _ (f.out.fr _ _ _ _ _ y.out) (But.of_below S)⟩
  ·have N:=qdK (c:=c) 93 (f.out.src _ _ _ _ _ y.out) al;rw[show((c.toNat:Int)==93)=true by rw[hc];rfl]at N;refine N.mono ?_;rintro e w4 ⟨rfl,ae,S⟩;have n:=qab (f.out.step _ _ _ _ _ _ _ _ y.out ae S (by omega));have t:=qaa (f.out.box _ _ _ _ _ n.out) 0
   go_wp2_with fail
   refine(qaw w4 b {s with pos:=i,within:=s.within+1} c (f.out.src _ _ _ _ _ n.out) al).mono ?_;rintro e w5 ⟨rfl,aa,T⟩;have G:=qab (f.out.step _ _ _ _ _ _ _ _ n.out (show qad w5 b {s with pos:=i+1,within:=s.within+1}from aa) T (by omega));have t:=qaa (f.out.box _ _ _ _ _ G.out) 0
   go_wp2_with fail
   refine(v w5 (i+1) (f.out.src _ _ _ _ _ G.out)).mono ?_;rintro e w6 ⟨rfl,ab,ax⟩;have z:=qab (f.out.step _ _ _ _ _ _ _ _ G.out ab ax (by omega));go_wp2;refine qht ?_;go_end0;exact⟨rfl,z.out⟩
  have I:=qab d;refine N.mono ?_;rintro e w4 ⟨rfl,ae,S⟩;have n:=qab (f.out.step _ _ _ _ _ _ _ _ y.out ae S (by omega));go_wp2;go_step3;go_wp2
  go_loopg[21] (s.bs.length+1-i) (λg _ wr=>∃(p:Nat) (a:α),Hid (s.bs.length+1<=p+g)/\Hid (p<=s.bs.length)/\Hid (B W.heap.size (s.within+1) p a wr)/\Hid (qfZ s.bs s.lim itF 93 g p a=R))
  case atStart=>exact⟨i,J,by show _<=_;have:=ah.out;omega,ah,n,I⟩
  case round =>
   obtain⟨p,a,hg,hp,n,I⟩:=hrel;obtain⟨g,rfl⟩:∃g,gk=g+1:=⟨gk-1,by have:=hg.out;have:=hp.out;omega⟩
   have t:=qaa (f.out.box _ _ _ _ _ n.out) 0;have d:=I.out;rw[qfZ]at d
   go_wp2_with fail
   refine(qaR wr b {s with pos:=p,within:=s.within+1} (f.out.src _ _ _ _ _ n.out)).mono ?_;rintro e w5 ⟨T,U⟩
   cases w:spF s.bs s.lim (s.bs.length+1-p) p with
   |error D =>
    obtain⟨C,F⟩:=D;simp only[w]at d U;subst d;clear w ag v;obtain rfl:=(show qan C F e from U)
    go_wp2;exact⟨rfl,rfl,f.out.frb _ _ (f.out.fr _ _ _ _ _ n.out) T⟩
   |ok up =>
    obtain⟨u1,q1⟩:=up;simp only[w]at d U;have a5:=qc5 _ _ _ _ _ _ w;clear w;obtain⟨rfl,aa⟩:=(show e=.returned (.tuple #[])/\qad w5 b {s with pos:=q1,within:=s.within+1}from U)
    have G:=qab (f.out.step _ _ _ _ _ _ _ _ n.out aa T (by omega));clear n aa T U
    go_wp2_with fail
    refine(ag _ _ _ _ G.out).mono ?_;clear ag;rintro e w6 E
    cases l:itF a q1 with
    |error D =>
     obtain⟨C,F⟩:=D;rw[l]at d E;simp only[]at d;subst d;clear l v;obtain⟨E,ay⟩:=(show qan C F e/\Z w6 from E)
     obtain rfl:=E;go_wp2;exact⟨rfl,rfl,ay⟩
    |ok aq =>
     obtain⟨h,q2⟩:=aq;rw[l]at d E;simp only[]at d;have a6:=ar.out _ _ _ _ l;clear l;obtain⟨rfl,ab⟩:=(show e=.returned (.tuple #[])/\B W.heap.size (s.within+1) q2 h w6 from E)
     have z:=qab ab;clear G E ab;have t:=qaa (f.out.box _ _ _ _ _ z.out) 0
     go_wp2_with fail
     refine(qaR w6 b {s with pos:=q2,within:=s.within+1} (f.out.src _ _ _ _ _ z.out)).mono ?_;clear t;rintro e w7 ⟨ad,X⟩
     cases o:spF s.bs s.lim (s.bs.length+1-q2) q2 with
     |error D =>
      obtain⟨C,F⟩:=D;simp only[o]at d X;subst d;clear o v;obtain rfl:=(show qan C F e from X)
      go_wp2;exact⟨rfl,rfl,f.out.frb _ _ (f.out.fr _ _ _ _ _ z.out) ad⟩
     |ok up =>
      obtain⟨u3,j⟩:=up;simp only[o]at d X;have a7:=qc5 _ _ _ _ _ _ o;clear o;obtain⟨rfl,an⟩:=(show e=.returned (.tuple #[])/\qad w7 b {s with pos:=j,within:=s.within+1}from X)
      have H:=qab (f.out.step _ _ _ _ _ _ _ _ z.out an ad (by omega));clear z an ad X;have t:=qaa (f.out.box _ _ _ _ _ H.out) 0
      go_wp2_with fail
      have k:=(f.out.src _ _ _ _ _ H.out)
      cases m:s.bs[j]? with
      |none =>
       simp only[m]at d;subst d;refine(qb0 w7 b {s with pos:=j,within:=s.within+1} k (by show j=s.bs.length;have x:j<=s.bs.length:=k.le;have K:=kch.1 m;omega)).mono ?_;clear m v k;rintro e Y ⟨rfl,O⟩;go_wp2;exact⟨rfl,rfl,f.out.frb _ _ (f.out.fr _ _ _ _ _ H.out) (But.of_below O)⟩
      |some c =>
       rw[m]at d;simp only[]at d;have K:=ltL m;by_cases x:(j:Int)=s.lim
       ·rw[kag x]at d;subst d;refine(qbb w7 b {s with pos:=j,within:=s.within+1} k ⟨K,x⟩).mono ?_;clear m x K v k;rintro e Y ⟨rfl,O⟩;go_wp2;exact⟨rfl,rfl,f.out.frb _ _ (f.out.fr _ _ _ _ _ H.out) (But.of_below O)⟩
       rw[kac x]at d;refine(qaw w7 b {s with pos:=j,within:=s.within+1} c k ⟨m,x⟩).mono ?_;clear m x t k;rintro e Y ⟨rfl,af,O⟩;have A:=qab (f.out.step _ _ _ _ _ _ _ _ H.out (show qad Y b {s with pos:=j+1,within:=s.within+1}from af) O (by omega));have au:Hid (j+1<=s.bs.length):=af.le;clear H af O;have t:=qaa (f.out.box _ _ _ _ _ A.out) 0;by_cases M:c.toNat=93
       ·rw[kag M]at d;subst d;have e1:((c.toNat:Int)==93)=true:=by rw[M];rfl
        clear M
        go_wp2_with fail
        refine(v Y (j+1) (f.out.src _ _ _ _ _ A.out)).mono ?_;clear v t;rintro e w9 ⟨rfl,ao,ak⟩;have H9:=qab (f.out.step _ _ _ _ _ _ _ _ A.out ao ak (by omega));clear A ao ak;go_wp2
        first|(refine qht ?_;go_end0)|go_end0
        exact⟨rfl,H9.out⟩
       rw[kac M]at d;have e1:=nec (c:=c) 93 (by omega);by_cases Q:c.toNat=44
       ·rw[kag Q]at d;have HN:=qab d;have e2:((c.toNat:Int)==44)=true:=by rw[Q];rfl
        have ap:Hid (s.bs.length+1<=(j+1)+g):=by show _<=_;have:=hg.out;omega
        clear M Q d v;go_wp2;go_roundg g
        case measure=>omega
        case rel=>exact⟨j+1,h,ap,au,A,HN⟩
       rw[kac Q]at d;subst d;have e2:=nec (c:=c) 44 (by omega);have cR:=qav Y b {s with pos:=j+1,within:=s.within+1} 9 (f.out.src _ _ _ _ _ A.out);rw[show((({s with pos:=j+1,within:=s.within+1}:Src).pos:Int)-1)=j by show(((j+1:Nat)):Int)-1=j;omega]at cR;clear M Q v
       go_wp2_with fail
       refine cR.mono ?_;rintro e w9 ⟨rfl,rfl⟩;go_wp2;exact⟨rfl,rfl,f.out.fr _ _ _ _ _ A.out⟩

end
end Go.Proofs.YtmajcjammmjimaaGreatDoor
