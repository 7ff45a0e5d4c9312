import Derived.Test.YtpifimohecagoaaGreatDoorPq15
import Derived.Test.YtpifimohecagoaaGreatDoorPq13
set_option maxRecDepth 100000
set_option maxHeartbeats 8000000
namespace Go.Proofs.YtpifimohecagoaaGreatDoor
open Go.Proofs.Tryz
variable{rd:Nat->Except (Int×Int) (DataW Unit×Nat)}{V W W' w w5:World}{x:Str}{pre:List Str}{xs ys:List Value}{v v':Value}
section
open Go.RowKit
theorem qmS(bs:List UInt8)(lim:Int):∀(n p:Nat) (a l:List UInt8) (r:Nat),qgp bs lim n p a=.ok (l,r)->r=p+n
 |0,p,a,l,r,h=>by
  rw[qgp]at h;injection h with h;injection h with h1 h2;exact h2.symm
 |n+1,p,a,l,r,h=>by
  rw[qgp]at h;split at h
  ·cases h
  split at h
  ·cases h
  have:=qmS bs lim n _ _ l r h;omega
theorem qjY(a:∀p d q,rd p=.ok (d,q)->p<q):∀(n p:Nat) (acc ds:List (DataW Unit)) (r:Nat),qbn rd n p acc=.ok (ds,r)->p<=r
 |0,p,acc,ds,r,h=>by
  rw[qbn]at h;injection h with h;injection h with b c;omega
 |n+1,p,acc,ds,r,h=>by
  rw[qbn]at h;split at h
  ·cases h
  next d q hq =>
  have b:=a _ _ _ hq;have c:=qjY a n q _ ds r h;omega
theorem qg1{kf:List (List UInt8)->Nat->Except (Int×Int) (List UInt8×Nat)}(b:∀a p l q,kf a p=.ok (l,q)->p<q)(c:∀p d q,rd p=.ok (d,q)->p<q):∀(n p:Nat) (a:List (List UInt8)) (acc es:List (Lit×DataW Unit)) (r:Nat),qa7 kf rd n p a acc=.ok (es,r)->p<=r
 |0,p,a,acc,es,r,h=>by
  rw[qa7]at h;injection h with h;injection h with e f;omega
 |n+1,p,a,acc,es,r,h=>by
  rw[qa7]at h;split at h
  ·cases h
  next l q hq =>
  split at h
  ·cases h
  next d r' hr =>
  have e:=b _ _ _ _ hq;have f:=c _ _ _ hr;have g:=qg1 b c n r' _ _ es r h;omega
theorem qvv{bs:List UInt8}{lim:Int}{li:Nat->Nat->Except (Int×Int) (List (DataW Unit)×Nat)}{ma:Nat->Nat->Except (Int×Int) (List (Lit×DataW Unit)×Nat)}{so w x q:Nat}{d:DataW Unit}{r:Nat}(c:∀x q a r,li x q=.ok (a,r)->q<=r)(e:∀x q b r,ma x q=.ok (b,r)->q<=r)(h:qgr bs lim li ma so w x q=.ok (d,r)):q<=r:=by
 unfold qgr at h;split at h
 ·injection h with h;injection h with h1 h2;omega
 ·injection h with h;injection h with h1 h2;omega
 ·split at h
  ·cases h
  injection h with h;injection h with h1 h2;omega
 ·split at h
  ·cases h
  injection h with h;injection h with h1 h2;omega
 ·split at h
  ·cases h
  injection h with h;injection h with h1 h2;omega
 ·split at h
  ·cases h
  next l r' hl =>
  injection h with h;injection h with h1 h2;have:=qmS _ _ _ _ _ _ _ hl;omega
 ·split at h
  ·cases h
  next l r' hl =>
  injection h with h;injection h with h1 h2;have:=qgc _ _ _ _ _ _ _ _ hl;omega
 ·split at h
  ·cases h
  next a r' hl =>
  injection h with h;injection h with h1 h2;have:=c _ _ _ _ hl;omega
 ·split at h
  ·cases h
  next b r' hl =>
  injection h with h;injection h with h1 h2;have:=e _ _ _ _ hl;omega
 injection h with h;injection h with h1 h2;omega
theorem qkB(f:Nat->Nat×Nat×Nat)(bs:List UInt8)(lim depth:Int):∀(g e p:Nat) (d:DataW Unit) (q:Nat),thB f bs lim depth g e p=.ok (d,q)->p<q
 |0,_,_,_,_,h=>by rw[thB]at h;cases h
 |g+1,e,p,d,q,h=>by
  have j:=qkB f bs lim depth g (e+1)
  cases a:bs[p]? with
  |none =>
   unfold thB at h;rw[a]at h;cases h
  |some c =>
   by_cases i:(p:Int)=lim
   ·unfold thB at h;rw[a]at h;simp only[]at h;rw[if_pos i]at h;cases h
   rw[qeF a i rfl]at h;split at h
   ·cases h
   split at h
   ·cases h
   split at h
   ·cases h
   next x q' ha =>
   have o:=qgg _ _ _ _ _ _ _ ha;have s:=qvv (λx q k r b=>qjY j x q [] k r b) (λx q m r b=>qg1 (λt p l q n=>qpC n) j x q [] [] m r b) h;omega
theorem qaW(a:Nat->Nat×Nat×Nat)(f:Nat):∀(g:Nat) (W:World) (b:Nat) (s:Src),qad W b s->s.bs.length<=200000000->(∀V,But b W V->U8 V)->7<b->qf6 f a b W->s.depth<=100000->(s.within:Int)<=s.depth->s.depth<s.within+g ->
  Calls prog 217 #[.agg #[.pointer (some ⟨b,0,none⟩),.func (.func f) #[] #[]]] W (qkJ g W b s (thB a s.bs s.lim s.depth g s.within s.pos))
 |0,W,b,s,_,_,_,_,_,_,d,h2=>by omega
 |g+1,W,b,s,h,hlen,hU,h7,cH,hdp,hwd,hgd=>by
  have q:¬(s.within:Int)=s.depth->∀V,But b W V->qrY g f b {s with within:=s.within+1} V (thB a s.bs s.lim s.depth g (s.within+1)):=λl V j U p k i =>
   qaW a f g U b {s with pos:=p,within:=s.within+1} k hlen (λX m=>hU X ((j.trans i).trans m)) h7 (cH.but (j.trans i)) hdp (by show((s.within+1:Nat):Int)<=s.depth;omega) (by show s.depth<((s.within+1:Nat):Int)+g;omega)
  rcases qaR h with d|d|⟨c,d⟩
  ·have e:thB a s.bs s.lim s.depth (g+1) s.within s.pos=.error (9,(s.pos:Int)):=by
    unfold thB;rw[List.getElem?_eq_none (by have:s.pos=s.bs.length:=d;omega)]
   rw[e];exact qdY W b s f 9 h (λV j=>qb1 V b s j d)
  ·have e:thB a s.bs s.lim s.depth (g+1) s.within s.pos=.error (8,(s.pos:Int)):=by
    unfold thB;rw[List.getElem?_eq_getElem d.1];simp only[];rw[if_pos d.2]
   rw[e];exact qdY W b s f 8 h (λV j=>qbd V b s j d)
  exact qh7 g W b s c a f _ _ _ h d rfl (cH.so _ c.toNat_lt) (cH.fit _ c.toNat_lt).1 (cH.fit _ c.toNat_lt).2.1 (cH.fit _ c.toNat_lt).2.2 hlen (by omega) cH.fn hU h7 (cH.call c)
   (λl V p n k i o=>qjU g V b {s with pos:=p,within:=s.within+1} f n _ o k hlen (q l V i) (qkB a s.bs s.lim s.depth g (s.within+1)))
   (λl V p n k i o=>qly g V b {s with pos:=p,within:=s.within+1} f n a _ o k hlen (λX m=>hU X (i.trans m)) h7 (cH.but i) (q l V i) (qkB a s.bs s.lim s.depth g (s.within+1)))

def qfQ{α:Type}(bs:List UInt8)(lim:Int)(itF:α->Nat->Except (Int×Int) (α×Nat))(last:Nat):Nat->Nat->α->Except (Int×Int) (α×Nat)
 |0,p,_=>.error (9,p)
 |g+1,p,acc=>match spF bs lim (bs.length+1-p) p with
  |.error e=>.error e
  |.ok (_,p1)=>match itF acc p1 with
   |.error e=>.error e
   |.ok (acc',p2)=>match spF bs lim (bs.length+1-p2) p2 with
    |.error e=>.error e
    |.ok (_,p3)=>match bs[p3]? with
     |none=>.error (9,p3)
     |some c=>if(p3:Int)=lim then .error (8,p3)else if c.toNat=last then .ok (acc',p3+1)else if c.toNat=44 then qfQ bs lim itF last g (p3+1) acc' else .error (9,p3)
def qdV{α:Type}(bs:List UInt8)(lim:Int)(itF:α->Nat->Except (Int×Int) (α×Nat))(last p:Nat)(acc:α):Except (Int×Int) (α×Nat) :=
 match spF bs lim (bs.length+1-p) p with
 |.error e=>.error e
 |.ok (_,p1)=>match bs[p1]? with
  |none=>qfQ bs lim itF last (bs.length+1-p1) p1 acc
  |some c=>if(p1:Int)=lim then .error (8,p1)else if c.toNat=last then .ok (acc,p1+1)else qfQ bs lim itF last (bs.length+1-p1) p1 acc
def liJ(rd:Nat->Except (Int×Int) (DataW Unit×Nat))(ds:List (DataW Unit))(p:Nat):Except (Int×Int) (List (DataW Unit)×Nat) :=
 match rd p with
 |.error e=>.error e
 |.ok (d,q)=>.ok (ds++[d],q)
def qlm(bs:List UInt8)(lim:Int)(ks:List (List UInt8))(p:Nat):Except (Int×Int) (List UInt8×Nat) :=
 match qaQ bs lim [34] p with
 |.error e=>.error e
 |.ok (_,q)=>match qcT bs lim (bs.length+1-q) q [] 0 with
  |.error e=>.error e
  |.ok (l,r)=>if l∈ks then .error (12,(r:Int)-1)else .ok (l,r)
def enJ(bs:List UInt8)(lim:Int)(rd:Nat->Except (Int×Int) (DataW Unit×Nat))(a:List (List UInt8)×List (Lit×DataW Unit))(p:Nat):Except (Int×Int) ((List (List UInt8)×List (Lit×DataW Unit))×Nat) :=
 match qlm bs lim a.1 p with
 |.error e=>.error e
 |.ok (l,p1)=>match spF bs lim (bs.length+1-p1) p1 with
  |.error e=>.error e
  |.ok (_,p2)=>match qaQ bs lim [58] p2 with
   |.error e=>.error e
   |.ok (_,p3)=>match spF bs lim (bs.length+1-p3) p3 with
    |.error e=>.error e
    |.ok (_,p4)=>match rd p4 with
     |.error e=>.error e
     |.ok (d,p5)=>.ok ((l::a.1,a.2++[(.string l,d)]),p5)
def qjC(bs:List UInt8)(lim depth:Int)(wi:Nat)(rd:Nat->Except (Int×Int) (DataW Unit×Nat))(nm:UInt8->Nat->Except (Int×Int) (Int×Nat))(c:UInt8)(p:Nat):Except (Int×Int) (DataW Unit×Nat) :=
 if c.toNat=110 then match qaQ bs lim [117,108,108] p with
  |.error e=>.error e
  |.ok (_,q)=>.ok (.nil,q)
 else if c.toNat=116 then match qaQ bs lim [114,117,101] p with
  |.error e=>.error e
  |.ok (_,q)=>.ok (.lit (.bool true),q)
 else if c.toNat=102 then match qaQ bs lim [97,108,115,101] p with
  |.error e=>.error e
  |.ok (_,q)=>.ok (.lit (.bool false),q)
 else if c.toNat=34 then match qcT bs lim (bs.length+1-p) p [] 0 with
  |.error e=>.error e
  |.ok (l,q)=>.ok (.lit (.string l),q)
 else if c.toNat=91 then(if(wi:Int)=depth then .error (11,(p:Int)-1)else match qdV bs lim (liJ rd) 93 p []with
  |.error e=>.error e
  |.ok (ds,q)=>.ok (.agg ds,q))
 else if c.toNat=123 then(if(wi:Int)=depth then .error (11,(p:Int)-1)else match qdV bs lim (enJ bs lim rd) 125 p ([],[])with
  |.error e=>.error e
  |.ok (es,q)=>.ok (.map es.2,q))
 else if c.toNat=45\/qbO c=true then match nm c p with
  |.error e=>.error e
  |.ok (z,q)=>.ok (.lit (.int .i64 z),q)
 else .error (9,(p:Int)-1)
def thJ(bs:List UInt8)(lim depth:Int)(nm:UInt8->Nat->Except (Int×Int) (Int×Nat)):Nat->Nat->Nat->Except (Int×Int) (DataW Unit×Nat)
 |0,_,_=>.error (0,0)
 |g+1,wi,p=>match bs[p]? with
  |none=>.error (9,p)
  |some c=>if(p:Int)=lim then .error (8,p)else qjC bs lim depth wi (thJ bs lim depth nm g (wi+1)) nm c (p+1)
def qcj(k:Nat)(W:World)(b:Nat)(s:Src)(r:Except (Int×Int) (DataW Unit×Nat))(e:Ending)(W':World):Prop :=
 But b W W'/\match r with
 |.ok (d,p)=>(∃t y,e=.returned (.iface t y)/\qai k W' (λj=>W.heap.size<=j/\j<W'.heap.size) (.iface t y) d)/\qad W' b {s with pos:=p}
 |.error (en,pl)=>qan en pl e
def qgC(k b:Nat)(s:Src)(W0:World)(rd:Nat->Except (Int×Int) (DataW Unit×Nat)):Prop :=
 ∀(V:World) (p:Nat),qad V b {s with pos:=p}->But b W0 V->Calls prog 188 #[.agg #[.pointer (some ⟨b,0,none⟩)]] V (qcj k V b {s with pos:=p} (rd p))

def qcP{α:Type}(St:Nat->α->World->Prop)(Fr:World->Prop)(r:Except (Int×Int) (α×Nat))(e:Ending)(V:World):Prop :=
 match r with
 |.ok (a,q)=>e=.returned (.tuple #[])/\St q a V
 |.error (en,pl)=>qan en pl e/\Fr V
structure qi4{α:Type}(b:Nat)(s:Src)(St:Nat->Nat->Nat->α->World->Prop)(Fr:World->Prop):Prop where
 src:∀N wi p a V,St N wi p a V->qad V b {s with pos:=p,within:=wi}
 step:∀N wi p a V wi' q V',St N wi p a V->qad V' b {s with pos:=q,within:=wi' }->But b V V'->p<=q->St N wi' q a V'
 box:∀N wi p a V,St N wi p a V->V.heap[N]?=some (.cells #[.pointer (some ⟨b,0,none⟩)] 130)
 fr:∀N wi p a V,St N wi p a V->Fr V
 frb:∀V V',Fr V->But b V V'->Fr V'
theorem qc6(bs:List UInt8)(lim:Int):∀(g p:Nat) (u:Unit) (q:Nat),spF bs lim g p=.ok (u,q)->p<=q
 |0,p,u,q,h=>by
  rw[spF]at h;injection h with h;injection h with h1 h2;omega
 |g+1,p,u,q,h=>by
  rw[spF]at h;split at h
  ·injection h with h;injection h with h1 h2;omega
  split at h
  ·cases h
  split at h
  ·have:=qc6 bs lim g (p+1) u q h;omega
  injection h with h;injection h with h1 h2;omega
theorem qh5{α:Type}(W:World)(b L r:Nat)(s:Src)(itF:α->Nat->Except (Int×Int) (α×Nat))(J:α)(B:Nat->Nat->Nat->α->World->Prop)(Z:World->Prop)(hI:qi4 b s B Z)(av:qad W b s)(hd:¬(s.within:Int)=s.depth)(a8:s.within<=100000)(a2:B W.heap.size s.within s.pos J (W.alloc (.cells #[.pointer (some ⟨b,0,none⟩)] 130)))(ag:∀ai p a V,B ai (s.within+1) p a V->Calls prog 202 #[.pointer (some ⟨L,0,none⟩),.pointer (some ⟨r,0,none⟩)] V (qcP (B ai (s.within+1)) Z (itF a p)))(a1:∀a p h ac,itF a p=.ok (h,ac)->p<ac):Calls prog 201 #[.agg #[.pointer (some ⟨b,0,none⟩)],.int .u8 93,.func (.func 202) #[] #[.pointer (some ⟨L,0,none⟩),.pointer (some ⟨r,0,none⟩)]] W (qcP (λac a V=>B W.heap.size s.within ac a V) Z (qdV s.bs s.lim itF 93 s.pos J)):=by
 have HS:=qab a2;have f:=qab hI;have ar:=qab a1;have cE:=qjj (W.alloc (.cells #[.pointer (some ⟨b,0,none⟩)] 130)) b s (av.below bwA) hd (by omega);have v:∀(V:World) (p:Nat),qad V b {s with pos:=p,within:=s.within+1}->Calls prog 209 #[.pointer (some ⟨b,0,none⟩)] V λe P=>e=.returned (.tuple #[])/\qad P b {s with pos:=p}/\But b V P:=λV p k=>qkg V b s.within {s with pos:=p,within:=s.within+1} k rfl (by show s.within+1<=_;omega);obtain⟨R,I⟩:∃R,Hid (qdV s.bs s.lim itF 93 s.pos J=R):=⟨_,show _=_ from rfl⟩
 rw[I.out];have d:=I.out;unfold qdV at d;have t:=qaa (f.out.box _ _ _ _ _ HS.out) 0;go_enter func201,ntmps201;go_wp2;go_step3
 go_wp2_with fail
 refine cE.mono ?_;rintro e w2 ⟨rfl,a0,aw⟩;have u:=qab (f.out.step _ _ _ _ _ _ _ _ HS.out a0 aw (by omega));have t:=qaa (f.out.box _ _ _ _ _ u.out) 0
 go_wp2_with fail
 refine(qaT w2 b {s with pos:=s.pos,within:=s.within+1} (f.out.src _ _ _ _ _ u.out)).mono ?_;rintro e w3 ⟨aj,q⟩
 cases w:spF s.bs s.lim (s.bs.length+1-s.pos) s.pos with
 |error D =>
  obtain⟨C,F⟩:=D;simp only[w]at d q;subst d;obtain rfl:=(show qan C F e from q)
  go_wp2;exact⟨rfl,rfl,f.out.frb _ _ (f.out.fr _ _ _ _ _ u.out) aj⟩
 |ok up =>
  obtain⟨a9,i⟩:=up;simp only[w]at d q;have a4:=qc6 _ _ _ _ _ _ w;obtain⟨rfl,am⟩:=(show e=.returned (.tuple #[])/\qad w3 b {s with pos:=i,within:=s.within+1}from q)
  have y:=qab (f.out.step _ _ _ _ _ _ _ _ u.out am aj (by omega));have ah:Hid (i<=s.bs.length):=am.le;have t:=qaa (f.out.box _ _ _ _ _ y.out) 0;have a3:(qxz {s with pos:=i,within:=s.within+1}/\R=.error (8,(i:Int)))\/(∃c,qgu {s with pos:=i,within:=s.within+1} c/\c.toNat=93/\R=.ok (J,i+1))\/((Calls prog 196 #[.pointer (some ⟨b,0,none⟩),.int .u8 93] w3 λe P=>e=.returned (.bool false)/\qad P b {s with pos:=i,within:=s.within+1}/\But b w3 P)/\qfQ s.bs s.lim itF 93 (s.bs.length+1-i) i J=R):=by
   have k:=(f.out.src _ _ _ _ _ y.out)
   cases l:s.bs[i]? with
   |none =>
    rw[l]at d;refine .inr (.inr ⟨qjz 93 k ?_,d⟩);have x:i<=s.bs.length:=k.le;have K:=List.getElem?_eq_none_iff.1 l;show i=s.bs.length;omega
   |some c =>
    rw[l]at d;simp only[]at d;have K:=ltL l;by_cases o:(i:Int)=s.lim
    ·rw[if_pos o]at d;exact .inl ⟨⟨K,o⟩,d.symm⟩
    rw[if_neg o]at d;by_cases m:c.toNat=93
    ·rw[if_pos m]at d;exact .inr (.inl ⟨c,⟨l,o⟩,m,d.symm⟩)
    rw[if_neg m]at d;refine .inr (.inr ⟨?_,d⟩);have:=qdM (c:=c) 93 k ⟨l,o⟩;rwa[show((c.toNat:Int)==93)=false by simp;omega]at this
  go_wp2_with fail
  rcases a3 with⟨az,rfl⟩|⟨c,al,hc,rfl⟩|⟨N,d⟩
  ·refine(qd2 w3 b {s with pos:=i,within:=s.within+1} 93 (f.out.src _ _ _ _ _ y.out) az).mono ?_;rintro e w4 ⟨rfl,S⟩;go_wp2;exact⟨rfl,rfl,f.out.frb _ _ (f.out.fr _ _ _ _ _ y.out) (But.of_below S)⟩
  ·have N:=qdM (c:=c) 93 (f.out.src _ _ _ _ _ y.out) al;rw[show((c.toNat:Int)==93)=true by rw[hc];rfl]at N;refine N.mono ?_;rintro e w4 ⟨rfl,ae,S⟩;have n:=qab (f.out.step _ _ _ _ _ _ _ _ y.out ae S (by omega));have t:=qaa (f.out.box _ _ _ _ _ n.out) 0
   go_wp2_with fail
   refine(qaw w4 b {s with pos:=i,within:=s.within+1} c (f.out.src _ _ _ _ _ n.out) al).mono ?_;rintro e w5 ⟨rfl,aa,T⟩;have G:=qab (f.out.step _ _ _ _ _ _ _ _ n.out (show qad w5 b {s with pos:=i+1,within:=s.within+1}from aa) T (by omega));have t:=qaa (f.out.box _ _ _ _ _ G.out) 0
   go_wp2_with fail
   refine(v w5 (i+1) (f.out.src _ _ _ _ _ G.out)).mono ?_;rintro e w6 ⟨rfl,ab,ax⟩;have z:=qab (f.out.step _ _ _ _ _ _ _ _ G.out ab ax (by omega));go_wp2;refine qhd ?_;go_end0;exact⟨rfl,z.out⟩
  have I:=qab d;refine N.mono ?_;rintro e w4 ⟨rfl,ae,S⟩;have n:=qab (f.out.step _ _ _ _ _ _ _ _ y.out ae S (by omega));go_wp2;go_step3;go_wp2
  go_loopg[21] (s.bs.length+1-i) (λg _ wr=>∃(p:Nat) (a:α),Hid (s.bs.length+1<=p+g)/\Hid (p<=s.bs.length)/\Hid (B W.heap.size (s.within+1) p a wr)/\Hid (qfQ s.bs s.lim itF 93 g p a=R))
  case atStart=>exact⟨i,J,by show _<=_;have:=ah.out;omega,ah,n,I⟩
  case round =>
   obtain⟨p,a,hg,hp,n,I⟩:=hrel;obtain⟨g,rfl⟩:∃g,gk=g+1:=⟨gk-1,by have:=hg.out;have:=hp.out;omega⟩
   have t:=qaa (f.out.box _ _ _ _ _ n.out) 0;have d:=I.out;rw[qfQ]at d
   go_wp2_with fail
   refine(qaT wr b {s with pos:=p,within:=s.within+1} (f.out.src _ _ _ _ _ n.out)).mono ?_;rintro e w5 ⟨T,U⟩
   cases w:spF s.bs s.lim (s.bs.length+1-p) p with
   |error D =>
    obtain⟨C,F⟩:=D;simp only[w]at d U;subst d;clear w ag v;obtain rfl:=(show qan C F e from U)
    go_wp2;exact⟨rfl,rfl,f.out.frb _ _ (f.out.fr _ _ _ _ _ n.out) T⟩
   |ok up =>
    obtain⟨u1,q1⟩:=up;simp only[w]at d U;have a5:=qc6 _ _ _ _ _ _ w;clear w;obtain⟨rfl,aa⟩:=(show e=.returned (.tuple #[])/\qad w5 b {s with pos:=q1,within:=s.within+1}from U)
    have G:=qab (f.out.step _ _ _ _ _ _ _ _ n.out aa T (by omega));clear n aa T U
    go_wp2_with fail
    refine(ag _ _ _ _ G.out).mono ?_;clear ag;rintro e w6 E
    cases l:itF a q1 with
    |error D =>
     obtain⟨C,F⟩:=D;rw[l]at d E;simp only[]at d;subst d;clear l v;obtain⟨E,ay⟩:=(show qan C F e/\Z w6 from E)
     obtain rfl:=E;go_wp2;exact⟨rfl,rfl,ay⟩
    |ok aq =>
     obtain⟨h,q2⟩:=aq;rw[l]at d E;simp only[]at d;have a6:=ar.out _ _ _ _ l;clear l;obtain⟨rfl,ab⟩:=(show e=.returned (.tuple #[])/\B W.heap.size (s.within+1) q2 h w6 from E)
     have z:=qab ab;clear G E ab;have t:=qaa (f.out.box _ _ _ _ _ z.out) 0
     go_wp2_with fail
     refine(qaT w6 b {s with pos:=q2,within:=s.within+1} (f.out.src _ _ _ _ _ z.out)).mono ?_;clear t;rintro e w7 ⟨ad,X⟩
     cases o:spF s.bs s.lim (s.bs.length+1-q2) q2 with
     |error D =>
      obtain⟨C,F⟩:=D;simp only[o]at d X;subst d;clear o v;obtain rfl:=(show qan C F e from X)
      go_wp2;exact⟨rfl,rfl,f.out.frb _ _ (f.out.fr _ _ _ _ _ z.out) ad⟩
     |ok up =>
      obtain⟨u3,j⟩:=up;simp only[o]at d X;have a7:=qc6 _ _ _ _ _ _ o;clear o;obtain⟨rfl,an⟩:=(show e=.returned (.tuple #[])/\qad w7 b {s with pos:=j,within:=s.within+1}from X)
      have H:=qab (f.out.step _ _ _ _ _ _ _ _ z.out an ad (by omega));clear z an ad X;have t:=qaa (f.out.box _ _ _ _ _ H.out) 0
      go_wp2_with fail
      have k:=(f.out.src _ _ _ _ _ H.out)
      cases m:s.bs[j]? with
      |none =>
       simp only[m]at d;subst d;refine(qb1 w7 b {s with pos:=j,within:=s.within+1} k (by show j=s.bs.length;have x:j<=s.bs.length:=k.le;have K:=List.getElem?_eq_none_iff.1 m;omega)).mono ?_;clear m v k;rintro e Y ⟨rfl,O⟩;go_wp2;exact⟨rfl,rfl,f.out.frb _ _ (f.out.fr _ _ _ _ _ H.out) (But.of_below O)⟩
      |some c =>
       rw[m]at d;simp only[]at d;have K:=ltL m;by_cases x:(j:Int)=s.lim
       ·rw[if_pos x]at d;subst d;refine(qbd w7 b {s with pos:=j,within:=s.within+1} k ⟨K,x⟩).mono ?_;clear m x K v k;rintro e Y ⟨rfl,O⟩;go_wp2;exact⟨rfl,rfl,f.out.frb _ _ (f.out.fr _ _ _ _ _ H.out) (But.of_below O)⟩
       rw[if_neg x]at d;refine(qaw w7 b {s with pos:=j,within:=s.within+1} c k ⟨m,x⟩).mono ?_;clear m x t k;rintro e Y ⟨rfl,af,O⟩;have A:=qab (f.out.step _ _ _ _ _ _ _ _ H.out (show qad Y b {s with pos:=j+1,within:=s.within+1}from af) O (by omega));have au:Hid (j+1<=s.bs.length):=af.le;clear H af O;have t:=qaa (f.out.box _ _ _ _ _ A.out) 0;by_cases M:c.toNat=93
       ·rw[if_pos M]at d;subst d;have e1:((c.toNat:Int)==93)=true:=by rw[M];rfl
        clear M
        go_wp2_with fail
        refine(v Y (j+1) (f.out.src _ _ _ _ _ A.out)).mono ?_;clear v t;rintro e w9 ⟨rfl,ao,ak⟩;have H9:=qab (f.out.step _ _ _ _ _ _ _ _ A.out ao ak (by omega));clear A ao ak;go_wp2
        first|(refine qhd ?_;go_end0)|go_end0
        exact⟨rfl,H9.out⟩
       rw[if_neg M]at d;have e1:=nec (c:=c) 93 (by omega);by_cases Q:c.toNat=44
       ·rw[if_pos Q]at d;have HN:=qab d;have e2:((c.toNat:Int)==44)=true:=by rw[Q];rfl
        have ap:Hid (s.bs.length+1<=(j+1)+g):=by show _<=_;have:=hg.out;omega
        clear M Q d v;go_wp2;go_roundg g
        case measure=>omega
        case rel=>exact⟨j+1,h,ap,au,A,HN⟩
       rw[if_neg Q]at d;subst d;have e2:=nec (c:=c) 44 (by omega);have cR:=qau Y b {s with pos:=j+1,within:=s.within+1} 9 (f.out.src _ _ _ _ _ A.out);rw[show((({s with pos:=j+1,within:=s.within+1}:Src).pos:Int)-1)=j by show(((j+1:Nat)):Int)-1=j;omega]at cR;clear M Q v
       go_wp2_with fail
       refine cR.mono ?_;rintro e w9 ⟨rfl,rfl⟩;go_wp2;exact⟨rfl,rfl,f.out.fr _ _ _ _ _ A.out⟩

theorem qjx{α:Type}(W:World)(b L r m:Nat)(s:Src)(itF:α->Nat->Except (Int×Int) (α×Nat))(K:α)(C:Nat->Nat->Nat->α->World->Prop)(u:World->Prop)(hI:qi4 b s C u)(av:qad W b s)(hd:¬(s.within:Int)=s.depth)(a8:s.within<=100000)(a2:C W.heap.size s.within s.pos K (W.alloc (.cells #[.pointer (some ⟨b,0,none⟩)] 130)))(ag:∀ai p a V,C ai (s.within+1) p a V->Calls prog 203 #[.pointer (some ⟨r,0,none⟩),.pointer (some ⟨m,0,none⟩),.pointer (some ⟨L,0,none⟩)] V (qcP (C ai (s.within+1)) u (itF a p)))(a1:∀a p N ac,itF a p=.ok (N,ac)->p<ac):Calls prog 201 #[.agg #[.pointer (some ⟨b,0,none⟩)],.int .u8 125,.func (.func 203) #[] #[.pointer (some ⟨r,0,none⟩),.pointer (some ⟨m,0,none⟩),.pointer (some ⟨L,0,none⟩)]] W (qcP (λac a V=>C W.heap.size s.within ac a V) u (qdV s.bs s.lim itF 125 s.pos K)):=by
 have HS:=qab a2;have f:=qab hI;have ar:=qab a1;have cE:=qjj (W.alloc (.cells #[.pointer (some ⟨b,0,none⟩)] 130)) b s (av.below bwA) hd (by omega);have w:∀(V:World) (p:Nat),qad V b {s with pos:=p,within:=s.within+1}->Calls prog 209 #[.pointer (some ⟨b,0,none⟩)] V λe Q=>e=.returned (.tuple #[])/\qad Q b {s with pos:=p}/\But b V Q:=λV p k=>qkg V b s.within {s with pos:=p,within:=s.within+1} k rfl (by show s.within+1<=_;omega);obtain⟨R,J⟩:∃R,Hid (qdV s.bs s.lim itF 125 s.pos K=R):=⟨_,show _=_ from rfl⟩
 rw[J.out];have d:=J.out;unfold qdV at d;have v:=qaa (f.out.box _ _ _ _ _ HS.out) 0;go_enter func201,ntmps201;go_wp2;go_step3
 go_wp2_with fail
 refine cE.mono ?_;rintro e w2 ⟨rfl,a0,aw⟩;have h:=qab (f.out.step _ _ _ _ _ _ _ _ HS.out a0 aw (by omega));have v:=qaa (f.out.box _ _ _ _ _ h.out) 0
 go_wp2_with fail
 refine(qaT w2 b {s with pos:=s.pos,within:=s.within+1} (f.out.src _ _ _ _ _ h.out)).mono ?_;rintro e w3 ⟨aj,q⟩
 cases x:spF s.bs s.lim (s.bs.length+1-s.pos) s.pos with
 |error E =>
  obtain⟨D,G⟩:=E;simp only[x]at d q;subst d;obtain rfl:=(show qan D G e from q)
  go_wp2;exact⟨rfl,rfl,f.out.frb _ _ (f.out.fr _ _ _ _ _ h.out) aj⟩
 |ok up =>
  obtain⟨a9,i⟩:=up;simp only[x]at d q;have a4:=qc6 _ _ _ _ _ _ x;obtain⟨rfl,am⟩:=(show e=.returned (.tuple #[])/\qad w3 b {s with pos:=i,within:=s.within+1}from q)
  have z:=qab (f.out.step _ _ _ _ _ _ _ _ h.out am aj (by omega));have ah:Hid (i<=s.bs.length):=am.le;have v:=qaa (f.out.box _ _ _ _ _ z.out) 0;have a3:(qxz {s with pos:=i,within:=s.within+1}/\R=.error (8,(i:Int)))\/(∃c,qgu {s with pos:=i,within:=s.within+1} c/\c.toNat=125/\R=.ok (K,i+1))\/((Calls prog 196 #[.pointer (some ⟨b,0,none⟩),.int .u8 125] w3 λe Q=>e=.returned (.bool false)/\qad Q b {s with pos:=i,within:=s.within+1}/\But b w3 Q)/\qfQ s.bs s.lim itF 125 (s.bs.length+1-i) i K=R):=by
   have k:=(f.out.src _ _ _ _ _ z.out)
   cases l:s.bs[i]? with
   |none =>
    rw[l]at d;refine .inr (.inr ⟨qjz 125 k ?_,d⟩);have y:i<=s.bs.length:=k.le;have M:=List.getElem?_eq_none_iff.1 l;show i=s.bs.length;omega
   |some c =>
    rw[l]at d;simp only[]at d;have M:=ltL l;by_cases t:(i:Int)=s.lim
    ·rw[if_pos t]at d;exact .inl ⟨⟨M,t⟩,d.symm⟩
    rw[if_neg t]at d;by_cases n:c.toNat=125
    ·rw[if_pos n]at d;exact .inr (.inl ⟨c,⟨l,t⟩,n,d.symm⟩)
    rw[if_neg n]at d;refine .inr (.inr ⟨?_,d⟩);have:=qdM (c:=c) 125 k ⟨l,t⟩;rwa[show((c.toNat:Int)==125)=false by simp;omega]at this
  go_wp2_with fail
  rcases a3 with⟨az,rfl⟩|⟨c,al,hc,rfl⟩|⟨cF,d⟩
  ·refine(qd2 w3 b {s with pos:=i,within:=s.within+1} 125 (f.out.src _ _ _ _ _ z.out) az).mono ?_;rintro e w4 ⟨rfl,T⟩;go_wp2;exact⟨rfl,rfl,f.out.frb _ _ (f.out.fr _ _ _ _ _ z.out) (But.of_below T)⟩
  ·have cF:=qdM (c:=c) 125 (f.out.src _ _ _ _ _ z.out) al;rw[show((c.toNat:Int)==125)=true by rw[hc];rfl]at cF;refine cF.mono ?_;rintro e w4 ⟨rfl,ae,T⟩;have o:=qab (f.out.step _ _ _ _ _ _ _ _ z.out ae T (by omega));have v:=qaa (f.out.box _ _ _ _ _ o.out) 0
   go_wp2_with fail
   refine(qaw w4 b {s with pos:=i,within:=s.within+1} c (f.out.src _ _ _ _ _ o.out) al).mono ?_;rintro e w5 ⟨rfl,aa,U⟩;have H:=qab (f.out.step _ _ _ _ _ _ _ _ o.out (show qad w5 b {s with pos:=i+1,within:=s.within+1}from aa) U (by omega));have v:=qaa (f.out.box _ _ _ _ _ H.out) 0
   go_wp2_with fail
   refine(w w5 (i+1) (f.out.src _ _ _ _ _ H.out)).mono ?_;rintro e w6 ⟨rfl,ab,ax⟩;have A:=qab (f.out.step _ _ _ _ _ _ _ _ H.out ab ax (by omega));go_wp2;refine qhd ?_;go_end0;exact⟨rfl,A.out⟩
  have J:=qab d;refine cF.mono ?_;rintro e w4 ⟨rfl,ae,T⟩;have o:=qab (f.out.step _ _ _ _ _ _ _ _ z.out ae T (by omega));go_wp2;go_step3;go_wp2
  go_loopg[21] (s.bs.length+1-i) (λg _ wr=>∃(p:Nat) (a:α),Hid (s.bs.length+1<=p+g)/\Hid (p<=s.bs.length)/\Hid (C W.heap.size (s.within+1) p a wr)/\Hid (qfQ s.bs s.lim itF 125 g p a=R))
  case atStart=>exact⟨i,K,by show _<=_;have:=ah.out;omega,ah,o,J⟩
  case round =>
   obtain⟨p,a,hg,hp,o,J⟩:=hrel;obtain⟨g,rfl⟩:∃g,gk=g+1:=⟨gk-1,by have:=hg.out;have:=hp.out;omega⟩
   have v:=qaa (f.out.box _ _ _ _ _ o.out) 0;have d:=J.out;rw[qfQ]at d
   go_wp2_with fail
   refine(qaT wr b {s with pos:=p,within:=s.within+1} (f.out.src _ _ _ _ _ o.out)).mono ?_;rintro e w5 ⟨U,X⟩
   cases x:spF s.bs s.lim (s.bs.length+1-p) p with
   |error E =>
    obtain⟨D,G⟩:=E;simp only[x]at d X;subst d;clear x ag w;obtain rfl:=(show qan D G e from X)
    go_wp2;exact⟨rfl,rfl,f.out.frb _ _ (f.out.fr _ _ _ _ _ o.out) U⟩
   |ok up =>
    obtain⟨u1,q1⟩:=up;simp only[x]at d X;have a5:=qc6 _ _ _ _ _ _ x;clear x;obtain⟨rfl,aa⟩:=(show e=.returned (.tuple #[])/\qad w5 b {s with pos:=q1,within:=s.within+1}from X)
    have H:=qab (f.out.step _ _ _ _ _ _ _ _ o.out aa U (by omega));clear o aa U X
    go_wp2_with fail
    refine(ag _ _ _ _ H.out).mono ?_;clear ag;rintro e w6 F
    cases l:itF a q1 with
    |error E =>
     obtain⟨D,G⟩:=E;rw[l]at d F;simp only[]at d;subst d;clear l w;obtain⟨F,ay⟩:=(show qan D G e/\u w6 from F)
     obtain rfl:=F;go_wp2;exact⟨rfl,rfl,ay⟩
    |ok aq =>
     obtain⟨N,q2⟩:=aq;rw[l]at d F;simp only[]at d;have a6:=ar.out _ _ _ _ l;clear l;obtain⟨rfl,ab⟩:=(show e=.returned (.tuple #[])/\C W.heap.size (s.within+1) q2 N w6 from F)
     have A:=qab ab;clear H F ab;have v:=qaa (f.out.box _ _ _ _ _ A.out) 0
     go_wp2_with fail
     refine(qaT w6 b {s with pos:=q2,within:=s.within+1} (f.out.src _ _ _ _ _ A.out)).mono ?_;clear v;rintro e w7 ⟨ad,Y⟩
     cases t:spF s.bs s.lim (s.bs.length+1-q2) q2 with
     |error E =>
      obtain⟨D,G⟩:=E;simp only[t]at d Y;subst d;clear t w;obtain rfl:=(show qan D G e from Y)
      go_wp2;exact⟨rfl,rfl,f.out.frb _ _ (f.out.fr _ _ _ _ _ A.out) ad⟩
     |ok up =>
      obtain⟨u3,j⟩:=up;simp only[t]at d Y;have a7:=qc6 _ _ _ _ _ _ t;clear t;obtain⟨rfl,an⟩:=(show e=.returned (.tuple #[])/\qad w7 b {s with pos:=j,within:=s.within+1}from Y)
      have I:=qab (f.out.step _ _ _ _ _ _ _ _ A.out an ad (by omega));clear A an ad Y;have v:=qaa (f.out.box _ _ _ _ _ I.out) 0
      go_wp2_with fail
      have k:=(f.out.src _ _ _ _ _ I.out)
      cases n:s.bs[j]? with
      |none =>
       simp only[n]at d;subst d;refine(qb1 w7 b {s with pos:=j,within:=s.within+1} k (by show j=s.bs.length;have y:j<=s.bs.length:=k.le;have M:=List.getElem?_eq_none_iff.1 n;omega)).mono ?_;clear n w k;rintro e Z ⟨rfl,P⟩;go_wp2;exact⟨rfl,rfl,f.out.frb _ _ (f.out.fr _ _ _ _ _ I.out) (But.of_below P)⟩
      |some c =>
       rw[n]at d;simp only[]at d;have M:=ltL n;by_cases y:(j:Int)=s.lim
       ·rw[if_pos y]at d;subst d;refine(qbd w7 b {s with pos:=j,within:=s.within+1} k ⟨M,y⟩).mono ?_;clear n y M w k;rintro e Z ⟨rfl,P⟩;go_wp2;exact⟨rfl,rfl,f.out.frb _ _ (f.out.fr _ _ _ _ _ I.out) (But.of_below P)⟩
       rw[if_neg y]at d;refine(qaw w7 b {s with pos:=j,within:=s.within+1} c k ⟨n,y⟩).mono ?_;clear n y v k;rintro e Z ⟨rfl,af,P⟩;have B:=qab (f.out.step _ _ _ _ _ _ _ _ I.out (show qad Z b {s with pos:=j+1,within:=s.within+1}from af) P (by omega));have au:Hid (j+1<=s.bs.length):=af.le;clear I af P;have v:=qaa (f.out.box _ _ _ _ _ B.out) 0;by_cases O:c.toNat=125
       ·rw[if_pos O]at d;subst d;have e1:((c.toNat:Int)==125)=true:=by rw[O];rfl
        clear O
        go_wp2_with fail
        refine(w Z (j+1) (f.out.src _ _ _ _ _ B.out)).mono ?_;clear w v;rintro e w9 ⟨rfl,ao,ak⟩;have H9:=qab (f.out.step _ _ _ _ _ _ _ _ B.out ao ak (by omega));clear B ao ak;go_wp2
        first|(refine qhd ?_;go_end0)|go_end0
        exact⟨rfl,H9.out⟩
       rw[if_neg O]at d;have e1:=nec (c:=c) 125 (by omega);by_cases S:c.toNat=44
       ·rw[if_pos S]at d;have HN:=qab d;have e2:((c.toNat:Int)==44)=true:=by rw[S];rfl
        have ap:Hid (s.bs.length+1<=(j+1)+g):=by show _<=_;have:=hg.out;omega
        clear O S d w;go_wp2;go_roundg g
        case measure=>omega
        case rel=>exact⟨j+1,N,ap,au,B,HN⟩
       rw[if_neg S]at d;subst d;have e2:=nec (c:=c) 44 (by omega);have cR:=qau Z b {s with pos:=j+1,within:=s.within+1} 9 (f.out.src _ _ _ _ _ B.out);rw[show((({s with pos:=j+1,within:=s.within+1}:Src).pos:Int)-1)=j by show(((j+1:Nat)):Int)-1=j;omega]at cR;clear O S w
       go_wp2_with fail
       refine cR.mono ?_;rintro e w9 ⟨rfl,rfl⟩;go_wp2;exact⟨rfl,rfl,f.out.fr _ _ _ _ _ B.out⟩

end
section
open Go.RowKit Go.Shelf
section
attribute[local go_sem] Oper.semAt_some
structure PgI(w:World)(pre:List Str)(W:World):Prop where
 below:Below w.heap.size w W
 r0:Boxed W w.heap.size 144 (.slice none 0 0)
 r1:Boxed W (w.heap.size+1) 4 (.bool false)
 pat:∃ao cap xs,Boxed W (w.heap.size+2) 144 (.slice ao pre.length cap)/\W.ownsRow (w.heap.size+6) 151 2 (.slice ao pre.length cap) pre.length xs/\Hid (xs=pre.flatMap λx=>sgC (sgS (lst x)))
 le:pre.length<=8
 all:pre.all (λx=>qg9 (lst x))=true
 size:w.heap.size+6<=W.heap.size
theorem PgI.own{row:Nat}(h:PgI w pre W)(a:W.grownBy W' (some row))(c:row=w.heap.size+3\/(w.heap.size+6<=row/\∃o,W.heap[row]?=some o/\o.isCells=false)):PgI w pre W':=by
 obtain⟨g,j,q,n,d,p⟩:=h.pat;refine⟨h.below.trans ⟨a.os,a.tape,a.output,a.size,λi v=>a.block i (by have:=h.size;omega) (by intro e;cases e;omega)⟩,h.r0.kept a (by intro e;cases e;omega),h.r1.kept a (by intro e;cases e;omega),⟨g,j,q,n.kept a (by intro e;cases e;omega),d.kept a ?_,p⟩,h.le,h.all,Nat.le_trans h.size a.size⟩;rcases d.2 with⟨b,_⟩|⟨k,r,s,b,u,m,_⟩
 ·left;rw[b];rfl
 right;rw[b];intro e;cases e;rcases c with c|⟨_,o,f,l⟩
 ·have t:k=w.heap.size+3:=c;omega
 rw[m]at f;cases f;cases l
theorem PgI.out{post:List Str}(h:PgI w pre W)(a:8<post.length\/post.all (λx=>qg9 (lst x))=false):qyz w post .ret ((W.setCell ⟨w.heap.size,0,none⟩ (.slice none 0 0)).setCell ⟨w.heap.size+1,0,none⟩ (.bool false)):=by
 have b:=Tr.set w.heap.size (w.heap.size+3) W w.heap.size (.slice none 0 0) (Nat.le_refl _) (by omega);have c:=Tr.set w.heap.size (w.heap.size+3) (W.setCell ⟨w.heap.size,0,none⟩ (.slice none 0 0)) (w.heap.size+1) (.bool false) (by omega) (by omega);refine⟨rfl,h.below.trans (b.trans c).below,?_,?_,a,?_⟩
 ·exact(h.r0.set _).kept (grownBy_setCell' _ _ _) (by intro e;injection e with e;omega)
 ·exact Boxed.set _ (h.r1.kept (grownBy_setCell' _ _ _) (by intro e;injection e with e;omega))
 simp[World.setCell];exact h.size
theorem PgI.alloc(h:PgI w pre W)(o:Obj):PgI w pre (W.alloc o):=h.own (World.grownBy_alloc W o (some (w.heap.size+3))) (.inl rfl)
theorem PgI.belowS(h:PgI w pre W)(a:Below W.heap.size W W'):PgI w pre W' :=
 h.own (row:=w.heap.size+3) ⟨a.os,a.tape,a.output,a.size,λi b _=>a.block i b⟩ (.inl rfl)
theorem qwo(w:World)(s:ByteArray)(a:World)(b:((((((w.alloc (.cells #[.slice none 0 0] 144)).alloc (.cells #[.bool false] 4)).alloc (.cells #[.slice none 0 0] 144)).alloc (.cells #[.string s] 9)).alloc (.cells #[.string ⟨#[47]⟩] 9)).alloc (.cells #[.int .i64 0] 3))=a):PgI w [] a:=by
 subst b;refine⟨?_,?_,?_,⟨none,0,[],?_,World.ownsRow_nil _ _ _ _,rfl⟩,Nat.zero_le _,rfl,by simp⟩
 ·exact(((((bwA).alloc (by simp) _).alloc (by simp;omega) _).alloc (by simp;omega) _).alloc (by simp;omega) _).alloc (by simp;omega) _
 ·exact(((((Boxed.new w _ _).alloc _).alloc _).alloc _).alloc _).alloc _
 ·have:=Boxed.new (w.alloc (.cells #[.slice none 0 0] 144)) 4 (.bool false);rw[World.size_alloc]at this;exact(((this.alloc _).alloc _).alloc _).alloc _
 have:=Boxed.new ((w.alloc (.cells #[.slice none 0 0] 144)).alloc (.cells #[.bool false] 4)) 144 (.slice none 0 0);rw[World.size_alloc,World.size_alloc]at this;exact((this.alloc _).alloc _).alloc _
theorem qlZ{i:Nat}(hi:i<3)(h:(x.1.toList==sgL i)=true):sgC (sgS (lst x))=[.int .i64 (i:Nat),.string ⟨#[]⟩]:=by
 have e:lst x=sgL i:=by unfold lst;rw[<-Lib.toList_data];exact eq_of_beq h
 rw[e]
 match i,hi with
 |0,_=>rfl
 |1,_=>rfl
 |2,_=>rfl
theorem qyK(h:∀i,i<3->(x.1.toList==sgL i)=false):sgC (sgS (lst x))=[.int .i64 3,.string x.1]:=by
 have e:lst x=x.1.toList:=by unfold lst;rw[<-Lib.toList_data]
 have a:=h 0 (by omega);have b:=h 1 (by omega);have c:=h 2 (by omega);simp only[sgL]at a b c;have d:sgS (lst x)=(3,lst x):=by
  unfold sgS;rw[e,a,b,c];simp
 rw[d];unfold sgC lst;rw[qzt];rfl
def qyn(s:ByteArray)(w:World)(e:Ending)(w':World):Prop :=
 ∃a n cap,e=.returned (.tuple #[.slice a n cap,.bool (qfl s.data.toList)])/\Below w.heap.size w w'/\(qfl s.data.toList=true->n=(qjB s.data.toList).length/\qlq w' w.heap.size 151 a (((qjB s.data.toList).map sgS).flatMap sgC))
theorem qvX{s:ByteArray}{hs:s.size<=2000}{xs:List Str}{ao:Option Addr}{cap D:Nat}(m:(s.toList==[46])=false)(h:xs.map lst=qam 47 (lst ⟨s,hs⟩))(p:W.ownsRow (w.heap.size+6) 151 2 (.slice ao xs.length cap) xs.length ys)(r:ys=xs.flatMap λx=>sgC (sgS (lst x)))(i:W.heap[D]?=some (.deferred (some [])))(k:∀j,w.heap.size+6<=j->V.heap[j]?=W.heap[j]?):xs.length=(qjB s.data.toList).length/\qlq (V.putObj D (.deferred none)) w.heap.size 151 ao (((qjB s.data.toList).map sgS).flatMap sgC):=by
 have q:qjB s.data.toList=xs.map lst:=by
  unfold qjB;rw[<-Lib.toList_data,m,Lib.toList_data];exact h.symm
 obtain⟨y,t,n,l⟩:=qvx (lo:=w.heap.size+6) p (Nat.le_refl _);injection n with he1 _ he3;subst he1;rw[q,List.length_map];refine⟨rfl,?_⟩;rw[List.map_map,List.flatMap_map];have e:ys=xs.flatMap λa=>sgC ((sgS∘lst) a):=r;rw[<-e];refine l.kept λb u v f c=>⟨by omega,?_⟩
 have o:b≠D:=by
  rintro rfl;rw[i]at c;cases c
 have:=grownBy_putObj' V D (.deferred none);have d:=k b f;rw[this.block b (by have g:=(d.trans c);exact ltA g) (by simpa using o),d];exact c
theorem PgI.push(x:Str)(h:PgI w pre W)(l:Boxed W (w.heap.size+2) 144 v)(j:W.ownsRow (w.heap.size+6) 151 2 v pre.length xs)(c:w5.ownsRow (w.heap.size+6) 151 2 v' (pre.length+1) ys)(a:W.grownBy w5 v.ownBlock)(q:pre.length<8)(n:qg9 (lst x)=true)(o:Hid (xs=pre.flatMap λx=>sgC (sgS (lst x))))(p:ys=xs++sgC (sgS (lst x))):PgI w (pre++[x]) (w5.setCell ⟨w.heap.size+1+1,0,none⟩ v')/\Tr w.heap.size (w.heap.size+3) W (w5.setCell ⟨w.heap.size+1+1,0,none⟩ v'):=by
 have d:=λg h=>qb4 j (g:=g) h;have f:Tr w.heap.size (w.heap.size+3) W w5:=Tr.grown j a h.size (by omega) (by omega);have i:=Tr.set w.heap.size (w.heap.size+3) w5 (w.heap.size+2) v' (by omega) (by omega);have b:=grownBy_setCell' w5 (w.heap.size+2) v';have m:=l.kept a (λe=>by have:=d _ e.symm;omega);obtain⟨g,k,rfl⟩:=ownsRow_succ c;refine⟨⟨h.below.trans (f.trans i).below,?_,?_,⟨some ⟨g,0,none⟩,k,ys,?_,?_,?hy⟩,?_,?_,?_⟩,f.trans i⟩
 case hy =>
  show ys=_;rw[p,o.out,List.flatMap_append];simp
 ·exact(h.r0.kept a (λe=>by have:=d _ e.symm;omega)).kept b (by intro e;injection e with e;omega)
 ·exact(h.r1.kept a (λe=>by have:=d _ e.symm;omega)).kept b (by intro e;injection e with e;omega)
 ·rw[List.length_append];exact m.set _
 ·rw[List.length_append];refine c.kept b (.inr (λe=>?_));have:=qb4 c e;omega
 ·rw[List.length_append];simp;omega
 ·rw[List.all_append,h.all];simp[n]
 exact Nat.le_trans h.size (f.trans i).below.size
theorem qmX(h:PgI w pre V)(b:Tr w.heap.size (w.heap.size+3) W V)(g:Boxed V (w.heap.size+2) 144 v)(e:V.ownsRow (w.heap.size+6) 151 2 v pre.length xs)(f:w5.ownsRow (w.heap.size+6) 151 2 v' (pre.length+1) ys)(d:V.grownBy w5 v.ownBlock)(l:¬(pre.length:Int)=8)(i:qg9 (lst x)=true)(j:Hid (xs=pre.flatMap λx=>sgC (sgS (lst x))))(k:ys=xs++sgC (sgS (lst x))):KeepsOthers W (w5.setCell ⟨w.heap.size+1+1,0,none⟩ v')/\qcC (w.heap.size+3) (w.heap.size+3+3) W (w5.setCell ⟨w.heap.size+1+1,0,none⟩ v')/\PgI w (pre++[x]) (w5.setCell ⟨w.heap.size+1+1,0,none⟩ v'):=by
 obtain⟨c,a⟩:=h.push x g e f d (by have:=h.le;omega) i j k;exact⟨(b.trans a).keep,(b.trans a).mid,c⟩
theorem qhh(s:ByteArray)(w:World)(hs:s.size<=2000)(bd:qmF w):Calls prog 77 #[.string s] w λe w'=>qyn s w e w':=by
 obtain⟨i0,hi,af,ag,ah⟩:=info_parts Tryz.infoSeg;cases hd:(s.toList==[46])
 ·have HG:=qab bd;have HD:=qab hd;refine(callsIn_wide (n:=10)).1 ?_;refine callsIn_of_wp_marks func77 rfl trivial ?_ rfl;simp only[ntmps77,List.size_toArray,List.length_cons,List.length_nil,Nat.reduceAdd,Nat.reduceSub,Array.replicate_succ,Array.replicate_zero,List.push_toArray,List.append_toArray,List.nil_append,List.cons_append]
  gi_wp2
  refine wpIn_wide.2 (wp_scope_straight ((wpIn_wide (n:=10)).1 ?_))
  gi_wp2_with fail
  refine wpIn_label ?_
  gi_wp2_with fail
  refine⟨trivial,(callsIn_wide.2 (qf1 s ⟨#[47]⟩ _)).mono ?_⟩;rintro e w' ⟨rfl,rfl⟩;simp only[World.size_alloc]
  gi_wp2
  obtain⟨Q,ae⟩:∃Q,((((((w.alloc (.cells #[.slice none 0 0] 144)).alloc (.cells #[.bool false] 4)).alloc (.cells #[.slice none 0 0] 144)).alloc (.cells #[.string s] 9)).alloc (.cells #[.string ⟨#[47]⟩] 9)).alloc (.cells #[.int .i64 0] 3))=Q:=⟨_,rfl⟩
  have bo:Q.heap.size=w.heap.size+6:=by rw[<-ae];simp
  have bc:=qwo w s Q ae;have ba:=qtc w s Q ae;rw[ae];refine qcH rfl (by omega) (gf:=92) (lb:=#[.pointer (some ⟨w.heap.size+1+1+1+1,0,none⟩),.pointer (some ⟨w.heap.size+1+1+1,0,none⟩),.pointer (some ⟨w.heap.size+1+1+1+1+1,0,none⟩)]) rfl trivial (enters_of func92 (by kernel_rfl) rfl)
   (st:=w.heap.size+3) (by omega) (lo:=w.heap.size+3) (hi:=w.heap.size+3+3) (by omega) (qlc 9 (w.heap.size+3) 47 ⟨s,hs⟩ Q ba) bwR (λx=>rfl)
   (λpre W=>PgI w pre W) (λab pre W=>qyz w pre ab W)
   (λpre A a1 h M=>h.own M (.inl rfl)) (λab pre A a1 h M=>h.own M (by omega))
   (λpre A ar o o' h hB hk hc=>h.own (grownBy_putObj' A ar o') (.inr ⟨by omega,o,hk,hc⟩)) (λab pre A ar o o' h hB hk hc=>h.own (grownBy_putObj' A ar o') (by omega))
   bc
   (λx=>{tmps:=#[.string s,undef,.pointer (some ⟨w.heap.size,0,none⟩),.pointer (some ⟨w.heap.size+1,0,none⟩),.pointer (some ⟨w.heap.size+1+1,0,none⟩),.string x.1,undef,undef,.string s,.bool false,.string s,.func (.func 92) #[] #[.pointer (some ⟨w.heap.size+1+1+1+1,0,none⟩),.pointer (some ⟨w.heap.size+1+1+1,0,none⟩),.pointer (some ⟨w.heap.size+1+1+1+1+1,0,none⟩)],.string x.1,undef,undef,undef,undef,undef,undef,undef,undef,undef,undef,undef,undef,undef,undef,undef,undef,undef,undef,undef,undef,undef,undef,undef,undef,undef,undef,undef,undef],defers:=[]}) ?assign ?body ?done ?stop
  case assign =>
   intro aa x W K a
   gi_wp2
   exact a
  case body =>
   intro aa pre x W f bm;have d:=qab f;obtain⟨m,q,G,S,ho,a7⟩:=f.pat;have bl:=f.le;have R:W.cell? ⟨w.heap.size+1+1,0,none⟩=some (.slice m pre.length q):=S.cell;have c2:=f.r0.cell;have f2:=f.r0.frozen;have c3:=f.r1.cell;have f3:=f.r1.frozen;by_cases c:(pre.length:Int)=8
   ·clear f S ho a7
    gi_wp2
    exact⟨(qui w W).keep,d.out.out (.inl (by rw[List.length_append];simp;omega))⟩
   have bk:=beq_eq_false_iff_ne.2 c;obtain⟨bw,fr,T⟩:=(HG.out.below f.below).signs;have s0:=qaa T 0;have s1:=qaa T 1;have s2:=qaa T 2;have s3:=qaa T 3;have s4:=qaa T 4;have s5:=qaa T 5
   gi_wp2
   gi_loopg[17] 4 (λg ai wr=>∃j:Nat,Hid (j+g=4)/\((j=0/\ai=.int .i64 0)\/(j=1/\ai=.int .i64 1)\/(j=2/\ai=.int .i64 2)\/(j=3/\ai=.int .i64 3))/\Hid (PgI w pre wr)/\Hid (Tr w.heap.size (w.heap.size+3) W wr)/\Hid (∀i,i<j->(x.1.toList==sgL i)=false))
   case atStart=>exact⟨0,rfl,.inl ⟨rfl,rfl⟩,d,Tr.refl _ _ _,λi hi=>by omega⟩
   case round =>
    obtain⟨j,hj,be,d,N,Z⟩:=hrel;have bs:=λV=>qxk V;have bt:=λV=>qxm V;have bu:=λV=>qwn V;obtain⟨r,t,bx,az,bf,al⟩:=d.out.pat;have P:=qab az;have u:=qab bf;have R:wr.cell? ⟨w.heap.size+1+1,0,none⟩=some (.slice r pre.length t):=az.cell;have bp:=d.out.size;have bj:∀o,(wr.alloc o).cell? ⟨w.heap.size+1+1,0,none⟩=some (.slice r pre.length t):=λo=>(World.cell?_alloc_some wr _ o (by rw[R];rfl)).trans R;rcases be with⟨rfl,rfl⟩|⟨rfl,rfl⟩|⟨rfl,rfl⟩|⟨rfl,rfl⟩
    ·cases b:(x.1.toList==[42])
     ·have Y:Hid (∀i,i<1->(x.1.toList==sgL i)=false):=λi hi=>by
       rcases Nat.lt_succ_iff_lt_or_eq.1 hi with h|rfl
       ·exact Z.out i h
       exact b
      gi_wp2
      gi_roundg 3
      case measure=>have:=hj.out;omega
      case rel=>exact⟨1,rfl,.inr (.inl ⟨rfl,by go_num⟩),d.out.alloc _,N.out.trans (Tr.alloc _ _ _ _ (by omega) (by omega)),Y⟩
     gi_wp2_with(first
      |(gi_at_builtin;refine wpListIn_append_own _ rfl _ _ 144 rfl (w.heap.size+6) 151 i0 (.agg #[.int .i64 0,.string ByteArray.empty]) 2 24 underlying144 hi af ag ah rfl (by decide) _ _ _ rfl ((u.out.alloc _).alloc _) ⟨wr.heap.size+1,0,none⟩ 1 1 [.int .i64 0,.string ⟨#[]⟩] rfl rfl (qce _ _ _ _) (λx b=>by simp at b;rcases b with rfl|rfl<;>rfl) (by unfold maxLen;omega) (by omega) (by simp;omega) ?_;intro v' F z v ay;obtain⟨g5,an,rfl⟩:=ownsRow_succ z;have C:=((P.out.alloc _).alloc _).kept v (λe=>by have:=qb4 u.out e.symm;omega);have c5:F.cell? ⟨w.heap.size+1+1,0,none⟩=some (.slice r pre.length t):=C.cell;have f5:F.frozen? ⟨w.heap.size+1+1,0,none⟩=false:=C.frozen))
     exact qmX ((d.out.alloc _).alloc _) ((N.out.trans (Tr.alloc _ _ _ _ (by omega) (by omega))).trans (Tr.alloc _ _ _ _ (by simp;omega) (by simp;omega))) ((P.out.alloc _).alloc _) ((u.out.alloc _).alloc _) z v c (qj6 (i:=0) b) al (by rw[qlZ (i:=0) (by omega) b];rfl)
    ·cases b:(x.1.toList==[42,42])
     ·have Y:Hid (∀i,i<2->(x.1.toList==sgL i)=false):=λi hi=>by
       rcases Nat.lt_succ_iff_lt_or_eq.1 hi with h|rfl
       ·exact Z.out i h
       exact b
      gi_wp2
      gi_roundg 2
      case measure=>have:=hj.out;omega
      case rel=>exact⟨2,rfl,.inr (.inr (.inl ⟨rfl,by go_num⟩)),d.out.alloc _,N.out.trans (Tr.alloc _ _ _ _ (by omega) (by omega)),Y⟩
     gi_wp2_with(first
      |(gi_at_builtin;refine wpListIn_append_own _ rfl _ _ 144 rfl (w.heap.size+6) 151 i0 (.agg #[.int .i64 0,.string ByteArray.empty]) 2 24 underlying144 hi af ag ah rfl (by decide) _ _ _ rfl ((u.out.alloc _).alloc _) ⟨wr.heap.size+1,0,none⟩ 1 1 [.int .i64 1,.string ⟨#[]⟩] rfl rfl (qce _ _ _ _) (λx b=>by simp at b;rcases b with rfl|rfl<;>rfl) (by unfold maxLen;omega) (by omega) (by simp;omega) ?_;intro v' F z v ay;obtain⟨g5,an,rfl⟩:=ownsRow_succ z;have C:=((P.out.alloc _).alloc _).kept v (λe=>by have:=qb4 u.out e.symm;omega);have c5:F.cell? ⟨w.heap.size+1+1,0,none⟩=some (.slice r pre.length t):=C.cell;have f5:F.frozen? ⟨w.heap.size+1+1,0,none⟩=false:=C.frozen))
     exact qmX ((d.out.alloc _).alloc _) ((N.out.trans (Tr.alloc _ _ _ _ (by omega) (by omega))).trans (Tr.alloc _ _ _ _ (by simp;omega) (by simp;omega))) ((P.out.alloc _).alloc _) ((u.out.alloc _).alloc _) z v c (qj6 (i:=1) b) al (by rw[qlZ (i:=1) (by omega) b];rfl)
    ·cases b:(x.1.toList==[91,93])
     ·have Y:Hid (∀i,i<3->(x.1.toList==sgL i)=false):=λi hi=>by
       rcases Nat.lt_succ_iff_lt_or_eq.1 hi with h|rfl
       ·exact Z.out i h
       exact b
      gi_wp2
      gi_roundg 1
      case measure=>have:=hj.out;omega
      case rel=>exact⟨3,rfl,.inr (.inr (.inr ⟨rfl,by go_num⟩)),d.out.alloc _,N.out.trans (Tr.alloc _ _ _ _ (by omega) (by omega)),Y⟩
     gi_wp2_with(first
      |(gi_at_builtin;refine wpListIn_append_own _ rfl _ _ 144 rfl (w.heap.size+6) 151 i0 (.agg #[.int .i64 0,.string ByteArray.empty]) 2 24 underlying144 hi af ag ah rfl (by decide) _ _ _ rfl ((u.out.alloc _).alloc _) ⟨wr.heap.size+1,0,none⟩ 1 1 [.int .i64 2,.string ⟨#[]⟩] rfl rfl (qce _ _ _ _) (λx b=>by simp at b;rcases b with rfl|rfl<;>rfl) (by unfold maxLen;omega) (by omega) (by simp;omega) ?_;intro v' F z v ay;obtain⟨g5,an,rfl⟩:=ownsRow_succ z;have C:=((P.out.alloc _).alloc _).kept v (λe=>by have:=qb4 u.out e.symm;omega);have c5:F.cell? ⟨w.heap.size+1+1,0,none⟩=some (.slice r pre.length t):=C.cell;have f5:F.frozen? ⟨w.heap.size+1+1,0,none⟩=false:=C.frozen))
     exact qmX ((d.out.alloc _).alloc _) ((N.out.trans (Tr.alloc _ _ _ _ (by omega) (by omega))).trans (Tr.alloc _ _ _ _ (by simp;omega) (by simp;omega))) ((P.out.alloc _).alloc _) ((u.out.alloc _).alloc _) z v c (qj6 (i:=2) b) al (by rw[qlZ (i:=2) (by omega) b];rfl)
    have cL:=qjq x.1 wr x.2 (HG.out.below d.out.below)
    gi_wp2_with fail
    refine⟨trivial,((callsIn_wide.2 cL).inRound aa).mono ?_⟩;rintro e E ⟨rfl,hB⟩;simp only[];have I:=qab (d.out.belowS hB);have aw:=qab (N.out.trans (Tr.below' hB (by omega) (by omega)));have bq:=I.out.size;obtain⟨J,L,bh,a0,bg,a6⟩:=I.out.pat;have a3:=qab a0;have aj:=qab bg;have R:E.cell? ⟨w.heap.size+1+1,0,none⟩=some (.slice J pre.length L):=a0.cell;have c2:=I.out.r0.cell;have f2:=I.out.r0.frozen;have c3:=I.out.r1.cell;have f3:=I.out.r1.frozen;have aq:=quO Z.out;have a2:=qab (qyK Z.out);cases ax:qgw x.1.data.toList
    ·have HX:Hid ((pre++[x]).all (λx=>qg9 (lst x))=false):=by show _=_;rw[List.all_append];simp[aq,ax]
     gi_wp2
     exact⟨(aw.out.trans (qui w E)).keep,I.out.out (.inr HX.out)⟩
    rw[ax]at aq;have a4:=qab aq
    gi_wp2_with fail
    refine wpIn_region_any (by kernel_rfl) ?_;have X:Hid (∀V,Calls prog 97 #[.string x.1] V λe V'=>e=.returned (.string x.1)/\Below V.heap.size V V'):=λV=>qrd x.1 V (by have:=x.2;omega);have ap:w.heap.size+1+1<E.heap.size:=by omega
    have am:(World.drew E).cell? ⟨w.heap.size+1+1,0,none⟩=some (.slice J pre.length L):=R;change wpAnyIn _ _ _ _ _ _ _ _ _ (World.drew E);refine qoY #[true,true,true,true,true,false,false] 2 (λV=>[(34,.slice J pre.length L),(35,.string x.1),(36,.string x.1),(37,.agg #[.int .i64 3,.string x.1]),(38,.slice (some ⟨V.heap.size,0,none⟩) 1 1)]) (λV=>Below (World.drew E).heap.size (World.drew E) V) (λV=>V.alloc (.cells #[.int .i64 3,.string x.1] 151)) (λl=>?reg) ?tail
    case tail =>
     intro V bb;have ad:Below E.heap.size E V:=(((Below.refl _ E).drew).trans bb)
     have au:=qab (I.out.belowS ad);have a5:=qab (aw.out.trans (Tr.below' ad (by omega) (by omega)));have br:=au.out.size;have bn:∀g,(Value.slice J pre.length L).ownBlock=some g->g<E.heap.size:=λg M=>by
      rcases aj.out.2 with⟨O,_⟩|⟨g',_,_,O,_,hh,_⟩
      ·rw[O]at M;cases M
      rw[O]at M;cases M;exact ltA hh
     have av:Hid (Boxed V (w.heap.size+2) 144 (.slice J pre.length L)):=(ad.block _ (by omega)).trans a3.out;have ak:Hid (V.ownsRow (w.heap.size+6) 151 2 (.slice J pre.length L) pre.length bh):=by
      refine⟨aj.out.1,?_⟩;rcases aj.out.2 with O|⟨g',cp,a9,O,h1,hh,h2⟩
      ·exact .inl O
      exact .inr ⟨g',cp,a9,O,h1,(ad.block g' (ltA hh)).trans hh,h2⟩
     simp only[List.foldl];refine wpAnyIn_ready (rs:=[5]) (by kernel_rfl) (by simp) ?_;refine AllReadyIn.cons rfl (λK a=>?_) AllReadyIn.nil;rw[if_pos (by rfl)];refine qhs _ _ 144 rfl (w.heap.size+6) 151 i0 (.agg #[.int .i64 0,.string ByteArray.empty]) 2 24 underlying144 hi af ag ah rfl (by decide) _ _ _ rfl (ak.out.alloc _) ⟨V.heap.size,0,none⟩ 1 1 [.int .i64 3,.string x.1] rfl rfl (qiW _ _ _) (λx b=>by simp at b;rcases b with rfl|rfl<;>rfl) (by unfold maxLen;omega) (by omega) (by simp;omega) ?_;intro v' F z v;obtain⟨g5,an,rfl⟩:=ownsRow_succ z;have C:=(av.out.alloc _).kept v (λe=>by have:=qb4 ak.out e.symm;omega);have c5:F.cell? ⟨w.heap.size+1+1,0,none⟩=some (.slice J pre.length L):=C.cell;have f5:F.frozen? ⟨w.heap.size+1+1,0,none⟩=false:=C.frozen;refine a _ _ ?_;refine wpAnyIn_ready (rs:=[6]) (by kernel_rfl) (by simp) ?_;refine AllReadyIn.cons rfl (λK a=>?_) AllReadyIn.nil;go_simp;refine a _ _ ?_;refine wpAnyIn_done (by kernel_rfl) ?_ _
     gi_wp2
     exact qmX (au.out.alloc _) (a5.out.trans (Tr.alloc _ _ _ _ (by omega) (by omega))) (av.out.alloc _) (ak.out.alloc _) z v c a4.out a6 (by rw[a2.out])
    case reg =>
     refine wpAnyIn_ready (rs:=[0,1]) (by kernel_rfl) (by simp) ?_;refine AllReadyIn.cons rfl (λK a=>?_) (AllReadyIn.cons rfl (λK a=>?_) AllReadyIn.nil)
     ·go_simp;refine a _ _ ?_;refine wpAnyIn_ready (rs:=[1]) (by kernel_rfl) (by simp) ?_;refine AllReadyIn.cons rfl (λK a=>?_) AllReadyIn.nil;go_simp;refine a _ _ ?_;refine wpAnyIn_ready (rs:=[2]) (by kernel_rfl) (by simp) ?_;refine AllReadyIn.cons rfl (λK a=>?_) AllReadyIn.nil;go_simp;refine⟨trivial,((callsIn_wide.2 (X.out _)).inRound aa).mono ?_⟩;rintro e w3 ⟨rfl,H⟩;simp only[];have ac:=(H.cell (p:=⟨w.heap.size+1+1,0,none⟩) ap).trans am;refine a _ _ ?_;refine wpAnyIn_ready (rs:=[3]) (by kernel_rfl) (by simp) ?_;refine AllReadyIn.cons rfl (λK a=>?_) AllReadyIn.nil;go_simp;refine a _ _ ?_;refine wpAnyIn_ready (rs:=[4]) (by kernel_rfl) (by simp) ?_;refine AllReadyIn.cons rfl (λK a=>?_) AllReadyIn.nil;go_simp;refine a _ _ ?_;exact l _ H
     go_simp;refine a _ _ ?_;refine wpAnyIn_ready (rs:=[0,2]) (by kernel_rfl) (by simp) ?_;refine AllReadyIn.cons rfl (λK a=>?_) (AllReadyIn.cons rfl (λK a=>?_) AllReadyIn.nil)
     ·go_simp;refine a _ _ ?_;refine wpAnyIn_ready (rs:=[2]) (by kernel_rfl) (by simp) ?_;refine AllReadyIn.cons rfl (λK a=>?_) AllReadyIn.nil;go_simp;refine⟨trivial,((callsIn_wide.2 (X.out _)).inRound aa).mono ?_⟩;rintro e w3 ⟨rfl,H⟩;simp only[];have ac:=(H.cell (p:=⟨w.heap.size+1+1,0,none⟩) ap).trans am;refine a _ _ ?_;refine wpAnyIn_ready (rs:=[3]) (by kernel_rfl) (by simp) ?_;refine AllReadyIn.cons rfl (λK a=>?_) AllReadyIn.nil;go_simp;refine a _ _ ?_;refine wpAnyIn_ready (rs:=[4]) (by kernel_rfl) (by simp) ?_;refine AllReadyIn.cons rfl (λK a=>?_) AllReadyIn.nil;go_simp;refine a _ _ ?_;exact l _ H
     go_simp;refine⟨trivial,((callsIn_wide.2 (X.out _)).inRound aa).mono ?_⟩;rintro e w3 ⟨rfl,H⟩;simp only[];have ac:=(H.cell (p:=⟨w.heap.size+1+1,0,none⟩) ap).trans am;refine a _ _ ?_;refine wpAnyIn_ready (rs:=[0,3]) (by kernel_rfl) (by simp) ?_;refine AllReadyIn.cons rfl (λK a=>?_) (AllReadyIn.cons rfl (λK a=>?_) AllReadyIn.nil)
     ·go_simp;refine a _ _ ?_;refine wpAnyIn_ready (rs:=[3]) (by kernel_rfl) (by simp) ?_;refine AllReadyIn.cons rfl (λK a=>?_) AllReadyIn.nil;go_simp;refine a _ _ ?_;refine wpAnyIn_ready (rs:=[4]) (by kernel_rfl) (by simp) ?_;refine AllReadyIn.cons rfl (λK a=>?_) AllReadyIn.nil;go_simp;refine a _ _ ?_;exact l _ H
     go_simp;refine a _ _ ?_;refine wpAnyIn_ready (rs:=[0,4]) (by kernel_rfl) (by simp) ?_;refine AllReadyIn.cons rfl (λK a=>?_) (AllReadyIn.cons rfl (λK a=>?_) AllReadyIn.nil)
     ·go_simp;refine a _ _ ?_;refine wpAnyIn_ready (rs:=[4]) (by kernel_rfl) (by simp) ?_;refine AllReadyIn.cons rfl (λK a=>?_) AllReadyIn.nil;go_simp;refine a _ _ ?_;exact l _ H
     go_simp;refine a _ _ ?_;refine wpAnyIn_ready (rs:=[0]) (by kernel_rfl) (by simp) ?_;refine AllReadyIn.cons rfl (λK a=>?_) AllReadyIn.nil;have bi:(w3.alloc (.cells #[.int .i64 3,.string x.1] 151)).cell? ⟨w.heap.size+1+1,0,none⟩=some (.slice J pre.length L):=(World.cell?_alloc_some w3 _ _ (by rw[ac];rfl)).trans ac;go_simp;refine a _ _ ?_;exact l _ H
  case done =>
   intro D G W hD hS f a;obtain⟨m,q,ys,S,ho,a8⟩:=f.pat;have u:=qab ho;have d:=qab f;have HS:=qab hS;have HK:=qab a;have R:W.cell? ⟨w.heap.size+1+1,0,none⟩=some (.slice m G.length q):=S.cell;have c2:=f.r0.cell;have f2:=f.r0.frozen;have c3:=f.r1.cell;have f3:=f.r1.frozen
   gi_wp2
   refine qch ?_;have U:=qwc HD.out HS.out d.out.le d.out.all;have t1:=Tr.set w.heap.size (w.heap.size+3) W w.heap.size (.slice m G.length q) (Nat.le_refl _) (by omega);have t2:=Tr.set w.heap.size (w.heap.size+3) (W.setCell ⟨w.heap.size,0,none⟩ (.slice m G.length q)) (w.heap.size+1) (.bool true) (by omega) (by omega);have b0:Boxed ((W.setCell ⟨w.heap.size,0,none⟩ (.slice m G.length q)).setCell ⟨w.heap.size+1,0,none⟩ (.bool true)) w.heap.size 144 (.slice m G.length q):=(d.out.r0.set _).kept (grownBy_setCell' _ _ _) (by intro e;injection e with e;omega);have b1:Boxed ((W.setCell ⟨w.heap.size,0,none⟩ (.slice m G.length q)).setCell ⟨w.heap.size+1,0,none⟩ (.bool true)) (w.heap.size+1) 4 (.bool true):=Boxed.set _ (d.out.r1.kept (grownBy_setCell' _ _ _) (by intro e;injection e with e;omega));have hb:=d.out.below.trans (t1.trans t2).below;have a:=(t1.trans t2).keep.same D _ HK.out rfl;have X:Hid (∀j,w.heap.size+6<=j->((W.setCell ⟨w.heap.size,0,none⟩ (.slice m G.length q)).setCell ⟨w.heap.size+1,0,none⟩ (.bool true)).heap[j]?=W.heap[j]?):=λj hj=>(Below.heap_setCell _ _ _ _ (by simp;omega)).trans (Below.heap_setCell _ _ _ _ (by simp;omega));generalize(W.setCell ⟨w.heap.size,0,none⟩ (.slice m G.length q)).setCell ⟨w.heap.size+1,0,none⟩ (.bool true)=V at *;refine⟨by simp,.inl ⟨D,_,rfl,run_takeDeferred a,?_⟩⟩;have B:=(b0.kept (grownBy_putObj' V D (.deferred none)) (by intro e;injection e with e;omega)).cell;have k:=(b1.kept (grownBy_putObj' V D (.deferred none)) (by intro e;injection e with e;omega)).cell;refine⟨.tuple #[.slice m G.length q,.bool true],?_,⟨m,G.length,q,by rw[U],qb9 hb (by omega) _,λ_=>?_⟩⟩
   ·simp[results,f77,go_sem,B,k]
   exact qvX HD.out HS.out u.out a8.out HK.out X.out
  case stop =>
   intro D ab pre W hD hS y a;obtain rfl:=y.ret
   gi_wp2
   refine qch ?_;have U:qfl s.data.toList=false:=by
    obtain⟨bv,hr⟩:=hS;exact qxD HD.out hr y.bad
   refine⟨by simp,.inl ⟨D,_,rfl,run_takeDeferred a,?_⟩⟩;have B:=(y.r0.kept (grownBy_putObj' W D (.deferred none)) (by intro e;injection e with e;omega)).cell;have k:=(y.r1.kept (grownBy_putObj' W D (.deferred none)) (by intro e;injection e with e;omega)).cell;refine⟨.tuple #[.slice none 0 0,.bool false],?_,⟨none,0,0,by rw[U],qb9 y.below (by omega) _,λe=>by rw[U]at e;cases e⟩⟩;simp[results,f77,go_sem,B,k]
 have U:qfl s.data.toList=true:=by unfold qfl;rw[<-Lib.toList_data,hd];rfl
 have HY:=qab U;refine(callsIn_wide (n:=10)).1 ?_;refine callsIn_of_wp_marks func77 rfl trivial ?_ rfl;simp only[ntmps77,List.size_toArray,List.length_cons,List.length_nil,Nat.reduceAdd,Nat.reduceSub,Array.replicate_succ,Array.replicate_zero,List.push_toArray,List.append_toArray,List.nil_append,List.cons_append]
 gi_wp2
 refine wpIn_wide.2 (wp_scope_straight ((wpIn_wide (n:=10)).1 ?_))
 gi_wp2
 repeat(first|refine qgf ?_|refine qch ?_)
 have B:((w.alloc (.cells #[.slice none 0 0] 144)).alloc (.cells #[.bool true] 4)).cell? ⟨w.heap.size,0,none⟩=some (.slice none 0 0):=((Boxed.new w 144 (.slice none 0 0)).alloc _).cell;have k:((w.alloc (.cells #[.slice none 0 0] 144)).alloc (.cells #[.bool true] 4)).cell? ⟨w.heap.size+1,0,none⟩=some (.bool true):=by
  have:=(Boxed.new (w.alloc (.cells #[.slice none 0 0] 144)) 4 (.bool true)).cell;rwa[World.size_alloc]at this
 refine⟨.tuple #[.slice none 0 0,.bool true],?_,⟨none,0,0,by rw[HY.out],?_,λ_=>?_⟩⟩
 ·simp[results,f77,go_sem,B,k]
 ·exact(bwA).alloc (by simp) _
 have S:qjB s.data.toList=[]:=by unfold qjB;rw[<-Lib.toList_data,hd];rfl
 rw[S];exact⟨rfl,.inl rfl⟩
end

end
end Go.Proofs.YtpifimohecagoaaGreatDoor
