import Derived.Test.YtllcbnfmihfaaaaGreatDoorTq16
set_option maxRecDepth 100000
set_option maxHeartbeats 8000000
namespace Go.Proofs.YtllcbnfmihfaaaaGreatDoor
open Go.Proofs.Tryz
variable {rd:Nat→Except (Int×Int) (DataW Unit×Nat)}
section
open Go.RowKit
theorem qls (bs:List UInt8)(lim:Int):∀(n p:Nat) (acc l:List UInt8) (r:Nat),qhb bs lim n p acc=.ok (l,r)→r=p+n
 |0,p,acc,l,r,h=>by
  rw[qhb] at h;injection h with h;injection h with h1 h2;exact h2.symm
 |n+1,p,acc,l,r,h=>by
  rw[qhb] at h;split at h
  ·cases h
  split at h
  ·cases h
  have:=qls bs lim n _ _ l r h;omega
theorem qiT (hrd:∀p d q,rd p=.ok (d,q)→p<q):∀(n p:Nat) (acc ds:List (DataW Unit)) (r:Nat),qb9 rd n p acc=.ok (ds,r)→p≤r
 |0,p,acc,ds,r,h=>by
  rw[qb9] at h;injection h with h;injection h with h1 h2;omega
 |n+1,p,acc,ds,r,h=>by
  rw[qb9] at h;split at h
  ·cases h
  next d q hq =>
  have h1:=hrd _ _ _ hq;have h2:=qiT hrd n q _ ds r h;omega
theorem qfZ {kf:List (List UInt8)→Nat→Except (Int×Int) (List UInt8×Nat)}(hkf:∀ks p l q,kf ks p=.ok (l,q)→p<q)(hrd:∀p d q,rd p=.ok (d,q)→p<q):∀(n p:Nat) (ks:List (List UInt8)) (acc es:List (Lit×DataW Unit)) (r:Nat),qaI kf rd n p ks acc=.ok (es,r)→p≤r
 |0,p,ks,acc,es,r,h=>by
  rw[qaI] at h;injection h with h;injection h with h1 h2;omega
 |n+1,p,ks,acc,es,r,h=>by
  rw[qaI] at h;split at h
  ·cases h
  next l q hq =>
  split at h
  ·cases h
  next d r' hr =>
  have h1:=hkf _ _ _ _ hq;have h2:=hrd _ _ _ hr;have h3:=qfZ hkf hrd n r' _ _ es r h;omega
theorem qtz {bs:List UInt8}{lim:Int}{li:Nat→Nat→Except (Int×Int) (List (DataW Unit)×Nat)}{ma:Nat→Nat→Except (Int×Int) (List (Lit×DataW Unit)×Nat)}{so w x q:Nat}{d:DataW Unit}{r:Nat}(hli:∀x q ds r,li x q=.ok (ds,r)→q≤r)(hma:∀x q es r,ma x q=.ok (es,r)→q≤r)(h:qjF bs lim li ma so w x q=.ok (d,r)):q≤r:=by
 unfold qjF at h;split at h
 ·injection h with h;injection h with h1 h2;omega
 ·injection h with h;injection h with h1 h2;omega
 ·split at h
  ·cases h
  injection h with h;injection h with h1 h2;omega
 ·split at h
  ·cases h
  injection h with h;injection h with h1 h2;omega
 ·split at h
  ·cases h
  injection h with h;injection h with h1 h2;omega
 ·split at h
  ·cases h
  next l r' hl =>
  injection h with h;injection h with h1 h2;have:=qls _ _ _ _ _ _ _ hl;omega
 ·split at h
  ·cases h
  next l r' hl =>
  injection h with h;injection h with h1 h2;have:=qfq _ _ _ _ _ _ _ _ hl;omega
 ·split at h
  ·cases h
  next ds r' hl =>
  injection h with h;injection h with h1 h2;have:=hli _ _ _ _ hl;omega
 ·split at h
  ·cases h
  next es r' hl =>
  injection h with h;injection h with h1 h2;have:=hma _ _ _ _ hl;omega
 injection h with h;injection h with h1 h2;omega
theorem qnr (hd:Nat→Nat×Nat×Nat)(bs:List UInt8)(lim depth:Int):∀(g wi p:Nat) (d:DataW Unit) (q:Nat),thB hd bs lim depth g wi p=.ok (d,q)→p<q
 |0,_,_,_,_,h=>by rw[thB] at h;cases h
 |g+1,wi,p,d,q,h=>by
  have ih:=qnr hd bs lim depth g (wi+1)
  cases hc:bs[p]? with
  |none =>
   unfold thB at h;rw[hc] at h;cases h
  |some c =>
   by_cases hl:(p:Int)=lim
   ·unfold thB at h;rw[hc] at h;simp only[] at h;rw[if_pos hl] at h;cases h
   rw[qhJ hc hl rfl] at h;split at h
   ·cases h
   split at h
   ·cases h
   split at h
   ·cases h
   next x q' ha =>
   have h1:=qhP _ _ _ _ _ _ _ ha;have h2:=qtz (fun x q ds r hh=>qiT ih x q [] ds r hh) (fun x q es r hh=>qfZ (fun ks p l q hk=>qpE hk) ih x q [] [] es r hh) h;omega
theorem qbD (hd:Nat→Nat×Nat×Nat)(f:Nat):∀(g:Nat) (W:World) (b:Nat) (s:Src),qad W b s→s.bs.length≤200000000→(∀V,But b W V→U8 V)→7<b→qeJ f hd b W→s.depth≤100000→(s.within:Int)≤s.depth→s.depth<s.within+g →
  Calls prog 325 #[.agg #[.pointer (some ⟨b,0,none⟩),.func (.func f) #[] #[]]] W (qjI g W b s (thB hd s.bs s.lim s.depth g s.within s.pos))
 |0,W,b,s,_,_,_,_,_,_,h1,h2=>by omega
 |g+1,W,b,s,h,hlen,hU,h7,cH,hdp,hwd,hgd=>by
  have ih:¬(s.within:Int)=s.depth→∀V,But b W V→qnF g f b {s with within:=s.within+1} V (thB hd s.bs s.lim s.depth g (s.within+1)):=fun hne V hV U p hS hB =>
   qbD hd f g U b {s with pos:=p,within:=s.within+1} hS hlen (fun X hX=>hU X ((hV.trans hB).trans hX)) h7 (cH.but (hV.trans hB)) hdp (by show((s.within+1:Nat):Int)≤s.depth;omega) (by show s.depth<((s.within+1:Nat):Int)+g;omega)
  rcases qaM h with h1|h1|⟨c,h1⟩
  ·have e:thB hd s.bs s.lim s.depth (g+1) s.within s.pos=.error (9,(s.pos:Int)):=by
    unfold thB;rw[List.getElem?_eq_none (by have:s.pos=s.bs.length:=h1;omega)]
   rw[e];exact qd8 W b s f 9 h (fun V hV=>qbm V b s hV h1)
  ·have e:thB hd s.bs s.lim s.depth (g+1) s.within s.pos=.error (8,(s.pos:Int)):=by
    unfold thB;rw[List.getElem?_eq_getElem h1.1];simp only[];rw[if_pos h1.2]
   rw[e];exact qd8 W b s f 8 h (fun V hV=>qaP V b s hV h1)
  exact qgR g W b s c hd f _ _ _ h h1 rfl (cH.so _ c.toNat_lt) (cH.fit _ c.toNat_lt).1 (cH.fit _ c.toNat_lt).2.1 (cH.fit _ c.toNat_lt).2.2 hlen (by omega) cH.fn hU h7 (cH.call c)
   (fun hne V p n hS hB hn=>qjY g V b {s with pos:=p,within:=s.within+1} f n _ hn hS hlen (ih hne V hB) (qnr hd s.bs s.lim s.depth g (s.within+1)))
   (fun hne V p n hS hB hn=>qlp g V b {s with pos:=p,within:=s.within+1} f n hd _ hn hS hlen (fun X hX=>hU X (hB.trans hX)) h7 (cH.but hB) (ih hne V hB) (qnr hd s.bs s.lim s.depth g (s.within+1)))
def qgW {α:Type}(bs:List UInt8)(lim:Int)(itF:α→Nat→Except (Int×Int) (α×Nat))(last:Nat):Nat→Nat→α→Except (Int×Int) (α×Nat)
 |0,p,_=>.error (9,p)
 |g+1,p,acc=>match spF bs lim (bs.length+1-p) p with
  |.error e=>.error e
  |.ok (_,p1)=>match itF acc p1 with
   |.error e=>.error e
   |.ok (acc',p2)=>match spF bs lim (bs.length+1-p2) p2 with
    |.error e=>.error e
    |.ok (_,p3)=>match bs[p3]? with
     |none=>.error (9,p3)
     |some c=>if (p3:Int)=lim then .error (8,p3) else if c.toNat=last then .ok (acc',p3+1) else if c.toNat=44 then qgW bs lim itF last g (p3+1) acc' else .error (9,p3)
def qe4 {α:Type}(bs:List UInt8)(lim:Int)(itF:α→Nat→Except (Int×Int) (α×Nat))(last p:Nat)(acc:α):Except (Int×Int) (α×Nat) :=
 match spF bs lim (bs.length+1-p) p with
 |.error e=>.error e
 |.ok (_,p1)=>match bs[p1]? with
  |none=>qgW bs lim itF last (bs.length+1-p1) p1 acc
  |some c=>if (p1:Int)=lim then .error (8,p1) else if c.toNat=last then .ok (acc,p1+1) else qgW bs lim itF last (bs.length+1-p1) p1 acc
def liJ (rd:Nat→Except (Int×Int) (DataW Unit×Nat))(ds:List (DataW Unit))(p:Nat):Except (Int×Int) (List (DataW Unit)×Nat) :=
 match rd p with
 |.error e=>.error e
 |.ok (d,q)=>.ok (ds++[d],q)
def qmo (bs:List UInt8)(lim:Int)(ks:List (List UInt8))(p:Nat):Except (Int×Int) (List UInt8×Nat) :=
 match qaT bs lim [34] p with
 |.error e=>.error e
 |.ok (_,q)=>match qfe bs lim (bs.length+1-q) q [] 0 with
  |.error e=>.error e
  |.ok (l,r)=>if l∈ks then .error (12,(r:Int)-1) else .ok (l,r)
def enJ (bs:List UInt8)(lim:Int)(rd:Nat→Except (Int×Int) (DataW Unit×Nat))(a:List (List UInt8)×List (Lit×DataW Unit))(p:Nat):Except (Int×Int) ((List (List UInt8)×List (Lit×DataW Unit))×Nat) :=
 match qmo bs lim a.1 p with
 |.error e=>.error e
 |.ok (l,p1)=>match spF bs lim (bs.length+1-p1) p1 with
  |.error e=>.error e
  |.ok (_,p2)=>match qaT bs lim [58] p2 with
   |.error e=>.error e
   |.ok (_,p3)=>match spF bs lim (bs.length+1-p3) p3 with
    |.error e=>.error e
    |.ok (_,p4)=>match rd p4 with
     |.error e=>.error e
     |.ok (d,p5)=>.ok ((l::a.1,a.2++[(.string l,d)]),p5)
def qqi (bs:List UInt8)(lim depth:Int)(wi:Nat)(rd:Nat→Except (Int×Int) (DataW Unit×Nat))(nm:UInt8→Nat→Except (Int×Int) (Int×Nat))(c:UInt8)(p:Nat):Except (Int×Int) (DataW Unit×Nat) :=
 if c.toNat=110 then match qaT bs lim [117,108,108] p with
  |.error e=>.error e
  |.ok (_,q)=>.ok (.nil,q)
 else if c.toNat=116 then match qaT bs lim [114,117,101] p with
  |.error e=>.error e
  |.ok (_,q)=>.ok (.lit (.bool true),q)
 else if c.toNat=102 then match qaT bs lim [97,108,115,101] p with
  |.error e=>.error e
  |.ok (_,q)=>.ok (.lit (.bool false),q)
 else if c.toNat=34 then match qfe bs lim (bs.length+1-p) p [] 0 with
  |.error e=>.error e
  |.ok (l,q)=>.ok (.lit (.string l),q)
 else if c.toNat=91 then (if (wi:Int)=depth then .error (11,(p:Int)-1) else match qe4 bs lim (liJ rd) 93 p [] with
  |.error e=>.error e
  |.ok (ds,q)=>.ok (.agg ds,q))
 else if c.toNat=123 then (if (wi:Int)=depth then .error (11,(p:Int)-1) else match qe4 bs lim (enJ bs lim rd) 125 p ([],[]) with
  |.error e=>.error e
  |.ok (es,q)=>.ok (.map es.2,q))
 else if c.toNat=45∨qcQ c=true then match nm c p with
  |.error e=>.error e
  |.ok (z,q)=>.ok (.lit (.int .i64 z),q)
 else .error (9,(p:Int)-1)
def thJ (bs:List UInt8)(lim depth:Int)(nm:UInt8→Nat→Except (Int×Int) (Int×Nat)):Nat→Nat→Nat→Except (Int×Int) (DataW Unit×Nat)
 |0,_,_=>.error (0,0)
 |g+1,wi,p=>match bs[p]? with
  |none=>.error (9,p)
  |some c=>if (p:Int)=lim then .error (8,p) else qqi bs lim depth wi (thJ bs lim depth nm g (wi+1)) nm c (p+1)
def qc7 (k:Nat)(W:World)(b:Nat)(s:Src)(r:Except (Int×Int) (DataW Unit×Nat))(e:Ending)(W':World):Prop :=
 But b W W'∧match r with
 |.ok (d,p)=>(∃t y,e=.returned (.iface t y)∧qai k W' (fun j=>W.heap.size≤j∧j<W'.heap.size) (.iface t y) d)∧qad W' b {s with pos:=p}
 |.error (en,pl)=>qao en pl e
def qgg (k b:Nat)(s:Src)(W0:World)(rd:Nat→Except (Int×Int) (DataW Unit×Nat)):Prop :=
 ∀(V:World) (p:Nat),qad V b {s with pos:=p}→But b W0 V→Calls prog 296 #[.agg #[.pointer (some ⟨b,0,none⟩)]] V (qc7 k V b {s with pos:=p} (rd p))
def qc9 {α:Type}(St:Nat→α→World→Prop)(Fr:World→Prop)(r:Except (Int×Int) (α×Nat))(e:Ending)(V:World):Prop :=
 match r with
 |.ok (a,q)=>e=.returned (.tuple #[])∧St q a V
 |.error (en,pl)=>qao en pl e∧Fr V
structure qhI {α:Type}(b:Nat)(s:Src)(St:Nat→Nat→Nat→α→World→Prop)(Fr:World→Prop):Prop where
 src:∀N wi p a V,St N wi p a V→qad V b {s with pos:=p,within:=wi}
 step:∀N wi p a V wi' q V',St N wi p a V→qad V' b {s with pos:=q,within:=wi' }→But b V V'→p≤q→St N wi' q a V'
 box:∀N wi p a V,St N wi p a V→V.heap[N]? = some (.cells #[.pointer (some ⟨b,0,none⟩)] 198)
 fr:∀N wi p a V,St N wi p a V→Fr V
 frb:∀V V',Fr V→But b V V'→Fr V'
theorem qcm (bs:List UInt8)(lim:Int):∀(g p:Nat) (u:Unit) (q:Nat),spF bs lim g p=.ok (u,q)→p≤q
 |0,p,u,q,h=>by
  rw[spF] at h;injection h with h;injection h with h1 h2;omega
 |g+1,p,u,q,h=>by
  rw[spF] at h;split at h
  ·injection h with h;injection h with h1 h2;omega
  split at h
  ·cases h
  split at h
  ·have:=qcm bs lim g (p+1) u q h;omega
  injection h with h;injection h with h1 h2;omega
theorem qgM {α:Type}(W:World)(b L r:Nat)(s:Src)(itF:α→Nat→Except (Int×Int) (α×Nat))(acc:α)(St:Nat→Nat→Nat→α→World→Prop)(Fr:World→Prop)(hI:qhI b s St Fr)(h:qad W b s)(hd:¬(s.within:Int)=s.depth)(hwi:s.within≤100000)(hst:St W.heap.size s.within s.pos acc (W.alloc (.cells #[.pointer (some ⟨b,0,none⟩)] 198)))(hitem:∀N p a V,St N (s.within+1) p a V→Calls prog 310 #[.pointer (some ⟨L,0,none⟩),.pointer (some ⟨r,0,none⟩)] V (qc9 (St N (s.within+1)) Fr (itF a p)))(hgo:∀a p a' q,itF a p=.ok (a',q)→p<q):Calls prog 309 #[.agg #[.pointer (some ⟨b,0,none⟩)],.int .u8 93,.func (.func 310) #[] #[.pointer (some ⟨L,0,none⟩),.pointer (some ⟨r,0,none⟩)]] W (qc9 (fun q a V=>St W.heap.size s.within q a V) Fr (qe4 s.bs s.lim itF 93 s.pos acc)):=by
 have HS:=qaa hst;have HI:=qaa hI;have HGO:=qaa hgo;have cE:=qin (W.alloc (.cells #[.pointer (some ⟨b,0,none⟩)] 198)) b s (h.below bwA) hd (by omega);have cLv:∀(V:World) (p:Nat),qad V b {s with pos:=p,within:=s.within+1}→Calls prog 317 #[.pointer (some ⟨b,0,none⟩)] V fun e W'=>e=.returned (.tuple #[])∧qad W' b {s with pos:=p}∧But b V W':=fun V p hV=>qj2 V b s.within {s with pos:=p,within:=s.within+1} hV rfl (by show s.within+1≤_;omega);obtain⟨R,HR⟩:∃R,Hid (qe4 s.bs s.lim itF 93 s.pos acc=R):=⟨_,show _=_ from rfl⟩
 rw[HR.out];have hr:=HR.out;unfold qe4 at hr;have k0:=qab (HI.out.box _ _ _ _ _ HS.out) 0;go_enter func309,ntmps309;go_wp2;go_step3
 go_wp2_with fail
 refine cE.mono ?_;rintro e w2 ⟨rfl,hS2,hB2⟩;have H2:=qaa (HI.out.step _ _ _ _ _ _ _ _ HS.out hS2 hB2 (by omega));have k0:=qab (HI.out.box _ _ _ _ _ H2.out) 0
 go_wp2_with fail
 refine(qaN w2 b {s with pos:=s.pos,within:=s.within+1} (HI.out.src _ _ _ _ _ H2.out)).mono ?_;rintro e w3 ⟨hB3,hF3⟩
 cases h1:spF s.bs s.lim (s.bs.length+1-s.pos) s.pos with
 |error er =>
  obtain⟨en,pl⟩:=er;simp only[h1] at hr hF3;subst hr;obtain rfl:=(show qao en pl e from hF3)
  go_wp2;exact⟨rfl,rfl,HI.out.frb _ _ (HI.out.fr _ _ _ _ _ H2.out) hB3⟩
 |ok up =>
  obtain⟨u,p1⟩:=up;simp only[h1] at hr hF3;have hp1:=qcm _ _ _ _ _ _ h1;obtain⟨rfl,hS3⟩:=(show e=.returned (.tuple #[])∧qad w3 b {s with pos:=p1,within:=s.within+1} from hF3)
  have H3:=qaa (HI.out.step _ _ _ _ _ _ _ _ H2.out hS3 hB3 (by omega));have HP1:Hid (p1≤s.bs.length):=hS3.le;have k0:=qab (HI.out.box _ _ _ _ _ H3.out) 0;have hways:(quZ {s with pos:=p1,within:=s.within+1}∧R=.error (8,(p1:Int)))∨(∃c,qfp {s with pos:=p1,within:=s.within+1} c∧c.toNat=93∧R=.ok (acc,p1+1))∨((Calls prog 304 #[.pointer (some ⟨b,0,none⟩),.int .u8 93] w3 fun e W'=>e=.returned (.bool false)∧qad W' b {s with pos:=p1,within:=s.within+1}∧But b w3 W')∧qgW s.bs s.lim itF 93 (s.bs.length+1-p1) p1 acc=R):=by
   have hV:=(HI.out.src _ _ _ _ _ H3.out)
   cases h2:s.bs[p1]? with
   |none =>
    rw[h2] at hr;refine .inr (.inr ⟨qij 93 hV ?_,hr⟩);have h5:p1≤s.bs.length:=hV.le;have h6:=List.getElem?_eq_none_iff.1 h2;show p1=s.bs.length;omega
   |some c =>
    rw[h2] at hr;simp only[] at hr;have h6:=ltL h2;by_cases h3:(p1:Int)=s.lim
    ·rw[if_pos h3] at hr;exact .inl ⟨⟨h6,h3⟩,hr.symm⟩
    rw[if_neg h3] at hr;by_cases h4:c.toNat=93
    ·rw[if_pos h4] at hr;exact .inr (.inl ⟨c,⟨h2,h3⟩,h4,hr.symm⟩)
    rw[if_neg h4] at hr;refine .inr (.inr ⟨?_,hr⟩);have:=qdw (c:=c) 93 hV ⟨h2,h3⟩;rwa [show((c.toNat:Int)==93)=false by simp;omega] at this
  go_wp2_with fail
  rcases hways with ⟨hFu,rfl⟩|⟨c,hHe,hc,rfl⟩|⟨cF,hr⟩
  ·refine(qdd w3 b {s with pos:=p1,within:=s.within+1} 93 (HI.out.src _ _ _ _ _ H3.out) hFu).mono ?_;rintro e w4 ⟨rfl,hB4⟩;go_wp2;exact⟨rfl,rfl,HI.out.frb _ _ (HI.out.fr _ _ _ _ _ H3.out) (But.of_below hB4)⟩
  ·have cF:=qdw (c:=c) 93 (HI.out.src _ _ _ _ _ H3.out) hHe;rw[show((c.toNat:Int)==93)=true by rw[hc];rfl] at cF;refine cF.mono ?_;rintro e w4 ⟨rfl,hS4,hB4⟩;have H4:=qaa (HI.out.step _ _ _ _ _ _ _ _ H3.out hS4 hB4 (by omega));have k0:=qab (HI.out.box _ _ _ _ _ H4.out) 0
   go_wp2_with fail
   refine(qau w4 b {s with pos:=p1,within:=s.within+1} c (HI.out.src _ _ _ _ _ H4.out) hHe).mono ?_;rintro e w5 ⟨rfl,hS5,hB5⟩;have H5:=qaa (HI.out.step _ _ _ _ _ _ _ _ H4.out (show qad w5 b {s with pos:=p1+1,within:=s.within+1} from hS5) hB5 (by omega));have k0:=qab (HI.out.box _ _ _ _ _ H5.out) 0
   go_wp2_with fail
   refine(cLv w5 (p1+1) (HI.out.src _ _ _ _ _ H5.out)).mono ?_;rintro e w6 ⟨rfl,hS6,hB6⟩;have H6:=qaa (HI.out.step _ _ _ _ _ _ _ _ H5.out hS6 hB6 (by omega));go_wp2;refine qfO ?_;go_end0;exact⟨rfl,H6.out⟩
  have HR:=qaa hr;refine cF.mono ?_;rintro e w4 ⟨rfl,hS4,hB4⟩;have H4:=qaa (HI.out.step _ _ _ _ _ _ _ _ H3.out hS4 hB4 (by omega));go_wp2;go_step3;go_wp2
  go_loopg [21] (s.bs.length+1-p1) (fun g _ wr=>∃(p:Nat) (a:α),Hid (s.bs.length+1≤p+g)∧Hid (p≤s.bs.length)∧Hid (St W.heap.size (s.within+1) p a wr)∧Hid (qgW s.bs s.lim itF 93 g p a=R))
  case atStart=>exact⟨p1,acc,by show _≤_;have:=HP1.out;omega,HP1,H4,HR⟩
  case round =>
   obtain⟨p,a,hg,hp,H4,HR⟩:=hrel;obtain⟨g,rfl⟩:∃g,gk=g+1:=⟨gk-1,by have:=hg.out;have:=hp.out;omega⟩
   have k0:=qab (HI.out.box _ _ _ _ _ H4.out) 0;have hr:=HR.out;rw[qgW] at hr
   go_wp2_with fail
   refine(qaN wr b {s with pos:=p,within:=s.within+1} (HI.out.src _ _ _ _ _ H4.out)).mono ?_;rintro e w5 ⟨hB5,hF5⟩
   cases h1:spF s.bs s.lim (s.bs.length+1-p) p with
   |error er =>
    obtain⟨en,pl⟩:=er;simp only[h1] at hr hF5;subst hr;clear h1 hitem cLv;obtain rfl:=(show qao en pl e from hF5)
    go_wp2;exact⟨rfl,rfl,HI.out.frb _ _ (HI.out.fr _ _ _ _ _ H4.out) hB5⟩
   |ok up =>
    obtain⟨u1,q1⟩:=up;simp only[h1] at hr hF5;have hq1:=qcm _ _ _ _ _ _ h1;clear h1;obtain⟨rfl,hS5⟩:=(show e=.returned (.tuple #[])∧qad w5 b {s with pos:=q1,within:=s.within+1} from hF5)
    have H5:=qaa (HI.out.step _ _ _ _ _ _ _ _ H4.out hS5 hB5 (by omega));clear H4 hS5 hB5 hF5
    go_wp2_with fail
    refine(hitem _ _ _ _ H5.out).mono ?_;clear hitem;rintro e w6 hF6
    cases h2:itF a q1 with
    |error er =>
     obtain⟨en,pl⟩:=er;rw[h2] at hr hF6;simp only[] at hr;subst hr;clear h2 cLv;obtain⟨hF6,hFr⟩:=(show qao en pl e∧Fr w6 from hF6)
     obtain rfl:=hF6;go_wp2;exact⟨rfl,rfl,hFr⟩
    |ok aq =>
     obtain⟨a',q2⟩:=aq;rw[h2] at hr hF6;simp only[] at hr;have hq2:=HGO.out _ _ _ _ h2;clear h2;obtain⟨rfl,hS6⟩:=(show e=.returned (.tuple #[])∧St W.heap.size (s.within+1) q2 a' w6 from hF6)
     have H6:=qaa hS6;clear H5 hF6 hS6;have k0:=qab (HI.out.box _ _ _ _ _ H6.out) 0
     go_wp2_with fail
     refine(qaN w6 b {s with pos:=q2,within:=s.within+1} (HI.out.src _ _ _ _ _ H6.out)).mono ?_;clear k0;rintro e w7 ⟨hB7,hF7⟩
     cases h3:spF s.bs s.lim (s.bs.length+1-q2) q2 with
     |error er =>
      obtain⟨en,pl⟩:=er;simp only[h3] at hr hF7;subst hr;clear h3 cLv;obtain rfl:=(show qao en pl e from hF7)
      go_wp2;exact⟨rfl,rfl,HI.out.frb _ _ (HI.out.fr _ _ _ _ _ H6.out) hB7⟩
     |ok up =>
      obtain⟨u3,q3⟩:=up;simp only[h3] at hr hF7;have hq3:=qcm _ _ _ _ _ _ h3;clear h3;obtain⟨rfl,hS7⟩:=(show e=.returned (.tuple #[])∧qad w7 b {s with pos:=q3,within:=s.within+1} from hF7)
      have H7:=qaa (HI.out.step _ _ _ _ _ _ _ _ H6.out hS7 hB7 (by omega));clear H6 hS7 hB7 hF7;have k0:=qab (HI.out.box _ _ _ _ _ H7.out) 0
      go_wp2_with fail
      have hV:=(HI.out.src _ _ _ _ _ H7.out)
      cases h4:s.bs[q3]? with
      |none =>
       simp only[h4] at hr;subst hr;refine(qbm w7 b {s with pos:=q3,within:=s.within+1} hV (by show q3=s.bs.length;have h5:q3≤s.bs.length:=hV.le;have h6:=List.getElem?_eq_none_iff.1 h4;omega)).mono ?_;clear h4 cLv hV;rintro e w8 ⟨rfl,hB8⟩;go_wp2;exact⟨rfl,rfl,HI.out.frb _ _ (HI.out.fr _ _ _ _ _ H7.out) (But.of_below hB8)⟩
      |some c =>
       rw[h4] at hr;simp only[] at hr;have h6:=ltL h4;by_cases h5:(q3:Int)=s.lim
       ·rw[if_pos h5] at hr;subst hr;refine(qaP w7 b {s with pos:=q3,within:=s.within+1} hV ⟨h6,h5⟩).mono ?_;clear h4 h5 h6 cLv hV;rintro e w8 ⟨rfl,hB8⟩;go_wp2;exact⟨rfl,rfl,HI.out.frb _ _ (HI.out.fr _ _ _ _ _ H7.out) (But.of_below hB8)⟩
       rw[if_neg h5] at hr;refine(qau w7 b {s with pos:=q3,within:=s.within+1} c hV ⟨h4,h5⟩).mono ?_;clear h4 h5 k0 hV;rintro e w8 ⟨rfl,hS8,hB8⟩;have H8:=qaa (HI.out.step _ _ _ _ _ _ _ _ H7.out (show qad w8 b {s with pos:=q3+1,within:=s.within+1} from hS8) hB8 (by omega));have HQ4:Hid (q3+1≤s.bs.length):=hS8.le;clear H7 hS8 hB8;have k0:=qab (HI.out.box _ _ _ _ _ H8.out) 0;by_cases h7:c.toNat=93
       ·rw[if_pos h7] at hr;subst hr;have e1:((c.toNat:Int)==93)=true:=by rw[h7];rfl
        clear h7
        go_wp2_with fail
        refine(cLv w8 (q3+1) (HI.out.src _ _ _ _ _ H8.out)).mono ?_;clear cLv k0;rintro e w9 ⟨rfl,hS9,hB9⟩;have H9:=qaa (HI.out.step _ _ _ _ _ _ _ _ H8.out hS9 hB9 (by omega));clear H8 hS9 hB9;go_wp2
        first|(refine qfO ?_;go_end0)|go_end0
        exact⟨rfl,H9.out⟩
       rw[if_neg h7] at hr;have e1:=nec (c:=c) 93 (by omega);by_cases h8:c.toNat=44
       ·rw[if_pos h8] at hr;have HN:=qaa hr;have e2:((c.toNat:Int)==44)=true:=by rw[h8];rfl
        have HG2:Hid (s.bs.length+1≤(q3+1)+g):=by show _≤_;have:=hg.out;omega
        clear h7 h8 hr cLv;go_wp2;go_roundg g
        case measure=>omega
        case rel=>exact⟨q3+1,a',HG2,HQ4,H8,HN⟩
       rw[if_neg h8] at hr;subst hr;have e2:=nec (c:=c) 44 (by omega);have cR:=qat w8 b {s with pos:=q3+1,within:=s.within+1} 9 (HI.out.src _ _ _ _ _ H8.out);rw[show((({s with pos:=q3+1,within:=s.within+1}:Src).pos:Int)-1)=q3 by show(((q3+1:Nat)):Int)-1=q3;omega] at cR;clear h7 h8 cLv
       go_wp2_with fail
       refine cR.mono ?_;rintro e w9 ⟨rfl,rfl⟩;go_wp2;exact⟨rfl,rfl,HI.out.fr _ _ _ _ _ H8.out⟩
theorem qhR {α:Type}(W:World)(b L r m:Nat)(s:Src)(itF:α→Nat→Except (Int×Int) (α×Nat))(acc:α)(St:Nat→Nat→Nat→α→World→Prop)(Fr:World→Prop)(hI:qhI b s St Fr)(h:qad W b s)(hd:¬(s.within:Int)=s.depth)(hwi:s.within≤100000)(hst:St W.heap.size s.within s.pos acc (W.alloc (.cells #[.pointer (some ⟨b,0,none⟩)] 198)))(hitem:∀N p a V,St N (s.within+1) p a V→Calls prog 311 #[.pointer (some ⟨r,0,none⟩),.pointer (some ⟨m,0,none⟩),.pointer (some ⟨L,0,none⟩)] V (qc9 (St N (s.within+1)) Fr (itF a p)))(hgo:∀a p a' q,itF a p=.ok (a',q)→p<q):Calls prog 309 #[.agg #[.pointer (some ⟨b,0,none⟩)],.int .u8 125,.func (.func 311) #[] #[.pointer (some ⟨r,0,none⟩),.pointer (some ⟨m,0,none⟩),.pointer (some ⟨L,0,none⟩)]] W (qc9 (fun q a V=>St W.heap.size s.within q a V) Fr (qe4 s.bs s.lim itF 125 s.pos acc)):=by
 have HS:=qaa hst;have HI:=qaa hI;have HGO:=qaa hgo;have cE:=qin (W.alloc (.cells #[.pointer (some ⟨b,0,none⟩)] 198)) b s (h.below bwA) hd (by omega);have cLv:∀(V:World) (p:Nat),qad V b {s with pos:=p,within:=s.within+1}→Calls prog 317 #[.pointer (some ⟨b,0,none⟩)] V fun e W'=>e=.returned (.tuple #[])∧qad W' b {s with pos:=p}∧But b V W':=fun V p hV=>qj2 V b s.within {s with pos:=p,within:=s.within+1} hV rfl (by show s.within+1≤_;omega);obtain⟨R,HR⟩:∃R,Hid (qe4 s.bs s.lim itF 125 s.pos acc=R):=⟨_,show _=_ from rfl⟩
 rw[HR.out];have hr:=HR.out;unfold qe4 at hr;have k0:=qab (HI.out.box _ _ _ _ _ HS.out) 0;go_enter func309,ntmps309;go_wp2;go_step3
 go_wp2_with fail
 refine cE.mono ?_;rintro e w2 ⟨rfl,hS2,hB2⟩;have H2:=qaa (HI.out.step _ _ _ _ _ _ _ _ HS.out hS2 hB2 (by omega));have k0:=qab (HI.out.box _ _ _ _ _ H2.out) 0
 go_wp2_with fail
 refine(qaN w2 b {s with pos:=s.pos,within:=s.within+1} (HI.out.src _ _ _ _ _ H2.out)).mono ?_;rintro e w3 ⟨hB3,hF3⟩
 cases h1:spF s.bs s.lim (s.bs.length+1-s.pos) s.pos with
 |error er =>
  obtain⟨en,pl⟩:=er;simp only[h1] at hr hF3;subst hr;obtain rfl:=(show qao en pl e from hF3)
  go_wp2;exact⟨rfl,rfl,HI.out.frb _ _ (HI.out.fr _ _ _ _ _ H2.out) hB3⟩
 |ok up =>
  obtain⟨u,p1⟩:=up;simp only[h1] at hr hF3;have hp1:=qcm _ _ _ _ _ _ h1;obtain⟨rfl,hS3⟩:=(show e=.returned (.tuple #[])∧qad w3 b {s with pos:=p1,within:=s.within+1} from hF3)
  have H3:=qaa (HI.out.step _ _ _ _ _ _ _ _ H2.out hS3 hB3 (by omega));have HP1:Hid (p1≤s.bs.length):=hS3.le;have k0:=qab (HI.out.box _ _ _ _ _ H3.out) 0;have hways:(quZ {s with pos:=p1,within:=s.within+1}∧R=.error (8,(p1:Int)))∨(∃c,qfp {s with pos:=p1,within:=s.within+1} c∧c.toNat=125∧R=.ok (acc,p1+1))∨((Calls prog 304 #[.pointer (some ⟨b,0,none⟩),.int .u8 125] w3 fun e W'=>e=.returned (.bool false)∧qad W' b {s with pos:=p1,within:=s.within+1}∧But b w3 W')∧qgW s.bs s.lim itF 125 (s.bs.length+1-p1) p1 acc=R):=by
   have hV:=(HI.out.src _ _ _ _ _ H3.out)
   cases h2:s.bs[p1]? with
   |none =>
    rw[h2] at hr;refine .inr (.inr ⟨qij 125 hV ?_,hr⟩);have h5:p1≤s.bs.length:=hV.le;have h6:=List.getElem?_eq_none_iff.1 h2;show p1=s.bs.length;omega
   |some c =>
    rw[h2] at hr;simp only[] at hr;have h6:=ltL h2;by_cases h3:(p1:Int)=s.lim
    ·rw[if_pos h3] at hr;exact .inl ⟨⟨h6,h3⟩,hr.symm⟩
    rw[if_neg h3] at hr;by_cases h4:c.toNat=125
    ·rw[if_pos h4] at hr;exact .inr (.inl ⟨c,⟨h2,h3⟩,h4,hr.symm⟩)
    rw[if_neg h4] at hr;refine .inr (.inr ⟨?_,hr⟩);have:=qdw (c:=c) 125 hV ⟨h2,h3⟩;rwa [show((c.toNat:Int)==125)=false by simp;omega] at this
  go_wp2_with fail
  rcases hways with ⟨hFu,rfl⟩|⟨c,hHe,hc,rfl⟩|⟨cF,hr⟩
  ·refine(qdd w3 b {s with pos:=p1,within:=s.within+1} 125 (HI.out.src _ _ _ _ _ H3.out) hFu).mono ?_;rintro e w4 ⟨rfl,hB4⟩;go_wp2;exact⟨rfl,rfl,HI.out.frb _ _ (HI.out.fr _ _ _ _ _ H3.out) (But.of_below hB4)⟩
  ·have cF:=qdw (c:=c) 125 (HI.out.src _ _ _ _ _ H3.out) hHe;rw[show((c.toNat:Int)==125)=true by rw[hc];rfl] at cF;refine cF.mono ?_;rintro e w4 ⟨rfl,hS4,hB4⟩;have H4:=qaa (HI.out.step _ _ _ _ _ _ _ _ H3.out hS4 hB4 (by omega));have k0:=qab (HI.out.box _ _ _ _ _ H4.out) 0
   go_wp2_with fail
   refine(qau w4 b {s with pos:=p1,within:=s.within+1} c (HI.out.src _ _ _ _ _ H4.out) hHe).mono ?_;rintro e w5 ⟨rfl,hS5,hB5⟩;have H5:=qaa (HI.out.step _ _ _ _ _ _ _ _ H4.out (show qad w5 b {s with pos:=p1+1,within:=s.within+1} from hS5) hB5 (by omega));have k0:=qab (HI.out.box _ _ _ _ _ H5.out) 0
   go_wp2_with fail
   refine(cLv w5 (p1+1) (HI.out.src _ _ _ _ _ H5.out)).mono ?_;rintro e w6 ⟨rfl,hS6,hB6⟩;have H6:=qaa (HI.out.step _ _ _ _ _ _ _ _ H5.out hS6 hB6 (by omega));go_wp2;refine qfO ?_;go_end0;exact⟨rfl,H6.out⟩
  have HR:=qaa hr;refine cF.mono ?_;rintro e w4 ⟨rfl,hS4,hB4⟩;have H4:=qaa (HI.out.step _ _ _ _ _ _ _ _ H3.out hS4 hB4 (by omega));go_wp2;go_step3;go_wp2
  go_loopg [21] (s.bs.length+1-p1) (fun g _ wr=>∃(p:Nat) (a:α),Hid (s.bs.length+1≤p+g)∧Hid (p≤s.bs.length)∧Hid (St W.heap.size (s.within+1) p a wr)∧Hid (qgW s.bs s.lim itF 125 g p a=R))
  case atStart=>exact⟨p1,acc,by show _≤_;have:=HP1.out;omega,HP1,H4,HR⟩
  case round =>
   obtain⟨p,a,hg,hp,H4,HR⟩:=hrel;obtain⟨g,rfl⟩:∃g,gk=g+1:=⟨gk-1,by have:=hg.out;have:=hp.out;omega⟩
   have k0:=qab (HI.out.box _ _ _ _ _ H4.out) 0;have hr:=HR.out;rw[qgW] at hr
   go_wp2_with fail
   refine(qaN wr b {s with pos:=p,within:=s.within+1} (HI.out.src _ _ _ _ _ H4.out)).mono ?_;rintro e w5 ⟨hB5,hF5⟩
   cases h1:spF s.bs s.lim (s.bs.length+1-p) p with
   |error er =>
    obtain⟨en,pl⟩:=er;simp only[h1] at hr hF5;subst hr;clear h1 hitem cLv;obtain rfl:=(show qao en pl e from hF5)
    go_wp2;exact⟨rfl,rfl,HI.out.frb _ _ (HI.out.fr _ _ _ _ _ H4.out) hB5⟩
   |ok up =>
    obtain⟨u1,q1⟩:=up;simp only[h1] at hr hF5;have hq1:=qcm _ _ _ _ _ _ h1;clear h1;obtain⟨rfl,hS5⟩:=(show e=.returned (.tuple #[])∧qad w5 b {s with pos:=q1,within:=s.within+1} from hF5)
    have H5:=qaa (HI.out.step _ _ _ _ _ _ _ _ H4.out hS5 hB5 (by omega));clear H4 hS5 hB5 hF5
    go_wp2_with fail
    refine(hitem _ _ _ _ H5.out).mono ?_;clear hitem;rintro e w6 hF6
    cases h2:itF a q1 with
    |error er =>
     obtain⟨en,pl⟩:=er;rw[h2] at hr hF6;simp only[] at hr;subst hr;clear h2 cLv;obtain⟨hF6,hFr⟩:=(show qao en pl e∧Fr w6 from hF6)
     obtain rfl:=hF6;go_wp2;exact⟨rfl,rfl,hFr⟩
    |ok aq =>
     obtain⟨a',q2⟩:=aq;rw[h2] at hr hF6;simp only[] at hr;have hq2:=HGO.out _ _ _ _ h2;clear h2;obtain⟨rfl,hS6⟩:=(show e=.returned (.tuple #[])∧St W.heap.size (s.within+1) q2 a' w6 from hF6)
     have H6:=qaa hS6;clear H5 hF6 hS6;have k0:=qab (HI.out.box _ _ _ _ _ H6.out) 0
     go_wp2_with fail
     refine(qaN w6 b {s with pos:=q2,within:=s.within+1} (HI.out.src _ _ _ _ _ H6.out)).mono ?_;clear k0;rintro e w7 ⟨hB7,hF7⟩
     cases h3:spF s.bs s.lim (s.bs.length+1-q2) q2 with
     |error er =>
      obtain⟨en,pl⟩:=er;simp only[h3] at hr hF7;subst hr;clear h3 cLv;obtain rfl:=(show qao en pl e from hF7)
      go_wp2;exact⟨rfl,rfl,HI.out.frb _ _ (HI.out.fr _ _ _ _ _ H6.out) hB7⟩
     |ok up =>
      obtain⟨u3,q3⟩:=up;simp only[h3] at hr hF7;have hq3:=qcm _ _ _ _ _ _ h3;clear h3;obtain⟨rfl,hS7⟩:=(show e=.returned (.tuple #[])∧qad w7 b {s with pos:=q3,within:=s.within+1} from hF7)
      have H7:=qaa (HI.out.step _ _ _ _ _ _ _ _ H6.out hS7 hB7 (by omega));clear H6 hS7 hB7 hF7;have k0:=qab (HI.out.box _ _ _ _ _ H7.out) 0
      go_wp2_with fail
      have hV:=(HI.out.src _ _ _ _ _ H7.out)
      cases h4:s.bs[q3]? with
      |none =>
       simp only[h4] at hr;subst hr;refine(qbm w7 b {s with pos:=q3,within:=s.within+1} hV (by show q3=s.bs.length;have h5:q3≤s.bs.length:=hV.le;have h6:=List.getElem?_eq_none_iff.1 h4;omega)).mono ?_;clear h4 cLv hV;rintro e w8 ⟨rfl,hB8⟩;go_wp2;exact⟨rfl,rfl,HI.out.frb _ _ (HI.out.fr _ _ _ _ _ H7.out) (But.of_below hB8)⟩
      |some c =>
       rw[h4] at hr;simp only[] at hr;have h6:=ltL h4;by_cases h5:(q3:Int)=s.lim
       ·rw[if_pos h5] at hr;subst hr;refine(qaP w7 b {s with pos:=q3,within:=s.within+1} hV ⟨h6,h5⟩).mono ?_;clear h4 h5 h6 cLv hV;rintro e w8 ⟨rfl,hB8⟩;go_wp2;exact⟨rfl,rfl,HI.out.frb _ _ (HI.out.fr _ _ _ _ _ H7.out) (But.of_below hB8)⟩
       rw[if_neg h5] at hr;refine(qau w7 b {s with pos:=q3,within:=s.within+1} c hV ⟨h4,h5⟩).mono ?_;clear h4 h5 k0 hV;rintro e w8 ⟨rfl,hS8,hB8⟩;have H8:=qaa (HI.out.step _ _ _ _ _ _ _ _ H7.out (show qad w8 b {s with pos:=q3+1,within:=s.within+1} from hS8) hB8 (by omega));have HQ4:Hid (q3+1≤s.bs.length):=hS8.le;clear H7 hS8 hB8;have k0:=qab (HI.out.box _ _ _ _ _ H8.out) 0;by_cases h7:c.toNat=125
       ·rw[if_pos h7] at hr;subst hr;have e1:((c.toNat:Int)==125)=true:=by rw[h7];rfl
        clear h7
        go_wp2_with fail
        refine(cLv w8 (q3+1) (HI.out.src _ _ _ _ _ H8.out)).mono ?_;clear cLv k0;rintro e w9 ⟨rfl,hS9,hB9⟩;have H9:=qaa (HI.out.step _ _ _ _ _ _ _ _ H8.out hS9 hB9 (by omega));clear H8 hS9 hB9;go_wp2
        first|(refine qfO ?_;go_end0)|go_end0
        exact⟨rfl,H9.out⟩
       rw[if_neg h7] at hr;have e1:=nec (c:=c) 125 (by omega);by_cases h8:c.toNat=44
       ·rw[if_pos h8] at hr;have HN:=qaa hr;have e2:((c.toNat:Int)==44)=true:=by rw[h8];rfl
        have HG2:Hid (s.bs.length+1≤(q3+1)+g):=by show _≤_;have:=hg.out;omega
        clear h7 h8 hr cLv;go_wp2;go_roundg g
        case measure=>omega
        case rel=>exact⟨q3+1,a',HG2,HQ4,H8,HN⟩
       rw[if_neg h8] at hr;subst hr;have e2:=nec (c:=c) 44 (by omega);have cR:=qat w8 b {s with pos:=q3+1,within:=s.within+1} 9 (HI.out.src _ _ _ _ _ H8.out);rw[show((({s with pos:=q3+1,within:=s.within+1}:Src).pos:Int)-1)=q3 by show(((q3+1:Nat)):Int)-1=q3;omega] at cR;clear h7 h8 cLv
       go_wp2_with fail
       refine cR.mono ?_;rintro e w9 ⟨rfl,rfl⟩;go_wp2;exact⟨rfl,rfl,HI.out.fr _ _ _ _ _ H8.out⟩
end
end Go.Proofs.YtllcbnfmihfaaaaGreatDoor
