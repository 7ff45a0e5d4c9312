import Derived.Test.YtcokgepdckkjdaaGreatDoorRq25
import Derived.Test.YtcokgepdckkjdaaGreatDoorRq23
set_option maxRecDepth 100000
set_option maxHeartbeats 8000000
namespace Go.Proofs.YtcokgepdckkjdaaGreatDoor
open Go.Proofs.Tryz
variable {bs l:List UInt8}{depth fm lim:Int}{fuel last n p q size wi:Nat}{rd:Nat->Except (Int×Int) (DataW Unit×Nat)}{nm:UInt8->Nat->Except (Int×Int) (Int×Nat)}{c:UInt8}{d:DataW Unit}{V V' W w:World}{P:Program}{ops:Array Oper}{Q:Exit->Act->World->Prop}{md:Region.Mode}{S:World->Prop}{listed:Array Bool}{a:Act}{o:Oper}{f:FuncId}{A args:Array Value}{r:Ending}{F:Nat->Prop}{u v:Value}{xs:List Value}
section
open Go.RowKit
theorem qkx {α:Type}{itF:α->Nat->Except (Int×Int) (α×Nat)}(c:∀a p b q,itF a p=.ok (b,q)->p<q):∀(g p:Nat) (a b:α) (q:Nat),qgW bs lim itF last g p a=.ok (b,q)->p<q
 |0,p,a,b,q,h=>by rw[qgW] at h;cases h
 |g+1,p,a,b,q,h=>by
  rw[qgW] at h;split at h
  ·cases h
  next u1 p1 h1 =>
  split at h
  ·cases h
  next a2 p2 h2 =>
  split at h
  ·cases h
  next u3 p3 h3 =>
  have:=qcm _ _ _ _ _ _ h1;have:=c _ _ _ _ h2;have:=qcm _ _ _ _ _ _ h3;split at h
  ·cases h
  split at h
  ·cases h
  split at h
  ·injection h with h;injection h with h4 h5;omega
  split at h
  ·have:=qkx c g (p3+1) a2 b q h;omega
  cases h
theorem qqf {α:Type}{itF:α->Nat->Except (Int×Int) (α×Nat)}(b:∀a p a' q,itF a p=.ok (a',q)->p<q){a a':α}(h:qe4 bs lim itF last p a=.ok (a',q)):p<q:=by
 unfold qe4 at h;split at h
 ·cases h
 next u1 p1 h1 =>
 have:=qcm _ _ _ _ _ _ h1;split at h
 ·have:=qkx b _ _ _ _ _ h;omega
 split at h
 ·cases h
 split at h
 ·injection h with h;injection h with h4 h5;omega
 have:=qkx b _ _ _ _ _ h;omega
theorem qtA (a:∀p d q,rd p=.ok (d,q)->p<q)(b:∀z q,(c.toNat=45\/qcQ c=true)->nm c p=.ok (z,q)->p<=q)(h:qqi bs lim depth wi rd nm c p=.ok (d,q)):p<=q:=by
 unfold qqi at h;split at h
 ·split at h
  ·cases h
  next u r hr =>
  injection h with h;injection h with h1 h2;have:=qcb _ _ _ _ _ _ hr;omega
 split at h
 ·split at h
  ·cases h
  next u r hr =>
  injection h with h;injection h with h1 h2;have:=qcb _ _ _ _ _ _ hr;omega
 split at h
 ·split at h
  ·cases h
  next u r hr =>
  injection h with h;injection h with h1 h2;have:=qcb _ _ _ _ _ _ hr;omega
 split at h
 ·split at h
  ·cases h
  next l r hr =>
  injection h with h;injection h with h1 h2;have:=qet _ _ _ _ _ _ _ _ hr;omega
 split at h
 ·split at h
  ·cases h
  split at h
  ·cases h
  next l r hr =>
  injection h with h;injection h with h1 h2;have:=qqf (qsl a) hr;omega
 split at h
 ·split at h
  ·cases h
  split at h
  ·cases h
  next l r hr =>
  injection h with h;injection h with h1 h2;have:=qqf (qsh a) hr;omega
 split at h
 ·next hc =>
  split at h
  ·cases h
  next z r hr =>
  injection h with h;injection h with h1 h2;have:=b z r hc hr;omega
 cases h
def nmS (s:Src)(c:UInt8)(p:Nat):Except (Int×Int) (Int×Nat):=qg4 {s with pos:=p} c
theorem qov (s:Src):∀(g a p:Nat) (d:DataW Unit) (q:Nat),thJ s.bs s.lim s.depth (nmS s) g a p=.ok (d,q)->p<q
 |0,_,_,_,_,h=>by rw[thJ] at h;cases h
 |g+1,a,p,d,q,h=>by
  rw[thJ] at h;split at h
  ·cases h
  split at h
  ·cases h
  have:=qtA (p:=p+1) (nm:=nmS s) (qov s g (a+1)) (fun z q b c=>(qhv (s:={s with pos:=p+1}) b c).2) h;omega
theorem qcp:∀(g:Nat) (W:World) (b:Nat) (s:Src),qad W b s->s.bs.length<=200000000->(∀V,But b W V->U8 V)->7<b->s.depth<=100000->(s.within:Int)<=s.depth->s.depth<s.within+g ->
  Calls prog 228 #[.agg #[.pointer (some ⟨b,0,none⟩)]] W (qc7 g W b s (thJ s.bs s.lim s.depth (nmS s) g s.within s.pos))
 |0,W,b,s,_,_,_,_,_,d,h2=>by omega
 |g+1,W,b,s,h,hlen,hU,h7,hdp,hwd,hgd=>by
  have x:¬(s.within:Int)=s.depth->qgg g b {s with within:=s.within+1} W (thJ s.bs s.lim s.depth (nmS s) g (s.within+1)):=fun D U p t r =>
   qcp g U b {s with pos:=p,within:=s.within+1} t hlen (fun X A=>hU X (r.trans A)) h7 hdp (by show((s.within+1:Nat):Int)<=s.depth;omega) (by show s.depth<((s.within+1:Nat):Int)+g;omega)
  rcases qaM h with d|d|⟨c,d⟩
  ·have e:thJ s.bs s.lim s.depth (nmS s) (g+1) s.within s.pos=.error (9,(s.pos:Int)):=by
    rw[thJ,List.getElem?_eq_none (by have:s.pos=s.bs.length:=d;omega)]
   rw[e];exact qgY W b s 9 h (fun V u=>qbm V b s u d)
  ·have e:thJ s.bs s.lim s.depth (nmS s) (g+1) s.within s.pos=.error (8,(s.pos:Int)):=by
    rw[thJ,List.getElem?_eq_getElem d.1];simp only[];rw[if_pos d.2]
   rw[e];exact qgY W b s 8 h (fun V u=>qaP V b s u d)
  have e:thJ s.bs s.lim s.depth (nmS s) (g+1) s.within s.pos=qqi s.bs s.lim s.depth s.within (thJ s.bs s.lim s.depth (nmS s) g (s.within+1)) (nmS s) c (s.pos+1):=by
   rw[thJ,d.1];simp only[];rw[if_neg d.2]
  rw[e];have v:(((s.pos+1:Nat)):Int)-1=s.pos:=by omega
  unfold qqi;by_cases m:c.toNat=110
  ·rw[if_pos m];refine(qpc g W b s c h d m).mono fun e w a => ?_;cases f:qaT s.bs s.lim [117,108,108] (s.pos+1)<;>(rw[f] at a;exact a)
  rw[if_neg m];by_cases c2:c.toNat=116
  ·rw[if_pos c2];refine(qm7 g W b s c h d c2).mono fun e w a => ?_;cases f:qaT s.bs s.lim [114,117,101] (s.pos+1)<;>(rw[f] at a;exact a)
  rw[if_neg c2];by_cases n:c.toNat=102
  ·rw[if_pos n];refine(qky g W b s c h d n).mono fun e w a => ?_;cases f:qaT s.bs s.lim [97,108,115,101] (s.pos+1)<;>(rw[f] at a;exact a)
  rw[if_neg n];by_cases o:c.toNat=34
  ·rw[if_pos o];refine(qmF g W b s c h d o hlen hU h7).mono fun e w a => ?_;cases f:qfe s.bs s.lim (s.bs.length+1-(s.pos+1)) (s.pos+1) [] 0<;>(rw[f] at a;exact a)
  rw[if_neg o];by_cases j:c.toNat=91
  ·rw[if_pos j];by_cases i:(s.within:Int)=s.depth
   ·rw[if_pos i,v];exact qfM W b s c h d j i
   rw[if_neg i];refine(qmp g W b s c h d j _ (x i) (qov s g (s.within+1)) hlen i (by omega)).mono fun e w a => ?_;cases f:qe4 s.bs s.lim (liJ (thJ s.bs s.lim s.depth (nmS s) g (s.within+1))) 93 (s.pos+1) []<;>(rw[f] at a;exact a)
  rw[if_neg j];by_cases k:c.toNat=123
  ·rw[if_pos k];by_cases i:(s.within:Int)=s.depth
   ·rw[if_pos i,v];exact qgI W b s c h d k i
   rw[if_neg i];refine(qpu g W b s c h d k _ (x i) (qov s g (s.within+1)) hlen hU h7 i (by omega)).mono fun e w a => ?_;cases f:qe4 s.bs s.lim (enJ s.bs s.lim (thJ s.bs s.lim s.depth (nmS s) g (s.within+1))) 125 (s.pos+1) ([],[])<;>(rw[f] at a;exact a)
  rw[if_neg k];by_cases l:c.toNat=45\/qcQ c=true
  ·rw[if_pos l];refine(qim W b s c h d l).mono fun e w a => ?_;have y:nmS s c (s.pos+1)=qg4 s.next c:=rfl
   rw[y]
   cases f:qg4 s.next c with
   |error C =>
    rw[f] at a;exact a
   |ok B =>
    obtain⟨z,q⟩:=B;rw[f] at a;obtain⟨r,rfl,t⟩:=a;exact⟨r,⟨_,_,rfl,rfl,(qhv l f).1⟩,t⟩
  rw[if_neg l,v];exact qn6 W b s c h d (by
   rintro (a|a|a|a|a|a|a)
   ·exact m a
   ·exact c2 a
   ·exact n a
   ·exact o a
   ·exact j a
   ·exact k a
   exact l a)

def qnZ (sp:Nat->Except (Int×Int) (Unit×Nat))(th:Nat->Except (Int×Int) (DataW Unit×Nat))(bs:List UInt8)(lim:Int):Except (Int×Int) (DataW Unit) :=
 match sp 0 with
 |.error e=>.error e
 |.ok (_,p0)=>match th p0 with
  |.error e=>.error e
  |.ok (d,p1)=>match sp p1 with
   |.error e=>.error e
   |.ok (_,p2)=>match qqn ⟨none,bs,0,0,lim,p2,0⟩ with
    |.error e=>.error e
    |.ok _=>.ok d
def qg6 (k:Nat)(W:World)(r:Except (Int×Int) (DataW Unit))(e:Ending)(W':World):Prop :=
 Below W.heap.size W W'/\match r with
 |.ok d=>∃t y,e=.returned (.iface t y)/\qai k W' (fun j=>W.heap.size<=j/\j<W'.heap.size) (.iface t y) d
 |.error (en,pl)=>qao en pl e
theorem qkz (k:Nat)(W:World)(fm:Int)(c:Option Addr)(bs:List UInt8)(f:Nat)(d l:Int)(h:qa4 W c bs)(x:Nat->Except (Int×Int) (Unit×Nat))(G:Nat->Except (Int×Int) (DataW Unit×Nat))(cR:∀V,qa4 V c bs->Calls prog 90 #[.int .i64 fm,.agg #[.int .i64 d,.int .i64 l],.slice c bs.length f] V fun e X=>∃b,e=.returned (.iface 213 (.agg #[.pointer (some ⟨b,0,none⟩)]))/\qad X b ⟨c,bs,f,d,l,0,0⟩/\V.heap.size<=b/\Below V.heap.size V X)(Y:∀(b:Nat) (V:World) (p:Nat),W.heap.size<=b->qad V b ⟨c,bs,f,d,l,p,0⟩->Calls prog 229 #[.agg #[.pointer (some ⟨b,0,none⟩)]] V (qbJ V b ⟨c,bs,f,d,l,p,0⟩ (fun _:Unit=>.tuple #[]) (x p)))(cT:∀(b:Nat) (V:World) (p:Nat),W.heap.size<=b->Below W.heap.size W V->qad V b ⟨c,bs,f,d,l,p,0⟩->Calls prog 228 #[.agg #[.pointer (some ⟨b,0,none⟩)]] V (qc7 k V b ⟨c,bs,f,d,l,p,0⟩ (G p))):Calls prog 66 #[.int .i64 fm,.agg #[.int .i64 d,.int .i64 l],.slice c bs.length f] W (qg6 k W (qnZ x G bs l)):=by
 have ab:Below W.heap.size W (W.alloc (.cells #[.int .i64 d,.int .i64 l] 94)):=bwA;have P:=qaa ab;have cN:=cR (W.alloc (.cells #[.int .i64 d,.int .i64 l] 94)) (h.below ab);obtain⟨R,U⟩:∃R,Hid (qnZ x G bs l=R):=⟨_,show _=_ from rfl⟩
 rw[U.out];have a:=U.out;unfold qnZ at a;go_enter func66,ntmps66
 go_wp2_with (first
  |(go_at_call 90;refine cN.mono ?_;rintro e w2 ⟨b,rfl,hS,ap,J⟩))
 have Q:=qaa (P.out.trans (J.mono P.out.size));have g:W.heap.size<=b:=by simp only[World.size_alloc] at ap;omega
 have C:=Y b w2 0 g hS;have af:=fun (V:World) (p:Nat) M=>Y b V p g M;have ag:=fun (V:World) (p:Nat) (J:Below W.heap.size W V) M=>cT b V p g J M;refine qdj (y:=(229,.agg #[.pointer (some ⟨b,0,none⟩)])) (w:=w2) (by kernel_rfl) ?_
 go_wp2_with fail
 cases Z:x 0 with
 |error q =>
  obtain⟨o,r⟩:=q;rw[Z] at a C;simp only[] at a;subst a;refine C.mono ?_;rintro e A ⟨K,hF⟩;obtain rfl:=(show qao o r e from hF)
  go_wp2;exact⟨rfl,qaC Q.out K g,rfl⟩
 |ok z =>
  obtain⟨u0,N⟩:=z;rw[Z] at a C;simp only[] at a;refine C.mono ?_;rintro e A ⟨K,ai⟩;obtain⟨rfl,aa⟩:=(show e=.returned (.tuple #[])/\qad A b ⟨c,bs,f,d,l,N,0⟩ from ai)
  have I:=qaa (qaC Q.out K g);have E:=ag A N I.out aa;have aq:=qaa (ltA aa.row)
  go_wp2_with fail
  refine qdj (y:=(228,.agg #[.pointer (some ⟨b,0,none⟩)])) (w:=A) (by kernel_rfl) ?_
  go_wp2_with fail
  cases h2:G N with
  |error q =>
   obtain⟨o,r⟩:=q;rw[h2] at a E;simp only[] at a;subst a;refine E.mono ?_;rintro e m ⟨L,hF⟩;obtain rfl:=(show qao o r e from hF)
   go_wp2;exact⟨rfl,qaC I.out L g,rfl⟩
  |ok dq =>
   obtain⟨F,O⟩:=dq;rw[h2] at a E;simp only[] at a;refine E.mono ?_;rintro e m ⟨L,aj⟩;obtain⟨⟨t,y,rfl,ah⟩,am⟩:=(show(∃t y,e=.returned (.iface t y)/\qai k m (fun j=>A.heap.size<=j/\j<m.heap.size) (.iface t y) F)/\qad m b ⟨c,bs,f,d,l,O,0⟩ from aj)
   have S:=qaa (qaC I.out L g);have ao:=aq.out;have HD:Hid (qai k m (fun j=>b<j/\j<m.heap.size) (.iface t y) F):=ah.same (fun j i=>⟨Nat.lt_of_lt_of_le ao i.1,i.2⟩) (fun _ _=>rfl);have D:=af m O am
   go_wp2_with fail
   refine qdj (y:=(229,.agg #[.pointer (some ⟨b,0,none⟩)])) (w:=m) (by kernel_rfl) ?_
   go_wp2_with fail
   cases h3:x O with
   |error q =>
    obtain⟨o,r⟩:=q;rw[h3] at a D;simp only[] at a;subst a;refine D.mono ?_;rintro e n ⟨s,hF⟩;obtain rfl:=(show qao o r e from hF)
    go_wp2;exact⟨rfl,qaC S.out s g,rfl⟩
   |ok z =>
    obtain⟨u2,v⟩:=z;rw[h3] at a D;simp only[] at a;refine D.mono ?_;rintro e n ⟨s,ak⟩;obtain⟨rfl,an⟩:=(show e=.returned (.tuple #[])/\qad n b ⟨c,bs,f,d,l,v,0⟩ from ak)
    have T:=qaa (qaC S.out s g);have ad:Hid (qai k n (fun j=>b<j/\j<n.heap.size) (.iface t y) F):=HD.out.same (fun j i=>⟨i.1,Nat.lt_of_lt_of_le i.2 s.size⟩) (fun j i=>s.block j i.2 (by omega));have B:Calls prog 222 #[.pointer (some ⟨b,0,none⟩)] n (qbJ n b ⟨c,bs,f,d,l,v,0⟩ (fun _:Unit=>.tuple #[]) (qqn ⟨none,bs,0,0,l,v,0⟩)):=qgi n b ⟨c,bs,f,d,l,v,0⟩ an
    go_wp2_with fail
    refine qdj (y:=(222,.pointer (some ⟨b,0,none⟩))) (w:=n) (by kernel_rfl) ?_
    go_wp2_with fail
    cases h4:qqn ⟨none,bs,0,0,l,v,0⟩ with
    |error q =>
     obtain⟨o,r⟩:=q;rw[h4] at a B;simp only[] at a;subst a;refine B.mono ?_;rintro e H ⟨u,hF⟩;obtain rfl:=(show qao o r e from hF)
     go_wp2;exact⟨rfl,qaC T.out u g,rfl⟩
    |ok z =>
     obtain⟨u4,p4⟩:=z;rw[h4] at a B;simp only[] at a;subst a;refine B.mono ?_;rintro e H ⟨u,al⟩;obtain⟨rfl,ar⟩:=(show e=.returned (.tuple #[])/\qad H b ⟨c,bs,f,d,l,p4,0⟩ from al)
     have ae:Hid (qai k H (fun j=>W.heap.size<=j/\j<H.heap.size) (.iface t y) F):=ad.out.same (fun j i=>⟨by omega,Nat.lt_of_lt_of_le i.2 u.size⟩) (fun j i=>u.block j i.2 (by omega));have ac:=qaa (qaC T.out u g);go_wp2;go_ret;exact⟨ac.out,_,_,rfl,ae.out⟩

structure qeK (W:World):Prop where
 u8:U8 W
 hd:qdh W
 big:9<=W.heap.size
theorem U8.but {b:Nat}(h:U8 W)(e:But b W V)(j:7<b)(k:9<=W.heap.size):U8 V:=by
 have a:∀(q off:Nat) (v:Value),q<=7->W.cell? ⟨q,off,none⟩=some v->V.cell? ⟨q,off,none⟩=some v:=fun q off v l g=>(World.cell?_of_block (w:=W) (e.block q (by omega) (by omega))).trans g;exact⟨fun c f=>a _ _ _ (by decide) (h.1 c f),fun i d=>⟨a _ _ _ (by decide) (h.2 i d).1,a _ _ _ (by decide) (h.2 i d).2⟩⟩
theorem qeK.below (h:qeK W)(a:Below W.heap.size W V):qeK V:=⟨h.u8.below a,h.hd.below a,Nat.le_trans h.big a.size⟩
def spO (fm:Int)(bs:List UInt8)(lim:Int)(p:Nat):Except (Int×Int) (Unit×Nat):=if fm=1 then spF bs lim (bs.length+1-p) p else .ok ((),p)
def thO (fm:Int)(bs:List UInt8)(d lim:Int)(p:Nat):Except (Int×Int) (DataW Unit×Nat) :=
 if fm=1 then thJ bs lim d (fun c p=>qg4 ⟨none,bs,0,0,lim,p,0⟩ c) (d.toNat+1) 0 p else if fm=2 then thB qiN bs lim d (d.toNat+1) 0 p else thB qfo bs lim d (d.toNat+1) 0 p
def qgE (fm:Int)(bs:List UInt8)(d lim:Int):Except (Int×Int) (DataW Unit):=qnZ (spO fm bs lim) (thO fm bs d lim) bs lim

theorem qpw:∀(q:List (List UInt8)) (i:Nat),qaW n q i<0->i<=16->(∀x∈q,qa9 n x=true)/\i+q.length<=16
 |[],i,_,hi=>⟨fun x c=>absurd c (by simp),by simpa using hi⟩
 |x::q,i,h,_=>by
  unfold qaW at h;split at h
  ·next hc =>
   obtain⟨b,d⟩:=qpw q (i+1) h (by omega);refine⟨fun y a => ?_,by rw[List.length_cons];omega⟩;rcases List.mem_cons.1 a with rfl|a
   ·exact hc.1
   exact b y a
  omega
theorem qnD (h:qe8 l=true):(qiL l).length<=8:=by
 unfold qe8 at h;unfold qiL
 cases a:(l==[46]) with
 |true=>simp
 |false =>
  rw[a,Bool.false_or,Bool.and_eq_true] at h;have:=of_decide_eq_true h.2;simpa using this
theorem qpA {s:List UInt8}(h:s∈qiL l):s.length<=l.length:=by
 unfold qiL at h;split at h
 ·cases h
 exact qbr 47 l s h
theorem qoP (h:qa9 n l=true):(qdE l).1.length<=8/\∀s∈(qdE l).1,s.length<=l.length:=by
 have b:=qgV h;have c:=qqd b;have a:qiX n [(Lib.cut l [32]).1,(Lib.cut (Lib.cut l [32]).2.1 [32]).1,(Lib.cut (Lib.cut l [32]).2.1 [32]).2.1]=true:=by
  rw[<-b];exact h
 unfold qiX at a;rw[Bool.and_eq_true] at a;rw[c];have e:(Lib.cut l [32]).1.length<=l.length:=qbr 32 l _ (by rw[b];simp);exact⟨qnD a.1,fun s d=>Nat.le_trans (qpA d) e⟩
theorem qpP (h:qez n l=0):(qcA l).length<=16/\∀r∈qcA l,r.1.length<=8/\∀s∈r.1,s.length<=2000:=by
 have a:qa3 n l<0:=by
  unfold qez at h;split at h
  ·cases h
  omega
 unfold qa3 at a;unfold qcA;split at a
 ·omega
 next hb =>
 split at a
 ·next h0 =>
  rw[if_pos h0];exact⟨by simp,fun r b=>by cases b⟩
 next h0 =>
 rw[if_neg h0];obtain⟨d,i⟩:=qpw (qal 10 l) 0 a (by omega);refine⟨by rw[List.length_map];omega,fun r b => ?_⟩;obtain⟨x,c,rfl⟩:=List.mem_map.1 b;obtain⟨f,g⟩:=qoP (d x c);refine⟨f,fun s e => ?_⟩;have:=g s e;have:=qbr 10 l x c;omega
theorem qoK (h:qez n l=0):((qcA l).map enS).length<=16/\(∀i (h:i<((qcA l).map enS).length),((qcA l).map enS)[i].1.length<=8)/\∀i (h:i<((qcA l).map enS).length) j (a:j<((qcA l).map enS)[i].1.length),((qcA l).map enS)[i].1[j].1<=3/\((qcA l).map enS)[i].1[j].2.length<=1000000000:=by
 obtain⟨m,a⟩:=qpP h;refine⟨by rw[List.length_map];exact m,fun i b => ?_,fun i b j c => ?_⟩
 ·rw[List.getElem_map];have d:i<(qcA l).length:=by rwa [List.length_map] at b
  show((qcA l)[i].1.map sgS).length<=8;rw[List.length_map];exact(a _ (List.getElem_mem _)).1
 have d:i<(qcA l).length:=by rwa [List.length_map] at b
 have e:((qcA l).map enS)[i]=enS (qcA l)[i]:=List.getElem_map _;have f:j<(qcA l)[i].1.length:=by
  rw[List.getElem_map] at c;have:((qcA l)[i].1.map sgS).length=(qcA l)[i].1.length:=List.length_map _;exact this▸c
 have g:((qcA l).map enS)[i].1[j]=sgS ((qcA l)[i].1[j]):=by
  have:(((qcA l).map enS)[i].1)[j]? = ((enS (qcA l)[i]).1)[j]?:=by rw[e]
  rw[List.getElem?_eq_getElem c] at this;have k:((enS (qcA l)[i]).1)[j]? = some (sgS ((qcA l)[i].1[j])):=by
   show((qcA l)[i].1.map sgS)[j]? = _;rw[List.getElem?_map,List.getElem?_eq_getElem f];rfl
  rw[k] at this;injection this
 rw[g];have:=(a _ (List.getElem_mem d)).2 _ (List.getElem_mem f);have:=qtT (qcA l)[i].1[j];exact⟨qqu _,by omega⟩

def Bad {α:Type}(r:Except (Int×Int) α):Prop:=∀en pl,r=.error (en,pl)->en≠0
theorem qdH (bs:List UInt8)(lim:Int):∀(k p:Nat),Bad (spF bs lim k p)
 |0,p,en,pl,h=>by rw[spF] at h;cases h
 |k+1,p,en,pl,h=>by
  rw[spF] at h;split at h
  ·cases h
  split at h
  ·injection h with h;injection h with h1 h2;omega
  split at h
  ·exact qdH bs lim k _ en pl h
  cases h
theorem qbW (bs:List UInt8)(lim:Int):∀(l:List UInt8) (p:Nat),Bad (qaT bs lim l p)
 |[],p,en,pl,h=>by rw[qaT] at h;cases h
 |x::xs,p,en,pl,h=>by
  rw[qaT] at h;split at h
  ·injection h with h;injection h with h1 h2;omega
  split at h
  ·injection h with h;injection h with h1 h2;omega
  split at h
  ·exact qbW bs lim xs _ en pl h
  injection h with h;injection h with h1 h2;omega
theorem qio (bs:List UInt8)(lim:Int):∀(k p a:Nat),Bad (qgA bs lim k p a)
 |0,p,a,en,pl,h=>by rw[qgA] at h;cases h
 |k+1,p,a,en,pl,h=>by
  rw[qgA] at h;split at h
  ·injection h with h;injection h with h1 h2;omega
  split at h
  ·injection h with h;injection h with h1 h2;omega
  split at h
  ·injection h with h;injection h with h1 h2;omega
  exact qio bs lim k _ _ en pl h
theorem qpL (bs:List UInt8)(lim:Int)(p:Nat):Bad (qgy bs lim p):=fun a b h=>by
 unfold qgy at h;split at h
 ·next e he=>injection h with h;subst h;exact qio _ _ _ _ _ a b he
 split at h
 ·injection h with h;injection h with h1 h2;omega
 split at h
 ·split at h
  ·next e he=>injection h with h;subst h;exact qbW _ _ _ _ a b he
  split at h
  ·next e he=>injection h with h;subst h;exact qio _ _ _ _ _ a b he
  split at h
  ·cases h
  injection h with h;injection h with h1 h2;omega
 cases h
theorem qqz (bs:List UInt8)(lim:Int)(p:Nat):Bad (qnj bs lim p):=fun a b h=>by
 unfold qnj at h;split at h
 ·injection h with h;injection h with h1 h2;omega
 split at h
 ·injection h with h;injection h with h1 h2;omega
 repeat' split at h
 all_goals first|(injection h with h;injection h with h1 h2;omega)|exact qpL _ _ _ a b h|cases h
theorem qf3 (bs:List UInt8)(lim:Int):∀(g p:Nat) (a:List UInt8) (b:Nat),Bad (qfe bs lim g p a b)
 |0,p,a,b,en,pl,h=>by rw[qfe] at h;injection h with h;injection h with h1 h2;omega
 |g+1,p,a,b,en,pl,h=>by
  rw[qfe] at h;split at h
  ·injection h with h;injection h with h1 h2;omega
  split at h
  ·injection h with h;injection h with h1 h2;omega
  split at h
  ·cases h
  split at h
  ·split at h
   ·next e he=>injection h with h;subst h;exact qqz _ _ _ en pl he
   exact qf3 bs lim g _ _ _ en pl h
  split at h
  ·injection h with h;injection h with h1 h2;omega
  split at h
  ·injection h with h;injection h with h1 h2;omega
  exact qf3 bs lim g _ _ _ en pl h
theorem qiq (bs:List UInt8)(lim:Int)(b:Nat)(z:Bool):∀(g p a:Nat),Bad (qfi bs lim b z g p a)
 |0,p,a,en,pl,h=>by unfold qfi at h;cases h
 |g+1,p,a,en,pl,h=>by
  unfold qfi at h;split at h
  ·cases h
  split at h
  ·injection h with h;injection h with h1 h2;omega
  split at h
  ·split at h
   ·injection h with h;injection h with h1 h2;omega
   split at h
   ·injection h with h;injection h with h1 h2;omega
   exact qiq bs lim b z g _ _ en pl h
  split at h
  ·injection h with h;injection h with h1 h2;omega
  cases h
theorem qqA (s:Src)(c:UInt8):Bad (qg4 s c):=fun a b h=>by
 unfold qg4 at h;split at h
 ·split at h
  ·injection h with h;injection h with h1 h2;omega
  split at h
  ·injection h with h;injection h with h1 h2;omega
  split at h
  ·split at h
   ·cases h
   next e he=>injection h with h;subst h;exact qiq _ _ _ _ _ _ _ a b he
  injection h with h;injection h with h1 h2;omega
 split at h
 ·cases h
 next e he=>injection h with h;subst h;exact qiq _ _ _ _ _ _ _ a b he
theorem qiD {α:Type}{itF:α->Nat->Except (Int×Int) (α×Nat)}(b:∀a p,Bad (itF a p)):∀(g p:Nat) (a:α),Bad (qgW bs lim itF last g p a)
 |0,p,a,en,pl,h=>by rw[qgW] at h;injection h with h;injection h with h1 h2;omega
 |g+1,p,a,en,pl,h=>by
  rw[qgW] at h;split at h
  ·next e he=>injection h with h;subst h;exact qdH _ _ _ _ en pl he
  split at h
  ·next e he=>injection h with h;subst h;exact b _ _ en pl he
  split at h
  ·next e he=>injection h with h;subst h;exact qdH _ _ _ _ en pl he
  split at h
  ·injection h with h;injection h with h1 h2;omega
  split at h
  ·injection h with h;injection h with h1 h2;omega
  split at h
  ·cases h
  split at h
  ·exact qiD b g _ _ en pl h
  injection h with h;injection h with h1 h2;omega
theorem qlH {α:Type}{itF:α->Nat->Except (Int×Int) (α×Nat)}(d:∀a p,Bad (itF a p))(p:Nat)(a:α):Bad (qe4 bs lim itF last p a):=fun b c h=>by
 unfold qe4 at h;split at h
 ·next e he=>injection h with h;subst h;exact qdH _ _ _ _ b c he
 split at h
 ·exact qiD d _ _ _ b c h
 split at h
 ·injection h with h;injection h with h1 h2;omega
 split at h
 ·cases h
 exact qiD d _ _ _ b c h
theorem qtS (c:∀p,Bad (rd p))(a:List (DataW Unit))(p:Nat):Bad (liJ rd a p):=fun b d h=>by
 unfold liJ at h;split at h
 ·next e he=>injection h with h;subst h;exact c _ b d he
 cases h
theorem qre (bs:List UInt8)(lim:Int)(ks:List (List UInt8))(p:Nat):Bad (qmo bs lim ks p):=fun a b h=>by
 unfold qmo at h;split at h
 ·next e he=>injection h with h;subst h;exact qbW _ _ _ _ a b he
 split at h
 ·next e he=>injection h with h;subst h;exact qf3 _ _ _ _ _ _ a b he
 split at h
 ·injection h with h;injection h with h1 h2;omega
 cases h
theorem quB (d:∀p,Bad (rd p))(a:List (List UInt8)×List (Lit×DataW Unit))(p:Nat):Bad (enJ bs lim rd a p):=fun b c h=>by
 unfold enJ at h;split at h
 ·next e he=>injection h with h;subst h;exact qre _ _ _ _ b c he
 split at h
 ·next e he=>injection h with h;subst h;exact qdH _ _ _ _ b c he
 split at h
 ·next e he=>injection h with h;subst h;exact qbW _ _ _ _ b c he
 split at h
 ·next e he=>injection h with h;subst h;exact qdH _ _ _ _ b c he
 split at h
 ·next e he=>injection h with h;subst h;exact d _ b c he
 cases h
theorem qq0 (d:¬(wi:Int)=depth->∀p,Bad (rd p))(f:∀c p,Bad (nm c p)):Bad (qqi bs lim depth wi rd nm c p):=fun a b h=>by
 unfold qqi at h;split at h
 ·split at h
  ·next e he=>injection h with h;subst h;exact qbW _ _ _ _ a b he
  cases h
 split at h
 ·split at h
  ·next e he=>injection h with h;subst h;exact qbW _ _ _ _ a b he
  cases h
 split at h
 ·split at h
  ·next e he=>injection h with h;subst h;exact qbW _ _ _ _ a b he
  cases h
 split at h
 ·split at h
  ·next e he=>injection h with h;subst h;exact qf3 _ _ _ _ _ _ a b he
  cases h
 split at h
 ·split at h
  ·injection h with h;injection h with h1 h2;omega
  next hn =>
  split at h
  ·next e he=>injection h with h;subst h;exact qlH (qtS (d hn)) _ _ a b he
  cases h
 split at h
 ·split at h
  ·injection h with h;injection h with h1 h2;omega
  next hn =>
  split at h
  ·next e he=>injection h with h;subst h;exact qlH (quB (d hn)) _ _ a b he
  cases h
 split at h
 ·split at h
  ·next e he=>injection h with h;subst h;exact f _ _ a b he
  cases h
 injection h with h;injection h with h1 h2;omega
theorem qnJ (bs:List UInt8)(lim b:Int)(nm:UInt8->Nat->Except (Int×Int) (Int×Nat))(d:∀c p,Bad (nm c p)):∀(g a p:Nat),(a:Int)<=b->b<a+g->Bad (thJ bs lim b nm g a p)
 |0,a,p,h1,h2,_,_,_=>by omega
 |g+1,a,p,h1,h2,en,pl,h=>by
  rw[thJ] at h;split at h
  ·injection h with h;injection h with h3 h4;omega
  split at h
  ·injection h with h;injection h with h3 h4;omega
  exact qq0 (fun e q=>qnJ bs lim b nm d g (a+1) q (by omega) (by omega)) d en pl h

theorem q0X {K':Act->World->Prop}(e:Shut (∀a w,S w->(S w->wpAnyH P md ops Q S fuel listed a w)->K' a w))(m:Region.wanted o (yielded ops a.tmps)=true)(c:TypeId)(x y:Operand)(k:o.op=.store c x y)(i:o.dst=none)(g:Nat)(b:Array Value)(n:a.eval x=.pointer (some ⟨g,0,none⟩))(p:a.eval y=.agg b)(t:TypeId)(old:Array Value)(j:w.heap[g]? = some (.cells old t (0,0)))(hi:(P.info? c).map (·.size)=some b.size)(l:old.size=b.size)(d:b.all (·.oneCell')=true)(f:S (w.setRow g b))(h:wpAnyH P md ops Q S fuel listed a (w.setRow g b)):if Region.wanted o (yielded ops a.tmps)=true then Oper.wp P o a w K' Q else K' (a.put o.dst undef) w:=by
 rw[if_pos m];refine wp_store_row c x y k g b n p t old j hi l d ?_;rw[i];exact e _ _ f (fun _=>h)
theorem qzu (i:Nat)(n:Region.ready md ops listed=[i])(hi:ops[i]? = some o)(p:Region.wanted o (yielded ops a.tmps)=true)(c:TypeId)(x y:Operand)(l:o.op=.store c x y)(j:o.dst=none)(g:Nat)(b:Array Value)(q:a.eval x=.pointer (some ⟨g,0,none⟩))(r:a.eval y=.agg b)(t:TypeId)(old:Array Value)(k:w.heap[g]? = some (.cells old t (0,0)))(s:(P.info? c).map (·.size)=some b.size)(m:old.size=b.size)(d:b.all (·.oneCell')=true)(f:S (w.setRow g b))(h:wpAnyH P md ops Q S fuel (listed.setIfInBounds i true) a (w.setRow g b)):wpAnyH P md ops Q S (fuel+1) listed a w :=
 wpAnyH_ready n (by simp) (AllReadyH.cons hi (fun _ e=>q0X e p c x y l j g b q r t old k s m d f h) AllReadyH.nil)
theorem sF (i x y g:Nat)(F:Int×Int)(n:(Region.ready md ops listed,ops[i]?.map fun o=>(Region.wanted o (yielded ops a.tmps),o.op,o.dst),a.eval (.tmp x),a.eval (.tmp y))=([i],some (true,.store 57 (.tmp x) (.tmp y),none),.pointer (some ⟨g,0,none⟩),.agg (qqp F)))(m:w.heap[g]? = some (.cells (qqp (0,0)) 57))(l:S (w.setRow g (qqp F)))(h:wpAnyH prog md ops Q S fuel (listed.setIfInBounds i true) a (w.setRow g (qqp F))):wpAnyH prog md ops Q S (fuel+1) listed a w:=by
 obtain⟨f,b⟩:=Prod.mk.inj n;obtain⟨b,c⟩:=Prod.mk.inj b;obtain⟨c,j⟩:=Prod.mk.inj c;obtain⟨o,p,d⟩:=Option.map_eq_some_iff.1 b;obtain⟨d,e⟩:=Prod.mk.inj d;obtain⟨e,k⟩:=Prod.mk.inj e;exact qzu i f p d _ _ _ e k g _ c j _ _ m (qxL _) rfl (qyg _) l h
theorem sTh (i x y g:Nat)(T:Array Value)(p:(Region.ready md ops listed,ops[i]?.map fun o=>(Region.wanted o (yielded ops a.tmps),o.op,o.dst),a.eval (.tmp x),a.eval (.tmp y))=([i],some (true,.store 55 (.tmp x) (.tmp y),none),.pointer (some ⟨g,0,none⟩),.agg T))(n:w.heap[g]? = some (.cells th0 55))(f:ThG T)(m:S (w.setRow g T))(h:wpAnyH prog md ops Q S fuel (listed.setIfInBounds i true) a (w.setRow g T)):wpAnyH prog md ops Q S (fuel+1) listed a w:=by
 obtain⟨j,b⟩:=Prod.mk.inj p;obtain⟨b,c⟩:=Prod.mk.inj b;obtain⟨c,k⟩:=Prod.mk.inj c;obtain⟨o,q,d⟩:=Option.map_eq_some_iff.1 b;obtain⟨d,e⟩:=Prod.mk.inj d;obtain⟨e,l⟩:=Prod.mk.inj e;exact qzu i j q d _ _ _ e l g _ c k _ _ n (by rw[f.1];exact qyO) (by rw[f.1];rfl) f.2 m h
theorem zF {rest:List Oper}(x y:Nat)(c:o.guard=none)(d:o.op=.store 57 (.tmp x) (.tmp y))(g:Nat)(F:Int×Int)(b:a.eval (.tmp x)=.pointer (some ⟨g,0,none⟩)/\a.eval (.tmp y)=.agg (qqp F)/\w.heap[g]? = some (.cells (qqp (0,0)) 57))(h:wpList prog ops Q rest (a.put o.dst undef) (w.setRow g (qqp F))):wpList prog ops Q (o::rest) a w:=stF x y c d g F b.1 b.2.1 b.2.2 h
theorem zT {rest:List Oper}(x y:Nat)(c:o.guard=none)(d:o.op=.store 55 (.tmp x) (.tmp y))(g:Nat)(T:Array Value)(b:a.eval (.tmp x)=.pointer (some ⟨g,0,none⟩)/\a.eval (.tmp y)=.agg T/\w.heap[g]? = some (.cells th0 55)/\ThG T)(h:wpList prog ops Q rest (a.put o.dst undef) (w.setRow g T)):wpList prog ops Q (o::rest) a w:=stT x y c d g T b.1 b.2.1 b.2.2.1 b.2.2.2 h
theorem RTh.ck {Q:Ending->World->Prop}{d l:Int}(h:RTh W (inA bs fm d l) V)(c:Calls P f args V fun e a=>e=r/\Below V.heap.size V a)(k:∀w,Hid (RTh W (inA bs fm d l) w)->w.cell? ⟨W.heap.size,0,none⟩=(#[.string ⟨bs.toArray⟩,.int .i64 fm,.int .i64 d,.int .i64 l]:Array Value)[0]?->w.cell? ⟨W.heap.size,1,none⟩=(#[.string ⟨bs.toArray⟩,.int .i64 fm,.int .i64 d,.int .i64 l]:Array Value)[1]?->w.cell? ⟨W.heap.size,2,none⟩=(#[.string ⟨bs.toArray⟩,.int .i64 fm,.int .i64 d,.int .i64 l]:Array Value)[2]?->w.cell? ⟨W.heap.size,3,none⟩=(#[.string ⟨bs.toArray⟩,.int .i64 fm,.int .i64 d,.int .i64 l]:Array Value)[3]?->Q r w):Calls P f args V Q:=ck4 c h.next (fun _ h=>h.box) k
theorem RIn.ck {Q:Ending->World->Prop}{d l:Int}{N:Nat}(h:RIn W (inA bs fm d l) N V)(c:Calls P f args V fun e a=>e=r/\Below V.heap.size V a)(k:∀w,Hid (RIn W (inA bs fm d l) N w)->w.cell? ⟨W.heap.size,0,none⟩=(#[.string ⟨bs.toArray⟩,.int .i64 fm,.int .i64 d,.int .i64 l]:Array Value)[0]?->w.cell? ⟨W.heap.size,1,none⟩=(#[.string ⟨bs.toArray⟩,.int .i64 fm,.int .i64 d,.int .i64 l]:Array Value)[1]?->w.cell? ⟨W.heap.size,2,none⟩=(#[.string ⟨bs.toArray⟩,.int .i64 fm,.int .i64 d,.int .i64 l]:Array Value)[2]?->w.cell? ⟨W.heap.size,3,none⟩=(#[.string ⟨bs.toArray⟩,.int .i64 fm,.int .i64 d,.int .i64 l]:Array Value)[3]?->Q r w):Calls P f args V Q:=ck4 c h.next (fun _ h=>h.box) k
def qz1 (xs:List Value)(i:Nat)(a:Array Value):Prop:=(xs.drop (5*i)).take 5=a.toList
def q3d (e:Lit×DataW Unit):Value:=match e.1 with
 |.string l=>qyh l
 |_=>undef
def qxY:Nat->World->(Nat->Prop)->Value->DataW Unit->Prop
 |0,_,_,_,_=>False
 |k+1,V,F,v,d=>match d with
  |.nil=>v=.agg (thA 0 0 ⟨#[]⟩ qxE qxE)
  |.lit (.bool b)=>v=.agg (thA (if b=true then 2 else 1) 0 ⟨#[]⟩ qxE qxE)
  |.lit (.int .i64 z)=>v=.agg (thA 3 z ⟨#[]⟩ qxE qxE) /\ -9223372036854775808<=z/\z<=9223372036854775807
  |.lit (.string l)=>v=.agg (thA 4 0 ⟨l.toArray⟩ qxE qxE)
  |.ptr (.lit (.string l))=>v=.agg (thA 5 0 ⟨l.toArray⟩ qxE qxE)
  |.agg ds=>∃u xs,v=.agg (thA 6 0 ⟨#[]⟩ qxE u)/\qb1 V 55 5 F u ds.length xs/\∀(i:Nat) (d:DataW Unit),ds[i]? = some d->∃a,qz1 xs i a/\qxY k V F (.agg a) d
  |.map es=>∃kv u xs,v=.agg (thA 7 0 ⟨#[]⟩ kv u)/\qb1 V 9 1 F kv es.length (es.map q3d)/\qb1 V 55 5 F u es.length xs/\∀(i:Nat) (key:Lit) (d:DataW Unit),es[i]? = some (key,d)->∃l a,key=.string l/\qz1 xs i a/\qxY k V F (.agg a) d
  |_=>False
theorem qxY.same {G:Nat->Prop}(b:∀k,F k->G k)(c:∀k,F k->V'.heap[k]? = V.heap[k]?):∀{k:Nat} {v:Value} {d:DataW Unit},qxY k V F v d->qxY k V' G v d
 |0,_,_,h=>h
 |k+1,v,d,h=>by
  unfold qxY at h ⊢;split at h
  ·exact h
  ·exact h
  ·exact h
  ·exact h
  ·exact h
  ·obtain⟨u,o,e,n,m⟩:=h;refine⟨u,o,e,n.same b c,fun i d j => ?_⟩;obtain⟨a,f,g⟩:=m i d j;exact⟨a,f,qxY.same b c g⟩
  ·obtain⟨r,u,o,e,q,n,m⟩:=h;refine⟨r,u,o,e,q.same b c,n.same b c,fun i key d j => ?_⟩;obtain⟨l,a,f,g,p⟩:=m i key d j;exact⟨l,a,f,g,qxY.same b c p⟩
  exact h
theorem qxY.more:∀{k m:Nat} {v:Value} {d:DataW Unit},k<=m->qxY k V F v d->qxY m V F v d
 |0,_,_,_,_,h=>h.elim
 |k+1,0,_,_,hm,_=>absurd hm (by omega)
 |k+1,m+1,v,d,hm,h=>by
  unfold qxY at h ⊢;split at h
  ·exact h
  ·exact h
  ·exact h
  ·exact h
  ·exact h
  ·obtain⟨u,n,e,j,g⟩:=h;refine⟨u,n,e,j,fun i d f => ?_⟩;obtain⟨a,b,c⟩:=g i d f;exact⟨a,b,qxY.more (by omega) c⟩
  ·obtain⟨q,u,n,e,p,j,g⟩:=h;refine⟨q,u,n,e,p,j,fun i key d f => ?_⟩;obtain⟨l,a,b,c,o⟩:=g i key d f;exact⟨l,a,b,c,qxY.more (by omega) o⟩
  exact h
theorem qb1.slice {t:TypeId}(h:qb1 V t size F v n xs):∃a m c,v=.slice a m c:=by
 rcases h.2 with ⟨e,_⟩|⟨g,b,d,e,_⟩
 ·exact⟨_,_,_,e⟩
 exact⟨_,_,_,e⟩
theorem qxY.shape {k:Nat}(h:qxY k V F v d):∃l n s a i j b p q,v=.agg (thA l n s (.slice a i j) (.slice b p q)):=by
 cases k with
 |zero=>exact h.elim
 |succ k =>
  unfold qxY at h;split at h
  ·exact⟨_,_,_,_,_,_,_,_,_,h⟩
  ·exact⟨_,_,_,_,_,_,_,_,_,h⟩
  ·exact⟨_,_,_,_,_,_,_,_,_,h.1⟩
  ·exact⟨_,_,_,_,_,_,_,_,_,h⟩
  ·exact⟨_,_,_,_,_,_,_,_,_,h⟩
  ·obtain⟨u,o,e,f,_⟩:=h;obtain⟨a,m,c,rfl⟩:=f.slice;exact⟨_,_,_,_,_,_,_,_,_,e⟩
  ·obtain⟨t,u,o,e,g,f,_⟩:=h;obtain⟨a,m,c,rfl⟩:=f.slice;obtain⟨r,w,c2,rfl⟩:=g.slice;exact⟨_,_,_,_,_,_,_,_,_,e⟩
  exact h.elim
theorem qym {base:Nat}{t:TypeId}(h:W.ownsRow base t size v n xs)(F:Nat->Prop)(hF:∀g,base<=g->g<W.heap.size->F g):qb1 W t size F v n xs:=by
 refine⟨h.1,?_⟩;rcases h.2 with d|⟨g,b,c,e,f,a,k,j,i,l⟩
 ·exact .inl d
 exact .inr ⟨g,b,c,e,hF g f (ltA a),a,k,j,i,l⟩
def qxJ (k:Nat)(bs:List UInt8)(lim:Int)(W:World)(r:Except (Int×Int) (DataW Unit×Nat))(e:Ending)(W':World):Prop :=
 Below W.heap.size W W'/\∃r',qyi bs lim r r'/\match r' with
 |.ok (d,q)=>InR bs lim q/\∃kd n s a i j b p m,e=.returned (.tuple #[.agg (thA kd n s (.slice a i j) (.slice b p m)),.int .i64 q,.agg (qqp (0,0))])/\qxY k W' (fun j=>W.heap.size<=j/\j<W'.heap.size) (.agg (thA kd n s (.slice a i j) (.slice b p m))) d
 |.error f=>∃kd n s a i j b p m z,e=.returned (.tuple #[.agg (thA kd n s (.slice a i j) (.slice b p m)),.int .i64 z,.agg (qqp f)])
theorem qzv {α:Type}{r r':Except (Int×Int) (α×Nat)}(h:qyi bs lim r r')(d:Bad r):Bad r':=by
 intro b e a;rcases h with h|⟨q,_,_,_,x,c⟩
 ·exact d b e (h.trans a)
 rw[c] at a;cases a

end
section
open Go.RowKit Go.Lib
structure qzq (W:World)(A:Array Value)(V:World):Prop where
 box:V.heap[W.heap.size]? = some (.cells A 55)
 below:Below W.heap.size W V
theorem qzq.next (h:qzq W A V)(a:Below V.heap.size V V'):qzq W A V' :=
 ⟨(a.block _ (ltA h.box)).trans h.box,h.below.trans (a.mono h.below.size)⟩
theorem qzq.drew (h:qzq W A V):qzq W A V.drew:=⟨h.box,h.below.drew⟩
theorem qzw (W:World)(A:Array Value):qzq W A (W.alloc (.cells A 55)):=⟨qac _ _,bwA⟩
theorem qz3 (h:qb1 V 55 5 F u n xs):n<=9223372036854775807/\∃a c,u=.slice a n c/\∀(i:Nat) (A:Array Value),i<n->qz1 xs i A->∃g,a=some ⟨g,0,none⟩/\F g/\∀b:World,b.heap[g]? = V.heap[g]?->∀j,j<5->b.cell? ⟨g,i*5+j,none⟩=A[j]?:=by
 obtain⟨s,f⟩:=h;rcases f with ⟨rfl,rfl⟩|⟨g,c,r,rfl,hF,p,k,l,t,m⟩
 ·exact⟨by omega,_,_,rfl,fun i A d=>absurd d (by omega)⟩
 refine⟨Nat.le_trans k (Nat.le_trans l (by decide)),_,_,rfl,fun i A d e=>⟨g,rfl,hF,fun b o j q => ?_⟩⟩;rw[qab (o.trans p)];unfold qz1 at e;rw[<-Array.getElem?_toList,<-Array.getElem?_toList,<-e,List.getElem?_take_of_lt q,List.getElem?_drop,<-m,List.getElem?_take_of_lt (by omega),Nat.mul_comm]
theorem q1a {es:List (Lit×DataW Unit)}(h:qb1 V 9 1 F u es.length (es.map q3d)):∃a e,u=.slice a es.length e/\∀(i:Nat) (l:List UInt8) (d:DataW Unit),es[i]? = some (.string l,d)->∃g,a=some ⟨g,0,none⟩/\F g/\∀c:World,c.heap[g]? = V.heap[g]?->c.cell? ⟨g,i,none⟩=some (.string ⟨l.toArray⟩):=by
 obtain⟨q,k⟩:=h;rcases k with ⟨rfl,j⟩|⟨g,e,f,rfl,hF,p,r,s,t,m⟩
 ·exact⟨none,0,by rw[j],fun i l d b=>by have:=ltL b;omega⟩
 refine⟨_,_,rfl,fun i l d b=>⟨g,rfl,hF,fun c o => ?_⟩⟩;have v:=ltL b;rw[qab (o.trans p),<-Array.getElem?_toList];have n:(f.toList.take (es.length*1))[i]? = some (.string ⟨l.toArray⟩):=by rw[m,List.getElem?_map,b];rfl
 rwa [List.getElem?_take_of_lt (by omega)] at n
theorem qy6 {α:Type}(f:α->List UInt8)(l:List α)(i:Nat)(d:α)(h:l[i]? = some d):(l.take (i+1)).flatMap f=(l.take i).flatMap f++f d:=by
 rw[List.take_add_one,h];simp
theorem qy3 {α:Type}(f:α->List UInt8)(l:List α)(i:Nat):((l.take i).flatMap f).length<=(l.flatMap f).length:=by
 conv=>rhs;rw[<-List.take_append_drop i l]
 rw[List.flatMap_append,List.length_append];omega
def WrS (l:List UInt8)(W:World)(e:Ending)(W':World):Prop:=e=.returned (qyh l)/\Below W.heap.size W W'

theorem qze (W:World)(a v:Int)(b:UInt8)(e:(a=0/\v=246)\/(a=1/\v=244)\/(a=2/\v=245))(c:(b.toNat:Int)=v):Calls prog 33 #[.agg (thA a 0 ⟨#[]⟩ qxE qxE)] W (WrS [b] W):=by
 have d:=q2m (W.alloc (.cells (thA a 0 ⟨#[]⟩ qxE qxE) 55)) v b c.symm;rw[show(W.alloc (.cells (thA a 0 ⟨#[]⟩ qxE qxE) 55)).heap.size=W.heap.size+1 by simp] at d;unfold thA qxE at *;rcases e with ⟨rfl,rfl⟩|⟨rfl,rfl⟩|⟨rfl,rfl⟩
 all_goals
  go_enter func33,ntmps33;go_wp2;go_ret;exact⟨rfl,(bwA).alloc (by simp) _⟩
theorem q2t (W:World)(z:Int)(i : -9223372036854775808<=z)(j:z<=9223372036854775807):Calls prog 33 #[.agg (thA 3 z ⟨#[]⟩ qxE qxE)] W (WrS (qhB z) W):=by
 obtain⟨R,a⟩:∃R,Hid (qhB z=R):=⟨_,show _=_ from rfl⟩
 have d:Hid (qzq W (thA 3 z ⟨#[]⟩ qxE qxE) (W.alloc (.cells (thA 3 z ⟨#[]⟩ qxE qxE) 55))):=qzw _ _;by_cases f:z<0
 ·have c:∀V,Calls prog 49 #[.int .i64 1,.int .i64 (-1-z)] V (WrS R V):=fun V=>by
   have h:=qxM V 1 (-1-z).toNat (by decide) (by omega);rw[show(((-1-z).toNat:Nat):Int) = -1-z by omega] at h;rw[<-a.out];unfold qhB;rw[if_pos f];exact h
  rw[a.out];unfold thA qxE at *;go_enter func33,ntmps33
  go_wp2_with (first|(go_at_call 49;refine(c _).mono ?_;rintro e g ⟨rfl,b⟩))
  go_ret;exact⟨rfl,(d.out.next b).below⟩
 have c:∀V,Calls prog 49 #[.int .i64 0,.int .i64 z] V (WrS R V):=fun V=>by
  have h:=qxM V 0 z.toNat (by decide) (by omega);rw[show((z.toNat:Nat):Int)=z by omega] at h;rw[<-a.out];unfold qhB;rw[if_neg f];exact h
 rw[a.out];unfold thA qxE at *;go_enter func33,ntmps33
 go_wp2_with (first|(go_at_call 49;refine(c _).mono ?_;rintro e g ⟨rfl,b⟩))
 go_ret;exact⟨rfl,(d.out.next b).below⟩
theorem q1o (W:World)(l:List UInt8)(o:l.length<=999999999):Calls prog 33 #[.agg (thA 4 0 ⟨l.toArray⟩ qxE qxE)] W (WrS (qaj 3 l.length++l) W)/\Calls prog 33 #[.agg (thA 5 0 ⟨l.toArray⟩ qxE qxE)] W (WrS (qaj 2 l.length++l) W):=by
 have f:∀k,Hid (qzq W (thA k 0 ⟨l.toArray⟩ qxE qxE) (W.alloc (.cells (thA k 0 ⟨l.toArray⟩ qxE qxE) 55))):=fun k=>qzw _ _;have c:=fun V s (m:s<=7)=>qxM V s l.length m (by omega);have g:∀s,¬((qaj s l.length).length+l.length>9223372036854775807):=fun s=>by
  have:(qaj s l.length).length<=9:=by
   unfold qaj
   repeat' split
   all_goals simp[qzl]
  omega
 constructor
 ·replace f:=f 4
  replace c:=fun V=>c V 3 (by decide)
  replace g:=g 3
  unfold thA qxE at *;go_enter func33,ntmps33
  go_wp2_with fail
  generalize W.alloc (.cells #[.int .i64 4,.int .i64 0,.string ⟨l.toArray⟩,.slice none 0 0,.slice none 0 0] 55)=V0 at *;refine rgn (S:=qzq W #[.int .i64 4,.int .i64 0,.string ⟨l.toArray⟩,.slice none 0 0,.slice none 0 0]) f.out.drew (by kernel_rfl) ?_;intro a;refine tkk 0 35 (.pointer (some ⟨W.heap.size,2,none⟩)) (by kernel_rfl) iQ3 a ?_;refine tk 1 36 (.string ⟨l.toArray⟩) rfl (by kernel_rfl) iQ3 (fun Z b => ?y1) a ?_
  case y1=>(have j:=qab b.box 2;go_simp)
  refine tk 2 37 (.int .i64 l.length) rfl (by kernel_rfl) iQ3 (fun Z b => ?y2) a ?_
  case y2=>go_simp
  refine tkk 4 39 (.pointer (some ⟨W.heap.size,2,none⟩)) (by kernel_rfl) iQ3 a ?_;refine tk 5 40 (.string ⟨l.toArray⟩) rfl (by kernel_rfl) iQ3 (fun Z b => ?y3) a ?_
  case y3=>(have j:=qab b.box 2;go_simp)
  refine rdH 3 rfl (by kernel_rfl) (fun K i => ?_);go_simp;refine(c _).mono ?_;rintro e n ⟨rfl,h⟩;have d:=a.next h
  refine i.out _ _ d (fun _ => ?_);refine tk 6 41 (qyh (qaj 3 l.length++l)) rfl (by kernel_rfl) iQ3 (fun Z b => ?y4) d ?_
  case y4=>(unfold qyh;go_simp;exact qyf _ _)
  refine tkk 7 2 (qyh (qaj 3 l.length++l)) (by kernel_rfl) iQ3 d ?_;refine wpAnyH_done (by kernel_rfl) ?_ _;go_wp2;go_ret;exact⟨rfl,d.below⟩
 replace f:=f 5
 replace c:=fun V=>c V 2 (by decide)
 replace g:=g 2
 unfold thA qxE at *;go_enter func33,ntmps33
 go_wp2_with fail
 generalize W.alloc (.cells #[.int .i64 5,.int .i64 0,.string ⟨l.toArray⟩,.slice none 0 0,.slice none 0 0] 55)=V0 at *;refine rgn (S:=qzq W #[.int .i64 5,.int .i64 0,.string ⟨l.toArray⟩,.slice none 0 0,.slice none 0 0]) f.out.drew (by kernel_rfl) ?_;intro a;refine tkk 0 44 (.pointer (some ⟨W.heap.size,2,none⟩)) (by kernel_rfl) iQ3 a ?_;refine tk 1 45 (.string ⟨l.toArray⟩) rfl (by kernel_rfl) iQ3 (fun Z b => ?y1) a ?_
 case y1=>(have j:=qab b.box 2;go_simp)
 refine tk 2 46 (.int .i64 l.length) rfl (by kernel_rfl) iQ3 (fun Z b => ?y2) a ?_
 case y2=>go_simp
 refine tkk 4 48 (.pointer (some ⟨W.heap.size,2,none⟩)) (by kernel_rfl) iQ3 a ?_;refine tk 5 49 (.string ⟨l.toArray⟩) rfl (by kernel_rfl) iQ3 (fun Z b => ?y3) a ?_
 case y3=>(have j:=qab b.box 2;go_simp)
 refine rdH 3 rfl (by kernel_rfl) (fun K i => ?_);go_simp;refine(c _).mono ?_;rintro e n ⟨rfl,h⟩;have d:=a.next h
 refine i.out _ _ d (fun _ => ?_);refine tk 6 50 (qyh (qaj 2 l.length++l)) rfl (by kernel_rfl) iQ3 (fun Z b => ?y4) d ?_
 case y4=>(unfold qyh;go_simp;exact qyf _ _)
 refine tkk 7 2 (qyh (qaj 2 l.length++l)) (by kernel_rfl) iQ3 d ?_;refine wpAnyH_done (by kernel_rfl) ?_ _;go_wp2;go_ret;exact⟨rfl,d.below⟩

end
end Go.Proofs.YtcokgepdckkjdaaGreatDoor
