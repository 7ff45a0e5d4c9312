import Derived.Test.YtllcbnfmihfaaaaGreatDoorCq41
import Derived.Test.YtllcbnfmihfaaaaGreatDoorCq32
set_option maxRecDepth 100000
set_option maxHeartbeats 8000000
namespace Go.Proofs.YtllcbnfmihfaaaaGreatDoor
open Go.Proofs.Tryz
variable {N k:Nat}{V V' W:World}{F:Nat→Prop}{xs:List Value}{es:List (Lit×DataW Unit)}{c:Rc}{R:Rep}{sts:List ((Nat→Nat)×Int×Int)}{v:Value}
section
open Go.RowKit Go.Lib
theorem qcq.kept {G:Nat→Prop}(h:qcq k V F xs es)(hFG:∀k,F k→G k)(hk:KpR V V'):qcq k V' G xs es:=fun i key d hd=>by
 obtain⟨l,x,e1,e2,e3,e4⟩:=h i key d hd;exact⟨l,x,e1,e2,e3,e4.kept hFG hk⟩
structure qnu (c:Rc)(k:Nat)(W:World)(F:Nat→Prop)(R:Rep)(N:Nat)(sts:List ((Nat→Nat)×Int×Int))(v:Value)(es:List (Lit×DataW Unit))(V:World):Prop where
 rw:qcy c R N sts V
 kp:KpR W V
 own:∃xs,V.ownsRow W.heap.size 208 2 v es.length xs∧qcq k V (fun j=>(F j∨(W.heap.size≤j∧j<V.heap.size))∧some j≠v.ownBlock) xs es
theorem qnu.step {R':Rep}{N':Nat}{sts':List ((Nat→Nat)×Int×Int)}(h:qnu c k W F R N sts v es V)(hr:qcy c R' N' sts' V')(hk:KpR V V'):qnu c k W F R' N' sts' v es V':=by
 obtain⟨xs,h1,h2⟩:=h.own;exact⟨hr,h.kp.trans hk,xs,qn9 h1 hk (by decide) (by decide) (by decide),h2.kept (fun j hj=>⟨hj.1.imp id (fun h=>⟨h.1,Nat.lt_of_lt_of_le h.2 hk.size⟩),hj.2⟩) hk⟩
theorem quw (hr:qcy c R N sts V)(hk:KpR W V):qnu c k W F R N sts (.slice none 0 0) [] V :=
 ⟨hr,hk,[],World.ownsRow_nil _ _ _ _,fun i x d hx=>by simp at hx⟩
theorem qnu.push {v' x:Value}{l:List UInt8}{d:DataW Unit}{V0 w5:World}(h:qnu c k W F R N sts v es V)(hW:c.W0.heap.size≤W.heap.size)(hG:c.G.heap.size≤W.heap.size)(hF:∀j,F j→j<W.heap.size)(ho:V.ownsRow W.heap.size 208 2 v es.length xs)(hx:qcq k V (fun j=>(F j∨(W.heap.size≤j∧j<V.heap.size))∧some j≠v.ownBlock) xs es)(hd:qai k V (fun j=>F j∨(V0.heap.size≤j∧j<V.heap.size)) x d)(hv0:∀g,v.ownBlock=some g→g<V0.heap.size)(hW0:W.heap.size≤V0.heap.size)(ho':w5.ownsRow W.heap.size 208 2 v' (es.length+1) (xs++[.string ⟨l.toArray⟩,x]))(hg:(V.alloc (.cells #[.string ⟨l.toArray⟩,x] 208)).grownBy w5 v.ownBlock)(hw:v'.ownBlock=v.ownBlock∨v'.ownBlock=some (V.alloc (.cells #[.string ⟨l.toArray⟩,x] 208)).heap.size):qnu c k W F R N sts v' (es++[(.string l,d)]) w5:=by
 have hsz:=h.kp.size;have hgs:V.heap.size+1≤w5.heap.size:=by have:=hg.size;simpa using this
 have key:∀g,v.ownBlock=some g→W.heap.size≤g:=fun g hg=>qbA ho hg;have hkeep:∀j,j<V.heap.size→some j≠v.ownBlock→w5.heap[j]? = V.heap[j]?:=fun j hj hn=>(hg.block j (by simp;omega) hn).trans (Below.heap_alloc _ _ _ hj);have hlow:∀j,j<W.heap.size→w5.heap[j]? = V.heap[j]?:=fun j hj=>hkeep j (by omega) (fun e=>by have:=key j e.symm;omega);have hkp:KpR W w5:=⟨by omega,fun j cs t fr a b c d=>(hlow j (ltA a)).trans (h.kp.row j cs t fr a b c d)⟩
 have hrw:qcy c R N sts w5:=by
  have h1:=h.rw.step (bwO (.cells #[.string ⟨l.toArray⟩,x] 208));have ho1:=ho.alloc (.cells #[.string ⟨l.toArray⟩,x] 208);rcases ho1.2 with ⟨h0,_⟩|⟨g,cap,cur,h0,hbb,hh,_⟩
  ·refine h1.step ⟨hg.os,hg.tape,hg.output,hg.size,fun j hj=>hg.block j hj (by rw[h0];simp[Value.ownBlock])⟩
  have hob:v.ownBlock=some g:=by rw[h0];rfl
  rw[hob] at hg;obtain⟨sa,sc,nf,mn,mf,k1,k2,k3⟩:=h1.here;refine⟨(hg.block c.B (ltA h1.box) (fun e => ?_)).trans h1.box,⟨sa,sc,nf,mn,mf,k1.off (B:=g) ?_ hg hh (by decide) (by decide) (by decide),k2,k3⟩,⟨Nat.le_trans h1.fr.1 hg.size,fun j a b c d e=>(hg.block j (Nat.lt_of_lt_of_le a h1.fr.1) (fun e2=>by have:=key g hob;injection e2 with e2;omega)).trans (h1.fr.2 j a b c d e)⟩,h1.few⟩
  ·injection e with e;rw[←e,h1.box] at hh;injection hh with hh;injection hh with _ hh _;exact absurd hh (by decide)
  exact Nat.le_trans hW (key g hob)
 refine⟨hrw,hkp,_,by rw[List.length_append];exact ho',fun i y c hc => ?_⟩;have hne:∀j,j<V.heap.size→some j≠v.ownBlock→some j≠v'.ownBlock:=fun j hj hn=>by
  rcases hw with hw|hw
  ·rw[hw];exact hn
  rw[hw];intro e;injection e with e;simp at e;omega
 have hxl:=ho.1;by_cases hi:i<es.length
 ·rw[List.getElem?_append_left hi] at hc;obtain⟨l',x',e1,e2,e3,e4⟩:=hx i y c hc;refine⟨l',x',e1,by rw[List.getElem?_append_left (by omega)];exact e2,by rw[List.getElem?_append_left (by omega)];exact e3,?_⟩;have hlt:∀j,(F j∨(W.heap.size≤j∧j<V.heap.size))→j<V.heap.size:=fun j hj=>hj.elim (fun h=>Nat.lt_of_lt_of_le (hF j h) hsz) (fun h=>h.2);exact e4.same (fun j hj=>⟨hj.1.imp id (fun h=>⟨h.1,by omega⟩),hne j (hlt j hj.1) hj.2⟩) (fun j hj=>hkeep j (hlt j hj.1) hj.2)
 have e:i=es.length:=by
  have:=ltL hc;rw[List.length_append] at this;simp at this;omega
 subst e;rw[List.getElem?_append_right (by omega)] at hc;simp at hc;obtain⟨rfl,rfl⟩:=hc;have hoff:∀j,(F j∨(V0.heap.size≤j∧j<V.heap.size))→some j≠v.ownBlock:=fun j hj e=>by
  have h1:=hv0 j e.symm;have h2:=key j e.symm;rcases hj with hj|hj
  ·have:=hF j hj;omega
  omega
 have hlt:∀j,(F j∨(V0.heap.size≤j∧j<V.heap.size))→j<V.heap.size:=fun j hj=>hj.elim (fun h=>Nat.lt_of_lt_of_le (hF j h) hsz) (fun h=>h.2);refine⟨l,x,rfl,?_,?_,hd.same (fun j hj=>⟨hj.imp id (fun h=>⟨by omega,by omega⟩),hne j (hlt j hj) (hoff j hj)⟩) (fun j hj=>hkeep j (hlt j hj) (hoff j hj))⟩
 ·rw[List.getElem?_append_right (by omega),show 2*es.length-xs.length=0 by omega];rfl
 rw[List.getElem?_append_right (by omega),show 2*es.length+1-xs.length=1 by omega];rfl
theorem qnu.row (h:qnu c k W F R N sts v es V):qai (k+1) V (fun j=>F j∨(W.heap.size≤j∧j<V.heap.size)) (.iface 206 v) (.map es):=by
 obtain⟨xs,h1,h2⟩:=h.own;unfold qai;refine⟨v,xs,rfl,⟨h1.1,?_⟩,h2.same (fun j hj=>hj.1) (fun _ _=>rfl)⟩;rcases h1.2 with h3|⟨g,cap,cur,e,hb,hg,h5⟩
 ·exact .inl h3
 exact .inr ⟨g,cap,cur,e,.inr ⟨hb,(ltA hg)⟩,hg,h5⟩
theorem qrm (f:List UInt8→DataW Unit→Rep→Option (DataW Unit)×Rep)(l:List (Lit×DataW Unit))(e:Lit×DataW Unit)(R:Rep){R1:Rep}(h:rwE f l R=(es,R1)):rwE f (l++[e]) R=(es++((f (qb7 e.1) e.2 R1).1.map fun d=>(e.1,d)).toList,(f (qb7 e.1) e.2 R1).2):=by
 unfold rwE at h ⊢;rw[List.foldl_append,h];rfl
theorem qlD {α:Type}(g:α→Nat):∀l:List α,l.length≤(l.map fun d=>2+g d).sum
 |[]=>Nat.zero_le _
 |a::l=>by
  have:=qlD g l;simp only[List.map_cons,List.sum_cons,List.length_cons];omega
theorem qk3 (c:Rc)(ok:qkl c)(k:Nat)(ih:qvb c k)(W:World)(F:Nat→Prop)(u:Value)(es:List (Lit×DataW Unit))(xs:List Value)(p:List (List UInt8×Bool))(f:Nat)(R:Rep)(N:Nat)(sts:List ((Nat→Nat)×Int×Int))(h:qcy c R N sts W)(hf:StF c sts f p)(hF:∀j,F j→j<W.heap.size)(hu:qb1 W 208 2 F u es.length xs)(hx:qcq k W F xs es)(hc:(es.flatMap fun e=>(qaj 3 (qb7 e.1).length++qb7 e.1)++qaU k e.2).length≤999999999)(hN:N+(es.map fun e=>2+ndF k e.2).sum≤90000):Calls prog 220 #[.pointer (some ⟨c.B,0,none⟩),u,.int .i64 f] W (ql5 c (k+1) F 206 (.map (rwE (fun key=>rwF c.v k ((key,false)::p)) es R).1,(rwE (fun key=>rwF c.v k ((key,false)::p)) es R).2) (N+(es.map fun e=>2+ndF k e.2).sum) sts W):=by
 obtain⟨i0,hi,hz0,hz1,hz2⟩:=info_parts Tryz.infoEntry;obtain⟨q,cap,rfl⟩:∃q cap,u=.slice q es.length cap:=by
  rcases hu.2 with ⟨e,e2⟩|⟨g,cap,cur,e,_⟩
  ·exact⟨none,0,by rw[e,e2]⟩
  exact⟨_,_,e⟩
 obtain⟨rr,HRR⟩:∃rr,Hid (rwE (fun key=>rwF c.v k ((key,false)::p)) es R=rr):=⟨_,rfl⟩
 rw[HRR.out];have HOK:=qaa ok;have HIH:=qaa ih;have HW:=qaa h.below.size;have HG:=qaa h.fr.1;have HU:=qaa hu;have HX:=qaa hx;have HC:=qaa hc;have HF:=qaa hF;obtain⟨NE,HNE⟩:∃NE,Hid (N+(es.map fun e=>2+ndF k e.2).sum=NE):=⟨_,rfl⟩
 have hlen:es.length≤90000:=by have:=qlD (fun e:Lit×DataW Unit=>ndF k e.2) es;omega
 have HN:=qaa (HNE.out▸hN);rw[HNE.out];have HR2:=qaa h;have HF2:=qaa hf;go_enter func220,ntmps220
 go_wp2_with fail
 go_loopg [7,15] es.length (fun g y z wr=>∃(i:Nat) (a:Option Addr) (l cc:Nat) (R3:Rep) (N3:Nat) (sts3:List ((Nat→Nat)×Int×Int)) (es3:List (Lit×DataW Unit)),y=.slice a l cc∧z=.int .i64 i∧Hid (i+g=es.length)∧Hid (StF c sts3 f p)∧Hid (Pre sts sts3)∧Hid (qnu c k W F R3 N3 sts3 (.slice a l cc) es3 wr)∧Hid (rwE (fun key=>rwF c.v k ((key,false)::p)) (es.take i) R=(es3,R3))∧Hid (N3+((es.drop i).map fun e=>2+ndF k e.2).sum≤NE)∧Hid (es3.length≤i))
 case atStart=>exact⟨0,none,0,0,R,N,sts,[],rfl,rfl,by show _=_;omega,HF2,Pre.refl _,quw HR2.out (KpR.refl _),rfl,Nat.le_of_eq HNE.out,Nat.le_refl _⟩
 case round =>
  obtain⟨i,a,l,cc,R3,N3,sts3,es3,rfl,rfl,hg,HSF,HPR,HWL,HRL,HN3,HD3⟩:=hrel
  cases gk with
  |zero =>
   have hlt:¬(i:Int)<es.length:=by have:=hg.out;omega
   have HT:Hid (es.take i=es):=by show _=_;exact List.take_of_length_le (by have:=hg.out;omega)
   go_wp2;go_ret;have h1:=HRL.out;rw[HT.out,HRR.out] at h1;rw[h1];exact⟨a,l,cc,sts3,rfl,HWL.out.rw.more (by have:=HN3.out;omega),HWL.out.kp,HPR.out,HWL.out.row⟩
  |succ g =>
   have hkn:i<es.length:=by have:=hg.out;omega
   have hlt:(i:Int)<es.length:=by omega
   have HR:=HU.out.kept (V':=wr) (G:=F) (fun _ h=>h) HWL.out.kp (by decide) (by decide) (by decide);obtain⟨q0,rfl⟩:∃q0,q=some ⟨q0,0,none⟩:=by
    rcases HR.2 with ⟨_,e⟩|⟨g,cap',cur,e,_⟩
    ·omega
    injection e with e1 e2 e3;exact⟨g,e1⟩
   obtain⟨⟨key,d⟩,hd⟩:∃d,es[i]? = some d:=⟨es[i],List.getElem?_eq_getElem hkn⟩
   obtain⟨kl,x,rfl,hx0,hx1,hTh0⟩:=HX.out i key d hd;have hTh:=hTh0.kept (V':=wr) (G:=F) (fun _ h=>h) HWL.out.kp;obtain⟨tx,yx,rfl⟩:=hTh.iface;have hc0:wr.cell? ⟨q0,i*2,none⟩=some (.string ⟨kl.toArray⟩):=by
    have:=HR.cell (2*i) _ hx0;have e:(⟨q0,0,none⟩:Addr).add (2*i)=⟨q0,i*2,none⟩:=by by_cases h:2*i=0<;>simp only[Addr.add,h,Nat.zero_add,Nat.mul_comm i 2,if_true,if_false]
    rwa [e] at this
   have hc1:wr.cell? ⟨q0,i*2+1,none⟩=some (.iface tx yx):=by
    have:=HR.cell (2*i+1) _ hx1;have e:(⟨q0,0,none⟩:Addr).add (2*i+1)=⟨q0,i*2+1,none⟩:=by simp[Addr.add,Nat.mul_comm]
    rwa [e] at this
   have hsum:N3+(2+ndF k d)+((es.drop (i+1)).map fun e=>2+ndF k e.2).sum≤NE:=by
    have h1:=HN3.out;have h2:es[i]=(Lit.string kl,d):=by have:=List.getElem?_eq_getElem hkn;rw[hd] at this;exact(Option.some.inj this).symm
    rw[List.drop_eq_getElem_cons hkn,List.map_cons,List.sum_cons,h2] at h1;simp only at h1;omega
   have hcb:(qaU k d).length≤999999999∧kl.length≤999999999:=by
    have h1:=HC.out;have h2:((qaj 3 kl.length++kl)++qaU k d).length≤_:=qlI (fun e:Lit×DataW Unit=>(qaj 3 (qb7 e.1).length++qb7 e.1)++qaU k e.2) hd;rw[List.length_append,List.length_append] at h2;omega
   have HB0:Hid (Below wr.heap.size wr (wr.alloc (.cells #[.string ⟨kl.toArray⟩,.iface tx yx] 208))):=bwA;have HX0:Hid ((wr.alloc (.cells #[.string ⟨kl.toArray⟩,.iface tx yx] 208)).heap[wr.heap.size]? = some (.cells #[.string ⟨kl.toArray⟩,.iface tx yx] 208)):=qac _ _;have HWL0:=qaa (HWL.out.step (HWL.out.rw.step HB0.out) (KpR.of_below HB0.out));have HWL0:=qaa (HWL0.out.step (HWL0.out.rw.step (Below.refl _ _).drew) (KpR.of_below (Below.refl _ _).drew));have HX0:Hid ((World.drew (wr.alloc (.cells #[.string ⟨kl.toArray⟩,.iface tx yx] 208))).heap[wr.heap.size]? = some (.cells #[.string ⟨kl.toArray⟩,.iface tx yx] 208)):=qac _ _;have hS:(fun Z:World=>Z.cell? ⟨c.B,39,none⟩=some (.pointer (some ⟨c.A,0,none⟩))∧Z.cell? ⟨wr.heap.size,0,none⟩=some (.string ⟨kl.toArray⟩)) { (wr.alloc (.cells #[.string ⟨kl.toArray⟩,.iface tx yx] 208)) with drawn:=(wr.alloc (.cells #[.string ⟨kl.toArray⟩,.iface tx yx] 208)).drawn+1}:=⟨qrc HWL0.out.rw HOK.out,qab HX0.out 0⟩
   have cN:=HWL0.out.rw.next HOK.out (by have:=HN.out;omega) HSF.out kl false (by unfold maxLen;omega)
   have hTh':=qaa hTh0;have HCB:=qaa hcb.1;have hsn:rwE (fun key=>rwF c.v k ((key,false)::p)) (es.take (i+1)) R=(es3++((rwF c.v k ((kl,false)::p) d R3).1.map fun d=>(Lit.string kl,d)).toList,(rwF c.v k ((kl,false)::p) d R3).2):=by
    rw[List.take_add_one,hd];exact qrm _ _ _ _ HRL.out
   have HN4:Hid ((N3+1+ndF k d)+((es.drop (i+1)).map fun e=>2+ndF k e.2).sum≤NE):=by show _≤_;omega
   have HN5:Hid (N3+1+ndF k d≤90000):=by show _≤_;have:=HN.out;omega
   have hl3:es3.length≤90000:=by have:=HD3.out;omega
   have HS5:Hid (es3.length+1≤i+1):=by show _≤_;have:=HD3.out;omega
   rcases hq:rwF c.v k ((kl,false)::p) d R3 with ⟨o,R4⟩
   rw[hq] at hsn;have HIW:Hid (∀V4 f4 sts4,qnu c k W F R3 (N3+1) sts4 (.slice a l cc) es3 V4→StF c sts4 f4 ((kl,false)::p)→Calls prog 140 #[.pointer (some ⟨c.B,0,none⟩),.iface tx yx,.int .i64 (f4:Nat)] V4 (qob c k F (o,R4) (N3+1+ndF k d) sts4 V4)):=fun V4 f4 sts4 h1 h2=>hq▸HIH.out V4 F (.iface tx yx) d ((kl,false)::p) f4 R3 (N3+1) sts4 h1.rw h2 (fun j hj=>Nat.lt_of_lt_of_le (HF.out j hj) h1.kp.size) (hTh'.out.kept (fun _ h=>h) h1.kp) HCB.out HN5.out;obtain⟨N4,HE4⟩:∃N4,Hid (N3+1+ndF k d=N4):=⟨_,rfl⟩
   rw[HE4.out] at HIW HN4
   go_wp2_with fail
   refine wp_region_held (S:=fun Z=>Z.cell? ⟨c.B,39,none⟩=some (.pointer (some ⟨c.A,0,none⟩))∧Z.cell? ⟨wr.heap.size,0,none⟩=some (.string ⟨kl.toArray⟩)) (by kernel_rfl) ?_;refine tkH 0 19 (.pointer (some ⟨c.B,0,none⟩)) rfl (by kernel_rfl) (fun _ _ _ h=>h) (fun Z hZ=>by kernel_rfl) hS ?_;refine tkH 1 20 (.pointer (some ⟨c.B,0,none⟩)) rfl (by kernel_rfl) (fun _ _ _ h=>h) (fun Z hZ=>by kernel_rfl) hS ?_;refine tkH 2 21 (.pointer (some ⟨c.B,0,none⟩)) rfl (by kernel_rfl) (fun _ _ _ h=>h) (fun Z hZ=>by kernel_rfl) hS ?_;refine tkH 3 22 (.pointer (some ⟨c.B,39,none⟩)) rfl (by kernel_rfl) (fun _ _ _ h=>h) (fun Z hZ=>by kernel_rfl) hS ?_;refine tkH 4 23 (.pointer (some ⟨c.A,0,none⟩)) rfl (by kernel_rfl) (fun _ _ _ h=>h) (fun Z hZ => ?y4) hS ?_
   case y4=>(have z1:=hZ.1;go_simp)
   refine tkH 5 24 (.int .i64 f) rfl (by kernel_rfl) (fun _ _ _ h=>h) (fun Z hZ=>by kernel_rfl) hS ?_;refine tkH 6 25 (.pointer (some ⟨wr.heap.size,0,none⟩)) rfl (by kernel_rfl) (fun _ _ _ h=>h) (fun Z hZ=>by kernel_rfl) hS ?_;refine tkH 7 26 (.string ⟨kl.toArray⟩) rfl (by kernel_rfl) (fun _ _ _ h=>h) (fun Z hZ => ?y7) hS ?_
   case y7=>(have z1:=hZ.2;go_simp)
   refine tkH 8 27 (.agg #[.string ⟨kl.toArray⟩,.bool false]) rfl (by kernel_rfl) (fun _ _ _ h=>h) (fun Z hZ=>by kernel_rfl) hS ?_;refine rdS 9 rfl (by kernel_rfl) (fun K hK => ?_);go_simp;refine cN.mono ?_;rintro e w4 ⟨f4,sts4,rfl,hR4,hK4,hP4,hF4⟩;have HWL4:=qaa (HWL0.out.step hR4 hK4);have HX4:=qaa (hK4.row _ _ _ _ HX0.out (by decide) (by decide) (by decide));have HP4:=qaa hP4;have HF4:=qaa hF4;have hS4:(fun Z:World=>Z.cell? ⟨c.B,39,none⟩=some (.pointer (some ⟨c.A,0,none⟩))∧Z.cell? ⟨wr.heap.size,0,none⟩=some (.string ⟨kl.toArray⟩)) w4:=⟨qrc hR4 HOK.out,qab HX4.out 0⟩
   simp only[];refine hK.out _ _ hS4 (fun _ => ?_);refine tkH 10 10 (.int .i64 f4) rfl (by kernel_rfl) (fun _ _ _ h=>h) (fun Z hZ=>by kernel_rfl) hS4 ?_;refine wpAnyH_done (by kernel_rfl) ?_ _;go_simp;have cR:=HIW.out w4 f4 sts4 HWL4.out HF4.out;have hf0:=qab HX4.out 0;have hf1:=qab HX4.out 1;have HVW:=qaa HWL4.out.kp.size;have HOL:Hid (∀g,(Value.slice a l cc).ownBlock=some g→g<w4.heap.size):=by obtain⟨xs,h1,_⟩:=HWL4.out.own;exact qhh h1
   cases o with
   |none =>
    have HSN:Hid (rwE (fun key=>rwF c.v k ((key,false)::p)) (es.take (i+1)) R=(es3,R4)):=by show _=_;rw[hsn];simp
    go_wp2_with (first
     |(go_at_call 140;refine cR.mono ?_;rintro e w5 ⟨v5,sts5,rfl,hR5,hK5,hP5,hv5,_⟩;obtain rfl:=hv5 rfl;have HR5:Hid (qcy c R4 N4 sts5 w5):=hR5;have HK5:=qaa hK5;have HP5:=qaa hP5;simp only[Option.isSome_none]))
    go_roundg g
    case measure=>omega
    case rel=>exact⟨i+1,a,l,cc,R4,N4,sts5,es3,rfl,by go_num,by show _=_;have:=hg.out;omega,(HSF.out.pre HP4.out).pre HP5.out,(HPR.out.trans HP4.out).trans HP5.out,HWL4.out.step HR5.out HK5.out,HSN,HN4,by show _≤_;have:=HS5.out;omega⟩
   |some d' =>
    have HSN:Hid (rwE (fun key=>rwF c.v k ((key,false)::p)) (es.take (i+1)) R=(es3++[(Lit.string kl,d')],R4)):=by show _=_;rw[hsn];rfl
    have cR2:Calls prog 140 #[.pointer (some ⟨c.B,0,none⟩),.iface tx yx,.int .i64 f4] w4 fun e V'=>∃t y sts',e=.returned (.tuple #[.iface t y,.bool true])∧Hid (qcy c R4 N4 sts' V')∧Hid (KpR w4 V')∧Hid (Pre sts4 sts')∧Hid (qai k V' (fun j=>F j∨(w4.heap.size≤j∧j<V'.heap.size)) (.iface t y) d'):=cR.mono (by
     rintro e V' ⟨v',sts',rfl,h1,h2,h3,_,h4⟩;have h5:=h4 d' rfl;obtain⟨t,y,rfl⟩:=h5.iface;exact⟨t,y,sts',rfl,h1,h2,h3,h5⟩)
    go_wp2_with (first
     |(go_at_call 140;refine cR2.mono ?_;rintro e w5 ⟨t,y,sts5,rfl,HR5,HK5,HP5,HD5⟩;have HWL5:=qaa (HWL4.out.step HR5.out HK5.out);have hf0:=qab (HK5.out.row _ _ _ _ HX4.out (by decide) (by decide) (by decide)) 0;obtain⟨xs5,hown,hxs⟩:=HWL5.out.own;have HO:=qaa hown;have HXS:=qaa hxs;have HBS:=qaa HWL5.out.kp.size)
     |(at_builtin;refine qaX _ rfl _ _ 206 rfl W.heap.size 208 i0 (.agg #[.string ByteArray.empty,.nilIface]) 2 32 underlying206 hi hz0 hz1 hz2 rfl (by decide) _ _ _ rfl (HO.out.alloc _) ⟨w5.heap.size,0,none⟩ 1 1 [.string ⟨kl.toArray⟩,.iface t y] rfl rfl (qag _ _ _) (fun u hu=>by simp at hu;rcases hu with rfl|rfl<;>rfl) (by decide) (by unfold maxLen;omega) (by omega) (by simp;have:=HBS.out;omega) ?_;intro v' w6 hown' hgrow6 hw6;have HX6:=qaa (HWL5.out.push HW.out HG.out HF.out HO.out HXS.out HD5.out HOL.out HVW.out hown' hgrow6 hw6);obtain⟨g6,cap6,rfl⟩:=ownsRow_succ hown'))
    go_roundg g
    case measure=>omega
    case rel=>exact⟨i+1,_,_,_,R4,N4,sts5,es3++[(Lit.string kl,d')],rfl,by go_num,by show _=_;have:=hg.out;omega,(HSF.out.pre HP4.out).pre HP5.out,(HPR.out.trans HP4.out).trans HP5.out,HX6,HSN,HN4,by show _≤_;rw[List.length_append];exact HS5.out⟩
end
end Go.Proofs.YtllcbnfmihfaaaaGreatDoor
