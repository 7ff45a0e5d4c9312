import Derived.Test.YtllcbnfmihfaaaaGreatDoorTq38
import Derived.Test.YtllcbnfmihfaaaaGreatDoorTq39
set_option maxRecDepth 100000
set_option maxHeartbeats 8000000
namespace Go.Proofs.YtllcbnfmihfaaaaGreatDoor
open Go.Proofs.Tryz
variable {bs:List UInt8}{lim:Int}{g last p:Nat}{V W:World}{A y:Array Value}{kv u:Value}
section
open Go.RowKit Go.Lib
theorem q3Z (k:Nat)(W:World)(bs:List UInt8)(fm d l lim:Int)(i:Nat)(dp:Int)(b:Nat)(ka ua:Option Addr)(kn kc un uc:Nat)(ex:Nat→Prop)(kl:List (List UInt8))(ds:List (DataW Unit))(hl:Lm bs l lim)(hi:InR bs lim i)(hb:bs.length≤200000000)(hm:qzE k W b (.slice ka kn kc) (.slice ua un uc) ex kl ds)(hkl:kl.length≤200000000)(rd:Nat→Except (Int×Int) (DataW Unit×Nat))(hlm:∀p:Nat,(p:Int)=lim→p<bs.length→rd p=.error (8,(p:Int)))(hbw:b≤W.heap.size)(hex:∀j,ex j→j<W.heap.size)(hd0:0≤dp)(hd1:dp≤100000)(cJ:∀V (p:Nat),InR bs lim p→Calls prog 115 #[.agg (inA bs fm d l),.int .i64 p,.int .i64 (dp+1)] V (qxV k bs lim V (rd p))):Calls prog 205 #[.agg (inA bs fm d l),.agg (thA 7 0 ⟨#[]⟩ (.slice ka kn kc) (.slice ua un uc)),.int .i64 i,.int .i64 dp] W (q0c k bs lim W b (.slice ka kn kc) (.slice ua un uc) ex kl ds (enJ bs lim rd (kl.reverse,esZ kl ds) i)):=by
 obtain⟨R,hR⟩:∃R,enJ bs lim rd (kl.reverse,esZ kl ds) i=R:=⟨_,rfl⟩
 rw[hR];rcases q4J hl hlm hi hR with ⟨h1,h2⟩|⟨c,hc,h1,⟨hv,h2⟩|⟨hv,hi1,⟨f,hr,h2⟩|⟨t,r,hr,hri,hrp,⟨hin,h2⟩|⟨hin,hq,⟨f,hw,h2⟩|⟨p3,hw,hp3,hrp3,hp4,hle,hRL⟩⟩⟩⟩⟩
 ·exact q4V k W bs fm d l lim i dp b ka ua kn kc un uc ex kl ds R _ h1 h2 rfl
 ·exact q2d k W bs fm d l lim i dp b ka ua kn kc un uc ex kl ds R _ c hc hv h1 h2 rfl
 ·exact q3m k W bs fm d l lim i dp b ka ua kn kc un uc ex kl ds R f c hc hv h1 hb hl hi1 hr h2
 ·exact q1Y k W bs fm d l lim i dp b ka ua kn kc un uc ex kl ds R _ c hc hv h1 hb hl hi1 hm hkl t r hr hin rfl (by omega) hri.1 h2
 ·exact q3n k W bs fm d l lim i dp b ka ua kn kc un uc ex kl ds R f c hc hv h1 hb hl hi1 hm hkl t r hr hin hri.1 _ rfl hq hw h2
 exact q1G k W bs fm d l lim i dp b ka ua kn kc un uc ex kl ds R c hc hv h1 hb hl hi1 hm hkl t r hr hin hri.1 _ rfl hq rd hbw hex hd0 hd1 p3 _ hw hp3.1 rfl hp4 hRL cJ
theorem q5U {α:Type}{itF:α→Nat→Except (Int×Int) (α×Nat)}{acc:α}{R:Except (Int×Int) (α×Nat)}{f:Int×Int}(h:q0o bs lim itF last g p acc R)(hlo:qy8 bs lim (itF acc p) (.error f))(hlm:(p:Int)=lim→p<bs.length→itF acc p=.error (8,(p:Int))):R=.error f:=by
 have hr:itF acc p=.error f:=by
  rcases hlo with h|⟨q,_,_,_,x,h4⟩
  ·exact h
  cases h4
 rcases h.2 with ⟨g',_,h2⟩|⟨h2,h3,h4⟩
 ·rw[←h2];unfold q5A;rw[hr]
 rw[hlm h2 h3] at hr;injection hr with hr;rw[h4,hr]
theorem q4L {α:Type}{l:Int}(hl:Lm bs l lim){itF:α→Nat→Except (Int×Int) (α×Nat)}{q p3:Nat}{acc acc':α}{R:Except (Int×Int) (α×Nat)}(h:q0o bs lim itF last g p acc R)(hlo:qy8 bs lim (itF acc p) (.ok (acc',q)))(hlm:(p:Int)=lim→p<bs.length→itF acc p=.error (8,(p:Int)))(hgo:∀x q,itF acc p=.ok (x,q)→p<q)(hqi:InR bs lim q)(hg:bs.length+1≤p+g)(hp3:p3=skR bs l (bs.length+1-q) q):InR bs lim p3∧((qyb bs l p3=false∧R=.error (qr0 bs l p3 9))∨∃c,bs[p3]? = some c∧qyb bs l p3=true∧((c.toNat=last∧R=.ok (acc',p3+1)∧InR bs lim (p3+1))∨(¬c.toNat=last∧c.toNat=44∧InR bs lim (p3+1)∧∃g',g=g'+2∧p<p3∧qgW bs lim itF last (g'+1) (p3+1) acc'=R)∨(¬c.toNat=last∧¬c.toNat=44∧R=.error (qr0 bs l p3 9)))):=by
 rcases hlo with hr|⟨q',h1,h2,h3,x,h4⟩
 ·have hpq:=hgo acc' q hr;rcases h.2 with ⟨g',e,hits⟩|⟨h2,h3,h4⟩
  ·obtain⟨a1,a2,a3⟩:=q1m hl hqi hp3 hr hits;refine⟨a1,?_⟩;rcases a3 with a3|⟨c,b1,b2,b3⟩
   ·exact .inl a3
   refine .inr ⟨c,b1,b2,?_⟩;rcases b3 with b3|⟨c1,c2,c3,c4⟩|b3
   ·exact .inl b3
   ·have:=ltL b1;obtain⟨g2,rfl⟩:∃g2,g'=g2+1:=⟨g'-1,by omega⟩
    exact .inr (.inl ⟨c1,c2,c3,g2,by omega,by omega,c4⟩)
   exact .inr (.inr b3)
  rw[hlm h2 h3] at hr;cases hr
 injection h4 with h4;injection h4 with h5 h6;subst h6;obtain⟨e1,e2,e3⟩:=q2q hl h2 h3;rw[e1] at hp3;subst hp3;refine⟨hqi,.inl ⟨e2,?_⟩⟩;rw[e3];rcases h.2 with ⟨g',_,hits⟩|⟨k2,k3,k4⟩
 ·rw[←hits];unfold q5A;rw[h1]
 rw[hlm k2 k3] at h1;injection h1 with h1;rw[k4,h1]
theorem q3N {rd:Nat→Except (Int×Int) (DataW Unit×Nat)}{a:List (List UInt8)×List (Lit×DataW Unit)}(hp:(p:Int)=lim)(hl:p<bs.length):enJ bs lim rd a p=.error (8,(p:Int)):=by
 unfold enJ qmo;rw[qaT,List.getElem?_eq_getElem hl];simp only[];rw[if_pos hp]
def maR (r:Except (Int×Int) ((List (List UInt8)×List (Lit×DataW Unit))×Nat)):Except (Int×Int) (DataW Unit×Nat):=match r with
 |.error e=>.error e
 |.ok (es,q)=>.ok (.map es.2,q)
theorem q4z {kd n:Int}{s:ByteArray}(h:qzg W A (thA kd n s kv u) V)(x:Int):qzg W A (thA x n s kv u) (V.setCell ⟨W.heap.size+3,0,none⟩ (.int .i64 x)):=by
 have ho:∀j,j≠W.heap.size+3→(V.setCell ⟨W.heap.size+3,0,none⟩ (.int .i64 x)).heap[j]? = V.heap[j]?:=fun j hj=>heap_setCell_other V _ _ _ (by simpa using hj);refine⟨(ho _ (by omega)).trans h.box,(ho _ (by omega)).trans h.th,(ho _ (by omega)).trans h.flt,?_,h.below.trans ⟨rfl,rfl,rfl,by simp[World.setCell],fun j hj=>ho j (by omega)⟩⟩;rw[heap_setCell_same _ _ _ _ _ _ h.tv];rfl
theorem q6P {V':World}(h:qzg W A y V)(ht:Two V V' kv u)(hk:∀g,kv.ownBlock=some g→W.heap.size+4≤g)(hu:∀g,u.ownBlock=some g→W.heap.size+4≤g):qzg W A y V':=by
 have hs:=h.size;have hn:∀j,j<W.heap.size+4→V'.heap[j]? = V.heap[j]?:=fun j hj=>ht.block j (by omega) (fun e=>by have:=hk j e.symm;omega) (fun e=>by have:=hu j e.symm;omega);exact⟨(hn _ (by omega)).trans h.box,(hn _ (by omega)).trans h.th,(hn _ (by omega)).trans h.flt,(hn _ (by omega)).trans h.tv,h.below.trans ⟨ht.os,ht.tape,ht.output,ht.size,fun j hj=>hn j (by omega)⟩⟩
theorem q5x (h:qzg W A y V)(z:Array Value):qzg W A z (V.setRow (W.heap.size+3) z) :=
 ⟨sx (by omega) h.box,sx (by omega) h.th,sx (by omega) h.flt,setRow_heap _ _ _ _ _ _ h.tv,qah h.below (by omega) _⟩
theorem q4m (h:qzg W A y V)(j:Nat)(hj:W.heap.size+4≤j)(z:Array Value):qzg W A y (V.setRow j z) :=
 ⟨sx (by omega) h.box,sx (by omega) h.th,sx (by omega) h.flt,sx (by omega) h.tv,qah h.below (by omega) _⟩
theorem q0X (k:Nat)(W:World)(bs:List UInt8)(fm d l lim:Int)(i:Nat)(dp:Int)(c:UInt8)(hc:bs[i]? = some c)(hv:c.toNat=123)(hp:¬(i:Int)=lim)(hl:Lm bs l lim)(hi:InR bs lim i)(hb:bs.length≤200000000)(hd0:0≤dp)(hd1:dp<d)(hd2:d≤100000)(rd:Nat→Except (Int×Int) (DataW Unit×Nat))(hbad:∀p,Bad (rd p))(hlm:∀p:Nat,(p:Int)=lim→p<bs.length→rd p=.error (8,(p:Int)))(hgo:∀p x q,rd p=.ok (x,q)→p<q)(cJ:∀V (p:Nat),InR bs lim p→Calls prog 115 #[.agg (inA bs fm d l),.int .i64 p,.int .i64 (dp+1)] V (qxV k bs lim V (rd p))):Calls prog 172 #[.agg (inA bs fm d l),.int .i64 i,.int .i64 dp] W (qxV (k+1) bs lim W (maR (qe4 bs lim (enJ bs lim rd) 125 (i+1) ([],[])))):=by
 obtain⟨R,HR⟩:∃R,Hid (qe4 bs lim (enJ bs lim rd) 125 (i+1) ([],[])=R):=⟨_,show _=_ from rfl⟩
 rw[HR.out];have hil:=ltL hc;have hix:=qxH bs i c hc;have t123:((c.toNat:Int)==123)=true:=by rw[hv];rfl
 have hin:=qxJ hi hc hp;have HL:=qaa hl;have cH:=qzv bs fm d l;have cB:=qzy bs fm d l;have cS:∀V (p:Nat),p≤bs.length→Calls prog 69 #[.agg #[.string ⟨bs.toArray⟩,.int .i64 fm,.int .i64 d,.int .i64 l],.int .i64 p] V fun e W'=>e=.returned (.int .i64 (skR bs l (bs.length+1-p) p))∧Below V.heap.size V W':=fun V p hp=>qyY V bs fm d l p hb hp;have HCJ:Hid (∀V (p:Nat),InR bs lim p→Calls prog 115 #[.agg #[.string ⟨bs.toArray⟩,.int .i64 fm,.int .i64 d,.int .i64 l],.int .i64 p,.int .i64 (dp+1)] V (qxV k bs lim V (rd p))):=cJ;have HGO:=qaa hgo;have HBAD:=qaa hbad;have HLM:=qaa hlm;have cS1:=fun V=>cS V (i+1) (by omega);obtain⟨p1,hp1⟩:∃p1,p1=skR bs l (bs.length+1-(i+1)) (i+1):=⟨_,rfl⟩
 obtain⟨hp1i,hst⟩:=q0A hl hin hp1 HR.out;rw[←hp1] at cS1;have hp1l:=hp1i.1;have cH1:=fun V=>cH V p1;have hdf:decide (d≤dp)=false:=by simp;omega
 clear hc hv hp hl hi hin cJ hgo hbad hlm hp1 HR;rcases hst with ⟨ce,hce,hh,he,hRe,hqi⟩|⟨hno,hat⟩
 ·rw[hh] at cH1;have hixe:=fun V=>qxH bs p1 ce hce V;have t93:((ce.toNat:Int)==125)=true:=by rw[he];rfl
  have HRE:=qaa hRe;have HQI:=qaa hqi;have hpl2:=ltL hce;clear hce hh he hRe hqi cH cB cS HCJ HGO hp1i;unfold inA;go_enter func172,ntmps172
  go_wp2_with (first
   |(go_at_call 69;have HXs:Hid (qzg W (inA bs fm d l) (thA 7 0 ⟨#[]⟩ qxE qxE) (V0.setCell ⟨W.heap.size+1+1+1,0,none⟩ (.int .i64 7))):=q4z HX.out 7;refine ck4 (cS1 _) HXs.out.next (fun _ h=>h.box) ?_;clear cS1 c0 c1 c2 c3 k0 f0;intro w2 HX2 c0 c1 c2 c3)
   |(go_at_call 113;refine ck4 (cH1 _) HX2.out.next (fun _ h=>h.box) ?_;clear cH1 c0 c1 c2 c3;intro w3 HX3 c0 c1 c2 c3)
   |((with_reducible refine zT 9 21 rfl rfl (W.heap.size+3) (thA 6 0 ⟨#[]⟩ qxE qxE) ?_ ?_);exact⟨rfl,rfl,q2T W _,thg⟩;refine nmd ?_;intro V0 EV0;have HX:Hid (qzg W (inA bs fm d l) (thA 6 0 ⟨#[]⟩ qxE qxE) V0):=EV0▸q2A W _ _;clear EV0;obtain⟨c0,c1,c2,c3⟩:=qyf HX.out.box;have k0:V0.cell? ⟨W.heap.size+1+1+1,0,none⟩=some (.int .i64 6):=qab HX.out.tv 0;have f0:V0.frozen? ⟨W.heap.size+1+1+1,0,none⟩=false:=frozen_of_row V0 (W.heap.size+3) 0 _ _ HX.out.tv)
   |((with_reducible refine wpList_load_row rfl 93 (.tmp 9) rfl (W.heap.size+3) ?hx 93 (thA 7 0 ⟨#[]⟩ qxE qxE) (0,0) _ ?hg underlying93 rfl ?hi ?_);(case hx=>exact rfl);(case hg=>exact HX3.out.tv);(case hi=>exact qyu _ _ _ _ _))
   |((with_reducible refine zT 6 43 rfl rfl (W.heap.size+1) (thA 7 0 ⟨#[]⟩ qxE qxE) ?_ ?_);exact⟨rfl,rfl,HX3.out.th,thg⟩)
   |((with_reducible refine zF 8 46 rfl rfl (W.heap.size+2) (0,0) ?_ ?_);exact⟨rfl,rfl,qyc HX3.out.rth bwR _⟩))
  have hf:=qxQ HX3.out.rth bwR (thA 7 0 ⟨#[]⟩ qxE qxE) (0,0);refine eoT results172 hf (.int .i64 ((p1:Int)+1)) rfl rfl rfl rfl ⟨hf.2.2,?_⟩;exact⟨.ok (.map [],p1+1),.inl (by rw[HRE.out];rfl),HQI.out,_,_,_,_,_,_,_,_,_,rfl,(q5r k _ (W.heap.size) (fun _=>False)).map (Nat.le_refl _)⟩
 have HAT:=qaa hat;have hno2:(qyb bs l p1=false)∨(∃c,bs[p1]? = some c∧qyb bs l p1=true∧((c.toNat:Int)==125)=false):=by
  rcases hno with h|⟨c,h1,h2,h3⟩
  ·exact .inl h
  exact .inr ⟨c,h1,h2,by simp;omega⟩
 clear hno hat;rcases hno2 with hno|⟨ce,hce,hh,t93⟩
 focus
  rw[hno] at cH1;clear hno
 rotate_left
 focus
  rw[hh] at cH1;have hixs:=fun V=>qxH bs p1 ce hce V;have hpls:=ltL hce;clear hh hce
 all_goals
  unfold inA;go_enter func172,ntmps172
  go_wp2_with (first
   |(go_at_call 69;have HXs:Hid (qzg W (inA bs fm d l) (thA 7 0 ⟨#[]⟩ qxE qxE) (V0.setCell ⟨W.heap.size+1+1+1,0,none⟩ (.int .i64 7))):=q4z HX.out 7;refine ckB (cS1 _) HXs.out.next ?_;clear cS1 c0 c1 c2 c3 k0 f0;intro w2 hB2 HX2;obtain⟨c0,c1,c2,c3⟩:=qyf HX2.out.box)
   |(go_at_call 113;refine ckB (cH1 _) HX2.out.next ?_;clear cH1 c0 c1 c2 c3;intro w3 hB3 HX3;obtain⟨c0,c1,c2,c3⟩:=qyf HX3.out.box)
   |((with_reducible refine zT 9 21 rfl rfl (W.heap.size+3) (thA 6 0 ⟨#[]⟩ qxE qxE) ?_ ?_);exact⟨rfl,rfl,q2T W _,thg⟩;refine nmd ?_;intro V0 EV0;have HX:Hid (qzg W (inA bs fm d l) (thA 6 0 ⟨#[]⟩ qxE qxE) V0):=EV0▸q2A W _ _;clear EV0;obtain⟨c0,c1,c2,c3⟩:=qyf HX.out.box;have k0:V0.cell? ⟨W.heap.size+1+1+1,0,none⟩=some (.int .i64 6):=qab HX.out.tv 0;have f0:V0.frozen? ⟨W.heap.size+1+1+1,0,none⟩=false:=frozen_of_row V0 (W.heap.size+3) 0 _ _ HX.out.tv))
  go_loopg [1] (bs.length+1-p1) (fun g z wr=>∃(p:Nat) (kl:List (List UInt8)) (ds:List (DataW Unit)) (ka:Option Addr) (kn kc:Nat) (ua:Option Addr) (un uc:Nat),z=.int .i64 p∧Hid (bs.length+1≤p+g)∧Hid (q0o bs lim (enJ bs lim rd) 125 g p (kl.reverse,esZ kl ds) R)∧Hid (kl.length≤p)∧Hid (qzg W (inA bs fm d l) (thA 7 0 ⟨#[]⟩ (.slice ka kn kc) (.slice ua un uc)) wr)∧Hid (qzE k wr (W.heap.size+4) (.slice ka kn kc) (.slice ua un uc) (fun _=>False) kl ds))
  case atStart=>exact⟨p1,[],[],none,0,0,none,0,0,rfl,by show _≤_;omega,HAT,Nat.zero_le _,HX3,q5r _ _ _ _⟩
  case round =>
   clear HAT HX HX2 HX3 hB2 hB3 c0 c1 c2 c3;obtain⟨p,kl,ds,ka,kn,kc,ua,un,uc,rfl,hg,HAT,hdl,HX,HMP⟩:=hrel;have hp0:=HAT.out.1.1;have hwr:=HX.out.size;obtain⟨c0,c1,c2,c3⟩:=qyf HX.out.box;have k0:wr.cell? ⟨W.heap.size+1+1+1,0,none⟩=some (.int .i64 7):=qab HX.out.tv 0;have n0:W.heap.size+1+1+1<wr.heap.size:=by omega
   have n2:W.heap.size+3<wr.heap.size:=by omega
   have n1:W.heap.size<wr.heap.size:=by omega
   go_wp2_with (first
    |((with_reducible refine wpList_load_row rfl 93 (.tmp 9) rfl (W.heap.size+3) ?hx 93 (#[.int .i64 7,.int .i64 0,.string ⟨#[]⟩,.slice ka kn kc,.slice ua un uc]) (0,0) _ ?hg underlying93 rfl ?hi ?_);(case hx=>exact rfl);(case hg=>exact(Below.heap_alloc _ _ _ (by omega)).trans HX.out.tv);(case hi=>exact qyL)))
   have HMw:Hid (qzE k (wr.alloc (.cells (qqp (0,0)) 95)) (W.heap.size+4) (.slice ka kn kc) (.slice ua un uc) (fun j=>j=wr.heap.size) kl ds):=(HMP.out.other (ex':=fun j=>j=wr.heap.size) (fun j h=>.inr (Nat.le_of_eq h.symm))).next (by simp) (fun j _ hj _=>Below.heap_alloc _ _ _ hj)
   refine(q3Z k _ bs fm d l lim p dp (W.heap.size+4) ka ua kn kc un uc (fun j=>j=wr.heap.size) kl ds HL.out HAT.out.1 hb HMw.out (by have:=hdl.out;omega) rd HLM.out (by simp;omega) (fun j h=>by subst h;simp) hd0 (by omega) HCJ.out).mono ?_;clear c0 c1 c2 c3 k0 n0 n1 n2;rintro e w2 ⟨hT2,r',hlo,he⟩;have hs2:wr.heap.size+1≤w2.heap.size:=by have:=hT2.size;simp only[World.size_alloc] at this;omega
   have HKL:Hid (∀g,(Value.slice ka kn kc).ownBlock=some g→W.heap.size+4≤g∧g<wr.heap.size):=fun g e=>⟨qbA HMP.out.keys e,qy1 HMP.out.keys e⟩
   have HUL:Hid (∀g,(Value.slice ua un uc).ownBlock=some g→W.heap.size+4≤g∧g<wr.heap.size):=by
    obtain⟨xs,ho,_⟩:=HMP.out.kids;exact fun g e=>⟨qbA ho e,qy1 ho e⟩
   have HC2:=qaa (q6P (HX.out.next bwA) hT2 (fun g e=>(HKL.out g e).1) (fun g e=>(HUL.out g e).1));have HF:=qaa ((hT2.block _ (by simp) (fun e=>by have:=(HKL.out _ e.symm).2;omega) (fun e=>by have:=(HUL.out _ e.symm).2;omega)).trans (qac _ _));have HLO:=qaa hlo;have HLN:=qaa HMP.out.len;clear hlo hT2 HKL HUL HMw HX HMP
   cases r' with
   |error f =>
    obtain⟨kd,nn,s,a1,i1,j1,b1,q1,m1,z,rfl⟩:=he;have hne:(f.1==0)=false:=by
     have:=q15 HLO.out (quB HBAD.out _ p) f.1 f.2 rfl;simpa using this
    simp only[]
    go_wp2_with (first
     |((with_reducible refine wpList_store_row rfl 93 (.tmp 9) (.tmp 56) rfl (W.heap.size+3) (thA kd nn s (.slice a1 i1 j1) (.slice b1 q1 m1)) ?hx ?hy 93 (thA 7 0 ⟨#[]⟩ (.slice ka kn kc) (.slice ua un uc)) ?hg ?hi ?hs ?h1 ?_);(case hx=>exact rfl);(case hy=>exact rfl);(case hg=>exact HC2.out.tv);(case hi=>exact qyu _ _ _ _ _);(case hs=>exact rfl);(case h1=>exact q1D _ _ _ _ _ _ _ _ _))
     |((with_reducible refine zF 11 58 rfl rfl (wr.heap.size) (f) ?_ ?_);exact⟨rfl,rfl,sx (by omega) HF.out⟩;refine nmd ?_;intro V2 EV2;have HX2:=qaa (EV2▸q4m (q5x HC2.out _) _ (by omega) _);have HF2:=qaa (EV2▸setRow_heap _ _ _ _ _ _ (sx (by omega) HF.out));clear EV2;obtain⟨c0,c1,c2,c3⟩:=qyf HX2.out.box;have u0:V2.cell? ⟨wr.heap.size,0,none⟩=some (.int .i64 (f.1)):=qab HF2.out 0))
    have HE:=qaa (q5U HAT.out HLO.out (fun h1 h2=>q3N h1 h2));refine rgn (S:=fun Z=>Z.heap[wr.heap.size]? = some (.cells (qqp f) 95)) (HF2.out) (by kernel_rfl) ?_;intro hS;refine tk 0 77 (.agg th0) rfl (by kernel_rfl) iQ3 (fun Z hZ => ?y0) hS ?_
    case y0=>(unfold th0 thA qxE;go_simp)
    refine tk 1 78 (.agg (qqp f)) rfl (by kernel_rfl) iQ3 (fun Z hZ=>yF 11 hZ rfl rfl) hS ?_;have hS3:=(setRow_other _ (W.heap.size+1) wr.heap.size th0 (by omega)).trans hS;refine sTh 2 6 77 (W.heap.size+1) (th0) (by kernel_rfl) (HX2.out.th) thg (hS3) ?_;refine tkk 3 7 (.int .i64 0) (by kernel_rfl) iQ3 hS3 ?_;refine sF 4 8 78 (W.heap.size+2) f (by kernel_rfl) (qyc (V:=V2) HX2.out.rth bwR _) (sx (by omega) hS3) ?_;refine wpAnyH_done (by kernel_rfl) ?_ _;go_simp;go_wp2;have hf:=qxQ HX2.out.rth.drew bwR (th0) (f);refine eoT results172 hf (.int .i64 0) rfl rfl rfl rfl ⟨hf.2.2,?_⟩;exact⟨.error (f),.inl (by rw[HE.out];rfl),_,_,_,_,_,_,_,_,_,_,rfl⟩
   |ok x =>
    obtain⟨x,q⟩:=x;obtain⟨hqi,lk,dd,ka1,kn1,kc1,ua1,un1,uc1,rfl,rfl,hM⟩:=he;have HM:=qaa hM;clear hM;simp only[]
    go_wp2_with (first
     |((with_reducible refine wpList_store_row rfl 93 (.tmp 9) (.tmp 56) rfl (W.heap.size+3) (thA 7 0 ⟨#[]⟩ (.slice ka1 kn1 kc1) (.slice ua1 un1 uc1)) ?hx ?hy 93 (thA 7 0 ⟨#[]⟩ (.slice ka kn kc) (.slice ua un uc)) ?hg ?hi ?hs ?h1 ?_);(case hx=>exact rfl);(case hy=>exact rfl);(case hg=>exact HC2.out.tv);(case hi=>exact qyu _ _ _ _ _);(case hs=>exact rfl);(case h1=>exact q1D _ _ _ _ _ _ _ _ _))
     |((with_reducible refine zF 11 58 rfl rfl (wr.heap.size) (0,0) ?_ ?_);exact⟨rfl,rfl,sx (by omega) HF.out⟩;have HX2:Hid (qzg W (inA bs fm d l) (thA 7 0 ⟨#[]⟩ (.slice ka1 kn1 kc1) (.slice ua1 un1 uc1)) ((w2.setRow (W.heap.size+3) (thA 7 0 ⟨#[]⟩ (.slice ka1 kn1 kc1) (.slice ua1 un1 uc1))).setRow wr.heap.size (qqp (0,0)))):=q4m (q5x HC2.out _) _ (by omega) _;have HF2:Hid (((w2.setRow (W.heap.size+3) (thA 7 0 ⟨#[]⟩ (.slice ka1 kn1 kc1) (.slice ua1 un1 uc1))).setRow wr.heap.size (qqp (0,0))).heap[wr.heap.size]? = some (.cells (qqp (0,0)) 95)):=setRow_heap _ _ _ _ _ _ (sx (by omega) HF.out);have HM2:Hid (qzE k ((w2.setRow (W.heap.size+3) (thA 7 0 ⟨#[]⟩ (.slice ka1 kn1 kc1) (.slice ua1 un1 uc1))).setRow wr.heap.size (qqp (0,0))) (W.heap.size+4) (.slice ka1 kn1 kc1) (.slice ua1 un1 uc1) (fun _=>False) (kl++[lk]) (ds++[dd])):=(HM.out.next (V':=(w2.setRow (W.heap.size+3) (thA 7 0 ⟨#[]⟩ (.slice ka1 kn1 kc1) (.slice ua1 un1 uc1))).setRow wr.heap.size (qqp (0,0))) (by simp) (fun j h1 _ hx=>by rw[setRow_other _ _ _ _ hx,setRow_other _ _ _ _ (by omega)])).other (fun _ h=>h.elim);generalize (w2.setRow (W.heap.size+3) (thA 7 0 ⟨#[]⟩ (.slice ka1 kn1 kc1) (.slice ua1 un1 uc1))).setRow wr.heap.size (qqp (0,0))=V2 at *;obtain⟨c0,c1,c2,c3⟩:=qyf HX2.out.box;have u0:V2.cell? ⟨wr.heap.size,0,none⟩=some (.int .i64 (0)):=qab HF2.out 0))
    obtain⟨p3,hp3⟩:∃p3,p3=skR bs l (bs.length+1-q) q:=⟨_,rfl⟩
    obtain⟨hp3i,hnx⟩:=q4L HL.out HAT.out HLO.out (fun h1 h2=>q3N h1 h2) (fun x q h=>qsh HGO.out _ _ _ _ h) hqi hg.out hp3;have hql:=hqi.1;have hp3l:=hp3i.1;have cS2:=fun V=>cS V q hqi.1;rw[←hp3] at cS2;have cH2:=fun V=>cH V p3;have cB2:=fun V=>cB V p3 9;refine(cS2 _).mono ?_;rintro e w7 ⟨rfl,hB7⟩;have HX7:=qaa (HX2.out.next hB7);have HM7:=qaa (HM2.out.next hB7.size (fun j _ hj _=>hB7.block j hj));clear hqi hp3 hp3i cS2 c0 c1 c2 c3 u0 HX2 HM2 hB7 HF2 HM HF HC2;simp only[];obtain⟨c0,c1,c2,c3⟩:=qyf HX7.out.box;rcases hnx with ⟨hh,hRE⟩|⟨ce,hce,hh,hx⟩
    ·rw[hh] at cH2;have HE:=qaa hRE;generalize qr0 bs l p3 9=xx at *;clear hh hRE cS cH cB
     go_wp2_with (first
      |(go_at_call 113;refine ckB (cH2 _) HX7.out.next ?_;clear cH2 c0 c1 c2 c3;intro w8 hB8 HX8;have HM8:=qaa (HM7.out.next hB8.size (fun j _ hj _=>hB8.block j hj));obtain⟨c0,c1,c2,c3⟩:=qyf HX8.out.box)
      |(go_at_call 71;refine ckB (cB2 _) HX8.out.next ?_;clear cB2 c0 c1 c2 c3;intro w9 hB9 HX9;have HM9:=qaa (HM8.out.next hB9.size (fun j _ hj _=>hB9.block j hj));obtain⟨c0,c1,c2,c3⟩:=qyf HX9.out.box)
      |((with_reducible refine zT 6 101 rfl rfl (W.heap.size+1) (th0) ?_ ?_);exact⟨rfl,rfl,HX9.out.th,thg⟩)
      |((with_reducible refine zF 8 104 rfl rfl (W.heap.size+2) (xx) ?_ ?_);exact⟨rfl,rfl,qyc HX9.out.rth bwR _⟩))
     have hf:=qxQ HX9.out.rth bwR (th0) (xx);refine eoT results172 hf (.int .i64 0) rfl rfl rfl rfl ⟨hf.2.2,?_⟩;exact⟨.error (xx),.inl (by rw[HE.out];rfl),_,_,_,_,_,_,_,_,_,_,rfl⟩
    rw[hh] at cH2;have hixe:=fun V=>qxH bs p3 ce hce V;have hp3b:=ltL hce;rcases hx with ⟨h93,hRE,hqe⟩|⟨h93,h44,hqe,g',hgg,hpp,hits⟩|⟨h93,h44,hRE⟩
    ·have t93:((ce.toNat:Int)==125)=true:=by rw[h93];rfl
     have n93:((ce.toNat:Int) != 125)=false:=by rw[h93];rfl
     have HRE:=qaa hRE;have HQE:=qaa hqe;clear hh h93 hRE hqe hce cS cH cB cB2
     go_wp2_with (first
      |(go_at_call 113;refine ckB (cH2 _) HX7.out.next ?_;clear cH2 c0 c1 c2 c3;intro w8 hB8 HX8;have HM8:=qaa (HM7.out.next hB8.size (fun j _ hj _=>hB8.block j hj));obtain⟨c0,c1,c2,c3⟩:=qyf HX8.out.box)
      |((with_reducible refine wpList_load_row rfl 93 (.tmp 9) rfl (W.heap.size+3) ?hx 93 (thA 7 0 ⟨#[]⟩ (.slice ka1 kn1 kc1) (.slice ua1 un1 uc1)) (0,0) _ ?hg underlying93 rfl ?hi ?_);(case hx=>exact rfl);(case hg=>exact HX8.out.tv);(case hi=>exact qyu _ _ _ _ _))
      |((with_reducible refine zT 6 111 rfl rfl (W.heap.size+1) (thA 7 0 ⟨#[]⟩ (.slice ka1 kn1 kc1) (.slice ua1 un1 uc1)) ?_ ?_);exact⟨rfl,rfl,HX8.out.th,thg⟩)
      |((with_reducible refine zF 8 114 rfl rfl (W.heap.size+2) (0,0) ?_ ?_);exact⟨rfl,rfl,qyc HX8.out.rth bwR _⟩))
     have hf:=qxQ HX8.out.rth bwR (thA 7 0 ⟨#[]⟩ (.slice ka1 kn1 kc1) (.slice ua1 un1 uc1)) (0,0);refine eoT results172 hf (.int .i64 ((p3:Int)+1)) rfl rfl rfl rfl ⟨hf.2.2,?_⟩;refine⟨.ok (.map (esZ kl ds++[(.string lk,dd)]),p3+1),.inl (by rw[HRE.out];rfl),HQE.out,_,_,_,_,_,_,_,_,_,rfl,?_⟩;rw[←q1f HLN.out];exact(HM8.out.next (by simp) (fun j hj1 hj2 _=>by rw[setRow_other _ _ _ _ (by omega),setRow_other _ _ _ _ (by omega)])).map (by omega)
    ·have t93:((ce.toNat:Int)==125)=false:=by rw[h44];rfl
     have n93:((ce.toNat:Int) != 125)=true:=by rw[h44];rfl
     have n44:((ce.toNat:Int) != 44)=false:=by rw[h44];rfl
     subst hgg;have cS3:=fun V=>cS V (p3+1) hqe.1;obtain⟨p4,hp4⟩:∃p4,p4=skR bs l (bs.length+1-(p3+1)) (p3+1):=⟨_,rfl⟩
     have hat4:=q58 HL.out hqe hits;rw[←hp4] at hat4 cS3;have HP4:Hid (p3+1≤p4):=by
      show _≤_;rw[hp4];rcases q0r HL.out (bs.length+1-(p3+1)) (p3+1) hqe with ⟨q',_,h2,_,h4,_⟩|⟨q',_,h2,h3,_⟩
      ·rw[h2];exact h4
      rw[h2];have:=hqe.2;omega
     have HAT4:Hid (q0o bs lim (enJ bs lim rd) 125 (g'+1) p4 ((kl++[lk]).reverse,esZ (kl++[lk]) (ds++[dd])) R):=by
      rw[q1f HLN.out,List.reverse_append];exact hat4
     clear hh h93 h44 hqe hce cS cH cB cB2 hits hp4 hat4
     go_wp2_with (first
      |(go_at_call 113;refine ckB (cH2 _) HX7.out.next ?_;clear cH2 c0 c1 c2 c3;intro w8 hB8 HX8;have HM8:=qaa (HM7.out.next hB8.size (fun j _ hj _=>hB8.block j hj));obtain⟨c0,c1,c2,c3⟩:=qyf HX8.out.box)
      |(go_at_call 69;refine ckB (cS3 _) HX8.out.next ?_;clear cS3 c0 c1 c2 c3;intro w9 hB9 HX9;have HM9:=qaa (HM8.out.next hB9.size (fun j _ hj _=>hB9.block j hj));obtain⟨c0,c1,c2,c3⟩:=qyf HX9.out.box))
     go_roundg (g'+1)
     case measure=>omega
     case rel=>exact⟨p4,kl++[lk],ds++[dd],_,_,_,_,_,_,rfl,by show _≤_;have:=hg.out;have:=HP4.out;omega,HAT4,by show _≤_;rw[List.length_append];have:=hdl.out;have:=HP4.out;simp;omega,HX9,HM9⟩
    have t93:((ce.toNat:Int)==125)=false:=by simp;omega
    have n93:((ce.toNat:Int) != 125)=true:=by simp;omega
    have n44:((ce.toNat:Int) != 44)=true:=by simp;omega
    have HE:=qaa hRE;generalize qr0 bs l p3 9=xx at *;clear hh h93 h44 hRE hce cS cH cB
    go_wp2_with (first
     |(go_at_call 113;refine ckB (cH2 _) HX7.out.next ?_;clear cH2 c0 c1 c2 c3;intro w8 hB8 HX8;have HM8:=qaa (HM7.out.next hB8.size (fun j _ hj _=>hB8.block j hj));obtain⟨c0,c1,c2,c3⟩:=qyf HX8.out.box)
     |(go_at_call 71;refine ckB (cB2 _) HX8.out.next ?_;clear cB2 c0 c1 c2 c3;intro w9 hB9 HX9;have HM9:=qaa (HM8.out.next hB9.size (fun j _ hj _=>hB9.block j hj));obtain⟨c0,c1,c2,c3⟩:=qyf HX9.out.box)
     |((with_reducible refine zT 6 101 rfl rfl (W.heap.size+1) (th0) ?_ ?_);exact⟨rfl,rfl,HX9.out.th,thg⟩)
     |((with_reducible refine zF 8 104 rfl rfl (W.heap.size+2) (xx) ?_ ?_);exact⟨rfl,rfl,qyc HX9.out.rth bwR _⟩))
    have hf:=qxQ HX9.out.rth bwR (th0) (xx);refine eoT results172 hf (.int .i64 0) rfl rfl rfl rfl ⟨hf.2.2,?_⟩;exact⟨.error (xx),.inl (by rw[HE.out];rfl),_,_,_,_,_,_,_,_,_,_,rfl⟩
end
end Go.Proofs.YtllcbnfmihfaaaaGreatDoor
