import Derived.Test.YtllcbnfmihfaaaaGreatDoorTq27
set_option maxRecDepth 100000
set_option maxHeartbeats 8000000
namespace Go.Proofs.YtllcbnfmihfaaaaGreatDoor
open Go.Proofs.Tryz
variable {W:World}{A:Array Value}{u:Value}{g p:Nat}{bs:List UInt8}{rd:Nat→Except (Int×Int) (DataW Unit×Nat)}{ds:List (DataW Unit)}{R:Except (Int×Int) (List (DataW Unit)×Nat)}
section
open Go.RowKit Go.Lib
theorem q1k {V2 w5:World}{y:Array Value}{m:Nat}{xs:List Value}{o:Obj}(h:qzg W A y V2)(ho:V2.ownsRow (W.heap.size+4) 93 5 u m xs)(hg:(V2.alloc o).grownBy w5 u.ownBlock):qzg W A y w5:=by
 have hs:=h.size;have hn:∀j,j<W.heap.size+4→w5.heap[j]? = V2.heap[j]?:=fun j hj=>(hg.block j (by simp;omega) (fun e=>by have:=qbA ho e.symm;omega)).trans (Below.heap_alloc _ _ _ (by omega));have hgs:V2.heap.size+1≤w5.heap.size:=by have:=hg.size;simpa using this
 exact⟨(hn _ (by omega)).trans h.box,(hn _ (by omega)).trans h.th,(hn _ (by omega)).trans h.flt,(hn _ (by omega)).trans h.tv,h.below.trans ⟨hg.os,hg.tape,hg.output,by omega,fun j hj=>hn j (by omega)⟩⟩
theorem q5E {V:World}{kd n:Int}{s:ByteArray}{kv:Value}(h:qzg W A (thA kd n s kv u) V)(v':Value):qzg W A (thA kd n s kv v') (V.setCell ⟨W.heap.size+3,4,none⟩ v'):=by
 have ho:∀j,j≠W.heap.size+3→(V.setCell ⟨W.heap.size+3,4,none⟩ v').heap[j]? = V.heap[j]?:=fun j hj=>heap_setCell_other V _ _ _ (by simpa using hj);refine⟨(ho _ (by omega)).trans h.box,(ho _ (by omega)).trans h.th,(ho _ (by omega)).trans h.flt,?_,h.below.trans ⟨rfl,rfl,rfl,by simp[World.setCell],fun j hj=>ho j (by omega)⟩⟩;rw[heap_setCell_same _ _ _ _ _ _ h.tv];rfl
theorem q5h {lim:Int}{f:Int×Int}(h:q0o bs lim (liJ rd) 93 g p ds R)(hlo:qy8 bs lim (rd p) (.error f))(hlm:∀p:Nat,(p:Int)=lim→p<bs.length→rd p=.error (8,(p:Int))):R=.error f:=by
 have hr:rd p=.error f:=by
  rcases hlo with h|⟨q,_,_,_,x,h4⟩
  ·exact h
  cases h4
 rcases h.2 with ⟨g',_,h2⟩|⟨h2,h3,h4⟩
 ·rw[←h2];unfold q5A liJ;rw[hr]
 rw[hlm p h2 h3] at hr;injection hr with hr;rw[h4,hr]
theorem q46 {l lim:Int}(hl:Lm bs l lim){q p3:Nat}{dd:DataW Unit}(h:q0o bs lim (liJ rd) 93 g p ds R)(hlo:qy8 bs lim (rd p) (.ok (dd,q)))(hlm:∀p:Nat,(p:Int)=lim→p<bs.length→rd p=.error (8,(p:Int)))(hgo:∀p x q,rd p=.ok (x,q)→p<q)(hqi:InR bs lim q)(hg:bs.length+1≤p+g)(hp3:p3=skR bs l (bs.length+1-q) q):InR bs lim p3∧((qyb bs l p3=false∧R=.error (qr0 bs l p3 9))∨∃c,bs[p3]? = some c∧qyb bs l p3=true∧((c.toNat=93∧R=.ok (ds++[dd],p3+1)∧InR bs lim (p3+1))∨(¬c.toNat=93∧c.toNat=44∧InR bs lim (p3+1)∧∃g',g=g'+2∧p<p3∧qgW bs lim (liJ rd) 93 (g'+1) (p3+1) (ds++[dd])=R)∨(¬c.toNat=93∧¬c.toNat=44∧R=.error (qr0 bs l p3 9)))):=by
 rcases hlo with hr|⟨q',h1,h2,h3,x,h4⟩
 ·have hpq:=hgo p dd q hr;rcases h.2 with ⟨g',e,hits⟩|⟨h2,h3,h4⟩
  ·have hit:liJ rd ds p=.ok (ds++[dd],q):=by unfold liJ;rw[hr]
   obtain⟨a1,a2,a3⟩:=q1m hl hqi hp3 hit hits;refine⟨a1,?_⟩;rcases a3 with a3|⟨c,b1,b2,b3⟩
   ·exact .inl a3
   refine .inr ⟨c,b1,b2,?_⟩;rcases b3 with b3|⟨c1,c2,c3,c4⟩|b3
   ·exact .inl b3
   ·have:=ltL b1;obtain⟨g2,rfl⟩:∃g2,g'=g2+1:=⟨g'-1,by omega⟩
    exact .inr (.inl ⟨c1,c2,c3,g2,by omega,by omega,c4⟩)
   exact .inr (.inr b3)
  rw[hlm p h2 h3] at hr;cases hr
 injection h4 with h4;injection h4 with h5 h6;subst h6;obtain⟨e1,e2,e3⟩:=q2q hl h2 h3;rw[e1] at hp3;subst hp3;refine⟨hqi,.inl ⟨e2,?_⟩⟩;rw[e3];rcases h.2 with ⟨g',_,hits⟩|⟨k2,k3,k4⟩
 ·rw[←hits];unfold q5A liJ;rw[h1]
 rw[hlm p k2 k3] at h1;injection h1 with h1;rw[k4,h1]
theorem qzs (kd n:Int)(s:ByteArray)(a b:Option Addr)(i j p q:Nat):∀u∈[Value.int .i64 kd,.int .i64 n,.string s,.slice a i j,.slice b p q],u.oneCell'=true:=fun u hu=>by
 simp at hu;rcases hu with rfl|rfl|rfl|rfl|rfl<;>rfl
theorem q01 (k:Nat)(W:World)(bs:List UInt8)(fm d l lim:Int)(i:Nat)(dp:Int)(c:UInt8)(hc:bs[i]? = some c)(hv:c.toNat=91)(hp:¬(i:Int)=lim)(hl:Lm bs l lim)(hi:InR bs lim i)(hb:bs.length≤200000000)(hd0:0≤dp)(hd1:dp<d)(hd2:d≤100000)(rd:Nat→Except (Int×Int) (DataW Unit×Nat))(hbad:∀p,Bad (rd p))(hlm:∀p:Nat,(p:Int)=lim→p<bs.length→rd p=.error (8,(p:Int)))(hgo:∀p x q,rd p=.ok (x,q)→p<q)(cJ:∀V (p:Nat),Below W.heap.size W V→InR bs lim p→Calls prog 115 #[.agg (inA bs fm d l),.int .i64 p,.int .i64 (dp+1)] V (qxV k bs lim V (rd p))):Calls prog 172 #[.agg (inA bs fm d l),.int .i64 i,.int .i64 dp] W (qxV (k+1) bs lim W (liR (qe4 bs lim (liJ rd) 93 (i+1) []))):=by
 obtain⟨ti,hti,ht0,ht1,ht2⟩:=info_parts Tryz.infoThR;obtain⟨R,HR⟩:∃R,Hid (qe4 bs lim (liJ rd) 93 (i+1) []=R):=⟨_,show _=_ from rfl⟩
 rw[HR.out];have hil:=ltL hc;have hix:=qxH bs i c hc;have t123:=nec (c:=c) 123 (by omega);have hin:=qxJ hi hc hp;have HL:=qaa hl;have cH:=qzv bs fm d l;have cB:=qzy bs fm d l;have cS:∀V (p:Nat),p≤bs.length→Calls prog 69 #[.agg #[.string ⟨bs.toArray⟩,.int .i64 fm,.int .i64 d,.int .i64 l],.int .i64 p] V fun e W'=>e=.returned (.int .i64 (skR bs l (bs.length+1-p) p))∧Below V.heap.size V W':=fun V p hp=>qyY V bs fm d l p hb hp;have HCJ:Hid (∀V (p:Nat),Below W.heap.size W V→InR bs lim p→Calls prog 115 #[.agg #[.string ⟨bs.toArray⟩,.int .i64 fm,.int .i64 d,.int .i64 l],.int .i64 p,.int .i64 (dp+1)] V (qxV k bs lim V (rd p))):=cJ;have HBAD:=qaa hbad;have HLM:=qaa hlm;have HGO:=qaa hgo;have cS1:=fun V=>cS V (i+1) (by omega);obtain⟨p1,hp1⟩:∃p1,p1=skR bs l (bs.length+1-(i+1)) (i+1):=⟨_,rfl⟩
 obtain⟨hp1i,hst⟩:=q0A hl hin hp1 HR.out;rw[←hp1] at cS1;have hp1l:=hp1i.1;have cH1:=fun V=>cH V p1;have hdf:decide (d≤dp)=false:=by simp;omega
 clear hc hv hp hl hi hin cJ hgo hbad hlm hp1 HR;rcases hst with ⟨ce,hce,hh,he,hRe,hqi⟩|⟨hno,hat⟩
 ·rw[hh] at cH1;have hixe:=fun V=>qxH bs p1 ce hce V;have t93:((ce.toNat:Int)==93)=true:=by rw[he];rfl
  have HRE:=qaa hRe;have HQI:=qaa hqi;have hpl2:=ltL hce;clear hce hh he hRe hqi cH cB cS HCJ HGO hp1i;unfold inA;go_enter func172,ntmps172
  go_wp2_with (first
   |(go_at_call 69;refine ck4 (cS1 _) HX.out.next (fun _ h=>h.box) ?_;clear cS1 c0 c1 c2 c3 k0 k4;intro w2 HX2 c0 c1 c2 c3;have k0:w2.cell? ⟨W.heap.size+1+1+1,0,none⟩=some (.int .i64 6):=qab HX2.out.tv 0;have k4:w2.cell? ⟨W.heap.size+1+1+1,4,none⟩=some (.slice none 0 0):=qab HX2.out.tv 4)
   |(go_at_call 113;refine ck4 (cH1 _) HX2.out.next (fun _ h=>h.box) ?_;clear cH1 c0 c1 c2 c3 k0 k4;intro w3 HX3 c0 c1 c2 c3;have k0:w3.cell? ⟨W.heap.size+1+1+1,0,none⟩=some (.int .i64 6):=qab HX3.out.tv 0;have k4:w3.cell? ⟨W.heap.size+1+1+1,4,none⟩=some (.slice none 0 0):=qab HX3.out.tv 4)
   |((with_reducible refine zT 9 21 rfl rfl (W.heap.size+3) (thA 6 0 ⟨#[]⟩ qxE qxE) ?_ ?_);exact⟨rfl,rfl,q2T W _,thg⟩;refine nmd ?_;intro V0 EV0;have HX:Hid (qzg W (inA bs fm d l) (thA 6 0 ⟨#[]⟩ qxE qxE) V0):=EV0▸q2A W _ _;clear EV0;obtain⟨c0,c1,c2,c3⟩:=qyf HX.out.box;have k0:V0.cell? ⟨W.heap.size+1+1+1,0,none⟩=some (.int .i64 6):=qab HX.out.tv 0;have k4:V0.cell? ⟨W.heap.size+1+1+1,4,none⟩=some (.slice none 0 0):=qab HX.out.tv 4)
   |((with_reducible refine wpList_load_row rfl 93 (.tmp 9) rfl (W.heap.size+3) ?hx 93 (thA 6 0 ⟨#[]⟩ qxE qxE) (0,0) _ ?hg underlying93 rfl ?hi ?_);(case hx=>exact rfl);(case hg=>exact HX3.out.tv);(case hi=>exact qyu _ _ _ _ _))
   |((with_reducible refine zT 6 43 rfl rfl (W.heap.size+1) (thA 6 0 ⟨#[]⟩ qxE qxE) ?_ ?_);exact⟨rfl,rfl,HX3.out.th,thg⟩)
   |((with_reducible refine zF 8 46 rfl rfl (W.heap.size+2) (0,0) ?_ ?_);exact⟨rfl,rfl,qyc HX3.out.rth bwR _⟩))
  have hf:=qxQ HX3.out.rth bwR (thA 6 0 ⟨#[]⟩ qxE qxE) (0,0);refine eoT results172 hf (.int .i64 ((p1:Int)+1)) rfl rfl rfl rfl ⟨hf.2.2,?_⟩;exact⟨.ok (.agg [],p1+1),.inl (by rw[HRE.out];rfl),HQI.out,_,_,_,_,_,_,_,_,_,rfl,(qzz k _ (W.heap.size) (fun _=>False)).list (Nat.le_refl _)⟩
 have HAT:=qaa hat;have hno2:(qyb bs l p1=false)∨(∃c,bs[p1]? = some c∧qyb bs l p1=true∧((c.toNat:Int)==93)=false):=by
  rcases hno with h|⟨c,h1,h2,h3⟩
  ·exact .inl h
  exact .inr ⟨c,h1,h2,by simp;omega⟩
 clear hno hat;rcases hno2 with hno|⟨ce,hce,hh,t93⟩
 focus
  rw[hno] at cH1;clear hno
 rotate_left
 focus
  rw[hh] at cH1;have hixs:=fun V=>qxH bs p1 ce hce V;have hpls:=ltL hce;clear hh hce
 all_goals
  unfold inA;go_enter func172,ntmps172
  go_wp2_with (first
   |(go_at_call 69;refine ckB (cS1 _) HX.out.next ?_;clear cS1 c0 c1 c2 c3 k0 k4;intro w2 hB2 HX2;obtain⟨c0,c1,c2,c3⟩:=qyf HX2.out.box;have k0:w2.cell? ⟨W.heap.size+1+1+1,0,none⟩=some (.int .i64 6):=qab HX2.out.tv 0;have k4:w2.cell? ⟨W.heap.size+1+1+1,4,none⟩=some (.slice none 0 0):=qab HX2.out.tv 4)
   |(go_at_call 113;refine ckB (cH1 _) HX2.out.next ?_;clear cH1 c0 c1 c2 c3 k0 k4;intro w3 hB3 HX3;obtain⟨c0,c1,c2,c3⟩:=qyf HX3.out.box;have k0:w3.cell? ⟨W.heap.size+1+1+1,0,none⟩=some (.int .i64 6):=qab HX3.out.tv 0;have k4:w3.cell? ⟨W.heap.size+1+1+1,4,none⟩=some (.slice none 0 0):=qab HX3.out.tv 4)
   |((with_reducible refine zT 9 21 rfl rfl (W.heap.size+3) (thA 6 0 ⟨#[]⟩ qxE qxE) ?_ ?_);exact⟨rfl,rfl,q2T W _,thg⟩;refine nmd ?_;intro V0 EV0;have HX:Hid (qzg W (inA bs fm d l) (thA 6 0 ⟨#[]⟩ qxE qxE) V0):=EV0▸q2A W _ _;clear EV0;obtain⟨c0,c1,c2,c3⟩:=qyf HX.out.box;have k0:V0.cell? ⟨W.heap.size+1+1+1,0,none⟩=some (.int .i64 6):=qab HX.out.tv 0;have k4:V0.cell? ⟨W.heap.size+1+1+1,4,none⟩=some (.slice none 0 0):=qab HX.out.tv 4))
  go_loopg [1] (bs.length+1-p1) (fun g z wr=>∃(p:Nat) (ds:List (DataW Unit)) (a:Option Addr) (n c:Nat),z=.int .i64 p∧Hid (bs.length+1≤p+g)∧Hid (q0o bs lim (liJ rd) 93 g p ds R)∧Hid (ds.length≤p)∧Hid (qzg W (inA bs fm d l) (thA 6 0 ⟨#[]⟩ qxE (.slice a n c)) wr)∧Hid (qys k wr (W.heap.size+4) (.slice a n c) (fun _=>False) ds))
  case atStart=>exact⟨p1,[],none,0,0,rfl,by show _≤_;omega,HAT,Nat.zero_le _,HX3,qzz _ _ _ _⟩
  case round =>
   clear HAT HX HX2 HX3 hB2 hB3 c0 c1 c2 c3 k0 k4;obtain⟨p,ds,a,n,c,rfl,hg,HAT,hdl,HX,HKD⟩:=hrel;have hp0:=HAT.out.1.1;have hwr:=HX.out.size;obtain⟨c0,c1,c2,c3⟩:=qyf HX.out.box;have k0:wr.cell? ⟨W.heap.size+1+1+1,0,none⟩=some (.int .i64 6):=qab HX.out.tv 0;have k4:wr.cell? ⟨W.heap.size+1+1+1,4,none⟩=some (.slice a n c):=qab HX.out.tv 4;have k0':wr.cell? ⟨W.heap.size+3,0,none⟩=some (.int .i64 6):=k0;have n0:W.heap.size+1+1+1<wr.heap.size:=by omega
   have n2:W.heap.size+3<wr.heap.size:=by omega
   have n1:W.heap.size<wr.heap.size:=by omega
   go_wp2_with fail
   refine(HCJ.out _ p ((HX.out.below.alloc HX.out.below.size _).alloc (by simp;have:=HX.out.below.size;omega) _) HAT.out.1).mono ?_;clear c0 c1 c2 c3 k0 k4 n0 n1 n2 k0';rintro e w2 ⟨hB2,r',hlo,he⟩;have hs2:wr.heap.size+2≤w2.heap.size:=by have:=hB2.size;simp only[World.size_alloc] at this;omega
   have hB3:Below (wr.heap.size+2) ((wr.alloc (.cells (qqp (0,0)) 95)).alloc (.cells th0 93)) w2:=by
    have h:=hB2;simp only[World.size_alloc] at h;exact h
   clear hB2;have HV:Hid (∀a f,Below wr.heap.size wr ((w2.setRow (wr.heap.size+1) a).setRow wr.heap.size f)):=fun a f=>q1I wr w2 a f hB3;have HK:Hid (w2.heap[wr.heap.size+1]? = some (.cells th0 93)):=(hB3.block _ (by omega)).trans (by have:=qac (wr.alloc (.cells (qqp (0,0)) 95)) (.cells th0 93);simpa only [World.size_alloc] using this);have HF:=qaa ((hB3.block _ (by omega)).trans ((Below.heap_alloc _ _ _ (by simp)).trans (qac _ _)));have HNE:Hid (∀g,(Value.slice a n c).ownBlock=some g→g<wr.heap.size):=by
    obtain⟨xs,ho,_⟩:=HKD.out;exact fun g hg=>qy1 ho hg
   have HLO:=qaa hlo;clear hlo
   cases r' with
   |error f =>
    obtain⟨kd,nn,s,a1,i1,j1,b1,q1,m1,z,rfl⟩:=he;have hne:(f.1==0)=false:=by
     have:=q15 HLO.out (HBAD.out p) f.1 f.2 rfl;simpa using this
    simp only[]
    go_wp2_with (first
     |((with_reducible refine zT 12 65 rfl rfl (wr.heap.size+1) (thA kd nn s (.slice a1 i1 j1) (.slice b1 q1 m1)) ?_ ?_);exact⟨rfl,rfl,HK.out,thg⟩)
     |((with_reducible refine zF 11 67 rfl rfl (wr.heap.size) (f) ?_ ?_);exact⟨rfl,rfl,sx (by omega) HF.out⟩;refine nmd ?_;intro V2 EV2;have HX2:=qaa (EV2▸HX.out.next (HV.out _ _));have HKD2:=qaa (EV2▸HKD.out.next (HV.out _ _).size (fun j _ hj=>(HV.out _ _).block j hj));have HK2:Hid (V2.heap[wr.heap.size+1]? = some (.cells #[.int .i64 kd,.int .i64 nn,.string s,.slice a1 i1 j1,.slice b1 q1 m1] 93)):=EV2▸sx (by omega) (setRow_heap _ _ _ _ _ _ HK.out);have HF2:=qaa (EV2▸setRow_heap _ _ _ _ _ _ (sx (by omega) HF.out));clear EV2;obtain⟨xs,ho,hch⟩:=HKD2.out;have HO:=qaa ho;have HCH:Hid (∀(i:Nat) (d:DataW Unit),ds[i]? = some d→∃a',qzH xs i a'∧qyi k V2 (fun j=>W.heap.size+4≤j∧j<V2.heap.size∧some j≠(Value.slice a n c).ownBlock∧¬False) (.agg a') d):=hch;clear ho hch HKD2;obtain⟨c0,c1,c2,c3⟩:=qyf HX2.out.box;have k0:V2.cell? ⟨W.heap.size+1+1+1,0,none⟩=some (.int .i64 6):=qab HX2.out.tv 0;have k4:V2.cell? ⟨W.heap.size+1+1+1,4,none⟩=some (.slice a n c):=qab HX2.out.tv 4)
     |((with_reducible refine wpList_load_row rfl 93 (.tmp 12) rfl (wr.heap.size+1) ?hx 93 (#[.int .i64 kd,.int .i64 nn,.string s,.slice a1 i1 j1,.slice b1 q1 m1]) (0,0) _ ?hg underlying93 rfl ?hi ?_);(case hx=>exact rfl);(case hg=>exact HK2.out);(case hi=>exact qyL))
     |(at_builtin;(refine qaX _ rfl _ _ 91 rfl (W.heap.size+4) 93 ti (.agg th0) 5 80 underlying91 hti ht0 ht1 ht2 rfl (by decide) _ _ _ rfl (HO.out.alloc _) ⟨V2.heap.size,0,none⟩ 1 1 [.int .i64 kd,.int .i64 nn,.string s,.slice a1 i1 j1,.slice b1 q1 m1] rfl rfl (qag _ _ _) (qzs _ _ _ _ _ _ _ _ _) (by decide) (by have:=hdl.out;unfold maxLen;omega) (by have:=hdl.out;omega) (by have:=HX2.out.size;simp;omega) ?_);intro v' w5 hown' hgrow5 hw5;obtain⟨g5,cap5,rfl⟩:=ownsRow_succ hown';have HX5:=qaa (q1k HX2.out HO.out hgrow5);have HF5:=qaa ((hgrow5.block _ (by simp;have:=ltA HF2.out;omega) (fun e=>by have:=HNE.out _ e.symm;omega)).trans ((Below.heap_alloc _ _ _ (ltA HF2.out)).trans HF2.out));clear hown' hgrow5 hw5 c0 c1 c2 c3 k0 k4;have k4:w5.cell? ⟨W.heap.size+1+1+1,4,none⟩=some (.slice a n c):=qab HX5.out.tv 4;have f4:w5.frozen? ⟨W.heap.size+1+1+1,4,none⟩=false:=frozen_of_row w5 (W.heap.size+3) 4 _ _ HX5.out.tv;have u0:w5.cell? ⟨wr.heap.size,0,none⟩=some (.int .i64 (f.1)):=qab HF5.out 0))
    have HE:=qaa (q5h HAT.out HLO.out HLM.out);have HX6:Hid (qzg W (inA bs fm d l) (thA 6 0 ⟨#[]⟩ qxE (.slice (some ⟨g5,0,none⟩) (ds.length+1) cap5)) (w5.setCell ⟨W.heap.size+1+1+1,4,none⟩ (.slice (some ⟨g5,0,none⟩) (ds.length+1) cap5))):=q5E HX5.out _;have HF6:Hid ((w5.setCell ⟨W.heap.size+1+1+1,4,none⟩ (.slice (some ⟨g5,0,none⟩) (ds.length+1) cap5)).heap[wr.heap.size]? = some (.cells (qqp f) 95)):=(heap_setCell_other w5 _ _ _ (by simp;omega)).trans HF5.out;generalize w5.setCell ⟨W.heap.size+1+1+1,4,none⟩ (.slice (some ⟨g5,0,none⟩) (ds.length+1) cap5)=V6 at *;clear HX5 HF5 k4 f4 HO HCH HX2 HK2 HF2 HK HF HV hB3 HX HKD;refine rgn (S:=fun Z=>Z.heap[wr.heap.size]? = some (.cells (qqp f) 95)) (HF6.out) (by kernel_rfl) ?_;intro hS;refine tk 0 77 (.agg th0) rfl (by kernel_rfl) iQ3 (fun Z hZ => ?y0) hS ?_
    case y0=>(unfold th0 thA qxE;go_simp)
    refine tk 1 78 (.agg (qqp f)) rfl (by kernel_rfl) iQ3 (fun Z hZ=>yF 11 hZ rfl rfl) hS ?_;have hS3:=(setRow_other _ (W.heap.size+1) wr.heap.size th0 (by omega)).trans hS;refine sTh 2 6 77 (W.heap.size+1) (th0) (by kernel_rfl) (HX6.out.th) thg (hS3) ?_;refine tkk 3 7 (.int .i64 0) (by kernel_rfl) iQ3 hS3 ?_;refine sF 4 8 78 (W.heap.size+2) f (by kernel_rfl) (qyc (V:=V6) HX6.out.rth bwR _) (sx (by omega) hS3) ?_;refine wpAnyH_done (by kernel_rfl) ?_ _;go_simp;go_wp2;have hf:=qxQ HX6.out.rth.drew bwR (th0) (f);refine eoT results172 hf (.int .i64 0) rfl rfl rfl rfl ⟨hf.2.2,?_⟩;exact⟨.error (f),.inl (by rw[HE.out];rfl),_,_,_,_,_,_,_,_,_,_,rfl⟩
   |ok x =>
    obtain⟨dd,q⟩:=x;obtain⟨hqi,kd,nn,s,a1,i1,j1,b1,q1,m1,rfl,hA⟩:=he;simp only[];have HQI:=qaa hqi;have T9:True:=trivial;have HA:Hid (qyi k w2 (fun j=>wr.heap.size+2≤j∧j<w2.heap.size) (.agg #[.int .i64 kd,.int .i64 nn,.string s,.slice a1 i1 j1,.slice b1 q1 m1]) dd):=hA.same (fun j hj=>⟨by have:=hj.1;simp only[World.size_alloc] at this;omega,hj.2⟩) (fun _ _=>rfl);clear hA
    go_wp2_with (first
     |((with_reducible refine zT 12 65 rfl rfl (wr.heap.size+1) (thA kd nn s (.slice a1 i1 j1) (.slice b1 q1 m1)) ?_ ?_);exact⟨rfl,rfl,HK.out,thg⟩)
     |((with_reducible refine zF 11 67 rfl rfl (wr.heap.size) (0,0) ?_ ?_);exact⟨rfl,rfl,sx (by omega) HF.out⟩;refine nmd ?_;intro V2 EV2;have HX2:=qaa (EV2▸HX.out.next (HV.out _ _));have HKD2:=qaa (EV2▸HKD.out.next (HV.out _ _).size (fun j _ hj=>(HV.out _ _).block j hj));have HK2:Hid (V2.heap[wr.heap.size+1]? = some (.cells #[.int .i64 kd,.int .i64 nn,.string s,.slice a1 i1 j1,.slice b1 q1 m1] 93)):=EV2▸sx (by omega) (setRow_heap _ _ _ _ _ _ HK.out);have HF2:=qaa (EV2▸setRow_heap _ _ _ _ _ _ (sx (by omega) HF.out));have HA2:Hid (qyi k V2 (fun j=>wr.heap.size+2≤j∧j<V2.heap.size) (.agg #[.int .i64 kd,.int .i64 nn,.string s,.slice a1 i1 j1,.slice b1 q1 m1]) dd):=EV2▸HA.out.same (fun j hj=>⟨hj.1,by simpa using hj.2⟩) (fun j hj=>by rw[setRow_other _ _ _ _ (by omega),setRow_other _ _ _ _ (by omega)]);clear EV2;obtain⟨xs,ho,hch⟩:=HKD2.out;have HO:=qaa ho;have HCH:Hid (∀(i:Nat) (d:DataW Unit),ds[i]? = some d→∃a',qzH xs i a'∧qyi k V2 (fun j=>W.heap.size+4≤j∧j<V2.heap.size∧some j≠(Value.slice a n c).ownBlock∧¬False) (.agg a') d):=hch;clear ho hch HKD2;obtain⟨c0,c1,c2,c3⟩:=qyf HX2.out.box;have k0:V2.cell? ⟨W.heap.size+1+1+1,0,none⟩=some (.int .i64 6):=qab HX2.out.tv 0;have k4:V2.cell? ⟨W.heap.size+1+1+1,4,none⟩=some (.slice a n c):=qab HX2.out.tv 4)
     |((with_reducible refine wpList_load_row rfl 93 (.tmp 12) rfl (wr.heap.size+1) ?hx 93 (#[.int .i64 kd,.int .i64 nn,.string s,.slice a1 i1 j1,.slice b1 q1 m1]) (0,0) _ ?hg underlying93 rfl ?hi ?_);(case hx=>exact rfl);(case hg=>exact HK2.out);(case hi=>exact qyL))
     |(at_builtin;(refine qaX _ rfl _ _ 91 rfl (W.heap.size+4) 93 ti (.agg th0) 5 80 underlying91 hti ht0 ht1 ht2 rfl (by decide) _ _ _ rfl (HO.out.alloc _) ⟨V2.heap.size,0,none⟩ 1 1 [.int .i64 kd,.int .i64 nn,.string s,.slice a1 i1 j1,.slice b1 q1 m1] rfl rfl (qag _ _ _) (qzs _ _ _ _ _ _ _ _ _) (by decide) (by have:=hdl.out;unfold maxLen;omega) (by have:=hdl.out;omega) (by have:=HX2.out.size;simp;omega) ?_);intro v' w5 hown' hgrow5 hw5;obtain⟨g5,cap5,rfl⟩:=ownsRow_succ hown';have HX5:=qaa (q1k HX2.out HO.out hgrow5);have HF5:=qaa ((hgrow5.block _ (by simp;have:=ltA HF2.out;omega) (fun e=>by have:=HNE.out _ e.symm;omega)).trans ((Below.heap_alloc _ _ _ (ltA HF2.out)).trans HF2.out));have HKD5:=qaa (qys.push (L:=wr.heap.size+2) HO.out HCH.out HA2.out (fun g hg=>by have:=HNE.out g hg;omega) (by omega) (fun _ _ h=>h) rfl hown' hgrow5 hw5);clear hown' hgrow5 hw5 c0 c1 c2 c3 k0 k4;have k4:w5.cell? ⟨W.heap.size+1+1+1,4,none⟩=some (.slice a n c):=qab HX5.out.tv 4;have f4:w5.frozen? ⟨W.heap.size+1+1+1,4,none⟩=false:=frozen_of_row w5 (W.heap.size+3) 4 _ _ HX5.out.tv;have u0:w5.cell? ⟨wr.heap.size,0,none⟩=some (.int .i64 (0)):=qab HF5.out 0;obtain⟨c0,c1,c2,c3⟩:=qyf HX5.out.box))
    obtain⟨p3,hp3⟩:∃p3,p3=skR bs l (bs.length+1-q) q:=⟨_,rfl⟩
    obtain⟨hp3i,hnx⟩:=q46 HL.out HAT.out HLO.out HLM.out HGO.out hqi hg.out hp3;have hql:=hqi.1;have hp3l:=hp3i.1;have cS2:=fun V=>cS V q hqi.1;rw[←hp3] at cS2;have cH2:=fun V=>cH V p3;have cB2:=fun V=>cB V p3 9;have HX6:Hid (qzg W (inA bs fm d l) (thA 6 0 ⟨#[]⟩ qxE (.slice (some ⟨g5,0,none⟩) (ds.length+1) cap5)) (w5.setCell ⟨W.heap.size+1+1+1,4,none⟩ (.slice (some ⟨g5,0,none⟩) (ds.length+1) cap5))):=q5E HX5.out _;have HKD6:Hid (qys k (w5.setCell ⟨W.heap.size+1+1+1,4,none⟩ (.slice (some ⟨g5,0,none⟩) (ds.length+1) cap5)) (W.heap.size+4) (.slice (some ⟨g5,0,none⟩) (ds.length+1) cap5) (fun _=>False) (ds++[dd])):=HKD5.out.next (by simp[World.setCell]) (fun j hj1 hj2=>heap_setCell_other w5 _ _ _ (by simp;omega))
    refine(cS2 _).mono ?_;rintro e w7 ⟨rfl,hB7⟩;have HX7:=qaa (HX6.out.next hB7);have HKD7:=qaa (HKD6.out.next hB7.size (fun j _ hj=>hB7.block j hj));clear hqi hp3 hp3i cS2 c0 c1 c2 c3 k4 f4 HX6 HKD6 hB7 HKD5 HX5 HF5 HO HCH HX2 HK2 HF2 HA2 HK HF HV hB3 HX HKD HA;simp only[];obtain⟨c0,c1,c2,c3⟩:=qyf HX7.out.box;have k0:=T9;have k4:=T9;rcases hnx with ⟨hh,hRE⟩|⟨ce,hce,hh,hx⟩
    ·rw[hh] at cH2;have HE:=qaa hRE;generalize qr0 bs l p3 9=xx at *;clear hh hRE cS cH cB
     go_wp2_with (first
      |(go_at_call 113;refine ckB (cH2 _) HX7.out.next ?_;clear cH2 c0 c1 c2 c3 k0 k4;intro w8 hB8 HX8;have HKD8:=qaa (HKD7.out.next hB8.size (fun j _ hj=>hB8.block j hj));obtain⟨c0,c1,c2,c3⟩:=qyf HX8.out.box;have k0:=T9;have k4:=T9)
      |(go_at_call 71;refine ckB (cB2 _) HX8.out.next ?_;clear cB2 c0 c1 c2 c3 k0 k4;intro w9 hB9 HX9;have HKD9:=qaa (HKD8.out.next hB9.size (fun j _ hj=>hB9.block j hj));obtain⟨c0,c1,c2,c3⟩:=qyf HX9.out.box;have k0:=T9;have k4:=T9)
      |((with_reducible refine zT 6 101 rfl rfl (W.heap.size+1) (th0) ?_ ?_);exact⟨rfl,rfl,HX9.out.th,thg⟩)
      |((with_reducible refine zF 8 104 rfl rfl (W.heap.size+2) (xx) ?_ ?_);exact⟨rfl,rfl,qyc HX9.out.rth bwR _⟩))
     have hf:=qxQ HX9.out.rth bwR (th0) (xx);refine eoT results172 hf (.int .i64 0) rfl rfl rfl rfl ⟨hf.2.2,?_⟩;exact⟨.error (xx),.inl (by rw[HE.out];rfl),_,_,_,_,_,_,_,_,_,_,rfl⟩
    rw[hh] at cH2;have hixe:=fun V=>qxH bs p3 ce hce V;have hp3b:=ltL hce;rcases hx with ⟨h93,hRE,hqe⟩|⟨h93,h44,hqe,g',hgg,hpp,hits⟩|⟨h93,h44,hRE⟩
    ·have t93:((ce.toNat:Int)==93)=true:=by rw[h93];rfl
     have n93:((ce.toNat:Int) != 93)=false:=by rw[h93];rfl
     have HRE:=qaa hRE;have HQE:=qaa hqe;clear hh h93 hRE hqe hce cS cH cB cB2
     go_wp2_with (first
      |(go_at_call 113;refine ckB (cH2 _) HX7.out.next ?_;clear cH2 c0 c1 c2 c3 k0 k4;intro w8 hB8 HX8;have HKD8:=qaa (HKD7.out.next hB8.size (fun j _ hj=>hB8.block j hj));obtain⟨c0,c1,c2,c3⟩:=qyf HX8.out.box;have k0:=T9;have k4:=T9)
      |((with_reducible refine wpList_load_row rfl 93 (.tmp 9) rfl (W.heap.size+3) ?hx 93 (thA 6 0 ⟨#[]⟩ qxE (.slice (some ⟨g5,0,none⟩) (ds.length+1) cap5)) (0,0) _ ?hg underlying93 rfl ?hi ?_);(case hx=>exact rfl);(case hg=>exact HX8.out.tv);(case hi=>exact qyu _ _ _ _ _))
      |((with_reducible refine zT 6 111 rfl rfl (W.heap.size+1) (thA 6 0 ⟨#[]⟩ qxE (.slice (some ⟨g5,0,none⟩) (ds.length+1) cap5)) ?_ ?_);exact⟨rfl,rfl,HX8.out.th,thg⟩)
      |((with_reducible refine zF 8 114 rfl rfl (W.heap.size+2) (0,0) ?_ ?_);exact⟨rfl,rfl,qyc HX8.out.rth bwR _⟩))
     have hf:=qxQ HX8.out.rth bwR (thA 6 0 ⟨#[]⟩ qxE (.slice (some ⟨g5,0,none⟩) (ds.length+1) cap5)) (0,0);refine eoT results172 hf (.int .i64 ((p3:Int)+1)) rfl rfl rfl rfl ⟨hf.2.2,?_⟩;exact⟨.ok (.agg (ds++[dd]),p3+1),.inl (by rw[HRE.out];rfl),HQE.out,_,_,_,_,_,_,_,_,_,rfl,(HKD8.out.next (by simp) (fun j hj1 hj2=>by rw[setRow_other _ _ _ _ (by omega),setRow_other _ _ _ _ (by omega)])).list (by omega)⟩
    ·have t93:((ce.toNat:Int)==93)=false:=by rw[h44];rfl
     have n93:((ce.toNat:Int) != 93)=true:=by rw[h44];rfl
     have n44:((ce.toNat:Int) != 44)=false:=by rw[h44];rfl
     subst hgg;have cS3:=fun V=>cS V (p3+1) hqe.1;obtain⟨p4,hp4⟩:∃p4,p4=skR bs l (bs.length+1-(p3+1)) (p3+1):=⟨_,rfl⟩
     have hat4:=q58 HL.out hqe hits;rw[←hp4] at hat4 cS3;have HP4:Hid (p3+1≤p4):=by
      show _≤_;rw[hp4];rcases q0r HL.out (bs.length+1-(p3+1)) (p3+1) hqe with ⟨q',_,h2,_,h4,_⟩|⟨q',_,h2,h3,_⟩
      ·rw[h2];exact h4
      rw[h2];have:=hqe.2;omega
     have HAT4:=qaa hat4;clear hh h93 h44 hqe hce cS cH cB cB2 hits hp4 hat4
     go_wp2_with (first
      |(go_at_call 113;refine ckB (cH2 _) HX7.out.next ?_;clear cH2 c0 c1 c2 c3 k0 k4;intro w8 hB8 HX8;have HKD8:=qaa (HKD7.out.next hB8.size (fun j _ hj=>hB8.block j hj));obtain⟨c0,c1,c2,c3⟩:=qyf HX8.out.box;have k0:=T9;have k4:=T9)
      |(go_at_call 69;refine ckB (cS3 _) HX8.out.next ?_;clear cS3 c0 c1 c2 c3 k0 k4;intro w9 hB9 HX9;have HKD9:=qaa (HKD8.out.next hB9.size (fun j _ hj=>hB9.block j hj));obtain⟨c0,c1,c2,c3⟩:=qyf HX9.out.box;have k0:=T9;have k4:=T9))
     go_roundg (g'+1)
     case measure=>omega
     case rel=>exact⟨p4,ds++[dd],_,_,_,rfl,by show _≤_;have:=hg.out;have:=HP4.out;omega,HAT4,by show _≤_;rw[List.length_append];have:=hdl.out;have:=HP4.out;simp;omega,HX9,HKD9⟩
    have t93:((ce.toNat:Int)==93)=false:=by simp;omega
    have n93:((ce.toNat:Int) != 93)=true:=by simp;omega
    have n44:((ce.toNat:Int) != 44)=true:=by simp;omega
    have HE:=qaa hRE;generalize qr0 bs l p3 9=xx at *;clear hh h93 h44 hRE hce cS cH cB
    go_wp2_with (first
     |(go_at_call 113;refine ckB (cH2 _) HX7.out.next ?_;clear cH2 c0 c1 c2 c3 k0 k4;intro w8 hB8 HX8;have HKD8:=qaa (HKD7.out.next hB8.size (fun j _ hj=>hB8.block j hj));obtain⟨c0,c1,c2,c3⟩:=qyf HX8.out.box;have k0:=T9;have k4:=T9)
     |(go_at_call 71;refine ckB (cB2 _) HX8.out.next ?_;clear cB2 c0 c1 c2 c3 k0 k4;intro w9 hB9 HX9;have HKD9:=qaa (HKD8.out.next hB9.size (fun j _ hj=>hB9.block j hj));obtain⟨c0,c1,c2,c3⟩:=qyf HX9.out.box;have k0:=T9;have k4:=T9)
     |((with_reducible refine zT 6 101 rfl rfl (W.heap.size+1) (th0) ?_ ?_);exact⟨rfl,rfl,HX9.out.th,thg⟩)
     |((with_reducible refine zF 8 104 rfl rfl (W.heap.size+2) (xx) ?_ ?_);exact⟨rfl,rfl,qyc HX9.out.rth bwR _⟩))
    have hf:=qxQ HX9.out.rth bwR (th0) (xx);refine eoT results172 hf (.int .i64 0) rfl rfl rfl rfl ⟨hf.2.2,?_⟩;exact⟨.error (xx),.inl (by rw[HE.out];rfl),_,_,_,_,_,_,_,_,_,_,rfl⟩
end
end Go.Proofs.YtllcbnfmihfaaaaGreatDoor
