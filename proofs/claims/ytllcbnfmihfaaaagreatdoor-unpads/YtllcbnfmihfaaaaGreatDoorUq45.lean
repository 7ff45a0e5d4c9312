import Derived.Test.YtllcbnfmihfaaaaGreatDoorUq44
set_option maxRecDepth 100000
set_option maxHeartbeats 8000000
namespace Go.Proofs.YtllcbnfmihfaaaaGreatDoor
open Go.Proofs.Tryz
section
open Go.RowKit Go.Lib
theorem qjN (k:Nat)(W:World)(bs:List UInt8)(fm d l lim:Int)(q0 x:Nat)(n:Int)(o:Bool)(dp:Int)(hn:n=min (x:Int) 9223372036854775807)(hl:Lm bs l lim)(hi:InR bs lim q0)(hb:bs.length≤200000000)(hd0:0≤dp)(hd1:dp≤100000)(rd:Nat→Except (Int×Int) (DataW Unit×Nat))(hbad:∀p,Bad (rd p))(hgo:∀p x q,rd p=.ok (x,q)→p<q)(cJ:∀V (p:Nat),InR bs lim p→Calls prog 116 #[.agg (inA bs fm d l),.int .i64 p,.int .i64 (dp+1)] V (qaK k bs lim V (rd p))):Calls prog 177 #[.agg (inA bs fm d l),.agg (hdC 6 n (q0:Int) o),.int .i64 dp] W (qaK (k+1) bs lim W (liR (qaE rd x q0 []))):=by
 obtain⟨ti,hti,ht0,ht1,ht2⟩:=info_parts Tryz.infoThR
 obtain⟨R,HR⟩:∃R,Hid (qaE rd x q0 []=R):=⟨_,show _=_ from rfl⟩
 rw[HR.out]
 have HL:Hid (Lm bs l lim):=hl
 have HI:Hid (InR bs lim q0):=hi
 have HN:Hid (n=min (x:Int) 9223372036854775807):=hn
 have HCJ:Hid (∀V (p:Nat),InR bs lim p→Calls prog 116 #[.agg #[.string ⟨bs.toArray⟩,.int .i64 fm,.int .i64 d,.int .i64 l],.int .i64 p,.int .i64 (dp+1)] V (qaK k bs lim V (rd p))):=cJ
 have HGO:Hid (∀p x q,rd p=.ok (x,q)→p<q):=hgo
 have HBAD:Hid (∀p,Bad (rd p)):=hbad
 clear hl hi cJ hgo hbad hn
 unfold inA hdC
 go_enter func177,ntmps177
 go_wp2_with (first
  |((with_reducible refine zT 9 22 rfl rfl (W.heap.size+4) (thA 6 0 ⟨#[]⟩ qaf qaf) ?_ ?_);exact⟨rfl,rfl,(qiM W _ _).tv,thg⟩;refine nmd ?_;intro V0 EV0;have HX:Hid (qbS W (inA bs fm d l) (hdC 6 n (q0:Int) o) (thA 6 0 ⟨#[]⟩ qaf qaf) V0):=EV0▸(qiM W _ _).row _;clear EV0;obtain⟨c0,c1,c2,c3⟩:=qa3 HX.out.box;have d0:V0.cell? ⟨W.heap.size+1,0,none⟩=some (.int .i64 6):=qaa HX.out.hd 0;have d1:V0.cell? ⟨W.heap.size+1,1,none⟩=some (.int .i64 n):=qaa HX.out.hd 1;have d2:V0.cell? ⟨W.heap.size+1,2,none⟩=some (.int .i64 (q0:Int)):=qaa HX.out.hd 2))
 go_loopg [10,11] (bs.length+1-q0) (fun g z10 z11 wr=>∃(p kj:Nat) (ds:List (DataW Unit)) (ua:Option Addr) (un uc:Nat),z10=.int .i64 p∧z11=.int .i64 kj∧Hid (bs.length+1≤p+g)∧Hid (InR bs lim p)∧Hid (kj≤p∧kj≤x)∧Hid (ds.length=kj)∧Hid (qaE rd (x-kj) p ds=R)∧Hid (qbS W (inA bs fm d l) (hdC 6 n (q0:Int) o) (thA 6 0 ⟨#[]⟩ qaf (.slice ua un uc)) wr)∧Hid (qbh k wr (W.heap.size+5) (.slice ua un uc) (fun _=>False) ds))
 case atStart=>exact⟨q0,0,[],none,0,0,rfl,rfl,by show _≤_;omega,HI,⟨Nat.zero_le _,Nat.zero_le _⟩,rfl,HR,HX,qdq _ _ _ _⟩
 case round =>
  clear HR HX HI c0 c1 c2 c3 d0 d1 d2
  obtain⟨p,kj,ds,ua,un,uc,rfl,rfl,hg,HI,HK,HDS,HR,HX,HKD⟩:=hrel
  have hp0:=HI.out.1
  have hkp:=HK.out.1
  have hwr:=HX.out.size
  obtain⟨c0,c1,c2,c3⟩:=qa3 HX.out.box
  have d0:wr.cell? ⟨W.heap.size+1,0,none⟩=some (.int .i64 6):=qaa HX.out.hd 0
  have d1:wr.cell? ⟨W.heap.size+1,1,none⟩=some (.int .i64 n):=qaa HX.out.hd 1
  have d2:wr.cell? ⟨W.heap.size+1,2,none⟩=some (.int .i64 (q0:Int)):=qaa HX.out.hd 2
  by_cases hkx:kj=x
  ·have hlt:¬(kj:Int)<n:=by have:=HN.out;omega
   have HE:Hid (R=.ok (ds,p)):=by
    show _=_
    rw[←HR.out,hkx,Nat.sub_self]
    rfl
   clear HR hg
   go_wp2_with (first
    |((with_reducible refine wpList_load_row rfl 93 (.tmp 9) rfl (W.heap.size+4) ?hx 93 (#[.int .i64 6,.int .i64 0,.string ⟨#[]⟩,.slice none 0 0,.slice ua un uc]) (0,0) _ ?hg underlying93 rfl ?hi ?_);(case hx=>exact rfl);(case hg=>exact HX.out.tv);(case hi=>exact qcw))
    |((with_reducible refine zT 6 111 rfl rfl (W.heap.size+2) (thA 6 0 ⟨#[]⟩ qaf (.slice ua un uc)) ?_ ?_);exact⟨rfl,rfl,HX.out.th,thg⟩)
    |((with_reducible refine zF 8 113 rfl rfl (W.heap.size+3) (0,0) ?_ ?_);exact⟨rfl,rfl,sx (by omega) HX.out.flt⟩))
   have hf:=HX.out.fin (thA 6 0 ⟨#[]⟩ qaf (.slice ua un uc)) (0,0)
   refine eoT results177 hf (.int .i64 p) rfl rfl rfl rfl ⟨hf.2.2,?_⟩
   rw[HE.out]
   exact⟨HI.out,_,_,_,_,_,_,_,_,_,rfl,(HKD.out.next (by simp) (fun j hj1 hj2=>by rw[setRow_other _ _ _ _ (by omega),setRow_other _ _ _ _ (by omega)])).list (by omega)⟩
  ·have hkx2:kj<x:=by have:=HK.out.2;omega
   have hlt:(kj:Int)<n:=by have:=HN.out;omega
   have t7:((6:Int)==7)=false:=rfl
   go_wp2_with fail
   refine(HCJ.out _ p HI.out).mono ?_
   clear c0 c1 c2 c3 d0 d1 d2
   rintro e w2 ⟨hB2,he⟩
   have HX4:=qac (HX.out.next hB2)
   have HKD4:=qac (HKD.out.next hB2.size (fun j _ hj=>hB2.block j hj))
   have hs2:=hB2.size
   have hwi:=HX.out.size
   cases hr:rd p with
   |error f =>
    rw[hr] at he
    obtain⟨kk,nn,s,a1,i1,j1,b1,q1,m1,z,rfl⟩:=he
    have hne:(f.1==0)=false:=by
     have:=HBAD.out p f.1 f.2 hr
     simpa using this
    have HE:Hid (R=.error f):=by
     show _=_
     rw[←HR.out,show x-kj=(x-kj-1)+1 by omega,qaE,hr]
    clear HR hr
    simp only[]
    go_wp2_with (first
     |((with_reducible refine zT 17 96 rfl rfl (w2.heap.size) (thA kk nn s (.slice a1 i1 j1) (.slice b1 q1 m1)) ?_ ?_);exact⟨rfl,rfl,(qak w2 _ _).1,thg⟩)
     |((with_reducible refine zF 19 98 rfl rfl (w2.heap.size+1) (f) ?_ ?_);exact⟨rfl,rfl,sx (by omega) (qak w2 _ _).2⟩;refine nmd ?_;intro V5 EV5;have HX5:Hid (qbS W (inA bs fm d l) (hdC 6 n (q0:Int) o) (thA 6 0 ⟨#[]⟩ qaf (.slice ua un uc)) V5):=EV5▸HX4.out.next (qar _ _ _ _ _);have HF5:Hid (V5.heap[w2.heap.size+1]? = some (.cells (qae (f)) 95)):=EV5▸qci;clear EV5;obtain⟨c0,c1,c2,c3⟩:=qa3 HX5.out.box;have u0:V5.cell? ⟨w2.heap.size+1,0,none⟩=some (.int .i64 (f.1)):=qaa HF5.out 0))
    refine rgn (S:=fun Z=>Z.heap[w2.heap.size+1]? = some (.cells (qae f) 95)) (HF5.out) (by kernel_rfl) ?_
    intro hS
    refine tk 1 103 (.agg (qae f)) rfl (by kernel_rfl) iQ3 (fun Z hZ=>yF 19 hZ rfl rfl) hS ?_
    refine tk 0 102 (.agg th0) rfl (by kernel_rfl) iQ3 (fun Z hZ => ?y0) hS ?_
    case y0=>(unfold th0 thA qaf;go_simp)
    have hS3:=(setRow_other _ (W.heap.size+2) (w2.heap.size+1) th0 (by omega)).trans hS
    refine sTh 2 6 102 (W.heap.size+2) (th0) (by kernel_rfl) (HX5.out.drew.th) thg (hS3) ?_
    refine tkk 3 7 (.int .i64 0) (by kernel_rfl) iQ3 hS3 ?_
    refine sF 4 8 103 (W.heap.size+3) f (by kernel_rfl) (sx (by omega) HX5.out.drew.flt) (sx (by omega) hS3) ?_
    refine wpAnyH_done (by kernel_rfl) ?_ _
    go_simp
    go_wp2
    have hf:=HX5.out.drew.fin (th0) (f)
    refine eoT results177 hf (.int .i64 0) rfl rfl rfl rfl ⟨hf.2.2,?_⟩
    rw[HE.out]
    exact⟨_,_,_,_,_,_,_,_,_,_,rfl⟩
   |ok y =>
    obtain⟨dd,pq⟩:=y
    rw[hr] at he
    obtain⟨hqi,kk,nn,s,a1,i1,j1,b1,q1,m1,rfl,hA⟩:=he
    have HQI:Hid (InR bs lim pq):=hqi
    have HA:Hid (qbD k w2 (fun j=>wr.heap.size≤j∧j<w2.heap.size) (.agg #[.int .i64 kk,.int .i64 nn,.string s,.slice a1 i1 j1,.slice b1 q1 m1]) dd):=hA
    have hpq:=HGO.out p dd pq hr
    have hqb:=hqi.1
    have HUL:Hid (∀g,(Value.slice ua un uc).ownBlock=some g→g<wr.heap.size):=by
     obtain⟨xs,ho,_⟩:=HKD.out
     exact fun g e=>qb9 ho e
    have HR2:Hid (qaE rd (x-(kj+1)) pq (ds++[dd])=R):=by
     show _=_
     rw[←HR.out]
     conv=>rhs;rw[show x-kj=(x-(kj+1))+1 by omega,qaE,hr]
    clear HR hr hA hqi
    simp only[]
    go_wp2_with (first
     |((with_reducible refine zT 17 96 rfl rfl (w2.heap.size) (thA kk nn s (.slice a1 i1 j1) (.slice b1 q1 m1)) ?_ ?_);exact⟨rfl,rfl,(qak w2 _ _).1,thg⟩)
     |((with_reducible refine zF 19 98 rfl rfl (w2.heap.size+1) (0,0) ?_ ?_);exact⟨rfl,rfl,sx (by omega) (qak w2 _ _).2⟩;have HX5:Hid (qbS W (inA bs fm d l) (hdC 6 n (q0:Int) o) (thA 6 0 ⟨#[]⟩ qaf (.slice ua un uc)) ((((w2.alloc (.cells #[.int .i64 0,.int .i64 0,.string ⟨#[]⟩,.slice none 0 0,.slice none 0 0] 93)).alloc (.cells #[.int .i64 0,.int .i64 0] 95)).setRow w2.heap.size (thA kk nn s (.slice a1 i1 j1) (.slice b1 q1 m1))).setRow (w2.heap.size+1) (qae (0,0)))):=HX4.out.next (qar _ _ _ _ _);have HF5:Hid (((((w2.alloc (.cells #[.int .i64 0,.int .i64 0,.string ⟨#[]⟩,.slice none 0 0,.slice none 0 0] 93)).alloc (.cells #[.int .i64 0,.int .i64 0] 95)).setRow w2.heap.size (thA kk nn s (.slice a1 i1 j1) (.slice b1 q1 m1))).setRow (w2.heap.size+1) (qae (0,0))).heap[w2.heap.size+1]? = some (.cells (qae (0,0)) 95)):=setRow_heap _ _ _ _ _ _ (sx (by omega) (qak w2 _ _).2);have HT5:Hid (((((w2.alloc (.cells #[.int .i64 0,.int .i64 0,.string ⟨#[]⟩,.slice none 0 0,.slice none 0 0] 93)).alloc (.cells #[.int .i64 0,.int .i64 0] 95)).setRow w2.heap.size (thA kk nn s (.slice a1 i1 j1) (.slice b1 q1 m1))).setRow (w2.heap.size+1) (qae (0,0))).heap[w2.heap.size]? = some (.cells #[.int .i64 kk,.int .i64 nn,.string s,.slice a1 i1 j1,.slice b1 q1 m1] 93)):=sx (by omega) (setRow_heap _ _ _ _ _ _ (qak w2 _ _).1);have HKD5:Hid (qbh k ((((w2.alloc (.cells #[.int .i64 0,.int .i64 0,.string ⟨#[]⟩,.slice none 0 0,.slice none 0 0] 93)).alloc (.cells #[.int .i64 0,.int .i64 0] 95)).setRow w2.heap.size (thA kk nn s (.slice a1 i1 j1) (.slice b1 q1 m1))).setRow (w2.heap.size+1) (qae (0,0))) (W.heap.size+5) (.slice ua un uc) (fun _=>False) ds):=HKD4.out.next (qar w2 _ _ _ _).size (fun j _ hj=>(qar w2 _ _ _ _).block j hj);have HA5:Hid (qbD k ((((w2.alloc (.cells #[.int .i64 0,.int .i64 0,.string ⟨#[]⟩,.slice none 0 0,.slice none 0 0] 93)).alloc (.cells #[.int .i64 0,.int .i64 0] 95)).setRow w2.heap.size (thA kk nn s (.slice a1 i1 j1) (.slice b1 q1 m1))).setRow (w2.heap.size+1) (qae (0,0))) (fun j=>wr.heap.size≤j∧j<((((w2.alloc (.cells #[.int .i64 0,.int .i64 0,.string ⟨#[]⟩,.slice none 0 0,.slice none 0 0] 93)).alloc (.cells #[.int .i64 0,.int .i64 0] 95)).setRow w2.heap.size (thA kk nn s (.slice a1 i1 j1) (.slice b1 q1 m1))).setRow (w2.heap.size+1) (qae (0,0))).heap.size) (.agg #[.int .i64 kk,.int .i64 nn,.string s,.slice a1 i1 j1,.slice b1 q1 m1]) dd):=HA.out.same (fun j hj=>⟨hj.1,Nat.lt_of_lt_of_le hj.2 (qar w2 _ _ _ _).size⟩) (fun j hj=>(qar w2 _ _ _ _).block j hj.2);have k4:((((w2.alloc (.cells #[.int .i64 0,.int .i64 0,.string ⟨#[]⟩,.slice none 0 0,.slice none 0 0] 93)).alloc (.cells #[.int .i64 0,.int .i64 0] 95)).setRow w2.heap.size (thA kk nn s (.slice a1 i1 j1) (.slice b1 q1 m1))).setRow (w2.heap.size+1) (qae (0,0))).cell? ⟨W.heap.size+1+1+1+1,4,none⟩=some (.slice ua un uc):=qaa HX5.out.tv 4;generalize (((w2.alloc (.cells #[.int .i64 0,.int .i64 0,.string ⟨#[]⟩,.slice none 0 0,.slice none 0 0] 93)).alloc (.cells #[.int .i64 0,.int .i64 0] 95)).setRow w2.heap.size (thA kk nn s (.slice a1 i1 j1) (.slice b1 q1 m1))).setRow (w2.heap.size+1) (qae (0,0))=V5 at *;obtain⟨c0,c1,c2,c3⟩:=qa3 HX5.out.box;have u0:V5.cell? ⟨w2.heap.size+1,0,none⟩=some (.int .i64 (0)):=qaa HF5.out 0)
     |((with_reducible refine wpList_load_row rfl 93 (.tmp 17) rfl (w2.heap.size) ?hx 93 (#[.int .i64 kk,.int .i64 nn,.string s,.slice a1 i1 j1,.slice b1 q1 m1]) (0,0) _ ?hg underlying93 rfl ?hi ?_);(case hx=>exact rfl);(case hg=>exact HT5.out);(case hi=>exact qcw);obtain⟨xs,ho,hch⟩:=HKD5.out;have HO:Hid (V5.ownsRow (W.heap.size+5) 93 5 (.slice ua un uc) ds.length xs):=ho;have HCH:Hid (∀(i:Nat) (d:DataW Unit),ds[i]? = some d→∃a,qh2 xs i a∧qbD k V5 (fun j=>(W.heap.size+5)≤j∧j<V5.heap.size∧some j≠(Value.slice ua un uc).ownBlock∧¬False) (.agg a) d):=hch;clear ho hch)
     |(at_builtin;(refine qag _ rfl _ _ 91 rfl (W.heap.size+5) 93 ti (.agg th0) 5 80 underlying91 hti ht0 ht1 ht2 rfl (by decide) _ _ _ rfl (HO.out.alloc _) ⟨V5.heap.size,0,none⟩ 1 1 [.int .i64 kk,.int .i64 nn,.string s,.slice a1 i1 j1,.slice b1 q1 m1] rfl rfl (qa4 _ _ _) (qdl _ _ _ _ _ _ _ _ _) (by decide) (by have:=HDS.out;unfold maxLen;omega) (by have:=HDS.out;omega) (by have:=HX5.out.size;simp;omega) ?_);intro v' w5 hown' hgrow5 hw5;obtain⟨g5,cap5,rfl⟩:=ownsRow_succ hown';have HX6:Hid (qbS W (inA bs fm d l) (hdC 6 n (q0:Int) o) (thA 6 0 ⟨#[]⟩ qaf (.slice ua un uc)) w5):=HX5.out.grow (fun g e=>qaQ HO.out e) hgrow5;have HKD6:Hid (qbh k w5 (W.heap.size+5) (.slice (some ⟨g5,0,none⟩) (ds.length+1) cap5) (fun _=>False) (ds++[dd])):=qbh.push (L:=wr.heap.size) HO.out HCH.out HA5.out (fun g e=>HUL.out g e) (by omega) (fun _ _ h=>h) rfl hown' hgrow5 hw5;clear hown' hgrow5 hw5 c0 c1 c2 c3 k4 u0;have k4:w5.cell? ⟨W.heap.size+1+1+1+1,4,none⟩=some (.slice ua un uc):=qaa HX6.out.tv 4;have f4:w5.frozen? ⟨W.heap.size+1+1+1+1,4,none⟩=false:=frozen_of_row w5 (W.heap.size+4) 4 _ _ HX6.out.tv))
    have HX7:Hid (qbS W (inA bs fm d l) (hdC 6 n (q0:Int) o) (thA 6 0 ⟨#[]⟩ qaf (.slice (some ⟨g5,0,none⟩) (ds.length+1) cap5)) (w5.setCell ⟨W.heap.size+1+1+1+1,4,none⟩ (.slice (some ⟨g5,0,none⟩) (ds.length+1) cap5))):=(HX6.out.cell _).2
    have HKD7:Hid (qbh k (w5.setCell ⟨W.heap.size+1+1+1+1,4,none⟩ (.slice (some ⟨g5,0,none⟩) (ds.length+1) cap5)) (W.heap.size+5) (.slice (some ⟨g5,0,none⟩) (ds.length+1) cap5) (fun _=>False) (ds++[dd])):=HKD6.out.next (by simp[World.setCell]) (fun j hj1 hj2=>heap_setCell_other w5 _ _ _ (by simp;omega))
    go_roundg (gk-(pq-p))
    case measure=>have:=hg.out;omega
    case rel=>exact⟨pq,kj+1,ds++[dd],_,_,_,rfl,by go_num,by show _≤_;have:=hg.out;omega,HQI,⟨by omega,by omega⟩,by show _=_;rw[List.length_append];have:=HDS.out;simp;omega,HR2,HX7,HKD7⟩
theorem qfp (k:Nat)(W:World)(bs:List UInt8)(fm d l lim:Int)(i:Nat)(dp:Int)(c:UInt8)(hc:bs[i]? = some c)(hv:c.toNat=123)(hp:¬(i:Int)=lim)(hl:Lm bs l lim)(hi:InR bs lim i)(hb:bs.length≤200000000)(hd0:0≤dp)(hd1:dp<d)(hd2:d≤100000)(rd:Nat→Except (Int×Int) (DataW Unit×Nat))(hbad:∀p,Bad (rd p))(hlm:∀p:Nat,(p:Int)=lim→p<bs.length→rd p=.error (8,(p:Int)))(hgo:∀p x q,rd p=.ok (x,q)→p<q)(cJ:∀V (p:Nat),InR bs lim p→Calls prog 115 #[.agg (inA bs fm d l),.int .i64 p,.int .i64 (dp+1)] V (qa5 k bs lim V (rd p))):Calls prog 172 #[.agg (inA bs fm d l),.int .i64 i,.int .i64 dp] W (qa5 (k+1) bs lim W (maR (qdg bs lim (enJ bs lim rd) 125 (i+1) ([],[])))):=by
 obtain⟨R,HR⟩:∃R,Hid (qdg bs lim (enJ bs lim rd) 125 (i+1) ([],[])=R):=⟨_,show _=_ from rfl⟩
 rw[HR.out]
 have hil:=ltL hc
 have hix:=qah bs i c hc
 have t123:((c.toNat:Int)==123)=true:=by rw[hv];rfl
 have hin:=qav hi hc hp
 have HL:Hid (Lm bs l lim):=hl
 have cH:=qdb bs fm d l
 have cB:=qdu bs fm d l
 have cS:∀V (p:Nat),p≤bs.length→Calls prog 69 #[.agg #[.string ⟨bs.toArray⟩,.int .i64 fm,.int .i64 d,.int .i64 l],.int .i64 p] V fun e W'=>e=.returned (.int .i64 (skR bs l (bs.length+1-p) p))∧Below V.heap.size V W':=fun V p hp=>qdv V bs fm d l p hb hp
 have HCJ:Hid (∀V (p:Nat),InR bs lim p→Calls prog 115 #[.agg #[.string ⟨bs.toArray⟩,.int .i64 fm,.int .i64 d,.int .i64 l],.int .i64 p,.int .i64 (dp+1)] V (qa5 k bs lim V (rd p))):=cJ
 have HGO:Hid (∀p x q,rd p=.ok (x,q)→p<q):=hgo
 have HBAD:Hid (∀p,Bad (rd p)):=hbad
 have HLM:Hid (∀p:Nat,(p:Int)=lim→p<bs.length→rd p=.error (8,(p:Int))):=hlm
 have cS1:=fun V=>cS V (i+1) (by omega)
 obtain⟨p1,hp1⟩:∃p1,p1=skR bs l (bs.length+1-(i+1)) (i+1):=⟨_,rfl⟩
 obtain⟨hp1i,hst⟩:=qfa hl hin hp1 HR.out
 rw[←hp1] at cS1
 have hp1l:=hp1i.1
 have cH1:=fun V=>cH V p1
 have hdf:decide (d≤dp)=false:=by simp;omega
 clear hc hv hp hl hi hin cJ hgo hbad hlm hp1 HR
 rcases hst with ⟨ce,hce,hh,he,hRe,hqi⟩|⟨hno,hat⟩
 ·rw[hh] at cH1
  have hixe:=fun V=>qah bs p1 ce hce V
  have t93:((ce.toNat:Int)==125)=true:=by rw[he];rfl
  have HRE:Hid (R=.ok (([],[]),p1+1)):=hRe
  have HQI:Hid (InR bs lim (p1+1)):=hqi
  have hpl2:=ltL hce
  clear hce hh he hRe hqi cH cB cS HCJ HGO hp1i
  unfold inA
  go_enter func172,ntmps172
  go_wp2_with (first
   |(go_at_call 69;have HXs:Hid (qcr W (inA bs fm d l) (thA 7 0 ⟨#[]⟩ qaf qaf) (V0.setCell ⟨W.heap.size+1+1+1,0,none⟩ (.int .i64 7))):=qkL HX.out 7;refine ck4 (cS1 _) HXs.out.next (fun _ h=>h.box) ?_;clear cS1 c0 c1 c2 c3 k0 f0;intro w2 HX2 c0 c1 c2 c3)
   |(go_at_call 113;refine ck4 (cH1 _) HX2.out.next (fun _ h=>h.box) ?_;clear cH1 c0 c1 c2 c3;intro w3 HX3 c0 c1 c2 c3)
   |((with_reducible refine zT 9 21 rfl rfl (W.heap.size+3) (thA 6 0 ⟨#[]⟩ qaf qaf) ?_ ?_);exact⟨rfl,rfl,qi8 W _,thg⟩;refine nmd ?_;intro V0 EV0;have HX:Hid (qcr W (inA bs fm d l) (thA 6 0 ⟨#[]⟩ qaf qaf) V0):=EV0▸qiU W _ _;clear EV0;obtain⟨c0,c1,c2,c3⟩:=qa3 HX.out.box;have k0:V0.cell? ⟨W.heap.size+1+1+1,0,none⟩=some (.int .i64 6):=qaa HX.out.tv 0;have f0:V0.frozen? ⟨W.heap.size+1+1+1,0,none⟩=false:=frozen_of_row V0 (W.heap.size+3) 0 _ _ HX.out.tv)
   |((with_reducible refine wpList_load_row rfl 93 (.tmp 9) rfl (W.heap.size+3) ?hx 93 (thA 7 0 ⟨#[]⟩ qaf qaf) (0,0) _ ?hg underlying93 rfl ?hi ?_);(case hx=>exact rfl);(case hg=>exact HX3.out.tv);(case hi=>exact qcx _ _ _ _ _))
   |((with_reducible refine zT 6 43 rfl rfl (W.heap.size+1) (thA 7 0 ⟨#[]⟩ qaf qaf) ?_ ?_);exact⟨rfl,rfl,HX3.out.th,thg⟩)
   |((with_reducible refine zF 8 46 rfl rfl (W.heap.size+2) (0,0) ?_ ?_);exact⟨rfl,rfl,qan HX3.out.rth bwR _⟩))
  have hf:=qao HX3.out.rth bwR (thA 7 0 ⟨#[]⟩ qaf qaf) (0,0)
  refine eoT results172 hf (.int .i64 ((p1:Int)+1)) rfl rfl rfl rfl ⟨hf.2.2,?_⟩
  exact⟨.ok (.map [],p1+1),.inl (by rw[HRE.out];rfl),HQI.out,_,_,_,_,_,_,_,_,_,rfl,(qmO k _ (W.heap.size) (fun _=>False)).map (Nat.le_refl _)⟩
 ·have HAT:Hid (qd2 bs lim (enJ bs lim rd) 125 (bs.length+1-p1) p1 ([],[]) R):=hat
  have hno2:(qaz bs l p1=false)∨(∃c,bs[p1]? = some c∧qaz bs l p1=true∧((c.toNat:Int)==125)=false):=by
   rcases hno with h|⟨c,h1,h2,h3⟩
   ·exact .inl h
   ·exact .inr ⟨c,h1,h2,by simp;omega⟩
  clear hno hat
  rcases hno2 with hno|⟨ce,hce,hh,t93⟩
  focus
   rw[hno] at cH1
   clear hno
  rotate_left
  focus
   rw[hh] at cH1
   have hixs:=fun V=>qah bs p1 ce hce V
   have hpls:=ltL hce
   clear hh hce
  all_goals
   unfold inA
   go_enter func172,ntmps172
   go_wp2_with (first
    |(go_at_call 69;have HXs:Hid (qcr W (inA bs fm d l) (thA 7 0 ⟨#[]⟩ qaf qaf) (V0.setCell ⟨W.heap.size+1+1+1,0,none⟩ (.int .i64 7))):=qkL HX.out 7;refine ckB (cS1 _) HXs.out.next ?_;clear cS1 c0 c1 c2 c3 k0 f0;intro w2 hB2 HX2;obtain⟨c0,c1,c2,c3⟩:=qa3 HX2.out.box)
    |(go_at_call 113;refine ckB (cH1 _) HX2.out.next ?_;clear cH1 c0 c1 c2 c3;intro w3 hB3 HX3;obtain⟨c0,c1,c2,c3⟩:=qa3 HX3.out.box)
    |((with_reducible refine zT 9 21 rfl rfl (W.heap.size+3) (thA 6 0 ⟨#[]⟩ qaf qaf) ?_ ?_);exact⟨rfl,rfl,qi8 W _,thg⟩;refine nmd ?_;intro V0 EV0;have HX:Hid (qcr W (inA bs fm d l) (thA 6 0 ⟨#[]⟩ qaf qaf) V0):=EV0▸qiU W _ _;clear EV0;obtain⟨c0,c1,c2,c3⟩:=qa3 HX.out.box;have k0:V0.cell? ⟨W.heap.size+1+1+1,0,none⟩=some (.int .i64 6):=qaa HX.out.tv 0;have f0:V0.frozen? ⟨W.heap.size+1+1+1,0,none⟩=false:=frozen_of_row V0 (W.heap.size+3) 0 _ _ HX.out.tv))
   go_loopg [1] (bs.length+1-p1) (fun g z wr=>∃(p:Nat) (kl:List (List UInt8)) (ds:List (DataW Unit)) (ka:Option Addr) (kn kc:Nat) (ua:Option Addr) (un uc:Nat),z=.int .i64 p∧Hid (bs.length+1≤p+g)∧Hid (qd2 bs lim (enJ bs lim rd) 125 g p (kl.reverse,esZ kl ds) R)∧Hid (kl.length≤p)∧Hid (qcr W (inA bs fm d l) (thA 7 0 ⟨#[]⟩ (.slice ka kn kc) (.slice ua un uc)) wr)∧Hid (qdz k wr (W.heap.size+4) (.slice ka kn kc) (.slice ua un uc) (fun _=>False) kl ds))
   case atStart=>exact⟨p1,[],[],none,0,0,none,0,0,rfl,by show _≤_;omega,HAT,Nat.zero_le _,HX3,qmO _ _ _ _⟩
   case round =>
    clear HAT HX HX2 HX3 hB2 hB3 c0 c1 c2 c3
    obtain⟨p,kl,ds,ka,kn,kc,ua,un,uc,rfl,hg,HAT,hdl,HX,HMP⟩:=hrel
    have hp0:p≤bs.length:=HAT.out.1.1
    have hwr:=HX.out.size
    obtain⟨c0,c1,c2,c3⟩:=qa3 HX.out.box
    have k0:wr.cell? ⟨W.heap.size+1+1+1,0,none⟩=some (.int .i64 7):=qaa HX.out.tv 0
    have n0:W.heap.size+1+1+1<wr.heap.size:=by omega
    have n2:W.heap.size+3<wr.heap.size:=by omega
    have n1:W.heap.size<wr.heap.size:=by omega
    go_wp2_with (first
     |((with_reducible refine wpList_load_row rfl 93 (.tmp 9) rfl (W.heap.size+3) ?hx 93 (#[.int .i64 7,.int .i64 0,.string ⟨#[]⟩,.slice ka kn kc,.slice ua un uc]) (0,0) _ ?hg underlying93 rfl ?hi ?_);(case hx=>exact rfl);(case hg=>exact(Below.heap_alloc _ _ _ (by omega)).trans HX.out.tv);(case hi=>exact qcw)))
    have HMw:Hid (qdz k (wr.alloc (.cells (qae (0,0)) 95)) (W.heap.size+4) (.slice ka kn kc) (.slice ua un uc) (fun j=>j=wr.heap.size) kl ds):=(HMP.out.other (ex':=fun j=>j=wr.heap.size) (fun j h=>.inr (Nat.le_of_eq h.symm))).next (by simp) (fun j _ hj _=>Below.heap_alloc _ _ _ hj)
    refine(qkB k _ bs fm d l lim p dp (W.heap.size+4) ka ua kn kc un uc (fun j=>j=wr.heap.size) kl ds HL.out HAT.out.1 hb HMw.out (by have:=hdl.out;omega) rd HLM.out (by simp;omega) (fun j h=>by subst h;simp) hd0 (by omega) HCJ.out).mono ?_
    clear c0 c1 c2 c3 k0 n0 n1 n2
    rintro e w2 ⟨hT2,r',hlo,he⟩
    have hs2:wr.heap.size+1≤w2.heap.size:=by have:=hT2.size;simp only[World.size_alloc] at this;omega
    have HKL:Hid (∀g,(Value.slice ka kn kc).ownBlock=some g→W.heap.size+4≤g∧g<wr.heap.size):=fun g e=>⟨qaQ HMP.out.keys e,qb9 HMP.out.keys e⟩
    have HUL:Hid (∀g,(Value.slice ua un uc).ownBlock=some g→W.heap.size+4≤g∧g<wr.heap.size):=by
     obtain⟨xs,ho,_⟩:=HMP.out.kids
     exact fun g e=>⟨qaQ ho e,qb9 ho e⟩
    have HC2:Hid (qcr W (inA bs fm d l) (thA 7 0 ⟨#[]⟩ (.slice ka kn kc) (.slice ua un uc)) w2):=qnO (HX.out.next bwA) hT2 (fun g e=>(HKL.out g e).1) (fun g e=>(HUL.out g e).1)
    have HF:Hid (w2.heap[wr.heap.size]? = some (.cells (qae (0,0)) 95)):=(hT2.block _ (by simp) (fun e=>by have:=(HKL.out _ e.symm).2;omega) (fun e=>by have:=(HUL.out _ e.symm).2;omega)).trans (qab _ _)
    have HLO:Hid (qaZ bs lim (enJ bs lim rd (kl.reverse,esZ kl ds) p) r'):=hlo
    have HLN:Hid (kl.length=ds.length):=HMP.out.len
    clear hlo hT2 HKL HUL HMw HX HMP
    cases r' with
    |error f =>
     obtain⟨kd,nn,s,a1,i1,j1,b1,q1,m1,z,rfl⟩:=he
     have hne:(f.1==0)=false:=by
      have:=qgu HLO.out (qkF HBAD.out _ p) f.1 f.2 rfl
      simpa using this
     simp only[]
     go_wp2_with (first
      |((with_reducible refine wpList_store_row rfl 93 (.tmp 9) (.tmp 56) rfl (W.heap.size+3) (thA kd nn s (.slice a1 i1 j1) (.slice b1 q1 m1)) ?hx ?hy 93 (thA 7 0 ⟨#[]⟩ (.slice ka kn kc) (.slice ua un uc)) ?hg ?hi ?hs ?h1 ?_);(case hx=>exact rfl);(case hy=>exact rfl);(case hg=>exact HC2.out.tv);(case hi=>exact qcx _ _ _ _ _);(case hs=>exact rfl);(case h1=>exact qhR _ _ _ _ _ _ _ _ _))
      |((with_reducible refine zF 11 58 rfl rfl (wr.heap.size) (f) ?_ ?_);exact⟨rfl,rfl,sx (by omega) HF.out⟩;refine nmd ?_;intro V2 EV2;have HX2:Hid (qcr W (inA bs fm d l) (thA kd nn s (.slice a1 i1 j1) (.slice b1 q1 m1)) V2):=EV2▸qlm (qmN HC2.out _) _ (by omega) _;have HF2:Hid (V2.heap[wr.heap.size]? = some (.cells (qae (f)) 95)):=EV2▸setRow_heap _ _ _ _ _ _ (sx (by omega) HF.out);clear EV2;obtain⟨c0,c1,c2,c3⟩:=qa3 HX2.out.box;have u0:V2.cell? ⟨wr.heap.size,0,none⟩=some (.int .i64 (f.1)):=qaa HF2.out 0))
     have HE:Hid (R=.error f):=qnn HAT.out HLO.out (fun h1 h2=>qlF h1 h2)
     refine rgn (S:=fun Z=>Z.heap[wr.heap.size]? = some (.cells (qae f) 95)) (HF2.out) (by kernel_rfl) ?_
     intro hS
     refine tk 0 77 (.agg th0) rfl (by kernel_rfl) iQ3 (fun Z hZ => ?y0) hS ?_
     case y0=>(unfold th0 thA qaf;go_simp)
     refine tk 1 78 (.agg (qae f)) rfl (by kernel_rfl) iQ3 (fun Z hZ=>yF 11 hZ rfl rfl) hS ?_
     have hS3:=(setRow_other _ (W.heap.size+1) wr.heap.size th0 (by omega)).trans hS
     refine sTh 2 6 77 (W.heap.size+1) (th0) (by kernel_rfl) (HX2.out.th) thg (hS3) ?_
     refine tkk 3 7 (.int .i64 0) (by kernel_rfl) iQ3 hS3 ?_
     refine sF 4 8 78 (W.heap.size+2) f (by kernel_rfl) (qan (V:=V2) HX2.out.rth bwR _) (sx (by omega) hS3) ?_
     refine wpAnyH_done (by kernel_rfl) ?_ _
     go_simp
     go_wp2
     have hf:=qao HX2.out.rth.drew bwR (th0) (f)
     refine eoT results172 hf (.int .i64 0) rfl rfl rfl rfl ⟨hf.2.2,?_⟩
     exact⟨.error (f),.inl (by rw[HE.out];rfl),_,_,_,_,_,_,_,_,_,_,rfl⟩
    |ok x =>
     obtain⟨x,q⟩:=x
     obtain⟨hqi,lk,dd,ka1,kn1,kc1,ua1,un1,uc1,rfl,rfl,hM⟩:=he
     have HM:Hid (qdz k w2 (W.heap.size+4) (.slice ka1 kn1 kc1) (.slice ua1 un1 uc1) (fun j=>j=wr.heap.size) (kl++[lk]) (ds++[dd])):=hM
     clear hM
     simp only[]
     go_wp2_with (first
      |((with_reducible refine wpList_store_row rfl 93 (.tmp 9) (.tmp 56) rfl (W.heap.size+3) (thA 7 0 ⟨#[]⟩ (.slice ka1 kn1 kc1) (.slice ua1 un1 uc1)) ?hx ?hy 93 (thA 7 0 ⟨#[]⟩ (.slice ka kn kc) (.slice ua un uc)) ?hg ?hi ?hs ?h1 ?_);(case hx=>exact rfl);(case hy=>exact rfl);(case hg=>exact HC2.out.tv);(case hi=>exact qcx _ _ _ _ _);(case hs=>exact rfl);(case h1=>exact qhR _ _ _ _ _ _ _ _ _))
      |((with_reducible refine zF 11 58 rfl rfl (wr.heap.size) (0,0) ?_ ?_);exact⟨rfl,rfl,sx (by omega) HF.out⟩;have HX2:Hid (qcr W (inA bs fm d l) (thA 7 0 ⟨#[]⟩ (.slice ka1 kn1 kc1) (.slice ua1 un1 uc1)) ((w2.setRow (W.heap.size+3) (thA 7 0 ⟨#[]⟩ (.slice ka1 kn1 kc1) (.slice ua1 un1 uc1))).setRow wr.heap.size (qae (0,0)))):=qlm (qmN HC2.out _) _ (by omega) _;have HF2:Hid (((w2.setRow (W.heap.size+3) (thA 7 0 ⟨#[]⟩ (.slice ka1 kn1 kc1) (.slice ua1 un1 uc1))).setRow wr.heap.size (qae (0,0))).heap[wr.heap.size]? = some (.cells (qae (0,0)) 95)):=setRow_heap _ _ _ _ _ _ (sx (by omega) HF.out);have HM2:Hid (qdz k ((w2.setRow (W.heap.size+3) (thA 7 0 ⟨#[]⟩ (.slice ka1 kn1 kc1) (.slice ua1 un1 uc1))).setRow wr.heap.size (qae (0,0))) (W.heap.size+4) (.slice ka1 kn1 kc1) (.slice ua1 un1 uc1) (fun _=>False) (kl++[lk]) (ds++[dd])):=(HM.out.next (V':=(w2.setRow (W.heap.size+3) (thA 7 0 ⟨#[]⟩ (.slice ka1 kn1 kc1) (.slice ua1 un1 uc1))).setRow wr.heap.size (qae (0,0))) (by simp) (fun j h1 _ hx=>by rw[setRow_other _ _ _ _ hx,setRow_other _ _ _ _ (by omega)])).other (fun _ h=>h.elim);generalize (w2.setRow (W.heap.size+3) (thA 7 0 ⟨#[]⟩ (.slice ka1 kn1 kc1) (.slice ua1 un1 uc1))).setRow wr.heap.size (qae (0,0))=V2 at *;obtain⟨c0,c1,c2,c3⟩:=qa3 HX2.out.box;have u0:V2.cell? ⟨wr.heap.size,0,none⟩=some (.int .i64 (0)):=qaa HF2.out 0))
     obtain⟨p3,hp3⟩:∃p3,p3=skR bs l (bs.length+1-q) q:=⟨_,rfl⟩
     obtain⟨hp3i,hnx⟩:=qm1 HL.out HAT.out HLO.out (fun h1 h2=>qlF h1 h2) (fun x q h=>ql2 HGO.out _ _ _ _ h) hqi hg.out hp3
     have hql:=hqi.1
     have hp3l:=hp3i.1
     have cS2:=fun V=>cS V q hqi.1
     rw[←hp3] at cS2
     have cH2:=fun V=>cH V p3
     have cB2:=fun V=>cB V p3 9
     refine(cS2 _).mono ?_
     rintro e w7 ⟨rfl,hB7⟩
     have HX7:=qac (HX2.out.next hB7)
     have HM7:=qac (HM2.out.next hB7.size (fun j _ hj _=>hB7.block j hj))
     clear hqi hp3 hp3i cS2 c0 c1 c2 c3 u0 HX2 HM2 hB7 HF2 HM HF HC2
     simp only[]
     obtain⟨c0,c1,c2,c3⟩:=qa3 HX7.out.box
     rcases hnx with ⟨hh,hRE⟩|⟨ce,hce,hh,hx⟩
     ·rw[hh] at cH2
      have HE:Hid (R=.error (qaI bs l p3 9)):=hRE
      generalize qaI bs l p3 9=xx at *
      clear hh hRE cS cH cB
      go_wp2_with (first
       |(go_at_call 113;refine ckB (cH2 _) HX7.out.next ?_;clear cH2 c0 c1 c2 c3;intro w8 hB8 HX8;have HM8:=qac (HM7.out.next hB8.size (fun j _ hj _=>hB8.block j hj));obtain⟨c0,c1,c2,c3⟩:=qa3 HX8.out.box)
       |(go_at_call 71;refine ckB (cB2 _) HX8.out.next ?_;clear cB2 c0 c1 c2 c3;intro w9 hB9 HX9;have HM9:=qac (HM8.out.next hB9.size (fun j _ hj _=>hB9.block j hj));obtain⟨c0,c1,c2,c3⟩:=qa3 HX9.out.box)
       |((with_reducible refine zT 6 101 rfl rfl (W.heap.size+1) (th0) ?_ ?_);exact⟨rfl,rfl,HX9.out.th,thg⟩)
       |((with_reducible refine zF 8 104 rfl rfl (W.heap.size+2) (xx) ?_ ?_);exact⟨rfl,rfl,qan HX9.out.rth bwR _⟩))
      have hf:=qao HX9.out.rth bwR (th0) (xx)
      refine eoT results172 hf (.int .i64 0) rfl rfl rfl rfl ⟨hf.2.2,?_⟩
      exact⟨.error (xx),.inl (by rw[HE.out];rfl),_,_,_,_,_,_,_,_,_,_,rfl⟩
     ·rw[hh] at cH2
      have hixe:=fun V=>qah bs p3 ce hce V
      have hp3b:=ltL hce
      rcases hx with ⟨h93,hRE,hqe⟩|⟨h93,h44,hqe,g',hgg,hpp,hits⟩|⟨h93,h44,hRE⟩
      ·have t93:((ce.toNat:Int)==125)=true:=by rw[h93];rfl
       have n93:((ce.toNat:Int) != 125)=false:=by rw[h93];rfl
       have HRE:Hid (R=.ok ((lk::kl.reverse,esZ kl ds++[(.string lk,dd)]),p3+1)):=hRE
       have HQE:Hid (InR bs lim (p3+1)):=hqe
       clear hh h93 hRE hqe hce cS cH cB cB2
       go_wp2_with (first
        |(go_at_call 113;refine ckB (cH2 _) HX7.out.next ?_;clear cH2 c0 c1 c2 c3;intro w8 hB8 HX8;have HM8:=qac (HM7.out.next hB8.size (fun j _ hj _=>hB8.block j hj));obtain⟨c0,c1,c2,c3⟩:=qa3 HX8.out.box)
        |((with_reducible refine wpList_load_row rfl 93 (.tmp 9) rfl (W.heap.size+3) ?hx 93 (thA 7 0 ⟨#[]⟩ (.slice ka1 kn1 kc1) (.slice ua1 un1 uc1)) (0,0) _ ?hg underlying93 rfl ?hi ?_);(case hx=>exact rfl);(case hg=>exact HX8.out.tv);(case hi=>exact qcx _ _ _ _ _))
        |((with_reducible refine zT 6 111 rfl rfl (W.heap.size+1) (thA 7 0 ⟨#[]⟩ (.slice ka1 kn1 kc1) (.slice ua1 un1 uc1)) ?_ ?_);exact⟨rfl,rfl,HX8.out.th,thg⟩)
        |((with_reducible refine zF 8 114 rfl rfl (W.heap.size+2) (0,0) ?_ ?_);exact⟨rfl,rfl,qan HX8.out.rth bwR _⟩))
       have hf:=qao HX8.out.rth bwR (thA 7 0 ⟨#[]⟩ (.slice ka1 kn1 kc1) (.slice ua1 un1 uc1)) (0,0)
       refine eoT results172 hf (.int .i64 ((p3:Int)+1)) rfl rfl rfl rfl ⟨hf.2.2,?_⟩
       refine⟨.ok (.map (esZ kl ds++[(.string lk,dd)]),p3+1),.inl (by rw[HRE.out];rfl),HQE.out,_,_,_,_,_,_,_,_,_,rfl,?_⟩
       rw[←qfT HLN.out]
       exact(HM8.out.next (by simp) (fun j hj1 hj2 _=>by rw[setRow_other _ _ _ _ (by omega),setRow_other _ _ _ _ (by omega)])).map (by omega)
      ·have t93:((ce.toNat:Int)==125)=false:=by rw[h44];rfl
       have n93:((ce.toNat:Int) != 125)=true:=by rw[h44];rfl
       have n44:((ce.toNat:Int) != 44)=false:=by rw[h44];rfl
       subst hgg
       have cS3:=fun V=>cS V (p3+1) hqe.1
       obtain⟨p4,hp4⟩:∃p4,p4=skR bs l (bs.length+1-(p3+1)) (p3+1):=⟨_,rfl⟩
       have hat4:=qmL HL.out hqe hits
       rw[←hp4] at hat4 cS3
       have HP4:Hid (p3+1≤p4):=by
        show _≤_
        rw[hp4]
        rcases qfJ HL.out (bs.length+1-(p3+1)) (p3+1) hqe with ⟨q',_,h2,_,h4,_⟩|⟨q',_,h2,h3,_⟩
        ·rw[h2];exact h4
        ·rw[h2];have:=hqe.2;omega
       have HAT4:Hid (qd2 bs lim (enJ bs lim rd) 125 (g'+1) p4 ((kl++[lk]).reverse,esZ (kl++[lk]) (ds++[dd])) R):=by
        rw[qfT HLN.out,List.reverse_append]
        exact hat4
       clear hh h93 h44 hqe hce cS cH cB cB2 hits hp4 hat4
       go_wp2_with (first
        |(go_at_call 113;refine ckB (cH2 _) HX7.out.next ?_;clear cH2 c0 c1 c2 c3;intro w8 hB8 HX8;have HM8:=qac (HM7.out.next hB8.size (fun j _ hj _=>hB8.block j hj));obtain⟨c0,c1,c2,c3⟩:=qa3 HX8.out.box)
        |(go_at_call 69;refine ckB (cS3 _) HX8.out.next ?_;clear cS3 c0 c1 c2 c3;intro w9 hB9 HX9;have HM9:=qac (HM8.out.next hB9.size (fun j _ hj _=>hB9.block j hj));obtain⟨c0,c1,c2,c3⟩:=qa3 HX9.out.box))
       go_roundg (g'+1)
       case measure=>omega
       case rel=>exact⟨p4,kl++[lk],ds++[dd],_,_,_,_,_,_,rfl,by show _≤_;have:=hg.out;have:=HP4.out;omega,HAT4,by show _≤_;rw[List.length_append];have:=hdl.out;have:=HP4.out;simp;omega,HX9,HM9⟩
      ·have t93:((ce.toNat:Int)==125)=false:=by simp;omega
       have n93:((ce.toNat:Int) != 125)=true:=by simp;omega
       have n44:((ce.toNat:Int) != 44)=true:=by simp;omega
       have HE:Hid (R=.error (qaI bs l p3 9)):=hRE
       generalize qaI bs l p3 9=xx at *
       clear hh h93 h44 hRE hce cS cH cB
       go_wp2_with (first
        |(go_at_call 113;refine ckB (cH2 _) HX7.out.next ?_;clear cH2 c0 c1 c2 c3;intro w8 hB8 HX8;have HM8:=qac (HM7.out.next hB8.size (fun j _ hj _=>hB8.block j hj));obtain⟨c0,c1,c2,c3⟩:=qa3 HX8.out.box)
        |(go_at_call 71;refine ckB (cB2 _) HX8.out.next ?_;clear cB2 c0 c1 c2 c3;intro w9 hB9 HX9;have HM9:=qac (HM8.out.next hB9.size (fun j _ hj _=>hB9.block j hj));obtain⟨c0,c1,c2,c3⟩:=qa3 HX9.out.box)
        |((with_reducible refine zT 6 101 rfl rfl (W.heap.size+1) (th0) ?_ ?_);exact⟨rfl,rfl,HX9.out.th,thg⟩)
        |((with_reducible refine zF 8 104 rfl rfl (W.heap.size+2) (xx) ?_ ?_);exact⟨rfl,rfl,qan HX9.out.rth bwR _⟩))
       have hf:=qao HX9.out.rth bwR (th0) (xx)
       refine eoT results172 hf (.int .i64 0) rfl rfl rfl rfl ⟨hf.2.2,?_⟩
       exact⟨.error (xx),.inl (by rw[HE.out];rfl),_,_,_,_,_,_,_,_,_,_,rfl⟩
end
end Go.Proofs.YtllcbnfmihfaaaaGreatDoor
