import Derived.Test.YtllcbnfmihfaaaaGreatDoorUq44
set_option maxRecDepth 100000
set_option maxHeartbeats 8000000
namespace Go.Proofs.YtllcbnfmihfaaaaGreatDoor
open Go.Proofs.Tryz
section
open Go.RowKit Go.Lib
def maB (r:Except (Int×Int) (List (Lit×DataW Unit)×Nat)):Except (Int×Int) (DataW Unit×Nat):=match r with
 |.error e=>.error e
 |.ok (es,q)=>.ok (.map es,q)
theorem qkJ (k:Nat)(W:World)(bs:List UInt8)(fm d l lim:Int)(q0 x:Nat)(n:Int)(o:Bool)(dp:Int)(hn:n=min (x:Int) 9223372036854775807)(hl:Lm bs l lim)(hi:InR bs lim q0)(hb:bs.length≤200000000)(hd0:0≤dp)(hd1:dp≤100000)(hfm:fm=2∨fm=3)(rd:Nat→Except (Int×Int) (DataW Unit×Nat))(hbad:∀p,Bad (rd p))(hgo:∀p x q,rd p=.ok (x,q)→p<q)(cJ:∀V (p:Nat),InR bs lim p→Calls prog 116 #[.agg (inA bs fm d l),.int .i64 p,.int .i64 (dp+1)] V (qaK k bs lim V (rd p))):Calls prog 177 #[.agg (inA bs fm d l),.agg (hdC 7 n (q0:Int) o),.int .i64 dp] W (qaK (k+1) bs lim W (maB (qau (qbT (hdO fm) bs lim) rd x q0 [] []))):=by
 obtain⟨ti,hti,ht0,ht1,ht2⟩:=info_parts Tryz.infoThR
 obtain⟨si,hsi,hs0,hs1,hs2⟩:=info_parts Tryz.infoStrR
 obtain⟨R,HR⟩:∃R,Hid (qau (qbT (hdO fm) bs lim) rd x q0 [] []=R):=⟨_,show _=_ from rfl⟩
 rw[HR.out]
 have HL:Hid (Lm bs l lim):=hl
 have HI:Hid (InR bs lim q0):=hi
 have HN:Hid (n=min (x:Int) 9223372036854775807):=hn
 have cH:=qdb bs fm d l
 have cB:=qdu bs fm d l
 have HCJ:Hid (∀V (p:Nat),InR bs lim p→Calls prog 116 #[.agg #[.string ⟨bs.toArray⟩,.int .i64 fm,.int .i64 d,.int .i64 l],.int .i64 p,.int .i64 (dp+1)] V (qaK k bs lim V (rd p))):=cJ
 have HGO:Hid (∀p x q,rd p=.ok (x,q)→p<q):=hgo
 have HBAD:Hid (∀p,Bad (rd p)):=hbad
 have HFM:Hid (fm=2∨fm=3):=hfm
 clear hfm
 clear hl hi cJ hgo hbad hn
 unfold inA hdC
 go_enter func177,ntmps177
 go_wp2_with (first
  |((with_reducible refine zT 9 22 rfl rfl (W.heap.size+4) (thA 7 0 ⟨#[]⟩ qaf qaf) ?_ ?_);exact⟨rfl,rfl,(qiM W _ _).tv,thg⟩;refine nmd ?_;intro V0 EV0;have HX:Hid (qbS W (inA bs fm d l) (hdC 7 n (q0:Int) o) (thA 7 0 ⟨#[]⟩ qaf qaf) V0):=EV0▸(qiM W _ _).row _;clear EV0;obtain⟨c0,c1,c2,c3⟩:=qa3 HX.out.box;have d0:V0.cell? ⟨W.heap.size+1,0,none⟩=some (.int .i64 7):=qaa HX.out.hd 0;have d1:V0.cell? ⟨W.heap.size+1,1,none⟩=some (.int .i64 n):=qaa HX.out.hd 1;have d2:V0.cell? ⟨W.heap.size+1,2,none⟩=some (.int .i64 (q0:Int)):=qaa HX.out.hd 2))
 go_loopg [10,11] (bs.length+1-q0) (fun g z10 z11 wr=>∃(p kj:Nat) (kl:List (List UInt8)) (ds:List (DataW Unit)) (ka:Option Addr) (kn kc:Nat) (ua:Option Addr) (un uc:Nat),z10=.int .i64 p∧z11=.int .i64 kj∧Hid (bs.length+1≤p+g)∧Hid (InR bs lim p)∧Hid (kj≤p∧kj≤x)∧Hid (ds.length=kj∧kl.length=kj)∧Hid (qau (qbT (hdO fm) bs lim) rd (x-kj) p kl.reverse (esZ kl ds)=R)∧Hid (qbS W (inA bs fm d l) (hdC 7 n (q0:Int) o) (thA 7 0 ⟨#[]⟩ (.slice ka kn kc) (.slice ua un uc)) wr)∧Hid (qe5 k wr (W.heap.size+5) (.slice ka kn kc) (.slice ua un uc) kl ds))
 case atStart=>exact⟨q0,0,[],[],none,0,0,none,0,0,rfl,rfl,by show _≤_;omega,HI,⟨Nat.zero_le _,Nat.zero_le _⟩,⟨rfl,rfl⟩,HR,HX,qnW _ _ _⟩
 case round =>
  clear HR HX HI c0 c1 c2 c3 d0 d1 d2
  obtain⟨p,kj,kl,ds,ka,kn,kc,ua,un,uc,rfl,rfl,hg,HI,HK,HDS,HR,HX,HKD⟩:=hrel
  have hp0:=HI.out.1
  have hkp:=HK.out.1
  have hwr:=HX.out.size
  obtain⟨c0,c1,c2,c3⟩:=qa3 HX.out.box
  have d0:wr.cell? ⟨W.heap.size+1,0,none⟩=some (.int .i64 7):=qaa HX.out.hd 0
  have d1:wr.cell? ⟨W.heap.size+1,1,none⟩=some (.int .i64 n):=qaa HX.out.hd 1
  have d2:wr.cell? ⟨W.heap.size+1,2,none⟩=some (.int .i64 (q0:Int)):=qaa HX.out.hd 2
  by_cases hkx:kj=x
  ·have hlt:¬(kj:Int)<n:=by have:=HN.out;omega
   have HE:Hid (R=.ok (esZ kl ds,p)):=by
    show _=_
    rw[←HR.out,hkx,Nat.sub_self]
    rfl
   clear HR hg
   go_wp2_with (first
    |((with_reducible refine wpList_load_row rfl 93 (.tmp 9) rfl (W.heap.size+4) ?hx 93 (#[.int .i64 7,.int .i64 0,.string ⟨#[]⟩,.slice ka kn kc,.slice ua un uc]) (0,0) _ ?hg underlying93 rfl ?hi ?_);(case hx=>exact rfl);(case hg=>exact HX.out.tv);(case hi=>exact qcw))
    |((with_reducible refine zT 6 111 rfl rfl (W.heap.size+2) (thA 7 0 ⟨#[]⟩ (.slice ka kn kc) (.slice ua un uc)) ?_ ?_);exact⟨rfl,rfl,HX.out.th,thg⟩)
    |((with_reducible refine zF 8 113 rfl rfl (W.heap.size+3) (0,0) ?_ ?_);exact⟨rfl,rfl,sx (by omega) HX.out.flt⟩))
   have hf:=HX.out.fin (thA 7 0 ⟨#[]⟩ (.slice ka kn kc) (.slice ua un uc)) (0,0)
   refine eoT results177 hf (.int .i64 p) rfl rfl rfl rfl ⟨hf.2.2,?_⟩
   rw[HE.out]
   exact⟨HI.out,_,_,_,_,_,_,_,_,_,rfl,(HKD.out.next (by simp) (fun j hj1 hj2=>by rw[setRow_other _ _ _ _ (by omega),setRow_other _ _ _ _ (by omega)])).map (by have:=HDS.out;omega) (by omega)⟩
  ·have hkx2:kj<x:=by have:=HK.out.2;omega
   have hlt:(kj:Int)<n:=by have:=HN.out;omega
   have t7:((7:Int)==7)=true:=rfl
   have hH:=fun V=>qiY V bs fm d l lim p HL.out HI.out hb HFM.out
   go_wp2_with fail
   refine(hH _).mono ?_
   clear c0 c1 c2 c3 d0 d1 d2 hH
   rintro e w6 ⟨⟨a,hn,hq,ho,F,rfl,h1,h2⟩,hB6⟩
   have HX6:=qac (HX.out.next hB6)
   have HB6:Hid (Below wr.heap.size wr w6):=hB6
   have hs6:=hB6.size
   clear hB6
   simp only[]
   have hent:∀f,qbT (hdO fm) bs lim kl.reverse p=.error f→R=.error f:=fun f hf=>by
    rw[←HR.out,show x-kj=(x-kj-1)+1 by omega,qau,hf]
   have cH1:=fun V=>cH V p
   go_wp2_with (first
    |((with_reducible refine zH 12 38 rfl rfl (w6.heap.size) a hn hq ho ?_ ?_);exact⟨rfl,rfl,(qak w6 _ _).1⟩)
    |((with_reducible refine zF 13 39 rfl rfl (w6.heap.size+1) F ?_ ?_);exact⟨rfl,rfl,sx (by omega) (qak w6 _ _).2⟩;refine nmd ?_;intro V7 EV7;have HX7:Hid (qbS W (inA bs fm d l) (hdC 7 n (q0:Int) o) (thA 7 0 ⟨#[]⟩ (.slice ka kn kc) (.slice ua un uc)) V7):=EV7▸HX6.out.next (qar _ _ _ _ _);have HF7:Hid (V7.heap[w6.heap.size+1]? = some (.cells (qae F) 95)):=EV7▸qci;have HG7:Hid (V7.heap[w6.heap.size]? = some (.cells (hdC a hn hq ho) 294)):=EV7▸qdf;have HB7:Hid (Below wr.heap.size wr V7):=EV7▸HB6.out.trans ((qar _ _ _ _ _).mono HB6.out.size);have HLM:Hid (wr.heap.size≤w6.heap.size):=HB6.out.size;clear EV7;generalize w6.heap.size=M at *;obtain⟨c0,c1,c2,c3⟩:=qa3 HX7.out.box;have g1:V7.cell? ⟨M,1,none⟩=some (.int .i64 hn):=qaa HG7.out 1;have g2:V7.cell? ⟨M,2,none⟩=some (.int .i64 hq):=qaa HG7.out 2;have u0:V7.cell? ⟨M+1,0,none⟩=some (.int .i64 F.1):=qaa HF7.out 0))
   have hM5:W.heap.size+5≤M:=by have:=HLM.out;omega
   rcases qcm (bs:=bs) (lim:=lim) p with hno|⟨c,hc,hp⟩
   ·have hbr:hdR fm bs lim p=.error (qaI bs l p 9)∧qbT (hdO fm) bs lim kl.reverse p=.error (qaI bs l p 9)∧qaz bs l p=false∧¬(qaI bs l p 9).1=0:=by
     unfold hdR qbT
     rcases hno with hc|⟨c,hc,hp⟩
     ·rw[hc,qaH HI.out.1 hc]
      exact⟨rfl,rfl,qa9 hc,by simp⟩
     ·rw[hc,qaU HL.out hc hp]
      simp only[]
      rw[if_pos hp,if_pos hp]
      exact⟨rfl,rfl,qaJ HL.out hc hp,by simp⟩
    obtain rfl:=h2 _ hbr.1
    have HE:Hid (R=.error (qaI bs l p 9)):=hent _ hbr.2.1
    have hne:((qaI bs l p 9).1==0)=false:=by simpa using hbr.2.2.2
    rw[hbr.2.2.1] at cH1
    clear HR hno hbr h1 h2 hent cH cB
    generalize qaI bs l p 9=xx at *
    go_wp2_with (first
     |(go_at_call 113;refine ckB (cH1 _) HX7.out.next ?_;clear cH1 c0 c1 c2 c3 u0 g1 g2;intro w8 hB8 HX8;have HF8:Hid (w8.heap[M+1]? = some (.cells (qae xx) 95)):=(hB8.block _ (ltA HF7.out)).trans HF7.out;have HG8:Hid (w8.heap[M]? = some (.cells (hdC a hn hq ho) 294)):=(hB8.block _ (ltA HG7.out)).trans HG7.out;have HB8:Hid (Below wr.heap.size wr w8):=HB7.out.trans (hB8.mono HB7.out.size);obtain⟨c0,c1,c2,c3⟩:=qa3 HX8.out.box;have g1:w8.cell? ⟨M,1,none⟩=some (.int .i64 hn):=qaa HG8.out 1;have g2:w8.cell? ⟨M,2,none⟩=some (.int .i64 hq):=qaa HG8.out 2;have u0:w8.cell? ⟨M+1,0,none⟩=some (.int .i64 xx.1):=qaa HF8.out 0))
    refine rgn (S:=fun Z=>Z.heap[M+1]? = some (.cells (qae xx) 95)) (HF8.out) (by kernel_rfl) ?_
    intro hS
    refine tk 1 57 (.agg (qae xx)) rfl (by kernel_rfl) iQ3 (fun Z hZ=>yF 13 hZ rfl rfl) hS ?_
    refine tk 0 56 (.agg th0) rfl (by kernel_rfl) iQ3 (fun Z hZ => ?y0) hS ?_
    case y0=>(unfold th0 thA qaf;go_simp)
    have hS3:=(setRow_other _ (W.heap.size+2) (M+1) th0 (by omega)).trans hS
    refine sTh 2 6 56 (W.heap.size+2) (th0) (by kernel_rfl) (HX8.out.drew.th) thg (hS3) ?_
    refine tkk 3 7 (.int .i64 0) (by kernel_rfl) iQ3 hS3 ?_
    refine sF 4 8 57 (W.heap.size+3) xx (by kernel_rfl) (sx (by omega) HX8.out.drew.flt) (sx (by omega) hS3) ?_
    refine wpAnyH_done (by kernel_rfl) ?_ _
    go_simp
    go_wp2
    have hf:=HX8.out.drew.fin (th0) (xx)
    refine eoT results177 hf (.int .i64 0) rfl rfl rfl rfl ⟨hf.2.2,?_⟩
    rw[HE.out]
    exact⟨_,_,_,_,_,_,_,_,_,_,rfl⟩
   ·have hh:=qa7 HL.out HI.out hc hp
    rw[hh] at cH1
    have hn1:=qav HI.out hc hp
    have cT1:=fun V=>qjB V bs fm d l p c hc HFM.out
    by_cases hso:(hdO fm c.toNat).1=8
    ·rw[decide_eq_true hso] at cT1
     have hkey:qbT (hdO fm) bs lim kl.reverse p=match qa0 bs lim (hdO fm c.toNat).2.1 (p+1) (hdO fm c.toNat).2.2 with
       |.error e=>.error e
       |.ok (x,q)=>match qbt bs lim x q [] 0 with
        |.error e=>.error e
        |.ok (l,r)=>if l∈kl.reverse then .error (12,(r:Int)-1) else .ok (l,r):=by
      unfold qbT
      rw[hc]
      simp only[]
      rw[if_neg hp,if_pos hso]
      rfl
     have hhd:hdR fm bs lim p=match qa0 bs lim (hdO fm c.toNat).2.1 (p+1) (hdO fm c.toNat).2.2 with
       |.error f=>.error f
       |.ok (x,q)=>.ok (8,(hdO fm c.toNat).2.1,x,q):=by
      unfold hdR
      rw[hc]
      simp only[]
      rw[if_neg hp,hso,if_neg (by decide)]
      rfl
     cases har:qa0 bs lim (hdO fm c.toNat).2.1 (p+1) (hdO fm c.toNat).2.2 with
     |error f =>
      rw[har] at hkey hhd
      obtain rfl:=h2 _ hhd
      have HE:Hid (R=.error F):=hent _ hkey
      have hne:(F.1==0)=false:=by
       have:=qcN bs lim _ _ _ F.1 F.2 har
       simpa using this
      clear HR hc hp hh h1 h2 hent hkey hhd har hso cH cB
      go_wp2_with (first
       |(go_at_call 113;refine ckB (cH1 _) HX7.out.next ?_;clear cH1 c0 c1 c2 c3 u0 g1 g2;intro w8 hB8 HX8;have HF8:Hid (w8.heap[M+1]? = some (.cells (qae F) 95)):=(hB8.block _ (ltA HF7.out)).trans HF7.out;have HG8:Hid (w8.heap[M]? = some (.cells (hdC a hn hq ho) 294)):=(hB8.block _ (ltA HG7.out)).trans HG7.out;have HB8:Hid (Below wr.heap.size wr w8):=HB7.out.trans (hB8.mono HB7.out.size);obtain⟨c0,c1,c2,c3⟩:=qa3 HX8.out.box;have g1:w8.cell? ⟨M,1,none⟩=some (.int .i64 hn):=qaa HG8.out 1;have g2:w8.cell? ⟨M,2,none⟩=some (.int .i64 hq):=qaa HG8.out 2;have u0:w8.cell? ⟨M+1,0,none⟩=some (.int .i64 F.1):=qaa HF8.out 0)
       |(go_at_call 209;refine ckB (cT1 _) HX8.out.next ?_;clear cT1 c0 c1 c2 c3 u0 g1 g2;intro w9 hB9 HX9;have HF9:Hid (w9.heap[M+1]? = some (.cells (qae F) 95)):=(hB9.block _ (ltA HF8.out)).trans HF8.out;have HG9:Hid (w9.heap[M]? = some (.cells (hdC a hn hq ho) 294)):=(hB9.block _ (ltA HG8.out)).trans HG8.out;have HB9:Hid (Below wr.heap.size wr w9):=HB8.out.trans (hB9.mono HB8.out.size);obtain⟨c0,c1,c2,c3⟩:=qa3 HX9.out.box;have g1:w9.cell? ⟨M,1,none⟩=some (.int .i64 hn):=qaa HG9.out 1;have g2:w9.cell? ⟨M,2,none⟩=some (.int .i64 hq):=qaa HG9.out 2;have u0:w9.cell? ⟨M+1,0,none⟩=some (.int .i64 F.1):=qaa HF9.out 0))
      refine rgn (S:=fun Z=>Z.heap[M+1]? = some (.cells (qae F) 95)) (HF9.out) (by kernel_rfl) ?_
      intro hS
      refine tk 1 57 (.agg (qae F)) rfl (by kernel_rfl) iQ3 (fun Z hZ=>yF 13 hZ rfl rfl) hS ?_
      refine tk 0 56 (.agg th0) rfl (by kernel_rfl) iQ3 (fun Z hZ => ?y0) hS ?_
      case y0=>(unfold th0 thA qaf;go_simp)
      have hS3:=(setRow_other _ (W.heap.size+2) (M+1) th0 (by omega)).trans hS
      refine sTh 2 6 56 (W.heap.size+2) (th0) (by kernel_rfl) (HX9.out.drew.th) thg (hS3) ?_
      refine tkk 3 7 (.int .i64 0) (by kernel_rfl) iQ3 hS3 ?_
      refine sF 4 8 57 (W.heap.size+3) F (by kernel_rfl) (sx (by omega) HX9.out.drew.flt) (sx (by omega) hS3) ?_
      refine wpAnyH_done (by kernel_rfl) ?_ _
      go_simp
      go_wp2
      have hf:=HX9.out.drew.fin (th0) (F)
      refine eoT results177 hf (.int .i64 0) rfl rfl rfl rfl ⟨hf.2.2,?_⟩
      rw[HE.out]
      exact⟨_,_,_,_,_,_,_,_,_,_,rfl⟩
     |ok y =>
      obtain⟨x1,q1⟩:=y
      rw[har] at hkey hhd
      obtain⟨rfl,rfl,rfl,rfl,rfl⟩:=h1 _ _ _ _ hhd
      obtain⟨hq1p,hq1⟩:=qcH _ _ _ _ _ hn1 har
      simp only[] at hkey
      have hnv:nR 8 (hdO fm c.toNat).2.1 x1=min (x1:Int) 9223372036854775807:=rfl
      have cR:=fun V=>qiK V bs fm d l lim q1 x1 (nR 8 (hdO fm c.toNat).2.1 x1) hnv HL.out hq1 hb
      generalize nR 8 (hdO fm c.toNat).2.1 x1=nv at *
      have hpq1:p<q1:=by omega
      clear hhd hq1p hso hh h1 h2 hnv
      cases hbt:qbt bs lim x1 q1 [] 0 with
      |error f =>
       rw[hbt] at hkey cR
       have HE:Hid (R=.error f):=hent _ hkey
       have hne:(f.1==0)=false:=by
        have:=qdU bs lim _ _ _ _ f.1 f.2 hbt
        simpa using this
       have cR1:=cR
       dsimp only [inA,qlZ] at cR1
       clear HR hc hp hent hkey har hbt cR cH cB
       go_wp2_with (first
        |(go_at_call 113;refine ckB (cH1 _) HX7.out.next ?_;clear cH1 c0 c1 c2 c3 u0 g1 g2;intro w8 hB8 HX8;have HF8:Hid (w8.heap[M+1]? = some (.cells (qae (0,0)) 95)):=(hB8.block _ (ltA HF7.out)).trans HF7.out;have HG8:Hid (w8.heap[M]? = some (.cells (hdC (kdR 8) nv (q1:Int) (ovR 8 x1)) 294)):=(hB8.block _ (ltA HG7.out)).trans HG7.out;have HB8:Hid (Below wr.heap.size wr w8):=HB7.out.trans (hB8.mono HB7.out.size);obtain⟨c0,c1,c2,c3⟩:=qa3 HX8.out.box;have g1:w8.cell? ⟨M,1,none⟩=some (.int .i64 nv):=qaa HG8.out 1;have g2:w8.cell? ⟨M,2,none⟩=some (.int .i64 (q1:Int)):=qaa HG8.out 2;have u0:w8.cell? ⟨M+1,0,none⟩=some (.int .i64 0):=qaa HF8.out 0)
        |(go_at_call 209;refine ckB (cT1 _) HX8.out.next ?_;clear cT1 c0 c1 c2 c3 u0 g1 g2;intro w9 hB9 HX9;have HF9:Hid (w9.heap[M+1]? = some (.cells (qae (0,0)) 95)):=(hB9.block _ (ltA HF8.out)).trans HF8.out;have HG9:Hid (w9.heap[M]? = some (.cells (hdC (kdR 8) nv (q1:Int) (ovR 8 x1)) 294)):=(hB9.block _ (ltA HG8.out)).trans HG8.out;have HB9:Hid (Below wr.heap.size wr w9):=HB8.out.trans (hB9.mono HB8.out.size);obtain⟨c0,c1,c2,c3⟩:=qa3 HX9.out.box;have g1:w9.cell? ⟨M,1,none⟩=some (.int .i64 nv):=qaa HG9.out 1;have g2:w9.cell? ⟨M,2,none⟩=some (.int .i64 (q1:Int)):=qaa HG9.out 2;have u0:w9.cell? ⟨M+1,0,none⟩=some (.int .i64 0):=qaa HF9.out 0)
        |(go_at_call 176;refine ckB (cR1 _) HX9.out.next ?_;clear cR1 c0 c1 c2 c3 u0 g1 g2;intro w10 hB10 HX10;have HF10:Hid (w10.heap[M+1]? = some (.cells (qae (0,0)) 95)):=(hB10.block _ (ltA HF9.out)).trans HF9.out;have HG10:Hid (w10.heap[M]? = some (.cells (hdC (kdR 8) nv (q1:Int) (ovR 8 x1)) 294)):=(hB10.block _ (ltA HG9.out)).trans HG9.out;have HB10:Hid (Below wr.heap.size wr w10):=HB9.out.trans (hB10.mono HB9.out.size);obtain⟨c0,c1,c2,c3⟩:=qa3 HX10.out.box;have g1:w10.cell? ⟨M,1,none⟩=some (.int .i64 nv):=qaa HG10.out 1;have g2:w10.cell? ⟨M,2,none⟩=some (.int .i64 (q1:Int)):=qaa HG10.out 2;have u0:w10.cell? ⟨M+1,0,none⟩=some (.int .i64 0):=qaa HF10.out 0)
        |((with_reducible refine zF 13 67 rfl rfl (M+1) (f) ?_ ?_);exact⟨rfl,rfl,HF10.out⟩;have HX11:Hid (qbS W (inA bs fm d l) (hdC 7 n (q0:Int) o) (thA 7 0 ⟨#[]⟩ (.slice ka kn kc) (.slice ua un uc)) (w10.setRow (M+1) (qae (f)))):=HX10.out.else _ (by omega) _;have HF11:Hid ((w10.setRow (M+1) (qae (f))).heap[M+1]? = some (.cells (qae (f)) 95)):=setRow_heap _ _ _ _ _ _ HF10.out;have HB11:Hid (Below wr.heap.size wr (w10.setRow (M+1) (qae (f)))):=qai HB10.out (by have:=HLM.out;omega) _;generalize w10.setRow (M+1) (qae (f))=V11 at *;clear c0 c1 c2 c3 u0 g1 g2;obtain⟨c0,c1,c2,c3⟩:=qa3 HX11.out.box;have u0:V11.cell? ⟨M+1,0,none⟩=some (.int .i64 (f.1)):=qaa HF11.out 0;have k3:V11.cell? ⟨W.heap.size+1+1+1+1,3,none⟩=some (.slice ka kn kc):=qaa HX11.out.tv 3))
       refine rgn (S:=fun Z=>Z.heap[M+1]? = some (.cells (qae f) 95)) (HF11.out) (by kernel_rfl) ?_
       intro hS
       refine tk 1 72 (.agg (qae f)) rfl (by kernel_rfl) iQ3 (fun Z hZ=>yF 13 hZ rfl rfl) hS ?_
       refine tk 0 71 (.agg th0) rfl (by kernel_rfl) iQ3 (fun Z hZ => ?y0) hS ?_
       case y0=>(unfold th0 thA qaf;go_simp)
       have hS3:=(setRow_other _ (W.heap.size+2) (M+1) th0 (by omega)).trans hS
       refine sTh 2 6 71 (W.heap.size+2) (th0) (by kernel_rfl) (HX11.out.drew.th) thg (hS3) ?_
       refine tkk 3 7 (.int .i64 0) (by kernel_rfl) iQ3 hS3 ?_
       refine sF 4 8 72 (W.heap.size+3) f (by kernel_rfl) (sx (by omega) HX11.out.drew.flt) (sx (by omega) hS3) ?_
       refine wpAnyH_done (by kernel_rfl) ?_ _
       go_simp
       go_wp2
       have hf:=HX11.out.drew.fin (th0) (f)
       refine eoT results177 hf (.int .i64 0) rfl rfl rfl rfl ⟨hf.2.2,?_⟩
       rw[HE.out]
       exact⟨_,_,_,_,_,_,_,_,_,_,rfl⟩
      |ok y =>
       obtain⟨tt,r⟩:=y
       rw[hbt] at hkey cR
       obtain⟨hri,hqr⟩:=qf8 _ _ _ _ _ _ hq1 hbt
       have hrl:=hri.1
       simp only[List.mem_reverse] at hkey
       have cR1:=cR
       dsimp only [inA,qlZ] at cR1
       have hkl:kl.length≤200000000:=by have:=HDS.out;omega
       have cHo0:∀V,qe5 k V (W.heap.size+5) (.slice ka kn kc) (.slice ua un uc) kl ds→Calls prog 210 #[.slice ka kn kc,.string ⟨tt.toArray⟩] V fun e W'=>e=.returned (.bool (decide (tt∈kl)))∧V=W':=fun V h=>(qdo V (fun _=>True) _ kl tt (qbx h.keys _ (fun _ _ _=>trivial)) hkl).mono fun e W' h=>⟨h.1,h.2.symm⟩
       have hpr:p<r:=by omega
       clear cR
       by_cases hin:tt∈kl
       ·rw[if_pos hin] at hkey
        have HE:Hid (R=.error (12,(r:Int)-1)):=hent _ hkey
        have cHo:∀V,qe5 k V (W.heap.size+5) (.slice ka kn kc) (.slice ua un uc) kl ds→Calls prog 210 #[.slice ka kn kc,.string ⟨tt.toArray⟩] V fun e W'=>e=.returned (.bool true)∧V=W':=by
         rw[decide_eq_true hin] at cHo0
         exact cHo0
        have cB1:∀V,Calls prog 71 #[.agg #[.string ⟨bs.toArray⟩,.int .i64 fm,.int .i64 d,.int .i64 l],.int .i64 ((r:Int)-1),.int .i64 12] V fun e W'=>e=.returned (.agg (qae (12,(r:Int)-1)))∧Below V.heap.size V W':=fun V=>by
         obtain⟨r0,rfl⟩:∃r0,r=r0+1:=⟨r-1,by omega⟩
         have h:=cB V r0 12
         rw[qe1 HL.out hri,show(r0:Int)=((r0+1:Nat):Int)-1 by omega] at h
         exact h
        clear HR hc hp hent hkey har hbt hri cHo0 hin cH cB
        go_wp2_with (first
         |(go_at_call 113;refine ckB (cH1 _) HX7.out.next ?_;clear cH1 c0 c1 c2 c3 u0 g1 g2;intro w8 hB8 HX8;have HF8:Hid (w8.heap[M+1]? = some (.cells (qae (0,0)) 95)):=(hB8.block _ (ltA HF7.out)).trans HF7.out;have HG8:Hid (w8.heap[M]? = some (.cells (hdC (kdR 8) nv (q1:Int) (ovR 8 x1)) 294)):=(hB8.block _ (ltA HG7.out)).trans HG7.out;have HB8:Hid (Below wr.heap.size wr w8):=HB7.out.trans (hB8.mono HB7.out.size);obtain⟨c0,c1,c2,c3⟩:=qa3 HX8.out.box;have g1:w8.cell? ⟨M,1,none⟩=some (.int .i64 nv):=qaa HG8.out 1;have g2:w8.cell? ⟨M,2,none⟩=some (.int .i64 (q1:Int)):=qaa HG8.out 2;have u0:w8.cell? ⟨M+1,0,none⟩=some (.int .i64 0):=qaa HF8.out 0)
         |(go_at_call 209;refine ckB (cT1 _) HX8.out.next ?_;clear cT1 c0 c1 c2 c3 u0 g1 g2;intro w9 hB9 HX9;have HF9:Hid (w9.heap[M+1]? = some (.cells (qae (0,0)) 95)):=(hB9.block _ (ltA HF8.out)).trans HF8.out;have HG9:Hid (w9.heap[M]? = some (.cells (hdC (kdR 8) nv (q1:Int) (ovR 8 x1)) 294)):=(hB9.block _ (ltA HG8.out)).trans HG8.out;have HB9:Hid (Below wr.heap.size wr w9):=HB8.out.trans (hB9.mono HB8.out.size);obtain⟨c0,c1,c2,c3⟩:=qa3 HX9.out.box;have g1:w9.cell? ⟨M,1,none⟩=some (.int .i64 nv):=qaa HG9.out 1;have g2:w9.cell? ⟨M,2,none⟩=some (.int .i64 (q1:Int)):=qaa HG9.out 2;have u0:w9.cell? ⟨M+1,0,none⟩=some (.int .i64 0):=qaa HF9.out 0)
         |(go_at_call 176;refine ckB (cR1 _) HX9.out.next ?_;clear cR1 c0 c1 c2 c3 u0 g1 g2;intro w10 hB10 HX10;have HF10:Hid (w10.heap[M+1]? = some (.cells (qae (0,0)) 95)):=(hB10.block _ (ltA HF9.out)).trans HF9.out;have HG10:Hid (w10.heap[M]? = some (.cells (hdC (kdR 8) nv (q1:Int) (ovR 8 x1)) 294)):=(hB10.block _ (ltA HG9.out)).trans HG9.out;have HB10:Hid (Below wr.heap.size wr w10):=HB9.out.trans (hB10.mono HB9.out.size);obtain⟨c0,c1,c2,c3⟩:=qa3 HX10.out.box;have g1:w10.cell? ⟨M,1,none⟩=some (.int .i64 nv):=qaa HG10.out 1;have g2:w10.cell? ⟨M,2,none⟩=some (.int .i64 (q1:Int)):=qaa HG10.out 2;have u0:w10.cell? ⟨M+1,0,none⟩=some (.int .i64 0):=qaa HF10.out 0)
         |(go_at_call 210;refine(cHo _ (HKD.out.next HB11.out.size (fun j _ hj=>HB11.out.block j hj))).mono ?_;clear cHo;rintro e w12 ⟨rfl,rfl⟩)
         |(go_at_call 71;refine ck (cB1 _) HX11.out.next ?_;clear cB1 c0 c1 c2 c3 u0 k3;intro w13 HX13)
         |((with_reducible refine zF 13 67 rfl rfl (M+1) (0,0) ?_ ?_);exact⟨rfl,rfl,HF10.out⟩;have HX11:Hid (qbS W (inA bs fm d l) (hdC 7 n (q0:Int) o) (thA 7 0 ⟨#[]⟩ (.slice ka kn kc) (.slice ua un uc)) (w10.setRow (M+1) (qae (0,0)))):=HX10.out.else _ (by omega) _;have HF11:Hid ((w10.setRow (M+1) (qae (0,0))).heap[M+1]? = some (.cells (qae (0,0)) 95)):=setRow_heap _ _ _ _ _ _ HF10.out;have HB11:Hid (Below wr.heap.size wr (w10.setRow (M+1) (qae (0,0)))):=qai HB10.out (by have:=HLM.out;omega) _;generalize w10.setRow (M+1) (qae (0,0))=V11 at *;clear c0 c1 c2 c3 u0 g1 g2;obtain⟨c0,c1,c2,c3⟩:=qa3 HX11.out.box;have u0:V11.cell? ⟨M+1,0,none⟩=some (.int .i64 (0)):=qaa HF11.out 0;have k3:V11.cell? ⟨W.heap.size+1+1+1+1,3,none⟩=some (.slice ka kn kc):=qaa HX11.out.tv 3)
         |((with_reducible refine zT 6 78 rfl rfl (W.heap.size+2) (th0) ?_ ?_);exact⟨rfl,rfl,HX13.out.th,thg⟩)
         |((with_reducible refine zF 8 82 rfl rfl (W.heap.size+3) (12,(r:Int)-1) ?_ ?_);exact⟨rfl,rfl,sx (by omega) HX13.out.flt⟩))
        have hf:=HX13.out.fin (th0) (12,(r:Int)-1)
        refine eoT results177 hf (.int .i64 0) rfl rfl rfl rfl ⟨hf.2.2,?_⟩
        rw[HE.out]
        exact⟨_,_,_,_,_,_,_,_,_,_,rfl⟩
       ·rw[if_neg hin] at hkey
        have cHo:∀V,qe5 k V (W.heap.size+5) (.slice ka kn kc) (.slice ua un uc) kl ds→Calls prog 210 #[.slice ka kn kc,.string ⟨tt.toArray⟩] V fun e W'=>e=.returned (.bool false)∧V=W':=by
         rw[decide_eq_false hin] at cHo0
         exact cHo0
        have HPI:Hid (InR bs lim r):=hri
        have HKEY:Hid (qbT (hdO fm) bs lim kl.reverse p=.ok (tt,r)):=hkey
        clear hc hp hent hkey har hbt hri cHo0 hin cH cB
        go_wp2_with (first
         |(go_at_call 113;refine ckB (cH1 _) HX7.out.next ?_;clear cH1 c0 c1 c2 c3 u0 g1 g2;intro w8 hB8 HX8;have HF8:Hid (w8.heap[M+1]? = some (.cells (qae (0,0)) 95)):=(hB8.block _ (ltA HF7.out)).trans HF7.out;have HG8:Hid (w8.heap[M]? = some (.cells (hdC (kdR 8) nv (q1:Int) (ovR 8 x1)) 294)):=(hB8.block _ (ltA HG7.out)).trans HG7.out;have HB8:Hid (Below wr.heap.size wr w8):=HB7.out.trans (hB8.mono HB7.out.size);obtain⟨c0,c1,c2,c3⟩:=qa3 HX8.out.box;have g1:w8.cell? ⟨M,1,none⟩=some (.int .i64 nv):=qaa HG8.out 1;have g2:w8.cell? ⟨M,2,none⟩=some (.int .i64 (q1:Int)):=qaa HG8.out 2;have u0:w8.cell? ⟨M+1,0,none⟩=some (.int .i64 0):=qaa HF8.out 0)
         |(go_at_call 209;refine ckB (cT1 _) HX8.out.next ?_;clear cT1 c0 c1 c2 c3 u0 g1 g2;intro w9 hB9 HX9;have HF9:Hid (w9.heap[M+1]? = some (.cells (qae (0,0)) 95)):=(hB9.block _ (ltA HF8.out)).trans HF8.out;have HG9:Hid (w9.heap[M]? = some (.cells (hdC (kdR 8) nv (q1:Int) (ovR 8 x1)) 294)):=(hB9.block _ (ltA HG8.out)).trans HG8.out;have HB9:Hid (Below wr.heap.size wr w9):=HB8.out.trans (hB9.mono HB8.out.size);obtain⟨c0,c1,c2,c3⟩:=qa3 HX9.out.box;have g1:w9.cell? ⟨M,1,none⟩=some (.int .i64 nv):=qaa HG9.out 1;have g2:w9.cell? ⟨M,2,none⟩=some (.int .i64 (q1:Int)):=qaa HG9.out 2;have u0:w9.cell? ⟨M+1,0,none⟩=some (.int .i64 0):=qaa HF9.out 0)
         |(go_at_call 176;refine ckB (cR1 _) HX9.out.next ?_;clear cR1 c0 c1 c2 c3 u0 g1 g2;intro w10 hB10 HX10;have HF10:Hid (w10.heap[M+1]? = some (.cells (qae (0,0)) 95)):=(hB10.block _ (ltA HF9.out)).trans HF9.out;have HG10:Hid (w10.heap[M]? = some (.cells (hdC (kdR 8) nv (q1:Int) (ovR 8 x1)) 294)):=(hB10.block _ (ltA HG9.out)).trans HG9.out;have HB10:Hid (Below wr.heap.size wr w10):=HB9.out.trans (hB10.mono HB9.out.size);obtain⟨c0,c1,c2,c3⟩:=qa3 HX10.out.box;have g1:w10.cell? ⟨M,1,none⟩=some (.int .i64 nv):=qaa HG10.out 1;have g2:w10.cell? ⟨M,2,none⟩=some (.int .i64 (q1:Int)):=qaa HG10.out 2;have u0:w10.cell? ⟨M+1,0,none⟩=some (.int .i64 0):=qaa HF10.out 0)
         |(go_at_call 210;refine(cHo _ (HKD.out.next HB11.out.size (fun j _ hj=>HB11.out.block j hj))).mono ?_;clear cHo;rintro e w12 ⟨rfl,rfl⟩;have HM11:Hid (qe5 k V11 (W.heap.size+5) (.slice ka kn kc) (.slice ua un uc) kl ds):=HKD.out.next HB11.out.size (fun j _ hj=>HB11.out.block j hj))
         |((with_reducible refine zF 13 67 rfl rfl (M+1) (0,0) ?_ ?_);exact⟨rfl,rfl,HF10.out⟩;have HX11:Hid (qbS W (inA bs fm d l) (hdC 7 n (q0:Int) o) (thA 7 0 ⟨#[]⟩ (.slice ka kn kc) (.slice ua un uc)) (w10.setRow (M+1) (qae (0,0)))):=HX10.out.else _ (by omega) _;have HF11:Hid ((w10.setRow (M+1) (qae (0,0))).heap[M+1]? = some (.cells (qae (0,0)) 95)):=setRow_heap _ _ _ _ _ _ HF10.out;have HB11:Hid (Below wr.heap.size wr (w10.setRow (M+1) (qae (0,0)))):=qai HB10.out (by have:=HLM.out;omega) _;generalize w10.setRow (M+1) (qae (0,0))=V11 at *;clear c0 c1 c2 c3 u0 g1 g2;obtain⟨c0,c1,c2,c3⟩:=qa3 HX11.out.box;have u0:V11.cell? ⟨M+1,0,none⟩=some (.int .i64 (0)):=qaa HF11.out 0;have k3:V11.cell? ⟨W.heap.size+1+1+1+1,3,none⟩=some (.slice ka kn kc):=qaa HX11.out.tv 3)
         |(at_builtin;(refine qag _ rfl _ _ 57 rfl (W.heap.size+5) 9 si (.string ByteArray.empty) 1 16 underlying57 hsi hs0 hs1 hs2 rfl (by decide) _ _ _ rfl (HM11.out.keys.alloc _) ⟨V11.heap.size,0,none⟩ 1 1 [.string ⟨tt.toArray⟩] rfl rfl (qa4 _ _ _) (qld _) (by decide) (by unfold maxLen;omega) (by omega) (by have:=HX11.out.size;simp;omega) ?_);intro v' w13 hown1 hg1 hw1;obtain⟨g1,cap1,rfl⟩:=ownsRow_succ hown1;have HX13:Hid (qbS W (inA bs fm d l) (hdC 7 n (q0:Int) o) (thA 7 0 ⟨#[]⟩ (.slice ka kn kc) (.slice ua un uc)) w13):=HX11.out.grow (fun g e=>qaQ HM11.out.keys e) hg1;have HM13:Hid (qe5 k w13 (W.heap.size+5) (.slice (some ⟨g1,0,none⟩) (kl.length+1) cap1) (.slice ua un uc) (kl++[tt]) ds):=HM11.out.key hown1 hg1 hw1;clear hown1 hg1 hw1 c0 c1 c2 c3 k3 u0;have k3:w13.cell? ⟨W.heap.size+1+1+1+1,3,none⟩=some (.slice ka kn kc):=qaa HX13.out.tv 3;have f3:w13.frozen? ⟨W.heap.size+1+1+1+1,3,none⟩=false:=frozen_of_row w13 (W.heap.size+4) 3 _ _ HX13.out.tv;obtain⟨c0,c1,c2,c3⟩:=qa3 HX13.out.box))
        have HX14:Hid (qbS W (inA bs fm d l) (hdC 7 n (q0:Int) o) (thA 7 0 ⟨#[]⟩ (.slice (some ⟨g1,0,none⟩) (kl.length+1) cap1) (.slice ua un uc)) (w13.setCell ⟨W.heap.size+1+1+1+1,3,none⟩ (.slice (some ⟨g1,0,none⟩) (kl.length+1) cap1))):=(HX13.out.cell _).1
        have HM14:Hid (qe5 k (w13.setCell ⟨W.heap.size+1+1+1+1,3,none⟩ (.slice (some ⟨g1,0,none⟩) (kl.length+1) cap1)) (W.heap.size+5) (.slice (some ⟨g1,0,none⟩) (kl.length+1) cap1) (.slice ua un uc) (kl++[tt]) ds):=HM13.out.next (by simp[World.setCell]) (fun j hj1 hj2=>heap_setCell_other w13 _ _ _ (by simp;omega))
        generalize w13.setCell ⟨W.heap.size+1+1+1+1,3,none⟩ (.slice (some ⟨g1,0,none⟩) (kl.length+1) cap1)=V14 at *
        clear HX13 HM13 HX11 HM11 HF11 HB11 HX10 HF10 HG10 HB10 HX9 HF9 HG9 HB9 HX8 HF8 HG8 HB8 HX7 HF7 HG7 HB7 HX6 HB6 k3 f3
        refine(HCJ.out _ r HPI.out).mono ?_
        clear c0 c1 c2 c3
        rintro e w2 ⟨hB2,he⟩
        have HX4:=qac (HX14.out.next hB2)
        have HKD4:=qac (HM14.out.next hB2.size (fun j _ hj=>hB2.block j hj))
        have hs2:=hB2.size
        have hwi:=HX14.out.size
        cases hr:rd r with
        |error f =>
         rw[hr] at he
         obtain⟨kk,nn,s,a1,i1,j1,b1,q1,m1,z,rfl⟩:=he
         have hne:(f.1==0)=false:=by
          have:=HBAD.out r f.1 f.2 hr
          simpa using this
         have HE:Hid (R=.error f):=by
          show _=_
          rw[←HR.out,show x-kj=(x-kj-1)+1 by omega,qau,HKEY.out]
          simp only[]
          rw[hr]
         clear HR hr
         simp only[]
         go_wp2_with (first
          |((with_reducible refine zT 17 96 rfl rfl (w2.heap.size) (thA kk nn s (.slice a1 i1 j1) (.slice b1 q1 m1)) ?_ ?_);exact⟨rfl,rfl,(qak w2 _ _).1,thg⟩)
          |((with_reducible refine zF 19 98 rfl rfl (w2.heap.size+1) (f) ?_ ?_);exact⟨rfl,rfl,sx (by omega) (qak w2 _ _).2⟩;refine nmd ?_;intro V5 EV5;have HX5:Hid (qbS W (inA bs fm d l) (hdC 7 n (q0:Int) o) (thA 7 0 ⟨#[]⟩ (.slice (some ⟨g1,0,none⟩) (kl.length+1) cap1) (.slice ua un uc)) V5):=EV5▸HX4.out.next (qar _ _ _ _ _);have HF5:Hid (V5.heap[w2.heap.size+1]? = some (.cells (qae (f)) 95)):=EV5▸qci;clear EV5;obtain⟨c0,c1,c2,c3⟩:=qa3 HX5.out.box;have u0:V5.cell? ⟨w2.heap.size+1,0,none⟩=some (.int .i64 (f.1)):=qaa HF5.out 0))
         refine rgn (S:=fun Z=>Z.heap[w2.heap.size+1]? = some (.cells (qae f) 95)) (HF5.out) (by kernel_rfl) ?_
         intro hS
         refine tk 1 103 (.agg (qae f)) rfl (by kernel_rfl) iQ3 (fun Z hZ=>yF 19 hZ rfl rfl) hS ?_
         refine tk 0 102 (.agg th0) rfl (by kernel_rfl) iQ3 (fun Z hZ => ?y0) hS ?_
         case y0=>(unfold th0 thA qaf;go_simp)
         have hS3:=(setRow_other _ (W.heap.size+2) (w2.heap.size+1) th0 (by omega)).trans hS
         refine sTh 2 6 102 (W.heap.size+2) (th0) (by kernel_rfl) (HX5.out.drew.th) thg (hS3) ?_
         refine tkk 3 7 (.int .i64 0) (by kernel_rfl) iQ3 hS3 ?_
         refine sF 4 8 103 (W.heap.size+3) f (by kernel_rfl) (sx (by omega) HX5.out.drew.flt) (sx (by omega) hS3) ?_
         refine wpAnyH_done (by kernel_rfl) ?_ _
         go_simp
         go_wp2
         have hf:=HX5.out.drew.fin (th0) (f)
         refine eoT results177 hf (.int .i64 0) rfl rfl rfl rfl ⟨hf.2.2,?_⟩
         rw[HE.out]
         exact⟨_,_,_,_,_,_,_,_,_,_,rfl⟩
        |ok y =>
         obtain⟨dd,pq⟩:=y
         rw[hr] at he
         obtain⟨hqi,kk,nn,s,a1,i1,j1,b1,q1,m1,rfl,hA⟩:=he
         have HQI:Hid (InR bs lim pq):=hqi
         have HA:Hid (qbD k w2 (fun j=>V14.heap.size≤j∧j<w2.heap.size) (.agg #[.int .i64 kk,.int .i64 nn,.string s,.slice a1 i1 j1,.slice b1 q1 m1]) dd):=hA
         have hpq:=HGO.out r dd pq hr
         have hqb:=hqi.1
         have HUL:Hid (∀g,(Value.slice ua un uc).ownBlock=some g→g<V14.heap.size):=by
          obtain⟨xs,ho,_⟩:=HM14.out.kids
          exact fun g e=>qb9 ho e
         have HKL:Hid (∀g,(Value.slice (some ⟨g1,0,none⟩) (kl.length+1) cap1).ownBlock=some g→g<V14.heap.size):=fun g e=>qb9 HM14.out.keys e
         have HR2:Hid (qau (qbT (hdO fm) bs lim) rd (x-(kj+1)) pq (kl++[tt]).reverse (esZ (kl++[tt]) (ds++[dd]))=R):=by
          show _=_
          rw[←HR.out]
          conv=>rhs;rw[show x-kj=(x-(kj+1))+1 by omega,qau,HKEY.out]
          simp only[]
          rw[hr,qfT (by have:=HDS.out;omega),List.reverse_append]
          rfl
         clear HR hr hA hqi
         simp only[]
         go_wp2_with (first
          |((with_reducible refine zT 17 96 rfl rfl (w2.heap.size) (thA kk nn s (.slice a1 i1 j1) (.slice b1 q1 m1)) ?_ ?_);exact⟨rfl,rfl,(qak w2 _ _).1,thg⟩)
          |((with_reducible refine zF 19 98 rfl rfl (w2.heap.size+1) (0,0) ?_ ?_);exact⟨rfl,rfl,sx (by omega) (qak w2 _ _).2⟩;have HX5:Hid (qbS W (inA bs fm d l) (hdC 7 n (q0:Int) o) (thA 7 0 ⟨#[]⟩ (.slice (some ⟨g1,0,none⟩) (kl.length+1) cap1) (.slice ua un uc)) ((((w2.alloc (.cells #[.int .i64 0,.int .i64 0,.string ⟨#[]⟩,.slice none 0 0,.slice none 0 0] 93)).alloc (.cells #[.int .i64 0,.int .i64 0] 95)).setRow w2.heap.size (thA kk nn s (.slice a1 i1 j1) (.slice b1 q1 m1))).setRow (w2.heap.size+1) (qae (0,0)))):=HX4.out.next (qar _ _ _ _ _);have HF5:Hid (((((w2.alloc (.cells #[.int .i64 0,.int .i64 0,.string ⟨#[]⟩,.slice none 0 0,.slice none 0 0] 93)).alloc (.cells #[.int .i64 0,.int .i64 0] 95)).setRow w2.heap.size (thA kk nn s (.slice a1 i1 j1) (.slice b1 q1 m1))).setRow (w2.heap.size+1) (qae (0,0))).heap[w2.heap.size+1]? = some (.cells (qae (0,0)) 95)):=setRow_heap _ _ _ _ _ _ (sx (by omega) (qak w2 _ _).2);have HT5:Hid (((((w2.alloc (.cells #[.int .i64 0,.int .i64 0,.string ⟨#[]⟩,.slice none 0 0,.slice none 0 0] 93)).alloc (.cells #[.int .i64 0,.int .i64 0] 95)).setRow w2.heap.size (thA kk nn s (.slice a1 i1 j1) (.slice b1 q1 m1))).setRow (w2.heap.size+1) (qae (0,0))).heap[w2.heap.size]? = some (.cells #[.int .i64 kk,.int .i64 nn,.string s,.slice a1 i1 j1,.slice b1 q1 m1] 93)):=sx (by omega) (setRow_heap _ _ _ _ _ _ (qak w2 _ _).1);have HKD5:Hid (qe5 k ((((w2.alloc (.cells #[.int .i64 0,.int .i64 0,.string ⟨#[]⟩,.slice none 0 0,.slice none 0 0] 93)).alloc (.cells #[.int .i64 0,.int .i64 0] 95)).setRow w2.heap.size (thA kk nn s (.slice a1 i1 j1) (.slice b1 q1 m1))).setRow (w2.heap.size+1) (qae (0,0))) (W.heap.size+5) (.slice (some ⟨g1,0,none⟩) (kl.length+1) cap1) (.slice ua un uc) (kl++[tt]) ds):=HKD4.out.next (qar w2 _ _ _ _).size (fun j _ hj=>(qar w2 _ _ _ _).block j hj);have HA5:Hid (qbD k ((((w2.alloc (.cells #[.int .i64 0,.int .i64 0,.string ⟨#[]⟩,.slice none 0 0,.slice none 0 0] 93)).alloc (.cells #[.int .i64 0,.int .i64 0] 95)).setRow w2.heap.size (thA kk nn s (.slice a1 i1 j1) (.slice b1 q1 m1))).setRow (w2.heap.size+1) (qae (0,0))) (fun j=>V14.heap.size≤j∧j<((((w2.alloc (.cells #[.int .i64 0,.int .i64 0,.string ⟨#[]⟩,.slice none 0 0,.slice none 0 0] 93)).alloc (.cells #[.int .i64 0,.int .i64 0] 95)).setRow w2.heap.size (thA kk nn s (.slice a1 i1 j1) (.slice b1 q1 m1))).setRow (w2.heap.size+1) (qae (0,0))).heap.size) (.agg #[.int .i64 kk,.int .i64 nn,.string s,.slice a1 i1 j1,.slice b1 q1 m1]) dd):=HA.out.same (fun j hj=>⟨hj.1,Nat.lt_of_lt_of_le hj.2 (qar w2 _ _ _ _).size⟩) (fun j hj=>(qar w2 _ _ _ _).block j hj.2);have k4:((((w2.alloc (.cells #[.int .i64 0,.int .i64 0,.string ⟨#[]⟩,.slice none 0 0,.slice none 0 0] 93)).alloc (.cells #[.int .i64 0,.int .i64 0] 95)).setRow w2.heap.size (thA kk nn s (.slice a1 i1 j1) (.slice b1 q1 m1))).setRow (w2.heap.size+1) (qae (0,0))).cell? ⟨W.heap.size+1+1+1+1,4,none⟩=some (.slice ua un uc):=qaa HX5.out.tv 4;generalize (((w2.alloc (.cells #[.int .i64 0,.int .i64 0,.string ⟨#[]⟩,.slice none 0 0,.slice none 0 0] 93)).alloc (.cells #[.int .i64 0,.int .i64 0] 95)).setRow w2.heap.size (thA kk nn s (.slice a1 i1 j1) (.slice b1 q1 m1))).setRow (w2.heap.size+1) (qae (0,0))=V5 at *;obtain⟨c0,c1,c2,c3⟩:=qa3 HX5.out.box;have u0:V5.cell? ⟨w2.heap.size+1,0,none⟩=some (.int .i64 (0)):=qaa HF5.out 0)
          |((with_reducible refine wpList_load_row rfl 93 (.tmp 17) rfl (w2.heap.size) ?hx 93 (#[.int .i64 kk,.int .i64 nn,.string s,.slice a1 i1 j1,.slice b1 q1 m1]) (0,0) _ ?hg underlying93 rfl ?hi ?_);(case hx=>exact rfl);(case hg=>exact HT5.out);(case hi=>exact qcw);obtain⟨xs,ho,hch⟩:=HKD5.out.kids;have HO:Hid (V5.ownsRow (W.heap.size+5) 93 5 (.slice ua un uc) ds.length xs):=ho;have HCH:Hid (∀(i:Nat) (d:DataW Unit),ds[i]? = some d→∃a,qh2 xs i a∧qbD k V5 (fun j=>(W.heap.size+5)≤j∧j<V5.heap.size∧some j≠(Value.slice ua un uc).ownBlock∧¬some j=((.slice (some ⟨g1,0,none⟩) (kl.length+1) cap1):Value).ownBlock) (.agg a) d):=hch;clear ho hch)
          |(at_builtin;(refine qag _ rfl _ _ 91 rfl (W.heap.size+5) 93 ti (.agg th0) 5 80 underlying91 hti ht0 ht1 ht2 rfl (by decide) _ _ _ rfl (HO.out.alloc _) ⟨V5.heap.size,0,none⟩ 1 1 [.int .i64 kk,.int .i64 nn,.string s,.slice a1 i1 j1,.slice b1 q1 m1] rfl rfl (qa4 _ _ _) (qdl _ _ _ _ _ _ _ _ _) (by decide) (by have:=HDS.out;unfold maxLen;omega) (by have:=HDS.out;omega) (by have:=HX5.out.size;simp;omega) ?_);intro v' w5 hown' hgrow5 hw5;obtain⟨g5,cap5,rfl⟩:=ownsRow_succ hown';have HX6:Hid (qbS W (inA bs fm d l) (hdC 7 n (q0:Int) o) (thA 7 0 ⟨#[]⟩ (.slice (some ⟨g1,0,none⟩) (kl.length+1) cap1) (.slice ua un uc)) w5):=HX5.out.grow (fun g e=>qaQ HO.out e) hgrow5;have HKD6:Hid (qe5 k w5 (W.heap.size+5) (.slice (some ⟨g1,0,none⟩) (kl.length+1) cap1) (.slice (some ⟨g5,0,none⟩) (ds.length+1) cap5) (kl++[tt]) (ds++[dd])):=HKD5.out.kid (L:=V14.heap.size) HO.out HCH.out HA5.out (fun g e=>HUL.out g e) (fun g e=>HKL.out g e) (by omega) rfl hown' hgrow5 hw5;clear hown' hgrow5 hw5 c0 c1 c2 c3 k4 u0;have k4:w5.cell? ⟨W.heap.size+1+1+1+1,4,none⟩=some (.slice ua un uc):=qaa HX6.out.tv 4;have f4:w5.frozen? ⟨W.heap.size+1+1+1+1,4,none⟩=false:=frozen_of_row w5 (W.heap.size+4) 4 _ _ HX6.out.tv))
         have HX7:Hid (qbS W (inA bs fm d l) (hdC 7 n (q0:Int) o) (thA 7 0 ⟨#[]⟩ (.slice (some ⟨g1,0,none⟩) (kl.length+1) cap1) (.slice (some ⟨g5,0,none⟩) (ds.length+1) cap5)) (w5.setCell ⟨W.heap.size+1+1+1+1,4,none⟩ (.slice (some ⟨g5,0,none⟩) (ds.length+1) cap5))):=(HX6.out.cell _).2
         have HKD7:Hid (qe5 k (w5.setCell ⟨W.heap.size+1+1+1+1,4,none⟩ (.slice (some ⟨g5,0,none⟩) (ds.length+1) cap5)) (W.heap.size+5) (.slice (some ⟨g1,0,none⟩) (kl.length+1) cap1) (.slice (some ⟨g5,0,none⟩) (ds.length+1) cap5) (kl++[tt]) (ds++[dd])):=HKD6.out.next (by simp[World.setCell]) (fun j hj1 hj2=>heap_setCell_other w5 _ _ _ (by simp;omega))
         go_roundg (gk-(pq-p))
         case measure=>have:=hg.out;omega
         case rel=>exact⟨pq,kj+1,kl++[tt],ds++[dd],_,_,_,_,_,_,rfl,by go_num,by show _≤_;have:=hg.out;omega,HQI,⟨by omega,by omega⟩,by show _∧_;rw[List.length_append,List.length_append];have:=HDS.out;simp;omega,HR2,HX7,HKD7⟩
    ·rw[decide_eq_false hso] at cT1
     have hkey:qbT (hdO fm) bs lim kl.reverse p=.error (9,(p:Int)):=by
      unfold qbT
      rw[hc]
      simp only[]
      rw[if_neg hp,if_neg hso]
     have HE:Hid (R=.error (9,(p:Int))):=hent _ hkey
     have cB1:∀V,Calls prog 71 #[.agg #[.string ⟨bs.toArray⟩,.int .i64 fm,.int .i64 d,.int .i64 l],.int .i64 p,.int .i64 9] V fun e W'=>e=.returned (.agg (qae (9,(p:Int))))∧Below V.heap.size V W':=fun V=>by
      have h:=cB V p 9
      rw[qa6 HL.out HI.out hc hp] at h
      exact h
     clear HR hc hp hh h1 h2 hent hkey hso cH cB
     go_wp2_with (first
      |(go_at_call 113;refine ckB (cH1 _) HX7.out.next ?_;clear cH1 c0 c1 c2 c3 u0 g1 g2;intro w8 hB8 HX8;have HF8:Hid (w8.heap[M+1]? = some (.cells (qae F) 95)):=(hB8.block _ (ltA HF7.out)).trans HF7.out;have HG8:Hid (w8.heap[M]? = some (.cells (hdC a hn hq ho) 294)):=(hB8.block _ (ltA HG7.out)).trans HG7.out;have HB8:Hid (Below wr.heap.size wr w8):=HB7.out.trans (hB8.mono HB7.out.size);obtain⟨c0,c1,c2,c3⟩:=qa3 HX8.out.box;have g1:w8.cell? ⟨M,1,none⟩=some (.int .i64 hn):=qaa HG8.out 1;have g2:w8.cell? ⟨M,2,none⟩=some (.int .i64 hq):=qaa HG8.out 2;have u0:w8.cell? ⟨M+1,0,none⟩=some (.int .i64 F.1):=qaa HF8.out 0)
      |(go_at_call 209;refine ckB (cT1 _) HX8.out.next ?_;clear cT1 c0 c1 c2 c3 u0 g1 g2;intro w9 hB9 HX9;have HF9:Hid (w9.heap[M+1]? = some (.cells (qae F) 95)):=(hB9.block _ (ltA HF8.out)).trans HF8.out;have HG9:Hid (w9.heap[M]? = some (.cells (hdC a hn hq ho) 294)):=(hB9.block _ (ltA HG8.out)).trans HG8.out;have HB9:Hid (Below wr.heap.size wr w9):=HB8.out.trans (hB9.mono HB8.out.size);obtain⟨c0,c1,c2,c3⟩:=qa3 HX9.out.box;have g1:w9.cell? ⟨M,1,none⟩=some (.int .i64 hn):=qaa HG9.out 1;have g2:w9.cell? ⟨M,2,none⟩=some (.int .i64 hq):=qaa HG9.out 2;have u0:w9.cell? ⟨M+1,0,none⟩=some (.int .i64 F.1):=qaa HF9.out 0)
      |(go_at_call 71;refine ck (cB1 _) HX9.out.next ?_;clear cB1 c0 c1 c2 c3 u0 g1 g2;intro w13 HX13)
      |((with_reducible refine zT 6 49 rfl rfl (W.heap.size+2) (th0) ?_ ?_);exact⟨rfl,rfl,HX13.out.th,thg⟩)
      |((with_reducible refine zF 8 52 rfl rfl (W.heap.size+3) (9,(p:Int)) ?_ ?_);exact⟨rfl,rfl,sx (by omega) HX13.out.flt⟩))
     have hf:=HX13.out.fin (th0) (9,(p:Int))
     refine eoT results177 hf (.int .i64 0) rfl rfl rfl rfl ⟨hf.2.2,?_⟩
     rw[HE.out]
     exact⟨_,_,_,_,_,_,_,_,_,_,rfl⟩
end
end Go.Proofs.YtllcbnfmihfaaaaGreatDoor
