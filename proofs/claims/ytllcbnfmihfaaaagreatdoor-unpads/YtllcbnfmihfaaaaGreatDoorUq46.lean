import Derived.Test.YtllcbnfmihfaaaaGreatDoorUq45
set_option maxRecDepth 100000
set_option maxHeartbeats 8000000
namespace Go.Proofs.YtllcbnfmihfaaaaGreatDoor
open Go.Proofs.Tryz
section
open Go.RowKit Go.Lib
def qlP (xs:List Value)(n g:Nat):Prop:=∃i v,n≤i∧i<n+4∧xs[i]? = some v∧v.ownBlock=some g
theorem qbz {W V:World}{X:Nat→Prop}(h:Frm W V X){a:Addr}(hb:a.block<W.heap.size)(hx:¬X a.block):V.cell? a=W.cell? a:=World.cell?_of_block (h.block _ hb hx)
theorem ql4 {V:World}{g k:Nat}{cur:Array Value}{t:TypeId}{c:Value}(hg:V.heap[g]? = some (.cells cur t))(hk:k<cur.size):qca V (V.setCell ⟨g,k,none⟩ c) c:=by
 refine⟨by simp[World.setCell],fun g' cur' t' fr' h => ?_⟩
 by_cases e:g'=g
 ·subst e
  rw[hg] at h
  injection h with h
  injection h with h1 h2 h3
  subst h1
  subst h2
  subst h3
  refine⟨cur.setIfInBounds k c,by rw[heap_setCell_same _ _ _ _ _ _ hg],by simp,fun j => ?_⟩
  rw[Array.getElem?_setIfInBounds]
  by_cases ej:k=j
  ·rw[if_pos ej,if_pos (by omega)]
   exact .inr ⟨by omega,rfl⟩
  ·rw[if_neg ej]
   exact .inl rfl
 ·exact⟨cur',(heap_setCell_other V _ _ _ (by simpa using e)).trans h,rfl,fun _=>.inl rfl⟩
theorem qfe (W:World)(B:Nat)(la:Option Addr)(N lcap:Nat)(xs:List Value)(mc:Nat→Nat)(h:qiG W B la N lcap xs mc)(n:Nat)(hn:n+4≤N)(hN:N≤1000000000)(hbig:∀(i:Nat) (a:Option Addr) (n c:Nat),xs[i]? = some (Value.slice a n c)→n≤1000000000)(hdis:∀(i:Nat) (v:Value) (g:Nat),xs[i]? = some v→v.ownBlock=some g→g≠B∧∀gr,la=some ⟨gr,0,none⟩→g≠gr)(c:Nat):Calls prog 62 #[.pointer (some ⟨B,0,none⟩),.int .i64 n,.int .u8 c] W fun e W'=>e=.returned (.tuple #[])∧qca W W' (.int .u8 c)∧Frm W W' (qlP xs n)∧∀(i:Nat) (v:Value),n≤i→i<n+4→xs[i]? = some v→qfx W' v (.int .u8 c) 0:=by
 have HL:Hid (qiG W B la N lcap xs mc):=h
 have HBG:Hid (∀(i:Nat) (a:Option Addr) (n c:Nat),xs[i]? = some (Value.slice a n c)→n≤1000000000):=hbig
 have HD:Hid (∀(i:Nat) (v:Value) (g:Nat),xs[i]? = some v→v.ownBlock=some g→g≠B∧∀gr,la=some ⟨gr,0,none⟩→g≠gr):=hdis
 have hw2:=h.w2
 have hBl:=block_lt_of_cell hw2
 have HNB:Hid (¬qlP xs n B):=fun ⟨i,v,_,_,h1,h2⟩=>(hdis i v B h1 h2).1 rfl
 clear h hbig hdis
 go_enter func62,ntmps62
 go_wp2
 go_loopg [6] 4 (fun g z wr=>∃i:Nat,z=.int .i64 i∧Hid (i+g=n+4∧n≤i)∧Hid (Frm W wr (qlP xs n))∧Hid (qca W wr (.int .u8 c))∧Hid (∀(i':Nat) (v:Value),n≤i'→i'<i→xs[i']? = some v→qfx wr v (.int .u8 c) 0))
 case atStart=>exact⟨n,rfl,⟨rfl,Nat.le_refl _⟩,Frm.refl _ _,qcG (Nat.le_refl _) (fun _ _=>rfl),fun i' v h1 h2=>by omega⟩
 case round =>
  obtain⟨i,rfl,hg,HF,HM,HA⟩:=hrel
  cases gk with
  |zero =>
   have hge:¬(i:Int)<(n:Int)+4:=by have:=hg.out;omega
   have HA2:Hid (∀(i:Nat) (v:Value),n≤i→i<n+4→xs[i]? = some v→qfx wr v (.int .u8 c) 0):=fun i' v h1 h2 h3=>HA.out i' v h1 (by have:=hg.out;omega) h3
   clear HA
   go_wp2
   go_end0
   exact⟨rfl,HM.out,HF.out,HA2.out⟩
  |succ g =>
   have hlt:(i:Int)<(n:Int)+4:=by have:=hg.out;omega
   have hiN:(i:Int)<(N:Int):=by omega
   have hin:n≤i∧i<n+4:=by have:=hg.out;omega
   obtain⟨gr,a,m,cap,rfl,hr1,hx,hby⟩:=HL.out.at_ (i:=i) (by omega)
   have hmb:=HBG.out i a m cap hx
   have HXI:Hid (xs[i]? = some (.slice a m cap)):=hx
   have hrl:=block_lt_of_cell hr1
   have HNR:Hid (¬qlP xs n gr):=fun ⟨i,v,_,_,h1,h2⟩=>(HD.out i v gr h1 h2).2 gr rfl rfl
   obtain⟨_,_,_,eab,hab⟩:=HL.out.all i _ hx
   cases eab
   have HAB:Hid (m=0∨∃g cur,a=some ⟨g,0,none⟩∧W.heap[g]? = some (.cells cur 5 (0,0))∧m≤cur.size):=hab.imp_right fun ⟨g,cur,h1,_,h2,h3,_⟩=>⟨g,cur,h1,h2,h3⟩
   clear hby hx hab
   have w2:wr.cell? ⟨B,2,none⟩=some (.slice (some ⟨gr,0,none⟩) N lcap):=(qbz HF.out hBl HNB.out).trans hw2
   have r1:wr.cell? ⟨gr,i,none⟩=some (.slice a m cap):=(qbz HF.out hrl HNR.out).trans hr1
   go_wp2
   go_loopg [7] m (fun gj zj wr=>∃j:Nat,zj=.int .i64 j∧Hid (j+gj=m)∧Hid (Frm W wr (qlP xs n))∧Hid (qca W wr (.int .u8 c))∧Hid (∀(i':Nat) (v:Value),n≤i'→i'<i→xs[i']? = some v→qfx wr v (.int .u8 c) 0)∧Hid (j=0∨∃g cur,a=some ⟨g,0,none⟩∧wr.heap[g]? = some (.cells cur 5 (0,0))∧m≤cur.size∧∀j',j'<j→cur[j']? = some (.int .u8 c)))
   case atStart=>exact⟨0,rfl,by show _=_;omega,HF,HM,HA,.inl rfl⟩
   case round =>
    clear HF HM HA w2 r1
    obtain⟨j,rfl,hgj,HF,HM,HA,HJ⟩:=hrel
    have w2:wr.cell? ⟨B,2,none⟩=some (.slice (some ⟨gr,0,none⟩) N lcap):=(qbz HF.out hBl HNB.out).trans hw2
    have r1:wr.cell? ⟨gr,i,none⟩=some (.slice a m cap):=(qbz HF.out hrl HNR.out).trans hr1
    cases gk with
    |zero =>
     have hgej:¬(j:Int)<(m:Int):=by have:=hgj.out;omega
     have HA2:Hid (∀(i':Nat) (v:Value),n≤i'→i'<i+1→xs[i']? = some v→qfx wr v (.int .u8 c) 0):=fun i' v h1 h2 h3=>by
      by_cases e:i'=i
      ·subst e
       rw[HXI.out] at h3
       injection h3 with h3
       subst h3
       refine⟨a,m,cap,rfl,?_⟩
       rcases HJ.out with h|⟨g,cur,h4,h5,h6,h7⟩
       ·exact .inl (by have:=hgj.out;omega)
       ·exact .inr ⟨g,cur,h4,Nat.zero_le _,h5,h6,fun j' hj'=>h7 j' (by have:=hgj.out;omega)⟩
      ·exact HA.out i' v h1 (by omega) h3
     clear HA HJ
     go_wp2
     go_roundg g
     case measure=>omega
     case rel=>exact⟨i+1,by go_num,⟨by have:=hg.out;omega,by omega⟩,HF,HM,HA2⟩
    |succ gj =>
     have hltj:(j:Int)<(m:Int):=by have:=hgj.out;omega
     obtain⟨gb,cur,rfl,hcb,hmc,hcj⟩:∃g cur,a=some ⟨g,0,none⟩∧wr.heap[g]? = some (.cells cur 5 (0,0))∧m≤cur.size∧∀j',j'<j→cur[j']? = some (.int .u8 c):=by
      rcases HAB.out with h|⟨g,cur,h1,h2,h3⟩
      ·omega
      ·subst h1
       rcases HJ.out with h|⟨g',cur',h4,h5,h6,h7⟩
       ·obtain⟨cur',e1,e2,_⟩:=HM.out.2 g cur _ _ h2
        exact⟨g,cur',rfl,e1,by omega,fun j' hj'=>by omega⟩
       ·exact⟨g',cur',h4,h5,h6,h7⟩
     have HC:Hid (wr.heap[gb]? = some (.cells cur 5)):=hcb
     obtain⟨v0,hv0⟩:∃v,cur[j]? = some v:=⟨_,Array.getElem?_eq_getElem (by omega)⟩
     have k0:wr.cell? ⟨gb,j,none⟩=some v0:=(qaa HC.out j).trans hv0
     have f0:wr.frozen? ⟨gb,j,none⟩=false:=frozen_of_row wr gb j _ _ HC.out
     have HXB:Hid (qlP xs n gb):=⟨i,_,hin.1,hin.2,HXI.out,rfl⟩
     have HF2:Hid (Frm W (wr.setCell ⟨gb,j,none⟩ (.int .u8 c)) (qlP xs n)):=HF.out.next (qfC HXB.out)
     have hms:=ql4 (c:=.int .u8 c) HC.out (k:=j) (by omega)
     have HM2:Hid (qca W (wr.setCell ⟨gb,j,none⟩ (.int .u8 c)) (.int .u8 c)):=HM.out.trans hms
     have HA2:Hid (∀(i':Nat) (v:Value),n≤i'→i'<i→xs[i']? = some v→qfx (wr.setCell ⟨gb,j,none⟩ (.int .u8 c)) v (.int .u8 c) 0):=fun i' v h1 h2 h3=>(HA.out i' v h1 h2 h3).marks hms
     have HJ2:Hid (j+1=0∨∃g cur,some (⟨gb,0,none⟩:Addr)=some ⟨g,0,none⟩∧(wr.setCell ⟨gb,j,none⟩ (.int .u8 c)).heap[g]? = some (.cells cur 5 (0,0))∧m≤cur.size∧∀j',j'<j+1→cur[j']? = some (.int .u8 c)):=by
      refine .inr ⟨gb,cur.setIfInBounds j (.int .u8 c),rfl,by rw[heap_setCell_same _ _ _ _ _ _ HC.out],by simpa using hmc,fun j' hj' => ?_⟩
      rw[Array.getElem?_setIfInBounds]
      by_cases e:j=j'
      ·rw[if_pos e,if_pos (by omega)]
      ·rw[if_neg e]
       exact hcj j' (by omega)
     clear hcb hmc hcj hv0 hms HF HM HA HJ HXB HC
     go_wp2
     go_roundg gj
     case measure=>omega
     case rel=>exact⟨j+1,by go_num,by show _=_;have:=hgj.out;omega,HF2,HM2,HA2,HJ2⟩
def qiR (xs:List Value):Prop:=∀(i i':Nat) (v v':Value) (g:Nat),xs[i]? = some v→xs[i']? = some v'→v.ownBlock=some g→v'.ownBlock=some g→i / 4=i' / 4
theorem qgE {V V':World}{B:Nat}{la:Option Addr}{N lcap:Nat}{xs:List Value}{mc:Nat→Nat}(h:qiG V B la N lcap xs mc){n q c:Nat}(hq:n=4*q)(hF:Frm V V' (qlP xs n))(hA:∀(i:Nat) (v:Value),n≤i→i<n+4→xs[i]? = some v→qfx V' v (.int .u8 c) 0)(hdis:∀(i:Nat) (v:Value) (g:Nat),xs[i]? = some v→v.ownBlock=some g→g≠B∧∀gr,la=some ⟨gr,0,none⟩→g≠gr)(hgr:qiR xs):qiG V' B la N lcap xs (fun i=>if i / 4=n / 4 then c else mc i):=by
 have hnB:¬qlP xs n B:=fun ⟨i,v,_,_,h1,h2⟩=>(hdis i v B h1 h2).1 rfl
 refine⟨(qbz hF (block_lt_of_cell h.w2) hnB).trans h.w2,h.len,fun i v hv => ?_,fun i v hv => ?_⟩
 ·obtain⟨gr,e1,e2⟩:=h.row i v hv
  exact⟨gr,e1,(qbz hF (block_lt_of_cell e2) (fun ⟨i,v,_,_,h1,h2⟩=>(hdis i v gr h1 h2).2 gr e1 rfl)).trans e2⟩
 ·by_cases hi:i / 4=n / 4
  ·simp only[if_pos hi]
   exact hA i v (by omega) (by omega) hv
  ·simp only[if_neg hi]
   have h1:=h.all i v hv
   obtain⟨a,m,cap,rfl,h2⟩:=h1
   refine⟨a,m,cap,rfl,?_⟩
   rcases h2 with h2|⟨g,cur,rfl,h3,h4,h5,h6⟩
   ·exact .inl h2
   ·refine .inr ⟨g,cur,rfl,h3,?_,h5,h6⟩
    refine(hF.block g (ltA h4) (fun ⟨i',v',k1,k2,k3,k4⟩ => ?_)).trans h4
    have:=hgr i i' _ v' g hv k3 rfl k4
    omega
def qom (xs:List Value)(g:Nat):Prop:=∃(i:Nat) (v:Value),xs[i]? = some v∧v.ownBlock=some g
theorem qiC {W V:World}{X Y:Nat→Prop}(h:Frm W V X)(hxy:∀g,X g→Y g):Frm W V Y:=⟨h.os,h.tape,h.output,h.size,fun j hj hx=>h.block j hj (fun h=>hx (hxy j h))⟩
theorem qnd (n:Nat):(fun i=>if i / 4=n / 4 then mkN n else (if i / 4=n / 4 then 7 else mkN i))=mkN:=by
 funext i
 by_cases h:i / 4=n / 4
 ·rw[if_pos h]
  unfold mkN
  rw[h]
 ·rw[if_neg h,if_neg h]
theorem qk8 (W:World)(B:Nat)(la:Option Addr)(N lcap Q:Nat)(xs:List Value)(h:qiG W B la N lcap xs mkN)(hNQ:N=4*Q)(hN:N≤1000000000)(hbig:∀(i:Nat) (a:Option Addr) (n c:Nat),xs[i]? = some (Value.slice a n c)→n≤1000000000)(hdis:∀(i:Nat) (v:Value) (g:Nat),xs[i]? = some v→v.ownBlock=some g→g≠B∧∀gr,la=some ⟨gr,0,none⟩→g≠gr)(hgr:qiR xs):Calls prog 37 #[.pointer (some ⟨B,0,none⟩)] W fun e W'=>e=.returned (.bool true)∧Frm W W' (qom xs):=by
 have HL:Hid (qiG W B la N lcap xs mkN):=h
 have HBG:Hid (∀(i:Nat) (a:Option Addr) (n c:Nat),xs[i]? = some (Value.slice a n c)→n≤1000000000):=hbig
 have HD:Hid (∀(i:Nat) (v:Value) (g:Nat),xs[i]? = some v→v.ownBlock=some g→g≠B∧∀gr,la=some ⟨gr,0,none⟩→g≠gr):=hdis
 have HG:Hid (qiR xs):=hgr
 have HNQ:Hid (N=4*Q):=hNQ
 clear h hbig hdis hgr hNQ
 go_enter func37,ntmps37
 go_wp2
 go_loopg [3] Q (fun g z wr=>∃n:Nat,z=.int .i64 n∧Hid (∃q,n=4*q∧q+g=Q)∧Hid (qiG wr B la N lcap xs mkN)∧Hid (Frm W wr (qom xs)))
 case atStart=>exact⟨0,rfl,⟨0,rfl,by omega⟩,HL,Frm.refl _ _⟩
 case round =>
  clear HL
  obtain⟨n,rfl,hg,HL,HF⟩:=hrel
  have w2:=HL.out.w2
  cases gk with
  |zero =>
   have hge:¬(n:Int)<(N:Int):=by obtain⟨q,h1,h2⟩:=hg.out;have:=HNQ.out;omega
   go_wp2
   go_ret
   exact⟨rfl,HF.out⟩
  |succ g =>
   have hlt:(n:Int)<(N:Int):=by obtain⟨q,h1,h2⟩:=hg.out;have:=HNQ.out;omega
   have hn4:n+4≤N:=by obtain⟨q,h1,h2⟩:=hg.out;have:=HNQ.out;omega
   have cW:=qfe wr B la N lcap xs mkN HL.out n hn4 hN HBG.out HD.out 7
   go_wp2_with (first
    |(go_at_call 62;refine cW.mono ?_;clear cW w2;rintro e w4 ⟨rfl,hw⟩;have HW4:Hid _:=hw;clear hw))
   obtain⟨hM4,hF4,hA4⟩:=HW4.out
   clear HW4
   have HL4:Hid (qiG w4 B la N lcap xs (fun i=>if i / 4=n / 4 then 7 else mkN i)):=qgE HL.out (q:=hg.out.choose) hg.out.choose_spec.1 hF4 hA4 HD.out HG.out
   have HF4:Hid (Frm W w4 (qom xs)):=HF.out.next (qiC hF4 (fun g ⟨i,v,_,_,h1,h2⟩=>⟨i,v,h1,h2⟩))
   clear hM4 hF4 hA4 HL HF
   have w2:=HL4.out.w2
   go_loopg [4] N (fun gi z wr=>w4=wr∧∃i:Nat,z=.int .i64 i∧Hid (i+gi=N))
   case atStart=>exact⟨rfl,0,rfl,by show _=_;omega⟩
   case round =>
    obtain⟨rfl,i,rfl,hgi⟩:=hrel
    cases gk with
    |zero =>
     have hgei:¬(i:Int)<(N:Int):=by have:=hgi.out;omega
     have cM:∀V,Calls prog 61 #[.int .i64 n] V fun e W'=>e=.returned (.int .u8 (mkN n))∧V=W':=fun V=>(qdR n (by omega) V).mono fun e W' h=>⟨h.1,h.2.symm⟩
     have cW:=qfe w4 B la N lcap xs (fun i=>if i / 4=n / 4 then 7 else mkN i) HL4.out n hn4 hN HBG.out HD.out (mkN n)
     go_wp2_with (first
      |(go_at_call 61;refine(cM _).mono ?_;clear cM;rintro e w5 ⟨rfl,rfl⟩)
      |(go_at_call 62;refine cW.mono ?_;clear cW w2;rintro e w6 ⟨rfl,hw⟩;have HW6:Hid _:=hw;clear hw))
     obtain⟨hM6,hF6,hA6⟩:=HW6.out
     clear HW6
     have HL6:Hid (qiG w6 B la N lcap xs mkN):=by
      have h:=qgE HL4.out (q:=hg.out.choose) hg.out.choose_spec.1 hF6 hA6 HD.out HG.out
      rw[qnd n] at h
      exact h
     have HF6:Hid (Frm W w6 (qom xs)):=HF4.out.next (qiC hF6 (fun g ⟨i,v,_,_,h1,h2⟩=>⟨i,v,h1,h2⟩))
     clear hM6 hF6 hA6 HL4 HF4
     go_roundg g
     case measure=>omega
     case rel=>exact⟨n+4,by go_num,(by obtain⟨q,h1,h2⟩:=hg.out;exact⟨q+1,by omega,by omega⟩),HL6,HF6⟩
    |succ gi =>
     have hlti:(i:Int)<(N:Int):=by have:=hgi.out;omega
     obtain⟨gr,a,m,cap,rfl,r1,hx,hby⟩:=HL4.out.at_ (i:=i) (by omega)
     have hmb:=HBG.out i a m cap hx
     have HBY:Hid (∀j,j<m→¬i / 4=n / 4→∃g,a=some ⟨g,0,none⟩∧w4.cell? ⟨g,j,none⟩=some (.int .u8 (mkN i))):=fun j hj hne=>by
      obtain⟨g,e1,e2⟩:=hby j hj
      simp only[if_neg hne] at e2
      exact⟨g,e1,e2⟩
     clear hby hx
     go_wp2
     go_loopg [5] m (fun gj z wr=>w4=wr∧∃j:Nat,z=.int .i64 j∧Hid (j+gj=m))
     case atStart=>exact⟨rfl,0,rfl,by show _=_;omega⟩
     case round =>
      obtain⟨rfl,j,rfl,hgj⟩:=hrel
      cases gk with
      |zero =>
       have hgej:¬(j:Int)<(m:Int):=by have:=hgj.out;omega
       go_wp2
       go_roundg gi
       case measure=>omega
       case rel=>exact⟨rfl,i+1,by go_num,by show _=_;have:=hgi.out;omega⟩
      |succ gj =>
       have hltj:(j:Int)<(m:Int):=by have:=hgj.out;omega
       by_cases hin:n≤i∧i<n+4
       ·have t1:¬(i:Int)<(n:Int):=by omega
        have t1b:n≤i:=hin.1
        have t1c:decide (i<n)=false:=by simp;omega
        have t2:¬(n:Int)+4≤(i:Int):=by omega
        have t2b:i<n+4:=hin.2
        have t2c:decide (n+4≤i)=false:=by simp;omega
        clear HBY hin
        go_wp2
        go_roundg gj
        case measure=>omega
        case rel=>exact⟨rfl,j+1,by go_num,by show _=_;have:=hgj.out;omega⟩
       ·have hne4:¬i / 4=n / 4:=by obtain⟨q,h1,h2⟩:=hg.out;have:=HNQ.out;omega
        obtain⟨gb,rfl,hb⟩:=HBY.out j (by omega) hne4
        clear hne4
        have t7:(((mkN i:Nat):Int)==7)=false:=by unfold mkN;simp;omega
        by_cases hlo:i<n
        ·have t1:(i:Int)<(n:Int):=by omega
         have t1b:i<n:=hlo
         have t1c:decide (i<n)=true:=by simp;omega
         clear HBY hin hlo
         go_wp2
         go_roundg gj
         case measure=>omega
         case rel=>exact⟨rfl,j+1,by go_num,by show _=_;have:=hgj.out;omega⟩
        ·have t1:¬(i:Int)<(n:Int):=by omega
         have t1b:n≤i:=by omega
         have t1c:decide (i<n)=false:=by simp;omega
         have t2:(n:Int)+4≤(i:Int):=by omega
         have t2b:n+4≤i:=by omega
         have t2c:decide (n+4≤i)=true:=by simp;omega
         clear HBY hin hlo
         go_wp2
         go_roundg gj
         case measure=>omega
         case rel=>exact⟨rfl,j+1,by go_num,by show _=_;have:=hgj.out;omega⟩
theorem qcR (k:Nat)(W:World)(bs:List UInt8)(fm d l lim:Int)(i:Nat)(dp:Int)(c:UInt8)(hc:bs[i]? = some c)(hp:¬(i:Int)=lim)(hl:Lm bs l lim)(hi:InR bs lim i)(hd:d≤dp):Calls prog 172 #[.agg (inA bs fm d l),.int .i64 i,.int .i64 dp] W (qa5 k bs lim W (.error (11,(i:Int)))):=by
 have hdf:decide (d≤dp)=true:=by simpa using hd
 have cB1:∀V,Calls prog 71 #[.agg #[.string ⟨bs.toArray⟩,.int .i64 fm,.int .i64 d,.int .i64 l],.int .i64 i,.int .i64 11] V fun e W'=>e=.returned (.agg (qae (11,(i:Int))))∧Below V.heap.size V W':=fun V=>by
  have h:=qaR V bs fm d l i 11
  rw[qa6 hl hi hc hp] at h
  exact h
 have HX:=qbk W bs fm d l
 clear hc hp hl hi hd
 unfold inA
 go_enter func172,ntmps172
 go_wp2_with (first
  |(go_at_call 71;refine ck4 (cB1 _) HX.out.next (fun _ h=>h.box) ?_;clear cB1;intro w3 HX3 c0 c1 c2 c3)
  |((with_reducible refine zT 6 17 rfl rfl (W.heap.size+1) (th0) ?_ ?_);exact⟨rfl,rfl,HX3.out.th,thg⟩)
  |((with_reducible refine zF 8 20 rfl rfl (W.heap.size+2) (11,(i:Int)) ?_ ?_);exact⟨rfl,rfl,qan HX3.out bwR _⟩))
 have hf:=qao HX3.out bwR (th0) (11,(i:Int))
 refine eoT results172 hf (.int .i64 0) rfl rfl rfl rfl ⟨hf.2.2,?_⟩
 exact⟨.error (11,(i:Int)),.inl rfl,_,_,_,_,_,_,_,_,_,_,rfl⟩
theorem qno (s:Src)(c:UInt8)(p:Nat):Bad (nmS s c p):=qje _ _
theorem qls {bs:List UInt8}{l:Int}{p:Nat}{c:UInt8}(hc:bs[p]? = some c)(h:qaG c=false):qjs bs l p=false:=by
 unfold qjs
 rw[hc]
 simp only[]
 rw[h,Bool.and_false]
theorem qjr {c:UInt8}(h:qaG c=true):48≤(c.toNat:Int)∧(c.toNat:Int)≤57:=of_decide_eq_true h
theorem qn7 {c:UInt8}(h:¬qaG c=true):(c.toNat:Int)<48∨57<(c.toNat:Int):=by
 have h2:¬(48≤(c.toNat:Int)∧(c.toNat:Int)≤57):=fun h3=>h (decide_eq_true h3)
 omega
theorem qki (W:World)(bs:List UInt8)(fm d l lim:Int)(i:Nat)(c:UInt8)(hc:bs[i]? = some c)(hv:c.toNat=45∨qaG c=true)(hp:¬(i:Int)=lim)(hl:Lm bs l lim)(hi:InR bs lim i)(hb:bs.length≤200000000)(s:Src)(hs1:s.bs=bs)(hs2:s.lim=lim):Calls prog 173 #[.agg (inA bs fm d l),.int .i64 i] W fun e W'=>qeS bs lim (nmS s c (i+1)) e∧Below W.heap.size W W':=by
 subst hs1
 subst hs2
 unfold nmS qh1
 simp only[]
 have hin:=qav hi hc hp
 by_cases h45:c.toNat=45
 ·rw[if_pos h45]
  have hno:∀x,qjs s.bs l (i+1)=false→qaI s.bs l (i+1) 9=x→Calls prog 173 #[.agg (inA s.bs fm d l),.int .i64 i] W fun e W'=>qeS s.bs s.lim (.error x) e∧Below W.heap.size W W':=fun x h1 h2=>(qi0 W s.bs fm d l i c hc h45 hb x h1 h2).mono fun e W' h=>⟨⟨.error x,.inl rfl,(fun z q e=>by cases e),h.1⟩,h.2⟩
  cases hc1:s.bs[i+1]? with
  |none =>
   simp only[]
   exact hno _ (qfg (qa9 hc1)) (qaH hin.1 hc1 9)
  |some c1 =>
   simp only[]
   by_cases hp1:((i+1:Nat):Int)=s.lim
   ·rw[if_pos hp1]
    exact hno _ (qfg (qaJ hl hc1 hp1)) (qaU hl hc1 hp1 9)
   ·rw[if_neg hp1]
    by_cases hd1:qaG c1=true
    ·rw[if_pos hd1]
     have h:=qjG W s.bs fm d l s.lim i (i+1) c c1 hc h45 rfl hc1 hd1 hp1 hl hin hb
     unfold sgn at h
     simp only[if_true] at h
     exact h
    ·rw[if_neg hd1]
     exact hno _ (qls hc1 (by simpa using hd1)) (qa6 hl hin hc1 hp1 9)
 ·rw[if_neg h45]
  have hd1:qaG c=true:=hv.resolve_left h45
  have h:=qjT W s.bs fm d l s.lim i i c c hc h45 rfl hc hd1 hp hl hi hb
  unfold sgn at h
  simp only[Bool.false_eq_true,if_false] at h
  exact h
theorem qnb {bs:List UInt8}{lim depth:Int}{nm:UInt8→Nat→Except (Int×Int) (Int×Nat)}{g wi p:Nat}(hp:(p:Int)=lim)(hl:p<bs.length):thJ bs lim depth nm (g+1) wi p=.error (8,(p:Int)):=by
 rw[thJ,List.getElem?_eq_getElem hl]
 simp only[]
 rw[if_pos hp]
theorem qfD (s:Src)(fm l:Int)(hl:Lm s.bs l s.lim)(hb:s.bs.length≤200000000)(hd2:s.depth≤100000):∀(g wi:Nat) (W:World) (i:Nat),(wi:Int)≤s.depth→s.depth<wi+g→InR s.bs s.lim i →
  Calls prog 115 #[.agg (inA s.bs fm s.depth l),.int .i64 i,.int .i64 wi] W (qa5 g s.bs s.lim W (thJ s.bs s.lim s.depth (nmS s) g wi i))
 |0,wi,W,i,h1,h2,_=>absurd h2 (by omega)
 |g+1,wi,W,i,h1,h2,hi=>by
  have hbad:∀p,(wi:Int)+1≤s.depth→Bad (thJ s.bs s.lim s.depth (nmS s) g (wi+1) p):=fun p h=>qhP s.bs s.lim s.depth (nmS s) (fun c p=>qno s c p) g (wi+1) p (by omega) (by omega)
  have hlm:(wi:Int)<s.depth→∀p:Nat,(p:Int)=s.lim→p<s.bs.length→thJ s.bs s.lim s.depth (nmS s) g (wi+1) p=.error (8,(p:Int)):=fun h p h3 h4=>by
   obtain⟨g',rfl⟩:∃g',g=g'+1:=⟨g-1,by omega⟩
   exact qnb h3 h4
  rw[thJ]
  cases hc:s.bs[i]? with
  |none=>exact ql3 g W s.bs fm s.depth l s.lim i wi _ (qa9 hc) (qaH hi.1 hc 9)
  |some c =>
   simp only[]
   by_cases hp:(i:Int)=s.lim
   ·rw[if_pos hp]
    exact ql3 g W s.bs fm s.depth l s.lim i wi _ (qaJ hl hc hp) (qaU hl hc hp 9)
   ·rw[if_neg hp]
    have hh:=qa7 hl hi hc hp
    unfold qmM
    by_cases h110:c.toNat=110
    ·rw[if_pos h110]
     exact qkw g W s.bs fm s.depth l s.lim i wi c hc hh hb h110 hp hl hi
    rw[if_neg h110]
    by_cases h116:c.toNat=116
    ·rw[if_pos h116]
     exact qk9 g W s.bs fm s.depth l s.lim i wi c hc hh hb h116 hp hl hi
    rw[if_neg h116]
    by_cases h102:c.toNat=102
    ·rw[if_pos h102]
     exact qlj g W s.bs fm s.depth l s.lim i wi c hc hh hb h102 hp hl hi
    rw[if_neg h102]
    by_cases h34:c.toNat=34
    ·rw[if_pos h34]
     exact qmC g W s.bs fm s.depth l s.lim i wi c hc hh hb h34 hp hl hi
    rw[if_neg h34]
    have ei:((i+1:Nat):Int)-1=(i:Int):=by omega
    by_cases h91:c.toNat=91
    ·rw[if_pos h91]
     refine qmu g W s.bs fm s.depth l s.lim i wi c hc hh hb h91 _ (fun V _ => ?_)
     by_cases hd:(wi:Int)=s.depth
     ·rw[if_pos hd,ei]
      exact qcR (g+1) V s.bs fm s.depth l s.lim i wi c hc hp hl hi (by omega)
     ·rw[if_neg hd]
      exact qeB g V s.bs fm s.depth l s.lim i wi c hc h91 hp hl hi hb (by omega) (by omega) hd2 _ (fun p=>hbad p (by omega)) (hlm (by omega)) (fun p x q h=>qfd s _ _ _ _ _ h) (fun V' p _ hip=>qfD s fm l hl hb hd2 g (wi+1) V' p (by omega) (by omega) hip)
    rw[if_neg h91]
    by_cases h123:c.toNat=123
    ·rw[if_pos h123]
     refine qlo g W s.bs fm s.depth l s.lim i wi c hc hh hb h123 _ (fun V _ => ?_)
     by_cases hd:(wi:Int)=s.depth
     ·rw[if_pos hd,ei]
      exact qcR (g+1) V s.bs fm s.depth l s.lim i wi c hc hp hl hi (by omega)
     ·rw[if_neg hd]
      exact qfp g V s.bs fm s.depth l s.lim i wi c hc h123 hp hl hi hb (by omega) (by omega) hd2 _ (fun p=>hbad p (by omega)) (hlm (by omega)) (fun p x q h=>qfd s _ _ _ _ _ h) (fun V' p hip=>qfD s fm l hl hb hd2 g (wi+1) V' p (by omega) (by omega) hip)
    rw[if_neg h123]
    by_cases hnm:c.toNat=45∨qaG c=true
    ·rw[if_pos hnm]
     have hN:∀V,Calls prog 173 #[.agg (inA s.bs fm s.depth l),.int .i64 i] V fun e W'=>qeS s.bs s.lim (nmS s c (i+1)) e∧Below V.heap.size V W':=fun V=>qki V s.bs fm s.depth l s.lim i c hc hnm hp hl hi hb s rfl rfl
     by_cases h45:c.toNat=45
     ·exact qmE g W s.bs fm s.depth l s.lim i wi c hc hh hb h45 _ hN
     ·have hdig:=hnm.resolve_left h45
      have hb2:=qjr hdig
      exact qlN g W s.bs fm s.depth l s.lim i wi c hc hh hb (fun x hx=>by simp at hx;omega) (by omega) (by omega) _ hN
    ·rw[if_neg hnm,ei]
     have h45:¬c.toNat=45:=fun h=>hnm (.inl h)
     have hnd:¬qaG c=true:=fun h=>hnm (.inr h)
     have hb9:=qa6 hl hi hc hp 9
     rcases qn7 hnd with h48|h57
     ·exact qic g W s.bs fm s.depth l s.lim i wi c hc hh hb (fun x hx=>by simp at hx;omega) (by omega) hb9
     ·exact qin g W s.bs fm s.depth l s.lim i wi c hc hh hb (fun x hx=>by simp at hx;omega) (by omega) hb9
end
end Go.Proofs.YtllcbnfmihfaaaaGreatDoor
