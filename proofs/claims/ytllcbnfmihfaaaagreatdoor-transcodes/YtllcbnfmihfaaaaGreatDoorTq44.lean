import Derived.Test.YtllcbnfmihfaaaaGreatDoorTq43
set_option maxRecDepth 100000
set_option maxHeartbeats 8000000
namespace Go.Proofs.YtllcbnfmihfaaaaGreatDoor
open Go.Proofs.Tryz
variable {V:World}
section
open Go.RowKit Go.Lib
def q30 (xs:List Value):Prop:=∀(i i':Nat) (v v':Value) (g:Nat),xs[i]? = some v→xs[i']? = some v'→v.ownBlock=some g→v'.ownBlock=some g→i / 4=i' / 4
theorem q1l {V':World}{B:Nat}{la:Option Addr}{N lcap:Nat}{xs:List Value}{mc:Nat→Nat}(h:q48 V B la N lcap xs mc){n q c:Nat}(hq:n=4*q)(hF:Frm V V' (q4H xs n))(hA:∀(i:Nat) (v:Value),n≤i→i<n+4→xs[i]? = some v→q1c V' v (.int .u8 c) 0)(hdis:∀(i:Nat) (v:Value) (g:Nat),xs[i]? = some v→v.ownBlock=some g→g≠B∧∀gr,la=some ⟨gr,0,none⟩→g≠gr)(hgr:q30 xs):q48 V' B la N lcap xs (fun i=>if i / 4=n / 4 then c else mc i):=by
 have hnB:¬q4H xs n B:=fun ⟨i,v,_,_,h1,h2⟩=>(hdis i v B h1 h2).1 rfl;refine⟨(qyt hF (block_lt_of_cell h.w2) hnB).trans h.w2,h.len,fun i v hv => ?_,fun i v hv => ?_⟩
 ·obtain⟨gr,e1,e2⟩:=h.row i v hv;exact⟨gr,e1,(qyt hF (block_lt_of_cell e2) (fun ⟨i,v,_,_,h1,h2⟩=>(hdis i v gr h1 h2).2 gr e1 rfl)).trans e2⟩
 by_cases hi:i / 4=n / 4
 ·simp only[if_pos hi];exact hA i v (by omega) (by omega) hv
 simp only[if_neg hi];have h1:=h.all i v hv;obtain⟨a,m,cap,rfl,h2⟩:=h1;refine⟨a,m,cap,rfl,?_⟩;rcases h2 with h2|⟨g,cur,rfl,h3,h4,h5,h6⟩
 ·exact .inl h2
 refine .inr ⟨g,cur,rfl,h3,?_,h5,h6⟩;refine(hF.block g (ltA h4) (fun ⟨i',v',k1,k2,k3,k4⟩ => ?_)).trans h4;have:=hgr i i' _ v' g hv k3 rfl k4;omega
def q7f (xs:List Value)(g:Nat):Prop:=∃(i:Nat) (v:Value),xs[i]? = some v∧v.ownBlock=some g
theorem q20 {W:World}{X Y:Nat→Prop}(h:Frm W V X)(hxy:∀g,X g→Y g):Frm W V Y:=⟨h.os,h.tape,h.output,h.size,fun j hj hx=>h.block j hj (fun h=>hx (hxy j h))⟩
theorem q5L (n:Nat):(fun i=>if i / 4=n / 4 then mkN n else (if i / 4=n / 4 then 7 else mkN i))=mkN:=by
 funext i;by_cases h:i / 4=n / 4
 ·rw[if_pos h];unfold mkN;rw[h]
 rw[if_neg h,if_neg h]
theorem q3E (W:World)(B:Nat)(la:Option Addr)(N lcap Q:Nat)(xs:List Value)(h:q48 W B la N lcap xs mkN)(hNQ:N=4*Q)(hN:N≤1000000000)(hbig:∀(i:Nat) (a:Option Addr) (n c:Nat),xs[i]? = some (Value.slice a n c)→n≤1000000000)(hdis:∀(i:Nat) (v:Value) (g:Nat),xs[i]? = some v→v.ownBlock=some g→g≠B∧∀gr,la=some ⟨gr,0,none⟩→g≠gr)(hgr:q30 xs):Calls prog 37 #[.pointer (some ⟨B,0,none⟩)] W fun e W'=>e=.returned (.bool true)∧Frm W W' (q7f xs):=by
 have HL:=qaa h;have HBG:=qaa hbig;have HD:=qaa hdis;have HG:=qaa hgr;have HNQ:=qaa hNQ;clear h hbig hdis hgr hNQ;go_enter func37,ntmps37;go_wp2
 go_loopg [3] Q (fun g z wr=>∃n:Nat,z=.int .i64 n∧Hid (∃q,n=4*q∧q+g=Q)∧Hid (q48 wr B la N lcap xs mkN)∧Hid (Frm W wr (q7f xs)))
 case atStart=>exact⟨0,rfl,⟨0,rfl,by omega⟩,HL,Frm.refl _ _⟩
 case round =>
  clear HL;obtain⟨n,rfl,hg,HL,HF⟩:=hrel;have w2:=HL.out.w2
  cases gk with
  |zero =>
   have hge:¬(n:Int)<(N:Int):=by obtain⟨q,h1,h2⟩:=hg.out;have:=HNQ.out;omega
   go_wp2;go_ret;exact⟨rfl,HF.out⟩
  |succ g =>
   have hlt:(n:Int)<(N:Int):=by obtain⟨q,h1,h2⟩:=hg.out;have:=HNQ.out;omega
   have hn4:n+4≤N:=by obtain⟨q,h1,h2⟩:=hg.out;have:=HNQ.out;omega
   have cW:=q05 wr B la N lcap xs mkN HL.out n hn4 hN HBG.out HD.out 7
   go_wp2_with (first
    |(go_at_call 62;refine cW.mono ?_;clear cW w2;rintro e w4 ⟨rfl,hw⟩;have HW4:Hid _:=hw;clear hw))
   obtain⟨hM4,hF4,hA4⟩:=HW4.out;clear HW4;have HL4:=qaa (q1l HL.out (q:=hg.out.choose) hg.out.choose_spec.1 hF4 hA4 HD.out HG.out);have HF4:=qaa (HF.out.next (q20 hF4 (fun g ⟨i,v,_,_,h1,h2⟩=>⟨i,v,h1,h2⟩)));clear hM4 hF4 hA4 HL HF;have w2:=HL4.out.w2
   go_loopg [4] N (fun gi z wr=>w4=wr∧∃i:Nat,z=.int .i64 i∧Hid (i+gi=N))
   case atStart=>exact⟨rfl,0,rfl,by show _=_;omega⟩
   case round =>
    obtain⟨rfl,i,rfl,hgi⟩:=hrel
    cases gk with
    |zero =>
     have hgei:¬(i:Int)<(N:Int):=by have:=hgi.out;omega
     have cM:∀V,Calls prog 61 #[.int .i64 n] V fun e W'=>e=.returned (.int .u8 (mkN n))∧V=W':=fun V=>(qzF n (by omega) V).mono fun e W' h=>⟨h.1,h.2.symm⟩
     have cW:=q05 w4 B la N lcap xs (fun i=>if i / 4=n / 4 then 7 else mkN i) HL4.out n hn4 hN HBG.out HD.out (mkN n)
     go_wp2_with (first
      |(go_at_call 61;refine(cM _).mono ?_;clear cM;rintro e w5 ⟨rfl,rfl⟩)
      |(go_at_call 62;refine cW.mono ?_;clear cW w2;rintro e w6 ⟨rfl,hw⟩;have HW6:Hid _:=hw))
     obtain⟨hM6,hF6,hA6⟩:=HW6.out;have HL6:Hid (q48 w6 B la N lcap xs mkN):=by
      have h:=q1l HL4.out (q:=hg.out.choose) hg.out.choose_spec.1 hF6 hA6 HD.out HG.out;rw[q5L n] at h;exact h
     have HF6:=qaa (HF4.out.next (q20 hF6 (fun g ⟨i,v,_,_,h1,h2⟩=>⟨i,v,h1,h2⟩)));go_roundg g
     case measure=>omega
     case rel=>exact⟨n+4,by go_num,(by obtain⟨q,h1,h2⟩:=hg.out;exact⟨q+1,by omega,by omega⟩),HL6,HF6⟩
    |succ gi =>
     have hlti:(i:Int)<(N:Int):=by have:=hgi.out;omega
     obtain⟨gr,a,m,cap,rfl,r1,hx,hby⟩:=HL4.out.at_ (i:=i) (by omega);have hmb:=HBG.out i a m cap hx;have HBY:Hid (∀j,j<m→¬i / 4=n / 4→∃g,a=some ⟨g,0,none⟩∧w4.cell? ⟨g,j,none⟩=some (.int .u8 (mkN i))):=fun j hj hne=>by
      obtain⟨g,e1,e2⟩:=hby j hj;simp only[if_neg hne] at e2;exact⟨g,e1,e2⟩
     go_wp2
     go_loopg [5] m (fun gj z wr=>w4=wr∧∃j:Nat,z=.int .i64 j∧Hid (j+gj=m))
     case atStart=>exact⟨rfl,0,rfl,by show _=_;omega⟩
     case round =>
      obtain⟨rfl,j,rfl,hgj⟩:=hrel
      cases gk with
      |zero =>
       have hgej:¬(j:Int)<(m:Int):=by have:=hgj.out;omega
       go_wp2;go_roundg gi
       case measure=>omega
       case rel=>exact⟨rfl,i+1,by go_num,by show _=_;have:=hgi.out;omega⟩
      |succ gj =>
       have hltj:(j:Int)<(m:Int):=by have:=hgj.out;omega
       by_cases hin:n≤i∧i<n+4
       ·have t1:¬(i:Int)<(n:Int):=by omega
        have t1b:=hin.1;have t1c:decide (i<n)=false:=by simp;omega
        have t2:¬(n:Int)+4≤(i:Int):=by omega
        have t2b:=hin.2;have t2c:decide (n+4≤i)=false:=by simp;omega
        go_wp2;go_roundg gj
        case measure=>omega
        case rel=>exact⟨rfl,j+1,by go_num,by show _=_;have:=hgj.out;omega⟩
       have hne4:¬i / 4=n / 4:=by obtain⟨q,h1,h2⟩:=hg.out;have:=HNQ.out;omega
       obtain⟨gb,rfl,hb⟩:=HBY.out j (by omega) hne4;have t7:(((mkN i:Nat):Int)==7)=false:=by unfold mkN;simp;omega
       by_cases hlo:i<n
       ·have t1:(i:Int)<(n:Int):=by omega
        have t1b:=hlo;have t1c:decide (i<n)=true:=by simp;omega
        go_wp2;go_roundg gj
        case measure=>omega
        case rel=>exact⟨rfl,j+1,by go_num,by show _=_;have:=hgj.out;omega⟩
       have t1:¬(i:Int)<(n:Int):=by omega
       have t1b:n≤i:=by omega
       have t1c:decide (i<n)=false:=by simp;omega
       have t2:(n:Int)+4≤(i:Int):=by omega
       have t2b:n+4≤i:=by omega
       have t2c:decide (n+4≤i)=true:=by simp;omega
       go_wp2;go_roundg gj
       case measure=>omega
       case rel=>exact⟨rfl,j+1,by go_num,by show _=_;have:=hgj.out;omega⟩
end
section
open Go.RowKit
theorem q1y (k:Nat)(V:World)(p:Nat)(fin d l:Int)(a:Option Addr)(n c:Nat)(r:Except (Int×Int) (DataW Unit))(h:q2b V p fin d l (.slice a n c))(cD:Calls prog 41 #[.int .i64 fin,.agg #[.int .i64 d,.int .i64 l],.slice a n c] V (qg6 k V r)):Calls prog 40 #[.pointer (some ⟨p,0,none⟩),.pointer (some ⟨p+1,0,none⟩),.pointer (some ⟨p+2,0,none⟩),.pointer (some ⟨p+3,0,none⟩)] V (qg6 k V r):=by
 have c0:=h.b0.cell;have c1:=h.b1.cell;have c2:=h.b2.cell;have c3:=h.b3.cell;clear h;rcases r with ⟨en,pl⟩|z
 ·go_enter func40,ntmps40
  go_wp2_with (first
   |(go_at_call 41;refine cD.mono ?_;clear cD;rintro e w2 ⟨hB,hF⟩;obtain rfl:=hF))
  exact⟨rfl,hB,rfl⟩
 go_enter func40,ntmps40
 go_wp2_with (first
  |(go_at_call 41;refine cD.mono ?_;clear cD;rintro e w2 ⟨hB,hF⟩;obtain⟨t,y,rfl,hD⟩:=hF;have HD:Hid (qai k w2 (fun j=>V.heap.size≤j∧j<w2.heap.size) (.iface t y) z):=hD;clear hD))
 go_ret;exact⟨hB,_,_,rfl,HD.out⟩
def q6m (k:Nat)(W:World)(fout:Int)(out:DataW Unit→List UInt8)(r:Except (Int×Int) (DataW Unit))(e:Ending)(W':World):Prop :=
 Below W.heap.size W W'∧match r with
 |.ok dd=>(fout=1∧qkn k dd=true∧e=.returned (.tuple #[.slice none 0 0,.int .i64 13,.int .i64 0]))∨(¬(fout=1∧qkn k dd=true)∧∃v,e=.returned (.tuple #[v,.int .i64 0,.int .i64 0])∧Own W' W.heap.size v (out dd))
 |.error (en,pl)=>e=.returned (.tuple #[.slice none 0 0,.int .i64 en,.int .i64 pl])
theorem qmy (k:Nat)(V:World)(fout:Int)(t:TypeId)(y:Value)(dd:DataW Unit)(ys:List UInt8)(hD:qai k V (fun j=>j<V.heap.size) (.iface t y) dd)(hn:¬(fout=1∧qkn k dd=true))(cW:∀U,Below V.heap.size V U→Calls prog 67 #[.int .i64 fout,.iface t y] U fun e V'=>∃v',e=.returned v'∧Own V' U.heap.size v' ys∧Below U.heap.size U V'):Calls prog 42 #[.int .i64 fout,.iface t y] V fun e V'=>∃v',e=.returned (.tuple #[v',.int .i64 0])∧Own V' V.heap.size v' ys∧Below V.heap.size V V':=by
 cases hf:(fout==1)
 ·exact qo4 V fout t y ys hf (cW V bwR)
 obtain rfl:fout=1:=by simpa using hf
 have hh:qkn k dd=false:=by cases hx:qkn k dd with|false=>rfl|true=>exact absurd ⟨rfl,hx⟩ hn
 have cH:=qia k V (fun j=>j<V.heap.size) (.iface t y) dd (fun _ h=>h) hD;rw[hh] at cH;refine qm4 V t y ys cH (fun U hU=>(cW U hU).mono ?_);rintro e w2 ⟨v',rfl,h1,h2⟩;exact⟨v',rfl,Own.mono h1 hU.size,h2.mono hU.size⟩
theorem qfA (k:Nat)(V:World)(t:TypeId)(y:Value)(dd:DataW Unit)(hD:qai k V (fun j=>j<V.heap.size) (.iface t y) dd)(hh:qkn k dd=true):Calls prog 42 #[.int .i64 1,.iface t y] V fun e V'=>e=.returned (.tuple #[.slice none 0 0,.int .i64 13])∧Below V.heap.size V V':=by
 have cH:=qia k V (fun j=>j<V.heap.size) (.iface t y) dd (fun _ h=>h) hD;rw[hh] at cH;exact qmH V t y cH
theorem q0v (k:Nat)(W:World)(fin fout d l:Int)(a:Option Addr)(n c:Nat)(r:Except (Int×Int) (DataW Unit))(out:DataW Unit→List UInt8)(hL:qf4 fin fout d l=true)(hr:∀en pl,r=.error (en,pl)→en≠0)(cD:∀V,Below W.heap.size W V→Calls prog 41 #[.int .i64 fin,.agg #[.int .i64 d,.int .i64 l],.slice a n c] V (qg6 k V r))(cW:∀t y dd V,r=.ok dd→Below W.heap.size W V→qai k V (fun j=>j<V.heap.size) (.iface t y) dd→¬(fout=1∧qkn k dd=true)→Calls prog 67 #[.int .i64 fout,.iface t y] V fun e V'=>∃v',e=.returned v'∧Own V' V.heap.size v' (out dd)∧Below V.heap.size V V'):Calls prog 19 #[.int .i64 fin,.int .i64 fout,.int .i64 d,.int .i64 l,.slice a n c] W (q6m k W fout out r):=by
 have HT:Hid (q2b (trW W fin d l (.slice a n c)) W.heap.size fin d l (.slice a n c)):=q4c ..;have HB:Hid (Below W.heap.size W (trW W fin d l (.slice a n c))):=q1v ..;have cL:=qjH fin fout d l (trW W fin d l (.slice a n c));rw[hL] at cL;have hmf:∀(fn:Fn) (first cap:Array Value) (w:World),(Instr.makeFunc fn first cap).run prog w=.ok (.func fn first cap) w:=fun _ _ _ _=>rfl;have cA:Calls prog 39 #[.func (.func 40) #[] #[.pointer (some ⟨W.heap.size,0,none⟩),.pointer (some ⟨W.heap.size+1,0,none⟩),.pointer (some ⟨W.heap.size+2,0,none⟩),.pointer (some ⟨W.heap.size+3,0,none⟩)]] (trW W fin d l (.slice a n c)) (qvG k (trW W fin d l (.slice a n c)) r):=by
  have b2:Below (trW W fin d l (.slice a n c)).heap.size (trW W fin d l (.slice a n c)) (((trW W fin d l (.slice a n c)).alloc (.cells #[.int .i64 0] 31)).alloc (.cells #[.int .i64 0] 3)):=(bwA).alloc (by simp) _;refine q3t k _ _ r ?_;exact q1y k _ _ fin d l a n c r (HT.out.below b2) (cD _ (HB.out.trans (b2.mono HB.out.size)))
 have c0:=HT.out.b0.cell;have c1:=HT.out.b1.cell;have c2:=HT.out.b2.cell;clear HT cD;have HV:Hid (trW W fin d l (.slice a n c)=(((W.alloc (.cells #[.int .i64 fin] 3)).alloc (.cells #[.int .i64 d] 3)).alloc (.cells #[.int .i64 l] 3)).alloc (.cells #[.slice a n c] 28)):=rfl;generalize trW W fin d l (.slice a n c)=V at *;have hv:=HV.out;subst hv;clear HV hL;rcases r with ⟨en,pl⟩|dd
 ·have hen:=hr en pl rfl;have hq:(en==0)=false:=by simpa using hen
  clear hr cW;go_enter func19,ntmps19
  go_wp2_with (first
   |(go_at_call 38;refine cL.mono ?_;clear cL;rintro e w2 ⟨rfl,rfl⟩)
   |(go_at_call 39;refine cA.mono ?_;clear cA;rintro e w3 ⟨hB3,hF3⟩;obtain rfl:=hF3))
  go_ret3
  exact⟨HB.out.trans (hB3.mono HB.out.size),rfl⟩
 clear hr;have hway:(fout=1∧qkn k dd=true)∨¬(fout=1∧qkn k dd=true):=Classical.em _;rcases hway with hw|hw
 ·obtain⟨rfl,hh⟩:=hw;have HH:Hid (qkn k dd=true):=hh;clear hh cW;go_enter func19,ntmps19
  go_wp2_with (first
   |(go_at_call 38;refine cL.mono ?_;clear cL;rintro e w2 ⟨rfl,rfl⟩)
   |(go_at_call 39;refine cA.mono ?_;clear cA;rintro e w3 ⟨hB3,hF3⟩;obtain⟨t,y,rfl,hD3⟩:=hF3;have HB3:Hid (Below W.heap.size W w3):=HB.out.trans (hB3.mono HB.out.size);have cW2:=qfA k w3 t y dd (hD3.same (fun j hj=>hj.2) (fun _ _=>rfl)) HH.out;clear HB hB3 hD3)
   |(go_at_call 42;refine cW2.mono ?_;clear cW2;rintro e w5 ⟨rfl,hB5⟩))
  go_ret3
  exact⟨HB3.out.trans (hB5.mono HB3.out.size),.inl ⟨rfl,HH.out,rfl⟩⟩
 have HW:Hid (¬(fout=1∧qkn k dd=true)):=hw;have HCW:Hid (∀t y V,Below W.heap.size W V→qai k V (fun j=>j<V.heap.size) (.iface t y) dd→Calls prog 42 #[.int .i64 fout,.iface t y] V fun e V'=>∃v',e=.returned (.tuple #[v',.int .i64 0])∧Own V' V.heap.size v' (out dd)∧Below V.heap.size V V'):=fun t y V hV hD=>qmy k V fout t y dd (out dd) hD hw (fun U hU=>cW t y dd U rfl (hV.trans (hU.mono hV.size)) (hD.same (fun j hj=>Nat.lt_of_lt_of_le hj hU.size) (fun j hj=>hU.block j hj)) hw);clear hw cW;go_enter func19,ntmps19
 go_wp2_with (first
  |(go_at_call 38;refine cL.mono ?_;clear cL;rintro e w2 ⟨rfl,rfl⟩)
  |(go_at_call 39;refine cA.mono ?_;clear cA;rintro e w3 ⟨hB3,hF3⟩;obtain⟨t,y,rfl,hD3⟩:=hF3;have HB3:Hid (Below W.heap.size W w3):=HB.out.trans (hB3.mono HB.out.size);have cW2:=HCW.out t y w3 HB3.out (hD3.same (fun j hj=>hj.2) (fun _ _=>rfl));clear HB hB3 hD3 HCW)
  |(go_at_call 42;refine cW2.mono ?_;clear cW2;rintro e w5 ⟨v5,rfl,h5,hB5⟩;obtain⟨h51,h52,a5,n5,k5,rfl⟩:=h5))
 go_ret3
 exact⟨HB3.out.trans (hB5.mono HB3.out.size),.inr ⟨HW.out,_,rfl,Own.mono ⟨h51,h52,_,_,_,rfl⟩ HB3.out.size⟩⟩
end
end Go.Proofs.YtllcbnfmihfaaaaGreatDoor
