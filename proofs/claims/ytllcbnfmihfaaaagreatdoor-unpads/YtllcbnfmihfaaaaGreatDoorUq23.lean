import Derived.Test.YtllcbnfmihfaaaaGreatDoorUq22
set_option maxRecDepth 100000
set_option maxHeartbeats 8000000
namespace Go.Proofs.YtllcbnfmihfaaaaGreatDoor
open Go.Proofs.Tryz
section
open Go.RowKit
theorem qhY {α:Type}{bs:List UInt8}{lim:Int}{itF:α→Nat→Except (Int×Int) (α×Nat)}{last:Nat}(hit:∀a p a' q,itF a p=.ok (a',q)→p<q):∀(g p:Nat) (a a':α) (q:Nat),qd6 bs lim itF last g p a=.ok (a',q)→p<q
 |0,p,a,a',q,h=>by rw[qd6] at h;cases h
 |g+1,p,a,a',q,h=>by
  rw[qd6] at h
  split at h
  ·cases h
  ·next u1 p1 h1 =>
   split at h
   ·cases h
   ·next a2 p2 h2 =>
    split at h
    ·cases h
    ·next u3 p3 h3 =>
     have:=qbW _ _ _ _ _ _ h1
     have:=hit _ _ _ _ h2
     have:=qbW _ _ _ _ _ _ h3
     split at h
     ·cases h
     ·split at h
      ·cases h
      ·split at h
       ·injection h with h
        injection h with h4 h5
        omega
       ·split at h
        ·have:=qhY hit g (p3+1) a2 a' q h
         omega
        ·cases h
theorem qko {α:Type}{bs:List UInt8}{lim:Int}{itF:α→Nat→Except (Int×Int) (α×Nat)}{last:Nat}(hit:∀a p a' q,itF a p=.ok (a',q)→p<q){p:Nat}{a a':α}{q:Nat}(h:qdg bs lim itF last p a=.ok (a',q)):p<q:=by
 unfold qdg at h
 split at h
 ·cases h
 ·next u1 p1 h1 =>
  have:=qbW _ _ _ _ _ _ h1
  split at h
  ·have:=qhY hit _ _ _ _ _ h
   omega
  ·split at h
   ·cases h
   ·split at h
    ·injection h with h
     injection h with h4 h5
     omega
    ·have:=qhY hit _ _ _ _ _ h
     omega
theorem qnc {bs:List UInt8}{lim depth:Int}{wi:Nat}{rd:Nat→Except (Int×Int) (DataW Unit×Nat)}{nm:UInt8→Nat→Except (Int×Int) (Int×Nat)}{c:UInt8}{p:Nat}{d:DataW Unit}{q:Nat}(hrd:∀p d q,rd p=.ok (d,q)→p<q)(hnm:∀z q,(c.toNat=45∨qaG c=true)→nm c p=.ok (z,q)→p≤q)(h:qmM bs lim depth wi rd nm c p=.ok (d,q)):p≤q:=by
 unfold qmM at h
 split at h
 ·split at h
  ·cases h
  ·next u r hr =>
   injection h with h;injection h with h1 h2
   have:=qbR _ _ _ _ _ _ hr
   omega
 ·split at h
  ·split at h
   ·cases h
   ·next u r hr =>
    injection h with h;injection h with h1 h2
    have:=qbR _ _ _ _ _ _ hr
    omega
  ·split at h
   ·split at h
    ·cases h
    ·next u r hr =>
     injection h with h;injection h with h1 h2
     have:=qbR _ _ _ _ _ _ hr
     omega
   ·split at h
    ·split at h
     ·cases h
     ·next l r hr =>
      injection h with h;injection h with h1 h2
      have:=qcK _ _ _ _ _ _ _ _ hr
      omega
    ·split at h
     ·split at h
      ·cases h
      ·split at h
       ·cases h
       ·next l r hr =>
        injection h with h;injection h with h1 h2
        have:=qko (qmU hrd) hr
        omega
     ·split at h
      ·split at h
       ·cases h
       ·split at h
        ·cases h
        ·next l r hr =>
         injection h with h;injection h with h1 h2
         have:=qko (ql2 hrd) hr
         omega
      ·split at h
       ·next hc =>
        split at h
        ·cases h
        ·next z r hr =>
         injection h with h;injection h with h1 h2
         have:=hnm z r hc hr
         omega
       ·cases h
def nmS (s:Src)(c:UInt8)(p:Nat):Except (Int×Int) (Int×Nat):=qh1 {s with pos:=p} c
theorem qfd (s:Src):∀(g wi p:Nat) (d:DataW Unit) (q:Nat),thJ s.bs s.lim s.depth (nmS s) g wi p=.ok (d,q)→p<q
 |0,_,_,_,_,h=>by rw[thJ] at h;cases h
 |g+1,wi,p,d,q,h=>by
  rw[thJ] at h
  split at h
  ·cases h
  ·split at h
   ·cases h
   ·have:=qnc (p:=p+1) (nm:=nmS s) (qfd s g (wi+1)) (fun z q hc hz=>(qeX (s:={s with pos:=p+1}) hc hz).2) h
    omega
theorem qbZ:∀(g:Nat) (W:World) (b:Nat) (s:Src),qad W b s→s.bs.length≤200000000→(∀V,But b W V→U8 V)→7<b→s.depth≤100000→(s.within:Int)≤s.depth→s.depth<s.within+g →
  Calls prog 296 #[.agg #[.pointer (some ⟨b,0,none⟩)]] W (qbV g W b s (thJ s.bs s.lim s.depth (nmS s) g s.within s.pos))
 |0,W,b,s,_,_,_,_,_,h1,h2=>by omega
 |g+1,W,b,s,h,hlen,hU,h7,hdp,hwd,hgd=>by
  have ih:¬(s.within:Int)=s.depth→qeq g b {s with within:=s.within+1} W (thJ s.bs s.lim s.depth (nmS s) g (s.within+1)):=fun hne U p hS hB =>
   qbZ g U b {s with pos:=p,within:=s.within+1} hS hlen (fun X hX=>hU X (hB.trans hX)) h7 hdp (by show((s.within+1:Nat):Int)≤s.depth;omega) (by show s.depth<((s.within+1:Nat):Int)+g;omega)
  rcases qaO h with h1|h1|⟨c,h1⟩
  ·have e:thJ s.bs s.lim s.depth (nmS s) (g+1) s.within s.pos=.error (9,(s.pos:Int)):=by
    rw[thJ,List.getElem?_eq_none (by have:s.pos=s.bs.length:=h1;omega)]
   rw[e]
   exact qeW W b s 9 h (fun V hV=>qbe V b s hV h1)
  ·have e:thJ s.bs s.lim s.depth (nmS s) (g+1) s.within s.pos=.error (8,(s.pos:Int)):=by
    rw[thJ,List.getElem?_eq_getElem h1.1]
    simp only[]
    rw[if_pos h1.2]
   rw[e]
   exact qeW W b s 8 h (fun V hV=>qaN V b s hV h1)
  ·have e:thJ s.bs s.lim s.depth (nmS s) (g+1) s.within s.pos=qmM s.bs s.lim s.depth s.within (thJ s.bs s.lim s.depth (nmS s) g (s.within+1)) (nmS s) c (s.pos+1):=by
    rw[thJ,h1.1]
    simp only[]
    rw[if_neg h1.2]
   rw[e]
   have hpp:(((s.pos+1:Nat)):Int)-1=s.pos:=by omega
   unfold qmM
   by_cases c1:c.toNat=110
   ·rw[if_pos c1]
    refine(qk7 g W b s c h h1 c1).mono fun e w hh => ?_
    cases hz:qaw s.bs s.lim [117,108,108] (s.pos+1)<;>(rw[hz] at hh;exact hh)
   rw[if_neg c1]
   by_cases c2:c.toNat=116
   ·rw[if_pos c2]
    refine(qjM g W b s c h h1 c2).mono fun e w hh => ?_
    cases hz:qaw s.bs s.lim [114,117,101] (s.pos+1)<;>(rw[hz] at hh;exact hh)
   rw[if_neg c2]
   by_cases c3:c.toNat=102
   ·rw[if_pos c3]
    refine(qhO g W b s c h h1 c3).mono fun e w hh => ?_
    cases hz:qaw s.bs s.lim [97,108,115,101] (s.pos+1)<;>(rw[hz] at hh;exact hh)
   rw[if_neg c3]
   by_cases c4:c.toNat=34
   ·rw[if_pos c4]
    refine(qjX g W b s c h h1 c4 hlen hU h7).mono fun e w hh => ?_
    cases hz:qbu s.bs s.lim (s.bs.length+1-(s.pos+1)) (s.pos+1) [] 0<;>(rw[hz] at hh;exact hh)
   rw[if_neg c4]
   by_cases c5:c.toNat=91
   ·rw[if_pos c5]
    by_cases hd:(s.within:Int)=s.depth
    ·rw[if_pos hd,hpp]
     exact qeb W b s c h h1 c5 hd
    ·rw[if_neg hd]
     refine(qj8 g W b s c h h1 c5 _ (ih hd) (qfd s g (s.within+1)) hlen hd (by omega)).mono fun e w hh => ?_
     cases hz:qdg s.bs s.lim (liJ (thJ s.bs s.lim s.depth (nmS s) g (s.within+1))) 93 (s.pos+1) []<;>(rw[hz] at hh;exact hh)
   rw[if_neg c5]
   by_cases c6:c.toNat=123
   ·rw[if_pos c6]
    by_cases hd:(s.within:Int)=s.depth
    ·rw[if_pos hd,hpp]
     exact qeI W b s c h h1 c6 hd
    ·rw[if_neg hd]
     refine(qlk g W b s c h h1 c6 _ (ih hd) (qfd s g (s.within+1)) hlen hU h7 hd (by omega)).mono fun e w hh => ?_
     cases hz:qdg s.bs s.lim (enJ s.bs s.lim (thJ s.bs s.lim s.depth (nmS s) g (s.within+1))) 125 (s.pos+1) ([],[])<;>(rw[hz] at hh;exact hh)
   rw[if_neg c6]
   by_cases c7:c.toNat=45∨qaG c=true
   ·rw[if_pos c7]
    refine(qfK W b s c h h1 c7).mono fun e w hh => ?_
    have e2:nmS s c (s.pos+1)=qh1 s.next c:=rfl
    rw[e2]
    cases hz:qh1 s.next c with
    |error er =>
     rw[hz] at hh
     exact hh
    |ok zq =>
     obtain⟨z,q⟩:=zq
     rw[hz] at hh
     obtain⟨hB,rfl,hS⟩:=hh
     exact⟨hB,⟨_,_,rfl,rfl,(qeX c7 hz).1⟩,hS⟩
   ·rw[if_neg c7,hpp]
    exact qkG W b s c h h1 (by
     rintro (hh|hh|hh|hh|hh|hh|hh)
     ·exact c1 hh
     ·exact c2 hh
     ·exact c3 hh
     ·exact c4 hh
     ·exact c5 hh
     ·exact c6 hh
     ·exact c7 hh)
def qe4 (th:Nat→Except (Int×Int) (DataW Unit×Nat)):Except (Int×Int) Nat :=
 match th 0 with
 |.error e=>.error e
 |.ok (_,p)=>.ok p
theorem qgC (W:World)(b p:Nat)(k3:W.cell? ⟨b,3,none⟩=some (.int .i64 p)):Calls prog 292 #[.pointer (some ⟨b,0,none⟩)] W fun e W'=>e=.returned (.int .i64 p)∧W'=W:=by
 go_enter func292,ntmps292
 go_wp2
 go_ret
 exact⟨rfl,rfl⟩
theorem qha.toJ {k:Nat}{W:World}{b:Nat}{s:Src}{r:Except (Int×Int) (DataW Unit×Nat)}{e:Ending}{W':World}(h:qha k W b s r e W'):qbV k W b s r e W':=by
 refine⟨h.1,?_⟩
 have h2:=h.2
 cases r with
 |ok x=>exact h2
 |error x=>exact h2.1
theorem qm2 (k:Nat)(W:World)(fm:Int)(ia:Option Addr)(bs:List UInt8)(cap:Nat)(d l:Int)(h:qaD W ia bs)(th:Nat→Except (Int×Int) (DataW Unit×Nat))(cR:∀V,qaD V ia bs→Calls prog 65 #[.int .i64 fm,.agg #[.int .i64 d,.int .i64 l],.slice ia bs.length cap] V fun e W'=>∃b,e=.returned (.iface 198 (.agg #[.pointer (some ⟨b,0,none⟩)]))∧qad W' b ⟨ia,bs,cap,d,l,0,0⟩∧V.heap.size≤b∧Below V.heap.size V W')(cT:∀(b:Nat) (V:World) (p:Nat),W.heap.size≤b→Below W.heap.size W V→qad V b ⟨ia,bs,cap,d,l,p,0⟩→Calls prog 296 #[.agg #[.pointer (some ⟨b,0,none⟩)]] V (qbV k V b ⟨ia,bs,cap,d,l,p,0⟩ (th p))):Calls prog 145 #[.int .i64 fm,.agg #[.int .i64 d,.int .i64 l],.slice ia bs.length cap] W (fun e W'=>qkd W (fun n:Nat=>.int .i64 n) (qe4 th) e W'∧∀n,qe4 th=.ok n→n≤bs.length):=by
 have hb0:Below W.heap.size W (W.alloc (.cells #[.int .i64 d,.int .i64 l] 86)):=bwA
 have HB0:Hid (Below W.heap.size W (W.alloc (.cells #[.int .i64 d,.int .i64 l] 86))):=hb0
 have cN:=cR (W.alloc (.cells #[.int .i64 d,.int .i64 l] 86)) (h.below hb0)
 obtain⟨R,HR⟩:∃R,Hid (qe4 th=R):=⟨_,show _=_ from rfl⟩
 rw[HR.out]
 have hr:=HR.out
 unfold qe4 at hr
 clear hb0 h cR HR
 go_enter func145,ntmps145
 go_wp2_with (first
  |(go_at_call 65;refine cN.mono ?_;clear cN;rintro e w2 ⟨b,rfl,hS,hbl,hB⟩))
 have HBW:Hid (Below W.heap.size W w2):=HB0.out.trans (hB.mono HB0.out.size)
 have hbl2:W.heap.size≤b:=by simp only[World.size_alloc] at hbl;omega
 have cT1:=cT b w2 0 hbl2 HBW.out hS
 clear cT hB hbl hS HB0
 refine qfP (y:=(296,.agg #[.pointer (some ⟨b,0,none⟩)])) (w:=w2) (by kernel_rfl) ?_
 go_wp2_with fail
 cases h2:th 0 with
 |error er =>
  obtain⟨en,pl⟩:=er
  rw[h2] at hr cT1
  simp only[] at hr
  subst hr
  refine cT1.mono ?_
  rintro e w4 ⟨hB4,hF⟩
  obtain rfl:=(show qaj en pl e from hF)
  go_wp2
  exact⟨rfl,⟨qdt HBW.out hB4 hbl2,rfl⟩,fun n hn=>by cases hn⟩
 |ok dq =>
  obtain⟨dd,p1⟩:=dq
  rw[h2] at hr cT1
  simp only[] at hr
  subst hr
  refine cT1.mono ?_
  clear cT1 h2
  rintro e w4 ⟨hB4,hF4⟩
  obtain⟨⟨t,y,rfl,hD4⟩,hS4⟩:=(show(∃t y,e=.returned (.iface t y)∧qa2 k w4 (fun j=>w2.heap.size≤j∧j<w4.heap.size) (.iface t y) dd)∧qad w4 b ⟨ia,bs,cap,d,l,p1,0⟩ from hF4)
  have HBW4:Hid (Below W.heap.size W w4):=qdt HBW.out hB4 hbl2
  have HLE:Hid (p1≤bs.length):=hS4.le
  have k3:w4.cell? ⟨b,3,none⟩=some (.int .i64 p1):=qaa hS4.row 3
  clear hB4 hF4 hS4 hD4 HBW
  go_wp2_with fail
  refine qfP (y:=(292,.pointer (some ⟨b,0,none⟩))) (w:=w4) (by kernel_rfl) ?_
  go_wp2_with fail
  refine(qgC w4 b p1 k3).mono ?_
  rintro e w5 ⟨rfl,rfl⟩
  go_wp2
  go_ret
  exact⟨⟨HBW4.out,rfl⟩,fun n hn=>by injection hn with hn;have:=HLE.out;omega⟩
theorem qi7 (k:Nat)(W:World)(fm:Int)(f:Nat)(ia:Option Addr)(bs:List UInt8)(cap:Nat)(d l:Int)(h:qaD W ia bs)(th:Nat→Except (Int×Int) (DataW Unit×Nat))(cR:∀V,qaD V ia bs→Calls prog 65 #[.int .i64 fm,.agg #[.int .i64 d,.int .i64 l],.slice ia bs.length cap] V fun e W'=>∃b,e=.returned (.iface 201 (.agg #[.pointer (some ⟨b,0,none⟩),.func (.func f) #[] #[]]))∧qad W' b ⟨ia,bs,cap,d,l,0,0⟩∧V.heap.size≤b∧Below V.heap.size V W')(cT:∀(b:Nat) (V:World) (p:Nat),W.heap.size≤b→Below W.heap.size W V→qad V b ⟨ia,bs,cap,d,l,p,0⟩→Calls prog 325 #[.agg #[.pointer (some ⟨b,0,none⟩),.func (.func f) #[] #[]]] V (qbV k V b ⟨ia,bs,cap,d,l,p,0⟩ (th p))):Calls prog 145 #[.int .i64 fm,.agg #[.int .i64 d,.int .i64 l],.slice ia bs.length cap] W (fun e W'=>qkd W (fun n:Nat=>.int .i64 n) (qe4 th) e W'∧∀n,qe4 th=.ok n→n≤bs.length):=by
 have hb0:Below W.heap.size W (W.alloc (.cells #[.int .i64 d,.int .i64 l] 86)):=bwA
 have HB0:Hid (Below W.heap.size W (W.alloc (.cells #[.int .i64 d,.int .i64 l] 86))):=hb0
 have cN:=cR (W.alloc (.cells #[.int .i64 d,.int .i64 l] 86)) (h.below hb0)
 obtain⟨R,HR⟩:∃R,Hid (qe4 th=R):=⟨_,show _=_ from rfl⟩
 rw[HR.out]
 have hr:=HR.out
 unfold qe4 at hr
 clear hb0 h cR HR
 go_enter func145,ntmps145
 go_wp2_with (first
  |(go_at_call 65;refine cN.mono ?_;clear cN;rintro e w2 ⟨b,rfl,hS,hbl,hB⟩))
 have HBW:Hid (Below W.heap.size W w2):=HB0.out.trans (hB.mono HB0.out.size)
 have hbl2:W.heap.size≤b:=by simp only[World.size_alloc] at hbl;omega
 have cT1:=cT b w2 0 hbl2 HBW.out hS
 clear cT hB hbl hS HB0
 refine qfP (y:=(325,.agg #[.pointer (some ⟨b,0,none⟩),.func (.func f) #[] #[]])) (w:=w2) (by kernel_rfl) ?_
 go_wp2_with fail
 cases h2:th 0 with
 |error er =>
  obtain⟨en,pl⟩:=er
  rw[h2] at hr cT1
  simp only[] at hr
  subst hr
  refine cT1.mono ?_
  rintro e w4 ⟨hB4,hF⟩
  obtain rfl:=(show qaj en pl e from hF)
  go_wp2
  exact⟨rfl,⟨qdt HBW.out hB4 hbl2,rfl⟩,fun n hn=>by cases hn⟩
 |ok dq =>
  obtain⟨dd,p1⟩:=dq
  rw[h2] at hr cT1
  simp only[] at hr
  subst hr
  refine cT1.mono ?_
  clear cT1 h2
  rintro e w4 ⟨hB4,hF4⟩
  obtain⟨⟨t,y,rfl,hD4⟩,hS4⟩:=(show(∃t y,e=.returned (.iface t y)∧qa2 k w4 (fun j=>w2.heap.size≤j∧j<w4.heap.size) (.iface t y) dd)∧qad w4 b ⟨ia,bs,cap,d,l,p1,0⟩ from hF4)
  have HBW4:Hid (Below W.heap.size W w4):=qdt HBW.out hB4 hbl2
  have HLE:Hid (p1≤bs.length):=hS4.le
  have k3:w4.cell? ⟨b,3,none⟩=some (.int .i64 p1):=qaa hS4.row 3
  clear hB4 hF4 hS4 hD4 HBW
  go_wp2_with fail
  refine qfP (y:=(292,.pointer (some ⟨b,0,none⟩))) (w:=w4) (by kernel_rfl) ?_
  go_wp2_with fail
  refine(qgC w4 b p1 k3).mono ?_
  rintro e w5 ⟨rfl,rfl⟩
  go_wp2
  go_ret
  exact⟨⟨HBW4.out,rfl⟩,fun n hn=>by injection hn with hn;have:=HLE.out;omega⟩
structure qbX (W:World):Prop where
 u8:U8 W
 hd:qcv W
 big:9≤W.heap.size
theorem U8.but {W V:World}{b:Nat}(h:U8 W)(hV:But b W V)(h7:7<b)(hb:9≤W.heap.size):U8 V:=by
 have hc:∀(q off:Nat) (v:Value),q≤7→W.cell? ⟨q,off,none⟩=some v→V.cell? ⟨q,off,none⟩=some v:=fun q off v hq hv=>(World.cell?_of_block (w:=W) (hV.block q (by omega) (by omega))).trans hv
 exact⟨fun c hc'=>hc _ _ _ (by decide) (h.1 c hc'),fun i hi=>⟨hc _ _ _ (by decide) (h.2 i hi).1,hc _ _ _ (by decide) (h.2 i hi).2⟩⟩
theorem qbX.below {W V:World}(h:qbX W)(hb:Below W.heap.size W V):qbX V:=⟨h.u8.below hb,h.hd.below hb,Nat.le_trans h.big hb.size⟩
theorem qoj:(List.range 256).all (fun c=>decide ((qcs c).1≤10∧(qcs c).2.1≤8∧((qcs c).2.1=0∨(qcs c).2.2=0)∧(qcs c).2.2<18446744073709551616))=true:=by kernel_rfl
theorem qn0:∀c,c<256→(qcs c).1≤10∧(qcs c).2.1≤8∧((qcs c).2.1=0∨(qcs c).2.2=0)∧(qcs c).2.2<18446744073709551616:=fun c hc=>of_decide_eq_true (List.all_eq_true.1 qoj c (List.mem_range.2 hc))
theorem qoa:(List.range 256).all (fun c=>decide ((qbG c).1≤10∧(qbG c).2.1≤8∧((qbG c).2.1=0∨(qbG c).2.2=0)∧(qbG c).2.2<18446744073709551616))=true:=by kernel_rfl
theorem qnD:∀c,c<256→(qbG c).1≤10∧(qbG c).2.1≤8∧((qbG c).2.1=0∨(qbG c).2.2=0)∧(qbG c).2.2<18446744073709551616:=fun c hc=>of_decide_eq_true (List.all_eq_true.1 qoa c (List.mem_range.2 hc))
theorem qny {W:World}{b:Nat}(h:qcv W)(hb:1<b):qdH 107 qcs b W :=
 ⟨.inl rfl,fun c hc=>(qn0 c hc).1,fun c hc=>(qn0 c hc).2,fun c V hV=>qgv V c.toNat c.toNat_lt (h.but hV hb)⟩
theorem qnB {W:World}{b:Nat}(h:qcv W)(hb:1<b):qdH 108 qbG b W :=
 ⟨.inr rfl,fun c hc=>(qnD c hc).1,fun c hc=>(qnD c hc).2,fun c V hV=>qhj V c.toNat c.toNat_lt (h.but hV hb)⟩
def thO (fm:Int)(bs:List UInt8)(d lim:Int)(p:Nat):Except (Int×Int) (DataW Unit×Nat) :=
 if fm=1 then thJ bs lim d (fun c p=>qh1 ⟨none,bs,0,0,lim,p,0⟩ c) (d.toNat+1) 0 p else if fm=2 then thB qcs bs lim d (d.toNat+1) 0 p else thB qbG bs lim d (d.toNat+1) 0 p
theorem qkx (W:World)(fm:Int)(ia:Option Addr)(bs:List UInt8)(cap:Nat)(d l:Int)(hfm:fm=1∨fm=2∨fm=3)(h:qaD W ia bs)(ht:qbX W)(hd0:0≤d)(hd1:d≤100000)(hlen:bs.length≤200000000):Calls prog 145 #[.int .i64 fm,.agg #[.int .i64 d,.int .i64 l],.slice ia bs.length cap] W (fun e W'=>qkd W (fun n:Nat=>.int .i64 n) (qe4 (thO fm bs d l)) e W'∧∀n,qe4 (thO fm bs d l)=.ok n→n≤bs.length):=by
 have hbig:=ht.big
 rcases hfm with rfl|rfl|rfl
 ·have e2:thO 1 bs d l=fun p=>thJ bs l d (fun c p=>qh1 ⟨none,bs,0,0,l,p,0⟩ c) (d.toNat+1) 0 p:=by funext p;unfold thO;rw[if_pos rfl]
  rw[e2]
  refine qm2 (d.toNat+1) W 1 ia bs cap d l h _ (fun V hV=>qeJ V ia bs cap d l hV) (fun b V p hb hB hS => ?_)
  exact qbZ (d.toNat+1) V b ⟨ia,bs,cap,d,l,p,0⟩ hS hlen (fun U hU=>(ht.below hB).u8.but hU (by omega) (ht.below hB).big) (by omega) hd1 (by simpa using hd0) (by show d<((0:Nat):Int)+((d.toNat+1:Nat):Int);omega)
 ·have e2:thO 2 bs d l=fun p=>thB qcs bs l d (d.toNat+1) 0 p:=by funext p;unfold thO;rw[if_neg (by decide),if_pos rfl]
  rw[e2]
  refine qi7 (d.toNat+1) W 2 107 ia bs cap d l h _ (fun V hV=>qeM V ia bs cap d l hV) (fun b V p hb hB hS => ?_)
  exact(qb1 qcs 107 (d.toNat+1) V b ⟨ia,bs,cap,d,l,p,0⟩ hS hlen (fun U hU=>(ht.below hB).u8.but hU (by omega) (ht.below hB).big) (by omega) (qny (ht.below hB).hd (by omega)) hd1 (by simpa using hd0) (by show d<((0:Nat):Int)+((d.toNat+1:Nat):Int);omega)).mono fun e w hh=>hh.toJ
 ·have e2:thO 3 bs d l=fun p=>thB qbG bs l d (d.toNat+1) 0 p:=by funext p;unfold thO;rw[if_neg (by decide),if_neg (by decide)]
  rw[e2]
  refine qi7 (d.toNat+1) W 3 108 ia bs cap d l h _ (fun V hV=>qeA V ia bs cap d l hV) (fun b V p hb hB hS => ?_)
  exact(qb1 qbG 108 (d.toNat+1) V b ⟨ia,bs,cap,d,l,p,0⟩ hS hlen (fun U hU=>(ht.below hB).u8.but hU (by omega) (ht.below hB).big) (by omega) (qnB (ht.below hB).hd (by omega)) hd1 (by simpa using hd0) (by show d<((0:Nat):Int)+((d.toNat+1:Nat):Int);omega)).mono fun e w hh=>hh.toJ
theorem qjF {P:Program}{f:FuncId}{args:Array Value}{w:World}{R:Ending→World→Prop}{p:Prop}(h:Calls P f args w R)(hp:∀e w',R e w'→p):p:=by
 obtain⟨e,w',fr,hR,_⟩:=h []
 exact hp e w' hR
def Bad {α:Type}(r:Except (Int×Int) α):Prop:=∀en pl,r=.error (en,pl)→en≠0
theorem qcN (bs:List UInt8)(lim:Int):∀(k p a:Nat),Bad (qa0 bs lim k p a)
 |0,p,a,en,pl,h=>by rw[qa0] at h;cases h
 |k+1,p,a,en,pl,h=>by
  rw[qa0] at h
  repeat' split at h
  all_goals first|(injection h with h;injection h with h1 h2;omega)|exact qcN bs lim k _ _ en pl h
theorem qhW (so w:Int)(x:Nat)(p:Int):Bad (nbF so w x p):=fun en pl h=>by
 unfold nbF at h
 repeat' split at h
 all_goals first|(injection h with h;injection h with h1 h2;omega)|cases h
theorem qiT (bs:List UInt8)(lim:Int):∀(k p:Nat) (acc:List UInt8),Bad (qch bs lim k p acc)
 |0,p,acc,en,pl,h=>by rw[qch] at h;cases h
 |k+1,p,acc,en,pl,h=>by
  rw[qch] at h
  repeat' split at h
  all_goals first|(injection h with h;injection h with h1 h2;omega)|exact qiT bs lim k _ _ en pl h
theorem qdU (bs:List UInt8)(lim:Int):∀(k p:Nat) (acc:List UInt8) (wh:Nat),Bad (qbt bs lim k p acc wh)
 |0,p,acc,wh,en,pl,h=>by
  rw[qbt] at h
  split at h
  ·cases h
  ·injection h with h;injection h with h1 h2;omega
 |k+1,p,acc,wh,en,pl,h=>by
  rw[qbt] at h
  split at h
  ·injection h with h;injection h with h1 h2;omega
  ·split at h
   ·injection h with h;injection h with h1 h2;omega
   ·split at h
    ·injection h with h;injection h with h1 h2;omega
    ·exact qdU bs lim k _ _ _ en pl h
theorem qms (hd:Nat→Nat×Nat×Nat)(bs:List UInt8)(lim:Int)(ks:List (List UInt8))(p:Nat):Bad (qbT hd bs lim ks p):=fun en pl h=>by
 unfold qbT at h
 split at h
 ·injection h with h;injection h with h1 h2;omega
 ·split at h
  ·injection h with h;injection h with h1 h2;omega
  ·split at h
   ·split at h
    ·next e he=>injection h with h;subst h;exact qcN bs lim _ _ _ en pl he
    ·split at h
     ·next e he=>injection h with h;subst h;exact qdU bs lim _ _ _ _ en pl he
     ·split at h
      ·injection h with h;injection h with h1 h2;omega
      ·cases h
   ·injection h with h;injection h with h1 h2;omega
theorem qeV {rd:Nat→Except (Int×Int) (DataW Unit×Nat)}(hrd:∀p,Bad (rd p)):∀(n p:Nat) (acc:List (DataW Unit)),Bad (qaE rd n p acc)
 |0,p,acc,en,pl,h=>by rw[qaE] at h;cases h
 |n+1,p,acc,en,pl,h=>by
  rw[qaE] at h
  split at h
  ·next e he=>injection h with h;subst h;exact hrd _ en pl he
  ·exact qeV hrd n _ _ en pl h
theorem qdG {kf:List (List UInt8)→Nat→Except (Int×Int) (List UInt8×Nat)}{rd:Nat→Except (Int×Int) (DataW Unit×Nat)}(hkf:∀ks p,Bad (kf ks p))(hrd:∀p,Bad (rd p)):∀(n p:Nat) (ks:List (List UInt8)) (acc:List (Lit×DataW Unit)),Bad (qau kf rd n p ks acc)
 |0,p,ks,acc,en,pl,h=>by rw[qau] at h;cases h
 |n+1,p,ks,acc,en,pl,h=>by
  rw[qau] at h
  split at h
  ·next e he=>injection h with h;subst h;exact hkf _ _ en pl he
  ·split at h
   ·next e he=>injection h with h;subst h;exact hrd _ en pl he
   ·exact qdG hkf hrd n _ _ _ en pl h
theorem qm3 {bs:List UInt8}{lim:Int}{li:Nat→Nat→Except (Int×Int) (List (DataW Unit)×Nat)}{ma:Nat→Nat→Except (Int×Int) (List (Lit×DataW Unit)×Nat)}{so w x q:Nat}(hli:so=9→∀x q,Bad (li x q))(hma:so=10→∀x q,Bad (ma x q)):Bad (qej bs lim li ma so w x q):=fun en pl h=>by
 unfold qej at h
 split at h
 ·cases h
 ·cases h
 ·split at h
  ·next e he=>injection h with h;subst h;exact qhW _ _ _ _ en pl he
  ·cases h
 ·split at h
  ·next e he=>injection h with h;subst h;exact qhW _ _ _ _ en pl he
  ·cases h
 ·split at h
  ·next e he=>injection h with h;subst h;exact qhW _ _ _ _ en pl he
  ·cases h
 ·split at h
  ·next e he=>injection h with h;subst h;exact qiT _ _ _ _ _ en pl he
  ·cases h
 ·split at h
  ·next e he=>injection h with h;subst h;exact qdU _ _ _ _ _ _ en pl he
  ·cases h
 ·split at h
  ·next e he=>injection h with h;subst h;exact hli rfl _ _ en pl he
  ·cases h
 ·split at h
  ·next e he=>injection h with h;subst h;exact hma rfl _ _ en pl he
  ·cases h
 ·cases h
theorem qfz (hd:Nat→Nat×Nat×Nat)(bs:List UInt8)(lim depth:Int):∀(g wi p:Nat),(wi:Int)≤depth→depth<wi+g→Bad (thB hd bs lim depth g wi p)
 |0,wi,p,h1,h2,_,_,_=>by omega
 |g+1,wi,p,h1,h2,en,pl,h=>by
  cases hc:bs[p]? with
  |none =>
   unfold thB at h
   rw[hc] at h
   injection h with h;injection h with h3 h4;omega
  |some c =>
   by_cases hl:(p:Int)=lim
   ·unfold thB at h
    rw[hc] at h
    simp only[] at h
    rw[if_pos hl] at h
    injection h with h;injection h with h3 h4;omega
   ·rw[qdV hc hl rfl] at h
    split at h
    ·injection h with h;injection h with h3 h4;omega
    ·split at h
     ·injection h with h;injection h with h3 h4;omega
     ·next hn =>
      split at h
      ·next e he=>injection h with h;subst h;exact qcN _ _ _ _ _ en pl he
      ·have ih:¬(wi:Int)=depth→∀q,Bad (thB hd bs lim depth g (wi+1) q):=fun hne q=>qfz hd bs lim depth g (wi+1) q (by omega) (by omega)
       exact qm3 (fun h9 x q=>qeV (ih (fun hh=>hn ⟨.inl h9,hh⟩)) _ _ _) (fun h10 x q=>qdG (fun ks p=>qms hd bs lim ks p) (ih (fun hh=>hn ⟨.inr h10,hh⟩)) _ _ _ _) en pl h
theorem qdB (bs:List UInt8)(lim:Int):∀(k p:Nat),Bad (spF bs lim k p)
 |0,p,en,pl,h=>by rw[spF] at h;cases h
 |k+1,p,en,pl,h=>by
  rw[spF] at h
  split at h
  ·cases h
  ·split at h
   ·injection h with h;injection h with h1 h2;omega
   ·split at h
    ·exact qdB bs lim k _ en pl h
    ·cases h
theorem qbw (bs:List UInt8)(lim:Int):∀(l:List UInt8) (p:Nat),Bad (qaw bs lim l p)
 |[],p,en,pl,h=>by rw[qaw] at h;cases h
 |x::xs,p,en,pl,h=>by
  rw[qaw] at h
  split at h
  ·injection h with h;injection h with h1 h2;omega
  ·split at h
   ·injection h with h;injection h with h1 h2;omega
   ·split at h
    ·exact qbw bs lim xs _ en pl h
    ·injection h with h;injection h with h1 h2;omega
theorem qdk (bs:List UInt8)(lim:Int):∀(k p a:Nat),Bad (qbY bs lim k p a)
 |0,p,a,en,pl,h=>by rw[qbY] at h;cases h
 |k+1,p,a,en,pl,h=>by
  rw[qbY] at h
  split at h
  ·injection h with h;injection h with h1 h2;omega
  ·split at h
   ·injection h with h;injection h with h1 h2;omega
   ·split at h
    ·injection h with h;injection h with h1 h2;omega
    ·exact qdk bs lim k _ _ en pl h
theorem ql6 (bs:List UInt8)(lim:Int)(p:Nat):Bad (qdr bs lim p):=fun en pl h=>by
 unfold qdr at h
 split at h
 ·next e he=>injection h with h;subst h;exact qdk _ _ _ _ _ en pl he
 ·split at h
  ·injection h with h;injection h with h1 h2;omega
  ·split at h
   ·split at h
    ·next e he=>injection h with h;subst h;exact qbw _ _ _ _ en pl he
    ·split at h
     ·next e he=>injection h with h;subst h;exact qdk _ _ _ _ _ en pl he
     ·split at h
      ·cases h
      ·injection h with h;injection h with h1 h2;omega
   ·cases h
theorem qfw (bs:List UInt8)(lim:Int)(p:Nat):Bad (qh3 bs lim p):=fun en pl h=>by
 unfold qh3 at h
 split at h
 ·injection h with h;injection h with h1 h2;omega
 ·split at h
  ·injection h with h;injection h with h1 h2;omega
  ·repeat' split at h
   all_goals first|(injection h with h;injection h with h1 h2;omega)|exact ql6 _ _ _ en pl h|cases h
theorem qdn (bs:List UInt8)(lim:Int):∀(g p:Nat) (acc:List UInt8) (wh:Nat),Bad (qbu bs lim g p acc wh)
 |0,p,acc,wh,en,pl,h=>by rw[qbu] at h;injection h with h;injection h with h1 h2;omega
 |g+1,p,acc,wh,en,pl,h=>by
  rw[qbu] at h
  split at h
  ·injection h with h;injection h with h1 h2;omega
  ·split at h
   ·injection h with h;injection h with h1 h2;omega
   ·split at h
    ·cases h
    ·split at h
     ·split at h
      ·next e he=>injection h with h;subst h;exact qfw _ _ _ en pl he
      ·exact qdn bs lim g _ _ _ en pl h
     ·split at h
      ·injection h with h;injection h with h1 h2;omega
      ·split at h
       ·injection h with h;injection h with h1 h2;omega
       ·exact qdn bs lim g _ _ _ en pl h
theorem qf6 (bs:List UInt8)(lim:Int)(most:Nat)(z:Bool):∀(g p num:Nat),Bad (qcO bs lim most z g p num)
 |0,p,num,en,pl,h=>by unfold qcO at h;cases h
 |g+1,p,num,en,pl,h=>by
  unfold qcO at h
  split at h
  ·cases h
  ·split at h
   ·injection h with h;injection h with h1 h2;omega
   ·split at h
    ·split at h
     ·injection h with h;injection h with h1 h2;omega
     ·split at h
      ·injection h with h;injection h with h1 h2;omega
      ·exact qf6 bs lim most z g _ _ en pl h
    ·split at h
     ·injection h with h;injection h with h1 h2;omega
     ·cases h
theorem qje (s:Src)(c:UInt8):Bad (qh1 s c):=fun en pl h=>by
 unfold qh1 at h
 split at h
 ·split at h
  ·injection h with h;injection h with h1 h2;omega
  ·split at h
   ·injection h with h;injection h with h1 h2;omega
   ·split at h
    ·split at h
     ·cases h
     ·next e he=>injection h with h;subst h;exact qf6 _ _ _ _ _ _ _ en pl he
    ·injection h with h;injection h with h1 h2;omega
 ·split at h
  ·cases h
  ·next e he=>injection h with h;subst h;exact qf6 _ _ _ _ _ _ _ en pl he
theorem qfi {α:Type}{bs:List UInt8}{lim:Int}{itF:α→Nat→Except (Int×Int) (α×Nat)}{last:Nat}(hit:∀a p,Bad (itF a p)):∀(g p:Nat) (a:α),Bad (qd6 bs lim itF last g p a)
 |0,p,a,en,pl,h=>by rw[qd6] at h;injection h with h;injection h with h1 h2;omega
 |g+1,p,a,en,pl,h=>by
  rw[qd6] at h
  split at h
  ·next e he=>injection h with h;subst h;exact qdB _ _ _ _ en pl he
  ·split at h
   ·next e he=>injection h with h;subst h;exact hit _ _ en pl he
   ·split at h
    ·next e he=>injection h with h;subst h;exact qdB _ _ _ _ en pl he
    ·split at h
     ·injection h with h;injection h with h1 h2;omega
     ·split at h
      ·injection h with h;injection h with h1 h2;omega
      ·split at h
       ·cases h
       ·split at h
        ·exact qfi hit g _ _ en pl h
        ·injection h with h;injection h with h1 h2;omega
theorem qji {α:Type}{bs:List UInt8}{lim:Int}{itF:α→Nat→Except (Int×Int) (α×Nat)}{last:Nat}(hit:∀a p,Bad (itF a p))(p:Nat)(a:α):Bad (qdg bs lim itF last p a):=fun en pl h=>by
 unfold qdg at h
 split at h
 ·next e he=>injection h with h;subst h;exact qdB _ _ _ _ en pl he
 ·split at h
  ·exact qfi hit _ _ _ en pl h
  ·split at h
   ·injection h with h;injection h with h1 h2;omega
   ·split at h
    ·cases h
    ·exact qfi hit _ _ _ en pl h
theorem qnf {rd:Nat→Except (Int×Int) (DataW Unit×Nat)}(hrd:∀p,Bad (rd p))(a:List (DataW Unit))(p:Nat):Bad (liJ rd a p):=fun en pl h=>by
 unfold liJ at h
 split at h
 ·next e he=>injection h with h;subst h;exact hrd _ en pl he
 ·cases h
theorem qm9 (bs:List UInt8)(lim:Int)(ks:List (List UInt8))(p:Nat):Bad (qkl bs lim ks p):=fun en pl h=>by
 unfold qkl at h
 split at h
 ·next e he=>injection h with h;subst h;exact qbw _ _ _ _ en pl he
 ·split at h
  ·next e he=>injection h with h;subst h;exact qdn _ _ _ _ _ _ en pl he
  ·split at h
   ·injection h with h;injection h with h1 h2;omega
   ·cases h
theorem qkF {bs:List UInt8}{lim:Int}{rd:Nat→Except (Int×Int) (DataW Unit×Nat)}(hrd:∀p,Bad (rd p))(a:List (List UInt8)×List (Lit×DataW Unit))(p:Nat):Bad (enJ bs lim rd a p):=fun en pl h=>by
 unfold enJ at h
 split at h
 ·next e he=>injection h with h;subst h;exact qm9 _ _ _ _ en pl he
 ·split at h
  ·next e he=>injection h with h;subst h;exact qdB _ _ _ _ en pl he
  ·split at h
   ·next e he=>injection h with h;subst h;exact qbw _ _ _ _ en pl he
   ·split at h
    ·next e he=>injection h with h;subst h;exact qdB _ _ _ _ en pl he
    ·split at h
     ·next e he=>injection h with h;subst h;exact hrd _ en pl he
     ·cases h
theorem qmp {bs:List UInt8}{lim depth:Int}{wi:Nat}{rd:Nat→Except (Int×Int) (DataW Unit×Nat)}{nm:UInt8→Nat→Except (Int×Int) (Int×Nat)}{c:UInt8}{p:Nat}(hrd:¬(wi:Int)=depth→∀p,Bad (rd p))(hnm:∀c p,Bad (nm c p)):Bad (qmM bs lim depth wi rd nm c p):=fun en pl h=>by
 unfold qmM at h
 split at h
 ·split at h
  ·next e he=>injection h with h;subst h;exact qbw _ _ _ _ en pl he
  ·cases h
 ·split at h
  ·split at h
   ·next e he=>injection h with h;subst h;exact qbw _ _ _ _ en pl he
   ·cases h
  ·split at h
   ·split at h
    ·next e he=>injection h with h;subst h;exact qbw _ _ _ _ en pl he
    ·cases h
   ·split at h
    ·split at h
     ·next e he=>injection h with h;subst h;exact qdn _ _ _ _ _ _ en pl he
     ·cases h
    ·split at h
     ·split at h
      ·injection h with h;injection h with h1 h2;omega
      ·next hn =>
       split at h
       ·next e he=>injection h with h;subst h;exact qji (qnf (hrd hn)) _ _ en pl he
       ·cases h
     ·split at h
      ·split at h
       ·injection h with h;injection h with h1 h2;omega
       ·next hn =>
        split at h
        ·next e he=>injection h with h;subst h;exact qji (qkF (hrd hn)) _ _ en pl he
        ·cases h
      ·split at h
       ·split at h
        ·next e he=>injection h with h;subst h;exact hnm _ _ en pl he
        ·cases h
       ·injection h with h;injection h with h1 h2;omega
theorem qhP (bs:List UInt8)(lim depth:Int)(nm:UInt8→Nat→Except (Int×Int) (Int×Nat))(hnm:∀c p,Bad (nm c p)):∀(g wi p:Nat),(wi:Int)≤depth→depth<wi+g→Bad (thJ bs lim depth nm g wi p)
 |0,wi,p,h1,h2,_,_,_=>by omega
 |g+1,wi,p,h1,h2,en,pl,h=>by
  rw[thJ] at h
  split at h
  ·injection h with h;injection h with h3 h4;omega
  ·split at h
   ·injection h with h;injection h with h3 h4;omega
   ·exact qmp (fun hn q=>qhP bs lim depth nm hnm g (wi+1) q (by omega) (by omega)) hnm en pl h
theorem qnt (fm:Int)(bs:List UInt8)(d l:Int)(p:Nat)(hd:0≤d):Bad (thO fm bs d l p):=fun en pl h=>by
 unfold thO at h
 split at h
 ·exact qhP _ _ _ _ (fun c p=>qje _ _) _ _ _ (by simpa using hd) (by omega) en pl h
 ·split at h
  ·exact qfz _ _ _ _ _ _ _ (by simpa using hd) (by omega) en pl h
  ·exact qfz _ _ _ _ _ _ _ (by simpa using hd) (by omega) en pl h
theorem qja (fm:Int)(bs:List UInt8)(d l:Int)(hd:0≤d):Bad (qe4 (thO fm bs d l)):=fun en pl h=>by
 unfold qe4 at h
 split at h
 ·next e he=>injection h with h;subst h;exact qnt fm bs d l 0 hd en pl he
 ·cases h
end
end Go.Proofs.YtllcbnfmihfaaaaGreatDoor
