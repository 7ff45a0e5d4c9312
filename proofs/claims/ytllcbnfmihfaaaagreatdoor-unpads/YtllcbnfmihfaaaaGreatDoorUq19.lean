import Derived.Test.YtllcbnfmihfaaaaGreatDoorUq18
set_option maxRecDepth 100000
set_option maxHeartbeats 8000000
namespace Go.Proofs.YtllcbnfmihfaaaaGreatDoor
open Go.Proofs.Tryz
section
open Go.RowKit
def qbC {α:Type}(St:Nat→α→World→Prop)(Fr:World→Prop)(r:Except (Int×Int) (α×Nat))(e:Ending)(V:World):Prop :=
 match r with
 |.ok (a,q)=>e=.returned (.tuple #[])∧St q a V
 |.error (en,pl)=>qaj en pl e∧Fr V
structure qd8 {α:Type}(b:Nat)(s:Src)(St:Nat→Nat→Nat→α→World→Prop)(Fr:World→Prop):Prop where
 src:∀N wi p a V,St N wi p a V→qad V b {s with pos:=p,within:=wi}
 step:∀N wi p a V wi' q V',St N wi p a V→qad V' b {s with pos:=q,within:=wi' }→But b V V'→p≤q→St N wi' q a V'
 box:∀N wi p a V,St N wi p a V→V.heap[N]? = some (.cells #[.pointer (some ⟨b,0,none⟩)] 198)
 fr:∀N wi p a V,St N wi p a V→Fr V
 frb:∀V V',Fr V→But b V V'→Fr V'
theorem qbW (bs:List UInt8)(lim:Int):∀(g p:Nat) (u:Unit) (q:Nat),spF bs lim g p=.ok (u,q)→p≤q
 |0,p,u,q,h=>by
  rw[spF] at h
  injection h with h
  injection h with h1 h2
  omega
 |g+1,p,u,q,h=>by
  rw[spF] at h
  split at h
  ·injection h with h
   injection h with h1 h2
   omega
  ·split at h
   ·cases h
   ·split at h
    ·have:=qbW bs lim g (p+1) u q h
     omega
    ·injection h with h
     injection h with h1 h2
     omega
theorem qeK {α:Type}(W:World)(b L r:Nat)(s:Src)(itF:α→Nat→Except (Int×Int) (α×Nat))(acc:α)(St:Nat→Nat→Nat→α→World→Prop)(Fr:World→Prop)(hI:qd8 b s St Fr)(h:qad W b s)(hd:¬(s.within:Int)=s.depth)(hwi:s.within≤100000)(hst:St W.heap.size s.within s.pos acc (W.alloc (.cells #[.pointer (some ⟨b,0,none⟩)] 198)))(hitem:∀N p a V,St N (s.within+1) p a V→Calls prog 310 #[.pointer (some ⟨L,0,none⟩),.pointer (some ⟨r,0,none⟩)] V (qbC (St N (s.within+1)) Fr (itF a p)))(hgo:∀a p a' q,itF a p=.ok (a',q)→p<q):Calls prog 309 #[.agg #[.pointer (some ⟨b,0,none⟩)],.int .u8 93,.func (.func 310) #[] #[.pointer (some ⟨L,0,none⟩),.pointer (some ⟨r,0,none⟩)]] W (qbC (fun q a V=>St W.heap.size s.within q a V) Fr (qdg s.bs s.lim itF 93 s.pos acc)):=by
 have HS:Hid (St W.heap.size s.within s.pos acc (W.alloc (.cells #[.pointer (some ⟨b,0,none⟩)] 198))):=hst
 have HI:Hid (qd8 b s St Fr):=hI
 have HGO:Hid (∀a p a' q,itF a p=.ok (a',q)→p<q):=hgo
 have cE:=qfQ (W.alloc (.cells #[.pointer (some ⟨b,0,none⟩)] 198)) b s (h.below bwA) hd (by omega)
 have cS:∀(V:World) (p:Nat),qad V b {s with pos:=p,within:=s.within+1}→Calls prog 297 #[.agg #[.pointer (some ⟨b,0,none⟩)]] V (qbv V b {s with pos:=p,within:=s.within+1} (fun _:Unit=>.tuple #[]) (spF s.bs s.lim (s.bs.length+1-p) p)):=fun V p hV=>qcj V b {s with pos:=p,within:=s.within+1} hV
 have cLv:∀(V:World) (p:Nat),qad V b {s with pos:=p,within:=s.within+1}→Calls prog 317 #[.pointer (some ⟨b,0,none⟩)] V fun e W'=>e=.returned (.tuple #[])∧qad W' b {s with pos:=p}∧But b V W':=fun V p hV=>qhu V b s.within {s with pos:=p,within:=s.within+1} hV rfl (by show s.within+1≤_;omega)
 obtain⟨R,HR⟩:∃R,Hid (qdg s.bs s.lim itF 93 s.pos acc=R):=⟨_,show _=_ from rfl⟩
 rw[HR.out]
 have hr:=HR.out
 unfold qdg at hr
 clear HR hst hI hgo hd h
 have k0:=qaa (HI.out.box _ _ _ _ _ HS.out) 0
 cases h1:spF s.bs s.lim (s.bs.length+1-s.pos) s.pos with
 |error er =>
  obtain⟨en,pl⟩:=er
  rw[h1] at hr
  simp only[] at hr
  subst hr
  have H1:Hid (spF s.bs s.lim (s.bs.length+1-s.pos) s.pos=.error (en,pl)):=h1
  clear h1 hitem cLv
  go_enter func309,ntmps309
  go_wp2
  go_step3
  go_wp2_with (first
   |(go_at_call 289;refine cE.mono ?_;clear cE k0;rintro e w2 ⟨rfl,hS2,hB2⟩;have H2:=qac (HI.out.step _ _ _ _ _ _ _ _ HS.out hS2 hB2 (by omega));clear HS hS2 hB2;have k0:=qaa (HI.out.box _ _ _ _ _ H2.out) 0;have cS1:=cS w2 s.pos (HI.out.src _ _ _ _ _ H2.out);rw[H1.out] at cS1)
   |(go_at_call 297;refine cS1.mono ?_;clear cS1;rintro e w3 ⟨hB3,hF3⟩;obtain rfl:=(show qaj en pl e from hF3)))
  exact⟨rfl,rfl,HI.out.frb _ _ (HI.out.fr _ _ _ _ _ H2.out) hB3⟩
 |ok up =>
  obtain⟨u,p1⟩:=up
  rw[h1] at hr
  simp only[] at hr
  have H1:Hid (spF s.bs s.lim (s.bs.length+1-s.pos) s.pos=.ok (u,p1)):=h1
  have hp1:=qbW _ _ _ _ _ _ h1
  clear h1
  have hways:(qnJ {s with pos:=p1,within:=s.within+1}∧R=.error (8,(p1:Int)))∨(∃c,qdS {s with pos:=p1,within:=s.within+1} c∧c.toNat=93∧R=.ok (acc,p1+1))∨((∀V,qad V b {s with pos:=p1,within:=s.within+1}→Calls prog 304 #[.pointer (some ⟨b,0,none⟩),.int .u8 93] V fun e W'=>e=.returned (.bool false)∧qad W' b {s with pos:=p1,within:=s.within+1}∧But b V W')∧qd6 s.bs s.lim itF 93 (s.bs.length+1-p1) p1 acc=R):=by
   cases h2:s.bs[p1]? with
   |none =>
    rw[h2] at hr
    refine .inr (.inr ⟨fun V hV=>qfm 93 hV ?_,hr⟩)
    have h5:p1≤s.bs.length:=hV.le
    have h6:=List.getElem?_eq_none_iff.1 h2
    show p1=s.bs.length
    omega
   |some c =>
    rw[h2] at hr
    simp only[] at hr
    have h6:p1<s.bs.length:=ltL h2
    by_cases h3:(p1:Int)=s.lim
    ·rw[if_pos h3] at hr
     exact .inl ⟨⟨h6,h3⟩,hr.symm⟩
    ·rw[if_neg h3] at hr
     by_cases h4:c.toNat=93
     ·rw[if_pos h4] at hr
      exact .inr (.inl ⟨c,⟨h2,h3⟩,h4,hr.symm⟩)
     ·rw[if_neg h4] at hr
      refine .inr (.inr ⟨fun V hV => ?_,hr⟩)
      have:=qcD (c:=c) 93 hV ⟨h2,h3⟩
      rwa [show((c.toNat:Int)==93)=false by simp;omega] at this
  clear hr
  rcases hways with ⟨hFu,rfl⟩|⟨c,hHe,hc,rfl⟩|⟨cF0,hr⟩
  ·have cF0:∀V,qad V b {s with pos:=p1,within:=s.within+1}→Calls prog 304 #[.pointer (some ⟨b,0,none⟩),.int .u8 93] V fun e W'=>qaj 8 p1 e∧But b V W':=fun V hV=>(qc1 V b {s with pos:=p1,within:=s.within+1} 93 hV hFu).mono fun e w hh=>⟨hh.1,But.of_below hh.2⟩
   clear hFu hitem cLv
   go_enter func309,ntmps309
   go_wp2
   go_step3
   go_wp2_with (first
    |(go_at_call 289;refine cE.mono ?_;clear cE k0;rintro e w2 ⟨rfl,hS2,hB2⟩;have H2:=qac (HI.out.step _ _ _ _ _ _ _ _ HS.out hS2 hB2 (by omega));clear HS hS2 hB2;have k0:=qaa (HI.out.box _ _ _ _ _ H2.out) 0;have cS1:=cS w2 s.pos (HI.out.src _ _ _ _ _ H2.out);rw[H1.out] at cS1)
    |(go_at_call 297;refine cS1.mono ?_;clear cS1 k0;rintro e w3 ⟨hB3,hF3⟩;obtain⟨rfl,hS3⟩:=(show e=.returned (.tuple #[])∧qad w3 b {s with pos:=p1,within:=s.within+1} from hF3);have H3:=qac (HI.out.step _ _ _ _ _ _ _ _ H2.out hS3 hB3 (by omega));clear H2 hS3 hB3 hF3;have k0:=qaa (HI.out.box _ _ _ _ _ H3.out) 0;have cF:=cF0 w3 (HI.out.src _ _ _ _ _ H3.out);clear cF0)
    |(go_at_call 304;refine cF.mono ?_;clear cF;rintro e w4 ⟨hF4,hB4⟩;obtain rfl:=hF4))
   exact⟨rfl,rfl,HI.out.frb _ _ (HI.out.fr _ _ _ _ _ H3.out) hB4⟩
  ·have cF0:∀V,qad V b {s with pos:=p1,within:=s.within+1}→Calls prog 304 #[.pointer (some ⟨b,0,none⟩),.int .u8 93] V fun e W'=>e=.returned (.bool true)∧qad W' b {s with pos:=p1,within:=s.within+1}∧But b V W':=fun V hV=>by
    have:=qcD (c:=c) 93 hV hHe
    rwa [show((c.toNat:Int)==93)=true by rw[hc];rfl] at this
   have cT0:∀V,qad V b {s with pos:=p1,within:=s.within+1}→Calls prog 294 #[.pointer (some ⟨b,0,none⟩)] V fun e W'=>e=.returned (.int .u8 c.toNat)∧qad W' b {s with pos:=p1+1,within:=s.within+1}∧But b V W':=fun V hV=>qax V b {s with pos:=p1,within:=s.within+1} c hV hHe
   clear hHe hc hitem
   go_enter func309,ntmps309
   go_wp2
   go_step3
   go_wp2_with (first
    |(go_at_call 289;refine cE.mono ?_;clear cE k0;rintro e w2 ⟨rfl,hS2,hB2⟩;have H2:=qac (HI.out.step _ _ _ _ _ _ _ _ HS.out hS2 hB2 (by omega));clear HS hS2 hB2;have k0:=qaa (HI.out.box _ _ _ _ _ H2.out) 0;have cS1:=cS w2 s.pos (HI.out.src _ _ _ _ _ H2.out);rw[H1.out] at cS1)
    |(go_at_call 297;refine cS1.mono ?_;clear cS1 k0;rintro e w3 ⟨hB3,hF3⟩;obtain⟨rfl,hS3⟩:=(show e=.returned (.tuple #[])∧qad w3 b {s with pos:=p1,within:=s.within+1} from hF3);have H3:=qac (HI.out.step _ _ _ _ _ _ _ _ H2.out hS3 hB3 (by omega));clear H2 hS3 hB3 hF3;have k0:=qaa (HI.out.box _ _ _ _ _ H3.out) 0;have cF:=cF0 w3 (HI.out.src _ _ _ _ _ H3.out);clear cF0)
    |(go_at_call 304;refine cF.mono ?_;clear cF k0;rintro e w4 ⟨rfl,hS4,hB4⟩;have H4:=qac (HI.out.step _ _ _ _ _ _ _ _ H3.out hS4 hB4 (by omega));have HP1:Hid (p1≤s.bs.length):=hS4.le;clear H3 hS4 hB4;have k0:=qaa (HI.out.box _ _ _ _ _ H4.out) 0;have cT:=cT0 w4 (HI.out.src _ _ _ _ _ H4.out);clear cT0)
    |(go_at_call 294;refine cT.mono ?_;clear cT k0;rintro e w5 ⟨rfl,hS5,hB5⟩;have H5:=qac (HI.out.step _ _ _ _ _ _ _ _ H4.out hS5 hB5 (by omega));clear H4 hS5 hB5;have k0:=qaa (HI.out.box _ _ _ _ _ H5.out) 0;have cV:=cLv w5 (p1+1) (HI.out.src _ _ _ _ _ H5.out);clear cLv)
    |(go_at_call 317;refine cV.mono ?_;clear cV k0;rintro e w6 ⟨rfl,hS6,hB6⟩;have H6:=qac (HI.out.step _ _ _ _ _ _ _ _ H5.out hS6 hB6 (by omega));clear H5 hS6 hB6))
   refine qey ?_
   go_end0
   exact⟨rfl,H6.out⟩
  ·have HR:Hid (qd6 s.bs s.lim itF 93 (s.bs.length+1-p1) p1 acc=R):=hr
   clear hr
   go_enter func309,ntmps309
   go_wp2
   go_step3
   go_wp2_with (first
    |(go_at_call 289;refine cE.mono ?_;clear cE k0;rintro e w2 ⟨rfl,hS2,hB2⟩;have H2:=qac (HI.out.step _ _ _ _ _ _ _ _ HS.out hS2 hB2 (by omega));clear HS hS2 hB2;have k0:=qaa (HI.out.box _ _ _ _ _ H2.out) 0;have cS1:=cS w2 s.pos (HI.out.src _ _ _ _ _ H2.out);rw[H1.out] at cS1)
    |(go_at_call 297;refine cS1.mono ?_;clear cS1 k0;rintro e w3 ⟨hB3,hF3⟩;obtain⟨rfl,hS3⟩:=(show e=.returned (.tuple #[])∧qad w3 b {s with pos:=p1,within:=s.within+1} from hF3);have H3:=qac (HI.out.step _ _ _ _ _ _ _ _ H2.out hS3 hB3 (by omega));clear H2 hS3 hB3 hF3;have k0:=qaa (HI.out.box _ _ _ _ _ H3.out) 0;have cF:=cF0 w3 (HI.out.src _ _ _ _ _ H3.out);clear cF0)
    |(go_at_call 304;refine cF.mono ?_;clear cF k0;rintro e w4 ⟨rfl,hS4,hB4⟩;have H4:=qac (HI.out.step _ _ _ _ _ _ _ _ H3.out hS4 hB4 (by omega));have HP1:Hid (p1≤s.bs.length):=hS4.le;clear H3 hS4 hB4))
   clear H1
   go_step3
   go_wp2
   go_loopg [21] (s.bs.length+1-p1) (fun g _ wr=>∃(p:Nat) (a:α),Hid (s.bs.length+1≤p+g)∧Hid (p≤s.bs.length)∧Hid (St W.heap.size (s.within+1) p a wr)∧Hid (qd6 s.bs s.lim itF 93 g p a=R))
   case atStart=>exact⟨p1,acc,by show _≤_;have:=HP1.out;omega,HP1,H4,HR⟩
   case round =>
    clear H4 HR HP1
    obtain⟨p,a,hg,hp,H4,HR⟩:=hrel
    obtain⟨g,rfl⟩:∃g,gk=g+1:=⟨gk-1,by have:=hg.out;have:=hp.out;omega⟩
    have k0:=qaa (HI.out.box _ _ _ _ _ H4.out) 0
    have hr:=HR.out
    rw[qd6] at hr
    clear HR
    have cS1:=cS wr p (HI.out.src _ _ _ _ _ H4.out)
    cases h1:spF s.bs s.lim (s.bs.length+1-p) p with
    |error er =>
     obtain⟨en,pl⟩:=er
     rw[h1] at hr cS1
     simp only[] at hr
     subst hr
     clear h1 hitem cLv cS
     go_wp2_with (first
      |(go_at_call 297;refine cS1.mono ?_;clear cS1;rintro e w5 ⟨hB5,hF5⟩;obtain rfl:=(show qaj en pl e from hF5)))
     exact⟨rfl,rfl,HI.out.frb _ _ (HI.out.fr _ _ _ _ _ H4.out) hB5⟩
    |ok up =>
     obtain⟨u1,q1⟩:=up
     rw[h1] at hr cS1
     simp only[] at hr
     have hq1:=qbW _ _ _ _ _ _ h1
     have cI0:∀V,St W.heap.size (s.within+1) q1 a V→Calls prog 310 #[.pointer (some ⟨L,0,none⟩),.pointer (some ⟨r,0,none⟩)] V (qbC (St W.heap.size (s.within+1)) Fr (itF a q1)):=fun V hV=>hitem _ _ _ _ hV
     clear h1 hitem
     cases h2:itF a q1 with
     |error er =>
      obtain⟨en,pl⟩:=er
      rw[h2] at hr cI0
      simp only[] at hr
      subst hr
      clear h2 cLv cS
      go_wp2_with (first
       |(go_at_call 297;refine cS1.mono ?_;clear cS1 k0;rintro e w5 ⟨hB5,hF5⟩;obtain⟨rfl,hS5⟩:=(show e=.returned (.tuple #[])∧qad w5 b {s with pos:=q1,within:=s.within+1} from hF5);have H5:=qac (HI.out.step _ _ _ _ _ _ _ _ H4.out hS5 hB5 (by omega));clear H4 hS5 hB5 hF5;have cI:=cI0 w5 H5.out;clear cI0)
       |(go_at_call 310;refine cI.mono ?_;clear cI;rintro e w6 hF6;obtain⟨hF6,hFr⟩:=(show qaj en pl e∧Fr w6 from hF6);obtain rfl:=hF6))
      exact⟨rfl,rfl,hFr⟩
     |ok aq =>
      obtain⟨a',q2⟩:=aq
      rw[h2] at hr cI0
      simp only[] at hr
      have hq2:=HGO.out _ _ _ _ h2
      have cS2:∀V,St W.heap.size (s.within+1) q2 a' V→Calls prog 297 #[.agg #[.pointer (some ⟨b,0,none⟩)]] V (qbv V b {s with pos:=q2,within:=s.within+1} (fun _:Unit=>.tuple #[]) (spF s.bs s.lim (s.bs.length+1-q2) q2)):=fun V hV=>cS V q2 (HI.out.src _ _ _ _ _ hV)
      clear h2 cS
      cases h3:spF s.bs s.lim (s.bs.length+1-q2) q2 with
      |error er =>
       obtain⟨en,pl⟩:=er
       rw[h3] at hr cS2
       simp only[] at hr
       subst hr
       clear h3 cLv
       go_wp2_with (first
        |(go_at_call 297;refine cS1.mono ?_;clear cS1 k0;rintro e w5 ⟨hB5,hF5⟩;obtain⟨rfl,hS5⟩:=(show e=.returned (.tuple #[])∧qad w5 b {s with pos:=q1,within:=s.within+1} from hF5);have H5:=qac (HI.out.step _ _ _ _ _ _ _ _ H4.out hS5 hB5 (by omega));clear H4 hS5 hB5 hF5;have cI:=cI0 w5 H5.out;clear cI0)
        |(go_at_call 310;refine cI.mono ?_;clear cI;rintro e w6 hF6;obtain⟨rfl,hS6⟩:=(show e=.returned (.tuple #[])∧St W.heap.size (s.within+1) q2 a' w6 from hF6);have H6:Hid (St W.heap.size (s.within+1) q2 a' w6):=hS6;clear H5 hF6 hS6;have k0:=qaa (HI.out.box _ _ _ _ _ H6.out) 0;have cS3:=cS2 w6 H6.out;clear cS2)
        |(go_at_call 297;refine cS3.mono ?_;clear cS3;rintro e w7 ⟨hB7,hF7⟩;obtain rfl:=(show qaj en pl e from hF7)))
       exact⟨rfl,rfl,HI.out.frb _ _ (HI.out.fr _ _ _ _ _ H6.out) hB7⟩
      |ok up =>
       obtain⟨u3,q3⟩:=up
       rw[h3] at hr cS2
       simp only[] at hr
       have hq3:=qbW _ _ _ _ _ _ h3
       clear h3
       cases h4:s.bs[q3]? with
       |none =>
        rw[h4] at hr
        simp only[] at hr
        subst hr
        have cT0:∀V,qad V b {s with pos:=q3,within:=s.within+1}→Calls prog 294 #[.pointer (some ⟨b,0,none⟩)] V fun e W'=>qaj 9 q3 e∧Below V.heap.size V W':=fun V hV=>qbe V b {s with pos:=q3,within:=s.within+1} hV (by show q3=s.bs.length;have h5:q3≤s.bs.length:=hV.le;have h6:=List.getElem?_eq_none_iff.1 h4;omega)
        clear h4 cLv
        go_wp2_with (first
         |(go_at_call 297;refine cS1.mono ?_;clear cS1 k0;rintro e w5 ⟨hB5,hF5⟩;obtain⟨rfl,hS5⟩:=(show e=.returned (.tuple #[])∧qad w5 b {s with pos:=q1,within:=s.within+1} from hF5);have H5:=qac (HI.out.step _ _ _ _ _ _ _ _ H4.out hS5 hB5 (by omega));clear H4 hS5 hB5 hF5;have cI:=cI0 w5 H5.out;clear cI0)
         |(go_at_call 310;refine cI.mono ?_;clear cI;rintro e w6 hF6;obtain⟨rfl,hS6⟩:=(show e=.returned (.tuple #[])∧St W.heap.size (s.within+1) q2 a' w6 from hF6);have H6:Hid (St W.heap.size (s.within+1) q2 a' w6):=hS6;clear H5 hF6 hS6;have k0:=qaa (HI.out.box _ _ _ _ _ H6.out) 0;have cS3:=cS2 w6 H6.out;clear cS2)
         |(go_at_call 297;refine cS3.mono ?_;clear cS3 k0;rintro e w7 ⟨hB7,hF7⟩;obtain⟨rfl,hS7⟩:=(show e=.returned (.tuple #[])∧qad w7 b {s with pos:=q3,within:=s.within+1} from hF7);have H7:=qac (HI.out.step _ _ _ _ _ _ _ _ H6.out hS7 hB7 (by omega));have HQ3:Hid (q3≤s.bs.length):=hS7.le;clear H6 hS7 hB7 hF7;have k0:=qaa (HI.out.box _ _ _ _ _ H7.out) 0;have cT:=cT0 w7 (HI.out.src _ _ _ _ _ H7.out);clear cT0)
         |(go_at_call 294;refine cT.mono ?_;clear cT;rintro e w8 ⟨hF8,hB8⟩;obtain rfl:=hF8))
        exact⟨rfl,rfl,HI.out.frb _ _ (HI.out.fr _ _ _ _ _ H7.out) (But.of_below hB8)⟩
       |some c =>
        rw[h4] at hr
        simp only[] at hr
        have h6:q3<s.bs.length:=ltL h4
        by_cases h5:(q3:Int)=s.lim
        ·rw[if_pos h5] at hr
         subst hr
         have cT0:∀V,qad V b {s with pos:=q3,within:=s.within+1}→Calls prog 294 #[.pointer (some ⟨b,0,none⟩)] V fun e W'=>qaj 8 q3 e∧Below V.heap.size V W':=fun V hV=>qaN V b {s with pos:=q3,within:=s.within+1} hV ⟨h6,h5⟩
         clear h4 h5 h6 cLv
         go_wp2_with (first
          |(go_at_call 297;refine cS1.mono ?_;clear cS1 k0;rintro e w5 ⟨hB5,hF5⟩;obtain⟨rfl,hS5⟩:=(show e=.returned (.tuple #[])∧qad w5 b {s with pos:=q1,within:=s.within+1} from hF5);have H5:=qac (HI.out.step _ _ _ _ _ _ _ _ H4.out hS5 hB5 (by omega));clear H4 hS5 hB5 hF5;have cI:=cI0 w5 H5.out;clear cI0)
          |(go_at_call 310;refine cI.mono ?_;clear cI;rintro e w6 hF6;obtain⟨rfl,hS6⟩:=(show e=.returned (.tuple #[])∧St W.heap.size (s.within+1) q2 a' w6 from hF6);have H6:Hid (St W.heap.size (s.within+1) q2 a' w6):=hS6;clear H5 hF6 hS6;have k0:=qaa (HI.out.box _ _ _ _ _ H6.out) 0;have cS3:=cS2 w6 H6.out;clear cS2)
          |(go_at_call 297;refine cS3.mono ?_;clear cS3 k0;rintro e w7 ⟨hB7,hF7⟩;obtain⟨rfl,hS7⟩:=(show e=.returned (.tuple #[])∧qad w7 b {s with pos:=q3,within:=s.within+1} from hF7);have H7:=qac (HI.out.step _ _ _ _ _ _ _ _ H6.out hS7 hB7 (by omega));have HQ3:Hid (q3≤s.bs.length):=hS7.le;clear H6 hS7 hB7 hF7;have k0:=qaa (HI.out.box _ _ _ _ _ H7.out) 0;have cT:=cT0 w7 (HI.out.src _ _ _ _ _ H7.out);clear cT0)
          |(go_at_call 294;refine cT.mono ?_;clear cT;rintro e w8 ⟨hF8,hB8⟩;obtain rfl:=hF8))
         exact⟨rfl,rfl,HI.out.frb _ _ (HI.out.fr _ _ _ _ _ H7.out) (But.of_below hB8)⟩
        ·rw[if_neg h5] at hr
         have cT0:∀V,qad V b {s with pos:=q3,within:=s.within+1}→Calls prog 294 #[.pointer (some ⟨b,0,none⟩)] V fun e W'=>e=.returned (.int .u8 c.toNat)∧qad W' b {s with pos:=q3+1,within:=s.within+1}∧But b V W':=fun V hV=>qax V b {s with pos:=q3,within:=s.within+1} c hV ⟨h4,h5⟩
         clear h4 h5
         by_cases h7:c.toNat=93
         ·rw[if_pos h7] at hr
          subst hr
          have e1:((c.toNat:Int)==93)=true:=by rw[h7];rfl
          clear h7
          go_wp2_with (first
           |(go_at_call 297;refine cS1.mono ?_;clear cS1 k0;rintro e w5 ⟨hB5,hF5⟩;obtain⟨rfl,hS5⟩:=(show e=.returned (.tuple #[])∧qad w5 b {s with pos:=q1,within:=s.within+1} from hF5);have H5:=qac (HI.out.step _ _ _ _ _ _ _ _ H4.out hS5 hB5 (by omega));clear H4 hS5 hB5 hF5;have cI:=cI0 w5 H5.out;clear cI0)
           |(go_at_call 310;refine cI.mono ?_;clear cI;rintro e w6 hF6;obtain⟨rfl,hS6⟩:=(show e=.returned (.tuple #[])∧St W.heap.size (s.within+1) q2 a' w6 from hF6);have H6:Hid (St W.heap.size (s.within+1) q2 a' w6):=hS6;clear H5 hF6 hS6;have k0:=qaa (HI.out.box _ _ _ _ _ H6.out) 0;have cS3:=cS2 w6 H6.out;clear cS2)
           |(go_at_call 297;refine cS3.mono ?_;clear cS3 k0;rintro e w7 ⟨hB7,hF7⟩;obtain⟨rfl,hS7⟩:=(show e=.returned (.tuple #[])∧qad w7 b {s with pos:=q3,within:=s.within+1} from hF7);have H7:=qac (HI.out.step _ _ _ _ _ _ _ _ H6.out hS7 hB7 (by omega));have HQ3:Hid (q3≤s.bs.length):=hS7.le;clear H6 hS7 hB7 hF7;have k0:=qaa (HI.out.box _ _ _ _ _ H7.out) 0;have cT:=cT0 w7 (HI.out.src _ _ _ _ _ H7.out);clear cT0)
           |(go_at_call 294;refine cT.mono ?_;clear cT k0;rintro e w8 ⟨rfl,hS8,hB8⟩;have H8:=qac (HI.out.step _ _ _ _ _ _ _ _ H7.out hS8 hB8 (by omega));have HQ4:Hid (q3+1≤s.bs.length):=hS8.le;clear H7 hS8 hB8;have k0:=qaa (HI.out.box _ _ _ _ _ H8.out) 0;have cV:=cLv w8 (q3+1) (HI.out.src _ _ _ _ _ H8.out);clear cLv)
           |(go_at_call 317;refine cV.mono ?_;clear cV k0;rintro e w9 ⟨rfl,hS9,hB9⟩;have H9:=qac (HI.out.step _ _ _ _ _ _ _ _ H8.out hS9 hB9 (by omega));clear H8 hS9 hB9))
          first|(refine qey ?_;go_end0)|go_end0
          exact⟨rfl,H9.out⟩
         ·rw[if_neg h7] at hr
          have e1:=nec (c:=c) 93 (by omega)
          by_cases h8:c.toNat=44
          ·rw[if_pos h8] at hr
           have HN:Hid (qd6 s.bs s.lim itF 93 g (q3+1) a'=R):=hr
           have e2:((c.toNat:Int)==44)=true:=by rw[h8];rfl
           have HG2:Hid (s.bs.length+1≤(q3+1)+g):=by show _≤_;have:=hg.out;omega
           clear h7 h8 hr cLv
           go_wp2_with (first
            |(go_at_call 297;refine cS1.mono ?_;clear cS1 k0;rintro e w5 ⟨hB5,hF5⟩;obtain⟨rfl,hS5⟩:=(show e=.returned (.tuple #[])∧qad w5 b {s with pos:=q1,within:=s.within+1} from hF5);have H5:=qac (HI.out.step _ _ _ _ _ _ _ _ H4.out hS5 hB5 (by omega));clear H4 hS5 hB5 hF5;have cI:=cI0 w5 H5.out;clear cI0)
            |(go_at_call 310;refine cI.mono ?_;clear cI;rintro e w6 hF6;obtain⟨rfl,hS6⟩:=(show e=.returned (.tuple #[])∧St W.heap.size (s.within+1) q2 a' w6 from hF6);have H6:Hid (St W.heap.size (s.within+1) q2 a' w6):=hS6;clear H5 hF6 hS6;have k0:=qaa (HI.out.box _ _ _ _ _ H6.out) 0;have cS3:=cS2 w6 H6.out;clear cS2)
            |(go_at_call 297;refine cS3.mono ?_;clear cS3 k0;rintro e w7 ⟨hB7,hF7⟩;obtain⟨rfl,hS7⟩:=(show e=.returned (.tuple #[])∧qad w7 b {s with pos:=q3,within:=s.within+1} from hF7);have H7:=qac (HI.out.step _ _ _ _ _ _ _ _ H6.out hS7 hB7 (by omega));have HQ3:Hid (q3≤s.bs.length):=hS7.le;clear H6 hS7 hB7 hF7;have k0:=qaa (HI.out.box _ _ _ _ _ H7.out) 0;have cT:=cT0 w7 (HI.out.src _ _ _ _ _ H7.out);clear cT0)
            |(go_at_call 294;refine cT.mono ?_;clear cT k0;rintro e w8 ⟨rfl,hS8,hB8⟩;have H8:=qac (HI.out.step _ _ _ _ _ _ _ _ H7.out hS8 hB8 (by omega));have HQ4:Hid (q3+1≤s.bs.length):=hS8.le;clear H7 hS8 hB8))
           go_roundg g
           case measure=>omega
           case rel=>exact⟨q3+1,a',HG2,HQ4,H8,HN⟩
          ·rw[if_neg h8] at hr
           subst hr
           have e2:=nec (c:=c) 44 (by omega)
           have cR0:∀V,qad V b {s with pos:=q3+1,within:=s.within+1}→Calls prog 295 #[.pointer (some ⟨b,0,none⟩),.int .i64 9] V fun e W'=>qaj 9 q3 e∧W'=V:=fun V hV=>by
            have:=qam V b {s with pos:=q3+1,within:=s.within+1} 9 hV
            rwa [show((({s with pos:=q3+1,within:=s.within+1}:Src).pos:Int)-1)=q3 by show(((q3+1:Nat)):Int)-1=q3;omega] at this
           clear h7 h8 cLv
           go_wp2_with (first
            |(go_at_call 297;refine cS1.mono ?_;clear cS1 k0;rintro e w5 ⟨hB5,hF5⟩;obtain⟨rfl,hS5⟩:=(show e=.returned (.tuple #[])∧qad w5 b {s with pos:=q1,within:=s.within+1} from hF5);have H5:=qac (HI.out.step _ _ _ _ _ _ _ _ H4.out hS5 hB5 (by omega));clear H4 hS5 hB5 hF5;have cI:=cI0 w5 H5.out;clear cI0)
            |(go_at_call 310;refine cI.mono ?_;clear cI;rintro e w6 hF6;obtain⟨rfl,hS6⟩:=(show e=.returned (.tuple #[])∧St W.heap.size (s.within+1) q2 a' w6 from hF6);have H6:Hid (St W.heap.size (s.within+1) q2 a' w6):=hS6;clear H5 hF6 hS6;have k0:=qaa (HI.out.box _ _ _ _ _ H6.out) 0;have cS3:=cS2 w6 H6.out;clear cS2)
            |(go_at_call 297;refine cS3.mono ?_;clear cS3 k0;rintro e w7 ⟨hB7,hF7⟩;obtain⟨rfl,hS7⟩:=(show e=.returned (.tuple #[])∧qad w7 b {s with pos:=q3,within:=s.within+1} from hF7);have H7:=qac (HI.out.step _ _ _ _ _ _ _ _ H6.out hS7 hB7 (by omega));have HQ3:Hid (q3≤s.bs.length):=hS7.le;clear H6 hS7 hB7 hF7;have k0:=qaa (HI.out.box _ _ _ _ _ H7.out) 0;have cT:=cT0 w7 (HI.out.src _ _ _ _ _ H7.out);clear cT0)
            |(go_at_call 294;refine cT.mono ?_;clear cT k0;rintro e w8 ⟨rfl,hS8,hB8⟩;have H8:=qac (HI.out.step _ _ _ _ _ _ _ _ H7.out hS8 hB8 (by omega));have HQ4:Hid (q3+1≤s.bs.length):=hS8.le;clear H7 hS8 hB8;have k0:=qaa (HI.out.box _ _ _ _ _ H8.out) 0;have cR:=cR0 w8 (HI.out.src _ _ _ _ _ H8.out);clear cR0)
            |(go_at_call 295;refine cR.mono ?_;clear cR;rintro e w9 ⟨hF9,rfl⟩;obtain rfl:=hF9))
           exact⟨rfl,rfl,HI.out.fr _ _ _ _ _ H8.out⟩
theorem qfE {α:Type}(W:World)(b L r m:Nat)(s:Src)(itF:α→Nat→Except (Int×Int) (α×Nat))(acc:α)(St:Nat→Nat→Nat→α→World→Prop)(Fr:World→Prop)(hI:qd8 b s St Fr)(h:qad W b s)(hd:¬(s.within:Int)=s.depth)(hwi:s.within≤100000)(hst:St W.heap.size s.within s.pos acc (W.alloc (.cells #[.pointer (some ⟨b,0,none⟩)] 198)))(hitem:∀N p a V,St N (s.within+1) p a V→Calls prog 311 #[.pointer (some ⟨r,0,none⟩),.pointer (some ⟨m,0,none⟩),.pointer (some ⟨L,0,none⟩)] V (qbC (St N (s.within+1)) Fr (itF a p)))(hgo:∀a p a' q,itF a p=.ok (a',q)→p<q):Calls prog 309 #[.agg #[.pointer (some ⟨b,0,none⟩)],.int .u8 125,.func (.func 311) #[] #[.pointer (some ⟨r,0,none⟩),.pointer (some ⟨m,0,none⟩),.pointer (some ⟨L,0,none⟩)]] W (qbC (fun q a V=>St W.heap.size s.within q a V) Fr (qdg s.bs s.lim itF 125 s.pos acc)):=by
 have HS:Hid (St W.heap.size s.within s.pos acc (W.alloc (.cells #[.pointer (some ⟨b,0,none⟩)] 198))):=hst
 have HI:Hid (qd8 b s St Fr):=hI
 have HGO:Hid (∀a p a' q,itF a p=.ok (a',q)→p<q):=hgo
 have cE:=qfQ (W.alloc (.cells #[.pointer (some ⟨b,0,none⟩)] 198)) b s (h.below bwA) hd (by omega)
 have cS:∀(V:World) (p:Nat),qad V b {s with pos:=p,within:=s.within+1}→Calls prog 297 #[.agg #[.pointer (some ⟨b,0,none⟩)]] V (qbv V b {s with pos:=p,within:=s.within+1} (fun _:Unit=>.tuple #[]) (spF s.bs s.lim (s.bs.length+1-p) p)):=fun V p hV=>qcj V b {s with pos:=p,within:=s.within+1} hV
 have cLv:∀(V:World) (p:Nat),qad V b {s with pos:=p,within:=s.within+1}→Calls prog 317 #[.pointer (some ⟨b,0,none⟩)] V fun e W'=>e=.returned (.tuple #[])∧qad W' b {s with pos:=p}∧But b V W':=fun V p hV=>qhu V b s.within {s with pos:=p,within:=s.within+1} hV rfl (by show s.within+1≤_;omega)
 obtain⟨R,HR⟩:∃R,Hid (qdg s.bs s.lim itF 125 s.pos acc=R):=⟨_,show _=_ from rfl⟩
 rw[HR.out]
 have hr:=HR.out
 unfold qdg at hr
 clear HR hst hI hgo hd h
 have k0:=qaa (HI.out.box _ _ _ _ _ HS.out) 0
 cases h1:spF s.bs s.lim (s.bs.length+1-s.pos) s.pos with
 |error er =>
  obtain⟨en,pl⟩:=er
  rw[h1] at hr
  simp only[] at hr
  subst hr
  have H1:Hid (spF s.bs s.lim (s.bs.length+1-s.pos) s.pos=.error (en,pl)):=h1
  clear h1 hitem cLv
  go_enter func309,ntmps309
  go_wp2
  go_step3
  go_wp2_with (first
   |(go_at_call 289;refine cE.mono ?_;clear cE k0;rintro e w2 ⟨rfl,hS2,hB2⟩;have H2:=qac (HI.out.step _ _ _ _ _ _ _ _ HS.out hS2 hB2 (by omega));clear HS hS2 hB2;have k0:=qaa (HI.out.box _ _ _ _ _ H2.out) 0;have cS1:=cS w2 s.pos (HI.out.src _ _ _ _ _ H2.out);rw[H1.out] at cS1)
   |(go_at_call 297;refine cS1.mono ?_;clear cS1;rintro e w3 ⟨hB3,hF3⟩;obtain rfl:=(show qaj en pl e from hF3)))
  exact⟨rfl,rfl,HI.out.frb _ _ (HI.out.fr _ _ _ _ _ H2.out) hB3⟩
 |ok up =>
  obtain⟨u,p1⟩:=up
  rw[h1] at hr
  simp only[] at hr
  have H1:Hid (spF s.bs s.lim (s.bs.length+1-s.pos) s.pos=.ok (u,p1)):=h1
  have hp1:=qbW _ _ _ _ _ _ h1
  clear h1
  have hways:(qnJ {s with pos:=p1,within:=s.within+1}∧R=.error (8,(p1:Int)))∨(∃c,qdS {s with pos:=p1,within:=s.within+1} c∧c.toNat=125∧R=.ok (acc,p1+1))∨((∀V,qad V b {s with pos:=p1,within:=s.within+1}→Calls prog 304 #[.pointer (some ⟨b,0,none⟩),.int .u8 125] V fun e W'=>e=.returned (.bool false)∧qad W' b {s with pos:=p1,within:=s.within+1}∧But b V W')∧qd6 s.bs s.lim itF 125 (s.bs.length+1-p1) p1 acc=R):=by
   cases h2:s.bs[p1]? with
   |none =>
    rw[h2] at hr
    refine .inr (.inr ⟨fun V hV=>qfm 125 hV ?_,hr⟩)
    have h5:p1≤s.bs.length:=hV.le
    have h6:=List.getElem?_eq_none_iff.1 h2
    show p1=s.bs.length
    omega
   |some c =>
    rw[h2] at hr
    simp only[] at hr
    have h6:p1<s.bs.length:=ltL h2
    by_cases h3:(p1:Int)=s.lim
    ·rw[if_pos h3] at hr
     exact .inl ⟨⟨h6,h3⟩,hr.symm⟩
    ·rw[if_neg h3] at hr
     by_cases h4:c.toNat=125
     ·rw[if_pos h4] at hr
      exact .inr (.inl ⟨c,⟨h2,h3⟩,h4,hr.symm⟩)
     ·rw[if_neg h4] at hr
      refine .inr (.inr ⟨fun V hV => ?_,hr⟩)
      have:=qcD (c:=c) 125 hV ⟨h2,h3⟩
      rwa [show((c.toNat:Int)==125)=false by simp;omega] at this
  clear hr
  rcases hways with ⟨hFu,rfl⟩|⟨c,hHe,hc,rfl⟩|⟨cF0,hr⟩
  ·have cF0:∀V,qad V b {s with pos:=p1,within:=s.within+1}→Calls prog 304 #[.pointer (some ⟨b,0,none⟩),.int .u8 125] V fun e W'=>qaj 8 p1 e∧But b V W':=fun V hV=>(qc1 V b {s with pos:=p1,within:=s.within+1} 125 hV hFu).mono fun e w hh=>⟨hh.1,But.of_below hh.2⟩
   clear hFu hitem cLv
   go_enter func309,ntmps309
   go_wp2
   go_step3
   go_wp2_with (first
    |(go_at_call 289;refine cE.mono ?_;clear cE k0;rintro e w2 ⟨rfl,hS2,hB2⟩;have H2:=qac (HI.out.step _ _ _ _ _ _ _ _ HS.out hS2 hB2 (by omega));clear HS hS2 hB2;have k0:=qaa (HI.out.box _ _ _ _ _ H2.out) 0;have cS1:=cS w2 s.pos (HI.out.src _ _ _ _ _ H2.out);rw[H1.out] at cS1)
    |(go_at_call 297;refine cS1.mono ?_;clear cS1 k0;rintro e w3 ⟨hB3,hF3⟩;obtain⟨rfl,hS3⟩:=(show e=.returned (.tuple #[])∧qad w3 b {s with pos:=p1,within:=s.within+1} from hF3);have H3:=qac (HI.out.step _ _ _ _ _ _ _ _ H2.out hS3 hB3 (by omega));clear H2 hS3 hB3 hF3;have k0:=qaa (HI.out.box _ _ _ _ _ H3.out) 0;have cF:=cF0 w3 (HI.out.src _ _ _ _ _ H3.out);clear cF0)
    |(go_at_call 304;refine cF.mono ?_;clear cF;rintro e w4 ⟨hF4,hB4⟩;obtain rfl:=hF4))
   exact⟨rfl,rfl,HI.out.frb _ _ (HI.out.fr _ _ _ _ _ H3.out) hB4⟩
  ·have cF0:∀V,qad V b {s with pos:=p1,within:=s.within+1}→Calls prog 304 #[.pointer (some ⟨b,0,none⟩),.int .u8 125] V fun e W'=>e=.returned (.bool true)∧qad W' b {s with pos:=p1,within:=s.within+1}∧But b V W':=fun V hV=>by
    have:=qcD (c:=c) 125 hV hHe
    rwa [show((c.toNat:Int)==125)=true by rw[hc];rfl] at this
   have cT0:∀V,qad V b {s with pos:=p1,within:=s.within+1}→Calls prog 294 #[.pointer (some ⟨b,0,none⟩)] V fun e W'=>e=.returned (.int .u8 c.toNat)∧qad W' b {s with pos:=p1+1,within:=s.within+1}∧But b V W':=fun V hV=>qax V b {s with pos:=p1,within:=s.within+1} c hV hHe
   clear hHe hc hitem
   go_enter func309,ntmps309
   go_wp2
   go_step3
   go_wp2_with (first
    |(go_at_call 289;refine cE.mono ?_;clear cE k0;rintro e w2 ⟨rfl,hS2,hB2⟩;have H2:=qac (HI.out.step _ _ _ _ _ _ _ _ HS.out hS2 hB2 (by omega));clear HS hS2 hB2;have k0:=qaa (HI.out.box _ _ _ _ _ H2.out) 0;have cS1:=cS w2 s.pos (HI.out.src _ _ _ _ _ H2.out);rw[H1.out] at cS1)
    |(go_at_call 297;refine cS1.mono ?_;clear cS1 k0;rintro e w3 ⟨hB3,hF3⟩;obtain⟨rfl,hS3⟩:=(show e=.returned (.tuple #[])∧qad w3 b {s with pos:=p1,within:=s.within+1} from hF3);have H3:=qac (HI.out.step _ _ _ _ _ _ _ _ H2.out hS3 hB3 (by omega));clear H2 hS3 hB3 hF3;have k0:=qaa (HI.out.box _ _ _ _ _ H3.out) 0;have cF:=cF0 w3 (HI.out.src _ _ _ _ _ H3.out);clear cF0)
    |(go_at_call 304;refine cF.mono ?_;clear cF k0;rintro e w4 ⟨rfl,hS4,hB4⟩;have H4:=qac (HI.out.step _ _ _ _ _ _ _ _ H3.out hS4 hB4 (by omega));have HP1:Hid (p1≤s.bs.length):=hS4.le;clear H3 hS4 hB4;have k0:=qaa (HI.out.box _ _ _ _ _ H4.out) 0;have cT:=cT0 w4 (HI.out.src _ _ _ _ _ H4.out);clear cT0)
    |(go_at_call 294;refine cT.mono ?_;clear cT k0;rintro e w5 ⟨rfl,hS5,hB5⟩;have H5:=qac (HI.out.step _ _ _ _ _ _ _ _ H4.out hS5 hB5 (by omega));clear H4 hS5 hB5;have k0:=qaa (HI.out.box _ _ _ _ _ H5.out) 0;have cV:=cLv w5 (p1+1) (HI.out.src _ _ _ _ _ H5.out);clear cLv)
    |(go_at_call 317;refine cV.mono ?_;clear cV k0;rintro e w6 ⟨rfl,hS6,hB6⟩;have H6:=qac (HI.out.step _ _ _ _ _ _ _ _ H5.out hS6 hB6 (by omega));clear H5 hS6 hB6))
   refine qey ?_
   go_end0
   exact⟨rfl,H6.out⟩
  ·have HR:Hid (qd6 s.bs s.lim itF 125 (s.bs.length+1-p1) p1 acc=R):=hr
   clear hr
   go_enter func309,ntmps309
   go_wp2
   go_step3
   go_wp2_with (first
    |(go_at_call 289;refine cE.mono ?_;clear cE k0;rintro e w2 ⟨rfl,hS2,hB2⟩;have H2:=qac (HI.out.step _ _ _ _ _ _ _ _ HS.out hS2 hB2 (by omega));clear HS hS2 hB2;have k0:=qaa (HI.out.box _ _ _ _ _ H2.out) 0;have cS1:=cS w2 s.pos (HI.out.src _ _ _ _ _ H2.out);rw[H1.out] at cS1)
    |(go_at_call 297;refine cS1.mono ?_;clear cS1 k0;rintro e w3 ⟨hB3,hF3⟩;obtain⟨rfl,hS3⟩:=(show e=.returned (.tuple #[])∧qad w3 b {s with pos:=p1,within:=s.within+1} from hF3);have H3:=qac (HI.out.step _ _ _ _ _ _ _ _ H2.out hS3 hB3 (by omega));clear H2 hS3 hB3 hF3;have k0:=qaa (HI.out.box _ _ _ _ _ H3.out) 0;have cF:=cF0 w3 (HI.out.src _ _ _ _ _ H3.out);clear cF0)
    |(go_at_call 304;refine cF.mono ?_;clear cF k0;rintro e w4 ⟨rfl,hS4,hB4⟩;have H4:=qac (HI.out.step _ _ _ _ _ _ _ _ H3.out hS4 hB4 (by omega));have HP1:Hid (p1≤s.bs.length):=hS4.le;clear H3 hS4 hB4))
   clear H1
   go_step3
   go_wp2
   go_loopg [21] (s.bs.length+1-p1) (fun g _ wr=>∃(p:Nat) (a:α),Hid (s.bs.length+1≤p+g)∧Hid (p≤s.bs.length)∧Hid (St W.heap.size (s.within+1) p a wr)∧Hid (qd6 s.bs s.lim itF 125 g p a=R))
   case atStart=>exact⟨p1,acc,by show _≤_;have:=HP1.out;omega,HP1,H4,HR⟩
   case round =>
    clear H4 HR HP1
    obtain⟨p,a,hg,hp,H4,HR⟩:=hrel
    obtain⟨g,rfl⟩:∃g,gk=g+1:=⟨gk-1,by have:=hg.out;have:=hp.out;omega⟩
    have k0:=qaa (HI.out.box _ _ _ _ _ H4.out) 0
    have hr:=HR.out
    rw[qd6] at hr
    clear HR
    have cS1:=cS wr p (HI.out.src _ _ _ _ _ H4.out)
    cases h1:spF s.bs s.lim (s.bs.length+1-p) p with
    |error er =>
     obtain⟨en,pl⟩:=er
     rw[h1] at hr cS1
     simp only[] at hr
     subst hr
     clear h1 hitem cLv cS
     go_wp2_with (first
      |(go_at_call 297;refine cS1.mono ?_;clear cS1;rintro e w5 ⟨hB5,hF5⟩;obtain rfl:=(show qaj en pl e from hF5)))
     exact⟨rfl,rfl,HI.out.frb _ _ (HI.out.fr _ _ _ _ _ H4.out) hB5⟩
    |ok up =>
     obtain⟨u1,q1⟩:=up
     rw[h1] at hr cS1
     simp only[] at hr
     have hq1:=qbW _ _ _ _ _ _ h1
     have cI0:∀V,St W.heap.size (s.within+1) q1 a V→Calls prog 311 #[.pointer (some ⟨r,0,none⟩),.pointer (some ⟨m,0,none⟩),.pointer (some ⟨L,0,none⟩)] V (qbC (St W.heap.size (s.within+1)) Fr (itF a q1)):=fun V hV=>hitem _ _ _ _ hV
     clear h1 hitem
     cases h2:itF a q1 with
     |error er =>
      obtain⟨en,pl⟩:=er
      rw[h2] at hr cI0
      simp only[] at hr
      subst hr
      clear h2 cLv cS
      go_wp2_with (first
       |(go_at_call 297;refine cS1.mono ?_;clear cS1 k0;rintro e w5 ⟨hB5,hF5⟩;obtain⟨rfl,hS5⟩:=(show e=.returned (.tuple #[])∧qad w5 b {s with pos:=q1,within:=s.within+1} from hF5);have H5:=qac (HI.out.step _ _ _ _ _ _ _ _ H4.out hS5 hB5 (by omega));clear H4 hS5 hB5 hF5;have cI:=cI0 w5 H5.out;clear cI0)
       |(go_at_call 311;refine cI.mono ?_;clear cI;rintro e w6 hF6;obtain⟨hF6,hFr⟩:=(show qaj en pl e∧Fr w6 from hF6);obtain rfl:=hF6))
      exact⟨rfl,rfl,hFr⟩
     |ok aq =>
      obtain⟨a',q2⟩:=aq
      rw[h2] at hr cI0
      simp only[] at hr
      have hq2:=HGO.out _ _ _ _ h2
      have cS2:∀V,St W.heap.size (s.within+1) q2 a' V→Calls prog 297 #[.agg #[.pointer (some ⟨b,0,none⟩)]] V (qbv V b {s with pos:=q2,within:=s.within+1} (fun _:Unit=>.tuple #[]) (spF s.bs s.lim (s.bs.length+1-q2) q2)):=fun V hV=>cS V q2 (HI.out.src _ _ _ _ _ hV)
      clear h2 cS
      cases h3:spF s.bs s.lim (s.bs.length+1-q2) q2 with
      |error er =>
       obtain⟨en,pl⟩:=er
       rw[h3] at hr cS2
       simp only[] at hr
       subst hr
       clear h3 cLv
       go_wp2_with (first
        |(go_at_call 297;refine cS1.mono ?_;clear cS1 k0;rintro e w5 ⟨hB5,hF5⟩;obtain⟨rfl,hS5⟩:=(show e=.returned (.tuple #[])∧qad w5 b {s with pos:=q1,within:=s.within+1} from hF5);have H5:=qac (HI.out.step _ _ _ _ _ _ _ _ H4.out hS5 hB5 (by omega));clear H4 hS5 hB5 hF5;have cI:=cI0 w5 H5.out;clear cI0)
        |(go_at_call 311;refine cI.mono ?_;clear cI;rintro e w6 hF6;obtain⟨rfl,hS6⟩:=(show e=.returned (.tuple #[])∧St W.heap.size (s.within+1) q2 a' w6 from hF6);have H6:Hid (St W.heap.size (s.within+1) q2 a' w6):=hS6;clear H5 hF6 hS6;have k0:=qaa (HI.out.box _ _ _ _ _ H6.out) 0;have cS3:=cS2 w6 H6.out;clear cS2)
        |(go_at_call 297;refine cS3.mono ?_;clear cS3;rintro e w7 ⟨hB7,hF7⟩;obtain rfl:=(show qaj en pl e from hF7)))
       exact⟨rfl,rfl,HI.out.frb _ _ (HI.out.fr _ _ _ _ _ H6.out) hB7⟩
      |ok up =>
       obtain⟨u3,q3⟩:=up
       rw[h3] at hr cS2
       simp only[] at hr
       have hq3:=qbW _ _ _ _ _ _ h3
       clear h3
       cases h4:s.bs[q3]? with
       |none =>
        rw[h4] at hr
        simp only[] at hr
        subst hr
        have cT0:∀V,qad V b {s with pos:=q3,within:=s.within+1}→Calls prog 294 #[.pointer (some ⟨b,0,none⟩)] V fun e W'=>qaj 9 q3 e∧Below V.heap.size V W':=fun V hV=>qbe V b {s with pos:=q3,within:=s.within+1} hV (by show q3=s.bs.length;have h5:q3≤s.bs.length:=hV.le;have h6:=List.getElem?_eq_none_iff.1 h4;omega)
        clear h4 cLv
        go_wp2_with (first
         |(go_at_call 297;refine cS1.mono ?_;clear cS1 k0;rintro e w5 ⟨hB5,hF5⟩;obtain⟨rfl,hS5⟩:=(show e=.returned (.tuple #[])∧qad w5 b {s with pos:=q1,within:=s.within+1} from hF5);have H5:=qac (HI.out.step _ _ _ _ _ _ _ _ H4.out hS5 hB5 (by omega));clear H4 hS5 hB5 hF5;have cI:=cI0 w5 H5.out;clear cI0)
         |(go_at_call 311;refine cI.mono ?_;clear cI;rintro e w6 hF6;obtain⟨rfl,hS6⟩:=(show e=.returned (.tuple #[])∧St W.heap.size (s.within+1) q2 a' w6 from hF6);have H6:Hid (St W.heap.size (s.within+1) q2 a' w6):=hS6;clear H5 hF6 hS6;have k0:=qaa (HI.out.box _ _ _ _ _ H6.out) 0;have cS3:=cS2 w6 H6.out;clear cS2)
         |(go_at_call 297;refine cS3.mono ?_;clear cS3 k0;rintro e w7 ⟨hB7,hF7⟩;obtain⟨rfl,hS7⟩:=(show e=.returned (.tuple #[])∧qad w7 b {s with pos:=q3,within:=s.within+1} from hF7);have H7:=qac (HI.out.step _ _ _ _ _ _ _ _ H6.out hS7 hB7 (by omega));have HQ3:Hid (q3≤s.bs.length):=hS7.le;clear H6 hS7 hB7 hF7;have k0:=qaa (HI.out.box _ _ _ _ _ H7.out) 0;have cT:=cT0 w7 (HI.out.src _ _ _ _ _ H7.out);clear cT0)
         |(go_at_call 294;refine cT.mono ?_;clear cT;rintro e w8 ⟨hF8,hB8⟩;obtain rfl:=hF8))
        exact⟨rfl,rfl,HI.out.frb _ _ (HI.out.fr _ _ _ _ _ H7.out) (But.of_below hB8)⟩
       |some c =>
        rw[h4] at hr
        simp only[] at hr
        have h6:q3<s.bs.length:=ltL h4
        by_cases h5:(q3:Int)=s.lim
        ·rw[if_pos h5] at hr
         subst hr
         have cT0:∀V,qad V b {s with pos:=q3,within:=s.within+1}→Calls prog 294 #[.pointer (some ⟨b,0,none⟩)] V fun e W'=>qaj 8 q3 e∧Below V.heap.size V W':=fun V hV=>qaN V b {s with pos:=q3,within:=s.within+1} hV ⟨h6,h5⟩
         clear h4 h5 h6 cLv
         go_wp2_with (first
          |(go_at_call 297;refine cS1.mono ?_;clear cS1 k0;rintro e w5 ⟨hB5,hF5⟩;obtain⟨rfl,hS5⟩:=(show e=.returned (.tuple #[])∧qad w5 b {s with pos:=q1,within:=s.within+1} from hF5);have H5:=qac (HI.out.step _ _ _ _ _ _ _ _ H4.out hS5 hB5 (by omega));clear H4 hS5 hB5 hF5;have cI:=cI0 w5 H5.out;clear cI0)
          |(go_at_call 311;refine cI.mono ?_;clear cI;rintro e w6 hF6;obtain⟨rfl,hS6⟩:=(show e=.returned (.tuple #[])∧St W.heap.size (s.within+1) q2 a' w6 from hF6);have H6:Hid (St W.heap.size (s.within+1) q2 a' w6):=hS6;clear H5 hF6 hS6;have k0:=qaa (HI.out.box _ _ _ _ _ H6.out) 0;have cS3:=cS2 w6 H6.out;clear cS2)
          |(go_at_call 297;refine cS3.mono ?_;clear cS3 k0;rintro e w7 ⟨hB7,hF7⟩;obtain⟨rfl,hS7⟩:=(show e=.returned (.tuple #[])∧qad w7 b {s with pos:=q3,within:=s.within+1} from hF7);have H7:=qac (HI.out.step _ _ _ _ _ _ _ _ H6.out hS7 hB7 (by omega));have HQ3:Hid (q3≤s.bs.length):=hS7.le;clear H6 hS7 hB7 hF7;have k0:=qaa (HI.out.box _ _ _ _ _ H7.out) 0;have cT:=cT0 w7 (HI.out.src _ _ _ _ _ H7.out);clear cT0)
          |(go_at_call 294;refine cT.mono ?_;clear cT;rintro e w8 ⟨hF8,hB8⟩;obtain rfl:=hF8))
         exact⟨rfl,rfl,HI.out.frb _ _ (HI.out.fr _ _ _ _ _ H7.out) (But.of_below hB8)⟩
        ·rw[if_neg h5] at hr
         have cT0:∀V,qad V b {s with pos:=q3,within:=s.within+1}→Calls prog 294 #[.pointer (some ⟨b,0,none⟩)] V fun e W'=>e=.returned (.int .u8 c.toNat)∧qad W' b {s with pos:=q3+1,within:=s.within+1}∧But b V W':=fun V hV=>qax V b {s with pos:=q3,within:=s.within+1} c hV ⟨h4,h5⟩
         clear h4 h5
         by_cases h7:c.toNat=125
         ·rw[if_pos h7] at hr
          subst hr
          have e1:((c.toNat:Int)==125)=true:=by rw[h7];rfl
          clear h7
          go_wp2_with (first
           |(go_at_call 297;refine cS1.mono ?_;clear cS1 k0;rintro e w5 ⟨hB5,hF5⟩;obtain⟨rfl,hS5⟩:=(show e=.returned (.tuple #[])∧qad w5 b {s with pos:=q1,within:=s.within+1} from hF5);have H5:=qac (HI.out.step _ _ _ _ _ _ _ _ H4.out hS5 hB5 (by omega));clear H4 hS5 hB5 hF5;have cI:=cI0 w5 H5.out;clear cI0)
           |(go_at_call 311;refine cI.mono ?_;clear cI;rintro e w6 hF6;obtain⟨rfl,hS6⟩:=(show e=.returned (.tuple #[])∧St W.heap.size (s.within+1) q2 a' w6 from hF6);have H6:Hid (St W.heap.size (s.within+1) q2 a' w6):=hS6;clear H5 hF6 hS6;have k0:=qaa (HI.out.box _ _ _ _ _ H6.out) 0;have cS3:=cS2 w6 H6.out;clear cS2)
           |(go_at_call 297;refine cS3.mono ?_;clear cS3 k0;rintro e w7 ⟨hB7,hF7⟩;obtain⟨rfl,hS7⟩:=(show e=.returned (.tuple #[])∧qad w7 b {s with pos:=q3,within:=s.within+1} from hF7);have H7:=qac (HI.out.step _ _ _ _ _ _ _ _ H6.out hS7 hB7 (by omega));have HQ3:Hid (q3≤s.bs.length):=hS7.le;clear H6 hS7 hB7 hF7;have k0:=qaa (HI.out.box _ _ _ _ _ H7.out) 0;have cT:=cT0 w7 (HI.out.src _ _ _ _ _ H7.out);clear cT0)
           |(go_at_call 294;refine cT.mono ?_;clear cT k0;rintro e w8 ⟨rfl,hS8,hB8⟩;have H8:=qac (HI.out.step _ _ _ _ _ _ _ _ H7.out hS8 hB8 (by omega));have HQ4:Hid (q3+1≤s.bs.length):=hS8.le;clear H7 hS8 hB8;have k0:=qaa (HI.out.box _ _ _ _ _ H8.out) 0;have cV:=cLv w8 (q3+1) (HI.out.src _ _ _ _ _ H8.out);clear cLv)
           |(go_at_call 317;refine cV.mono ?_;clear cV k0;rintro e w9 ⟨rfl,hS9,hB9⟩;have H9:=qac (HI.out.step _ _ _ _ _ _ _ _ H8.out hS9 hB9 (by omega));clear H8 hS9 hB9))
          first|(refine qey ?_;go_end0)|go_end0
          exact⟨rfl,H9.out⟩
         ·rw[if_neg h7] at hr
          have e1:=nec (c:=c) 125 (by omega)
          by_cases h8:c.toNat=44
          ·rw[if_pos h8] at hr
           have HN:Hid (qd6 s.bs s.lim itF 125 g (q3+1) a'=R):=hr
           have e2:((c.toNat:Int)==44)=true:=by rw[h8];rfl
           have HG2:Hid (s.bs.length+1≤(q3+1)+g):=by show _≤_;have:=hg.out;omega
           clear h7 h8 hr cLv
           go_wp2_with (first
            |(go_at_call 297;refine cS1.mono ?_;clear cS1 k0;rintro e w5 ⟨hB5,hF5⟩;obtain⟨rfl,hS5⟩:=(show e=.returned (.tuple #[])∧qad w5 b {s with pos:=q1,within:=s.within+1} from hF5);have H5:=qac (HI.out.step _ _ _ _ _ _ _ _ H4.out hS5 hB5 (by omega));clear H4 hS5 hB5 hF5;have cI:=cI0 w5 H5.out;clear cI0)
            |(go_at_call 311;refine cI.mono ?_;clear cI;rintro e w6 hF6;obtain⟨rfl,hS6⟩:=(show e=.returned (.tuple #[])∧St W.heap.size (s.within+1) q2 a' w6 from hF6);have H6:Hid (St W.heap.size (s.within+1) q2 a' w6):=hS6;clear H5 hF6 hS6;have k0:=qaa (HI.out.box _ _ _ _ _ H6.out) 0;have cS3:=cS2 w6 H6.out;clear cS2)
            |(go_at_call 297;refine cS3.mono ?_;clear cS3 k0;rintro e w7 ⟨hB7,hF7⟩;obtain⟨rfl,hS7⟩:=(show e=.returned (.tuple #[])∧qad w7 b {s with pos:=q3,within:=s.within+1} from hF7);have H7:=qac (HI.out.step _ _ _ _ _ _ _ _ H6.out hS7 hB7 (by omega));have HQ3:Hid (q3≤s.bs.length):=hS7.le;clear H6 hS7 hB7 hF7;have k0:=qaa (HI.out.box _ _ _ _ _ H7.out) 0;have cT:=cT0 w7 (HI.out.src _ _ _ _ _ H7.out);clear cT0)
            |(go_at_call 294;refine cT.mono ?_;clear cT k0;rintro e w8 ⟨rfl,hS8,hB8⟩;have H8:=qac (HI.out.step _ _ _ _ _ _ _ _ H7.out hS8 hB8 (by omega));have HQ4:Hid (q3+1≤s.bs.length):=hS8.le;clear H7 hS8 hB8))
           go_roundg g
           case measure=>omega
           case rel=>exact⟨q3+1,a',HG2,HQ4,H8,HN⟩
          ·rw[if_neg h8] at hr
           subst hr
           have e2:=nec (c:=c) 44 (by omega)
           have cR0:∀V,qad V b {s with pos:=q3+1,within:=s.within+1}→Calls prog 295 #[.pointer (some ⟨b,0,none⟩),.int .i64 9] V fun e W'=>qaj 9 q3 e∧W'=V:=fun V hV=>by
            have:=qam V b {s with pos:=q3+1,within:=s.within+1} 9 hV
            rwa [show((({s with pos:=q3+1,within:=s.within+1}:Src).pos:Int)-1)=q3 by show(((q3+1:Nat)):Int)-1=q3;omega] at this
           clear h7 h8 cLv
           go_wp2_with (first
            |(go_at_call 297;refine cS1.mono ?_;clear cS1 k0;rintro e w5 ⟨hB5,hF5⟩;obtain⟨rfl,hS5⟩:=(show e=.returned (.tuple #[])∧qad w5 b {s with pos:=q1,within:=s.within+1} from hF5);have H5:=qac (HI.out.step _ _ _ _ _ _ _ _ H4.out hS5 hB5 (by omega));clear H4 hS5 hB5 hF5;have cI:=cI0 w5 H5.out;clear cI0)
            |(go_at_call 311;refine cI.mono ?_;clear cI;rintro e w6 hF6;obtain⟨rfl,hS6⟩:=(show e=.returned (.tuple #[])∧St W.heap.size (s.within+1) q2 a' w6 from hF6);have H6:Hid (St W.heap.size (s.within+1) q2 a' w6):=hS6;clear H5 hF6 hS6;have k0:=qaa (HI.out.box _ _ _ _ _ H6.out) 0;have cS3:=cS2 w6 H6.out;clear cS2)
            |(go_at_call 297;refine cS3.mono ?_;clear cS3 k0;rintro e w7 ⟨hB7,hF7⟩;obtain⟨rfl,hS7⟩:=(show e=.returned (.tuple #[])∧qad w7 b {s with pos:=q3,within:=s.within+1} from hF7);have H7:=qac (HI.out.step _ _ _ _ _ _ _ _ H6.out hS7 hB7 (by omega));have HQ3:Hid (q3≤s.bs.length):=hS7.le;clear H6 hS7 hB7 hF7;have k0:=qaa (HI.out.box _ _ _ _ _ H7.out) 0;have cT:=cT0 w7 (HI.out.src _ _ _ _ _ H7.out);clear cT0)
            |(go_at_call 294;refine cT.mono ?_;clear cT k0;rintro e w8 ⟨rfl,hS8,hB8⟩;have H8:=qac (HI.out.step _ _ _ _ _ _ _ _ H7.out hS8 hB8 (by omega));have HQ4:Hid (q3+1≤s.bs.length):=hS8.le;clear H7 hS8 hB8;have k0:=qaa (HI.out.box _ _ _ _ _ H8.out) 0;have cR:=cR0 w8 (HI.out.src _ _ _ _ _ H8.out);clear cR0)
            |(go_at_call 295;refine cR.mono ?_;clear cR;rintro e w9 ⟨hF9,rfl⟩;obtain rfl:=hF9))
           exact⟨rfl,rfl,HI.out.fr _ _ _ _ _ H8.out⟩
end
end Go.Proofs.YtllcbnfmihfaaaaGreatDoor
