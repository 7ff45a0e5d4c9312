import Derived.Test.YtnlnjkggkbbdhaaGreatDoorTq17
set_option maxRecDepth 100000
set_option maxHeartbeats 8000000
set_option linter.all false
namespace Go.Proofs.YtnlnjkggkbbdhaaGreatDoor
open Go.Proofs.Tryz
open Go.Value renaming int->I,slice->G
open Option renaming some->U,none->Y
open Go.IntKind renaming i64->K
open Go renaming World->O
open Go.Obj renaming cells->E
open Go.Proofs.Tryz renaming prog->X
open Go.Value renaming slice->A7,pointer->A8,string->A9,tuple->Aa,agg->Ab,iface->Ad
open Go.Ending renaming returned->Af
open Go renaming World->Ak,Value->Al,Calls->Am
variable{bs:A1}{depth fm l lim:Int}{b fuel k last n p q size wi:Nat}{rd:Nat->Except (Int×Int) (DataW Unit×Nat)}{nm:UInt8->Nat->A5 Int}{c:UInt8}{d:A2}{V W w:O}{r:Ending}{P:Program}{ops:Array Oper}{Q:Exit->Act->O->Prop}{md:Region.Mode}{S:O->Prop}{listed:Array Bool}{a:Act}{o:Oper}{f:FuncId}{F:Nat->Prop}{v:Al}{xs:List Al}
section
open Go.RowKit
def TZ{α:Type}{itF:α->Nat->A5 α}(c:∀a p b q,itF a p=.ok (b,q)->p<q):∀(g p:Nat) (a b:α) (q:Nat),Dp bs lim itF last g p a=.ok (b,q)->p<q
 |0,p,a,b,q,h=>by rw[Dp]at h;cases h
 |g+1,p,a,b,q,h=>by
  rw[Dp]at h;split at h
  ·cases h
  next u1 p1 h1 =>
  split at h
  ·cases h
  next a2 p2 h2 =>
  split at h
  ·cases h
  next u3 p3 h3 =>
  have:=Hd _ _ _ _ _ _ h1;have:=c _ _ _ _ h2;have:=Hd _ _ _ _ _ _ h3;split at h
  ·cases h
  split at h
  ·cases h
  split at h
  ·injection h with h;injection h with h4 h5;omega
  split at h
  ·have:=TZ c g (p3+1) a2 b q h;omega
  cases h
def Yx{α:Type}{itF:α->Nat->A5 α}(b:∀a p a' q,itF a p=.ok (a',q)->p<q){a a':α}(h:Di bs lim itF last p a=.ok (a',q)):p<q:=by
 unfold Di at h;split at h
 ·cases h
 next u1 p1 h1 =>
 have:=Hd _ _ _ _ _ _ h1;split at h
 ·have:=TZ b _ _ _ _ _ h;omega
 split at h
 ·cases h
 split at h
 ·injection h with h;injection h with h4 h5;omega
 have:=TZ b _ _ _ _ _ h;omega
def lp(a:∀p d q,rd p=.ok (d,q)->p<q)(b:∀z q,(c.toNat=45\/Dm c=true)->nm c p=.ok (z,q)->p<=q)(h:GH bs lim depth wi rd nm c p=.ok (d,q)):p<=q:=by
 unfold GH at h;split at h
 ·split at h
  ·cases h
  next u r hr =>
  injection h with h;injection h with h1 h2;have:=MJ _ _ _ _ _ _ hr;omega
 split at h
 ·split at h
  ·cases h
  next u r hr =>
  injection h with h;injection h with h1 h2;have:=MJ _ _ _ _ _ _ hr;omega
 split at h
 ·split at h
  ·cases h
  next u r hr =>
  injection h with h;injection h with h1 h2;have:=MJ _ _ _ _ _ _ hr;omega
 split at h
 ·split at h
  ·cases h
  next l r hr =>
  injection h with h;injection h with h1 h2;have:=NS _ _ _ _ _ _ _ _ hr;omega
 split at h
 ·split at h
  ·cases h
  split at h
  ·cases h
  next l r hr =>
  injection h with h;injection h with h1 h2;have:=Yx (Yu a) hr;omega
 split at h
 ·split at h
  ·cases h
  split at h
  ·cases h
  next l r hr =>
  injection h with h;injection h with h1 h2;have:=Yx (TW a) hr;omega
 split at h
 ·next hc =>
  split at h
  ·cases h
  next z r hr =>
  injection h with h;injection h with h1 h2;have:=b z r hc hr;omega
 cases h
def FV(s:BO)(c:UInt8)(p:Nat):A5 Int:=CR {s with pos:=p} c
def P8(s:BO):∀(g a p:Nat) (d:A2) (q:Nat),CI s.bs s.lim s.depth (FV s) g a p=.ok (d,q)->p<q
 |0,_,_,_,_,h=>by rw[CI]at h;cases h
 |g+1,a,p,d,q,h=>by
  rw[CI]at h;split at h
  ·cases h
  split at h
  ·cases h
  have:=lp (p:=p+1) (nm:=FV s) (P8 s g (a+1)) (λz q b c=>(TY (s:={s with pos:=p+1}) b c).2) h;omega
def U0:∀(g:Nat) (W:O) (b:Nat) (s:BO),BD W b s->s.bs.length<=200000000->(∀V,BF b W V->U8 V)->7<b->s.depth<=100000->(s.within:Int)<=s.depth->s.depth<s.within+g ->
  Am X 228 #[Ab #[A8 (U ⟨b,0,Y⟩)]] W (IW g W b s (CI s.bs s.lim s.depth (FV s) g s.within s.pos))
 |0,W,b,s,_,_,_,_,_,d,h2=>J
 |g+1,W,b,s,h,hlen,hU,h7,hdp,hwd,hgd=>by
  have x:¬(s.within:Int)=s.depth->MI g b {s with within:=s.within+1} W (CI s.bs s.lim s.depth (FV s) g (s.within+1)):=λH y p t r =>
   U0 g y b {s with pos:=p,within:=s.within+1} t hlen (λA C=>hU A (r.trans C)) h7 hdp keW keO
  rcases Is h with d|d|⟨c,d⟩
  ·have e:CI s.bs s.lim s.depth (FV s) (g+1) s.within s.pos=.error (9,(s.pos:Int)):=by
    rw[CI,Dz (by have:s.pos=s.bs.length:=d;omega)]
   rw[e];exact Yw W b s 9 h (λV u=>IQ V b s u d)
  ·have e:CI s.bs s.lim s.depth (FV s) (g+1) s.within s.pos=.error (8,(s.pos:Int)):=by
    rw[CI,C6 d.1];simp only[];rw[BA d.2]
   rw[e];exact Yw W b s 8 h (λV u=>IR V b s u d)
  have e:CI s.bs s.lim s.depth (FV s) (g+1) s.within s.pos=GH s.bs s.lim s.depth s.within (CI s.bs s.lim s.depth (FV s) g (s.within+1)) (FV s) c (s.pos+1):=by
   rw[CI,d.1];simp only[];rw[Bz d.2]
  rw[e];have v:(((s.pos+1:Nat)):Int)-1=s.pos:=J
  unfold GH;by_cases m:c.toNat=110
  ·rw[BA m];refine(l6 g W b s c h d m).mono λe w a=>?_;cases f:Ci s.bs s.lim [117,108,108] (s.pos+1)<;>(rw[f]at a;exact a)
  rw[Bz m];by_cases c2:c.toNat=116
  ·rw[BA c2];refine(l8 g W b s c h d c2).mono λe w a=>?_;cases f:Ci s.bs s.lim [114,117,101] (s.pos+1)<;>(rw[f]at a;exact a)
  rw[Bz c2];by_cases n:c.toNat=102
  ·rw[BA n];refine(l9 g W b s c h d n).mono λe w a=>?_;cases f:Ci s.bs s.lim [97,108,115,101] (s.pos+1)<;>(rw[f]at a;exact a)
  rw[Bz n];by_cases o:c.toNat=34
  ·rw[BA o];refine(la g W b s c h d o hlen hU h7).mono λe w a=>?_;cases f:Ct s.bs s.lim (s.bs.length+1-(s.pos+1)) (s.pos+1) [] 0<;>(rw[f]at a;exact a)
  rw[Bz o];by_cases j:c.toNat=91
  ·rw[BA j];by_cases i:(s.within:Int)=s.depth
   ·rw[BA i,v];exact ld W b s c h d j i
   rw[Bz i];refine(lc g W b s c h d j _ (x i) (P8 s g (s.within+1)) hlen i J).mono λe w a=>?_;cases f:Di s.bs s.lim (D9 (CI s.bs s.lim s.depth (FV s) g (s.within+1))) 93 (s.pos+1) []<;>(rw[f]at a;exact a)
  rw[Bz j];by_cases k:c.toNat=123
  ·rw[BA k];by_cases i:(s.within:Int)=s.depth
   ·rw[BA i,v];exact lh W b s c h d k i
   rw[Bz i];refine(lg g W b s c h d k _ (x i) (P8 s g (s.within+1)) hlen hU h7 i J).mono λe w a=>?_;cases f:Di s.bs s.lim (DO s.bs s.lim (CI s.bs s.lim s.depth (FV s) g (s.within+1))) 125 (s.pos+1) ([],[])<;>(rw[f]at a;exact a)
  rw[Bz k];by_cases l:c.toNat=45\/Dm c=true
  ·rw[BA l];refine(ga W b s c h d l).mono λe w a=>?_;have B:FV s c (s.pos+1)=CR s.next c:=rfl
   rw[B]
   cases f:CR s.next c with
   |error F =>
    rw[f]at a;exact a
   |ok D =>
    obtain⟨z,q⟩:=D;rw[f]at a;obtain⟨r,rfl,t⟩:=a;exact⟨r,⟨_,_,Z,Z,(TY l f).1⟩,t⟩
  rw[Bz l,v];exact lj W b s c h d (by
   rintro(a|a|a|a|a|a|a)
   ·exact m a
   ·exact c2 a
   ·exact n a
   ·exact o a
   ·exact j a
   ·exact k a
   exact l a)
def FI(sp:Nat->A5 Unit)(th:Nat->Except (Int×Int) (DataW Unit×Nat))(bs:A1)(lim:Int):Except (Int×Int) (DataW Unit) :=
 match sp 0 with
 |.error e=>.error e
 |.ok (_,p0)=>match th p0 with
  |.error e=>.error e
  |.ok (d,p1)=>match sp p1 with
   |.error e=>.error e
   |.ok (_,p2)=>match Gz ⟨none,bs,0,0,lim,p2,0⟩with
    |.error e=>.error e
    |.ok _=>.ok d
def He(k:Nat)(W:Ak)(r:Except (Int×Int) (DataW Unit))(e:Ending)(W':Ak):Prop :=
 A0 W W'/\match r with
 |.ok d=>∃t y,e=Af (Ad t y)/\BQ k W' (λj=>W.heap.size<=j/\j<W'.heap.size) (Ad t y) d
 |.error (en,pl)=>C0 en pl e
def P6.toJ{s:BO}{r:Except (Int×Int) (DataW Unit×Nat)}{e:Ending}{W':O}(h:P6 k W b s r e W'):IW k W b s r e W':=by
 refine⟨h.1,?_⟩;have a:=h.2
 cases r with
 |ok x=>exact a
 |error x=>exact a.1
def Yz(k:Nat)(W:O)(fm:Int)(c:A4)(bs:A1)(f:Nat)(d l:Int)(h:Er W c bs)(x:Nat->A5 Unit)(L:Nat->Except (Int×Int) (DataW Unit×Nat))(cR:∀V,Er V c bs->Am X 37 #[I K fm,Ab #[I K d,I K l],G c bs.length f] V λe W'=>∃b,e=Af (Ad 147 (Ab #[A8 (U ⟨b,0,Y⟩)]))/\BD W' b ⟨c,bs,f,d,l,0,0⟩/\V.heap.size<=b/\A0 V W')(cS:∀(b:Nat) (V:O) (p:Nat),W.heap.size<=b->BD V b ⟨c,bs,f,d,l,p,0⟩->Am X 229 #[Ab #[A8 (U ⟨b,0,Y⟩)]] V (ED V b ⟨c,bs,f,d,l,p,0⟩ (λ_:Unit=>Aa #[]) (x p)))(cT:∀(b:Nat) (V:O) (p:Nat),W.heap.size<=b->A0 W V->BD V b ⟨c,bs,f,d,l,p,0⟩->Am X 228 #[Ab #[A8 (U ⟨b,0,Y⟩)]] V (IW k V b ⟨c,bs,f,d,l,p,0⟩ (L p))):Am X 18 #[I K fm,Ab #[I K d,I K l],G c bs.length f] W (He k W (FI x L bs l)):=by
 have ag:A0 W (W.alloc (E #[I K d,I K l] 61)):=BN;have aa:=T ag;have cN:=cR (W.alloc (E #[I K d,I K l] 61)) (h.below ag);obtain⟨ae,HR⟩:∃ae,Hid (FI x L bs l=ae):=⟨_,show _=_ from rfl⟩
 rw[HR.out];have a:=HR.out;unfold FI at a;go_enter func18,ntmps18
 go_wp2_with(first
  |(go_at_call 37;refine cN.mono ?_;rintro e w2 ⟨b,rfl,hS,aw,Q⟩))
 have ab:=T (aa.trans (Q.mono aa.size));have g:W.heap.size<=b:=by simp only[BU,A0]at aw;omega
 have C:=cS b w2 0 g hS;have ak:=λ(V:O) (p:Nat) hV=>cS b V p g hV;have al:=λ(V:O) (p:Nat) (Q:A0 W V) hV=>cT b V p g Q hV;refine LN (y:=(229,Ab #[A8 (U ⟨b,0,Y⟩)])) (w:=w2) M ?_
 go_wp2_with fail
 cases h1:x 0 with
 |error q =>
  obtain⟨o,r⟩:=q;rw[h1]at a C;simp only[]at a;subst a;refine C.mono ?_;rintro e A ⟨S,hF⟩;obtain rfl:=(show C0 o r e from hF)
  go_wp2;exact⟨Z,Hu ab S g,Z⟩
 |ok z =>
  obtain⟨u0,p0⟩:=z;rw[h1]at a C;simp only[]at a;refine C.mono ?_;rintro e A ⟨S,an⟩;obtain⟨rfl,af⟩:=(show e=Af (Aa #[])/\BD A b ⟨c,bs,f,d,l,p0,0⟩from an)
  have P:=T (Hu ab S g);have F:=al A p0 P af;have ax:=T (BC af.row)
  go_wp2_with fail
  refine LN (y:=(228,Ab #[A8 (U ⟨b,0,Y⟩)])) (w:=A) M ?_
  go_wp2_with fail
  cases h2:L p0 with
  |error q =>
   obtain⟨o,r⟩:=q;rw[h2]at a F;simp only[]at a;subst a;refine F.mono ?_;rintro e m ⟨R,hF⟩;obtain rfl:=(show C0 o r e from hF)
   go_wp2;exact⟨Z,Hu P R g,Z⟩
  |ok dq =>
   obtain⟨H,p1⟩:=dq;rw[h2]at a F;simp only[]at a;refine F.mono ?_;rintro e m ⟨R,ao⟩;obtain⟨⟨t,y,rfl,am⟩,ar⟩:=(show(∃t y,e=Af (Ad t y)/\BQ k m (λj=>A.heap.size<=j/\j<m.heap.size) (Ad t y) H)/\BD m b ⟨c,bs,f,d,l,p1,0⟩from ao)
   have ac:=T (Hu P R g);have av:=ax.out;have HD:Hid (BQ k m (λj=>b<j/\j<m.heap.size) (Ad t y) H):=am.same (λj i=>⟨CA av i.1,i.2⟩) (λ_ _=>rfl);have D:=ak m p1 ar
   go_wp2_with fail
   refine LN (y:=(229,Ab #[A8 (U ⟨b,0,Y⟩)])) (w:=m) M ?_
   go_wp2_with fail
   cases h3:x p1 with
   |error q =>
    obtain⟨o,r⟩:=q;rw[h3]at a D;simp only[]at a;subst a;refine D.mono ?_;rintro e n ⟨s,hF⟩;obtain rfl:=(show C0 o r e from hF)
    go_wp2;exact⟨Z,Hu ac s g,Z⟩
   |ok z =>
    obtain⟨u2,v⟩:=z;rw[h3]at a D;simp only[]at a;refine D.mono ?_;rintro e n ⟨s,ap⟩;obtain⟨rfl,au⟩:=(show e=Af (Aa #[])/\BD n b ⟨c,bs,f,d,l,v,0⟩from ap)
    have ad:=T (Hu ac s g);have ai:Hid (BQ k n (λj=>b<j/\j<n.heap.size) (Ad t y) H):=HD.same (λj i=>⟨i.1,CA i.2 s.size⟩) (λj i=>s.block j i.2 J);have B:Am X 222 #[A8 (U ⟨b,0,Y⟩)] n (ED n b ⟨c,bs,f,d,l,v,0⟩ (λ_:Unit=>Aa #[]) (Gz ⟨Y,bs,0,0,l,v,0⟩)):=X7 n b ⟨c,bs,f,d,l,v,0⟩ au
    go_wp2_with fail
    refine LN (y:=(222,A8 (U ⟨b,0,Y⟩))) (w:=n) M ?_
    go_wp2_with fail
    cases h4:Gz ⟨Y,bs,0,0,l,v,0⟩with
    |error q =>
     obtain⟨o,r⟩:=q;rw[h4]at a B;simp only[]at a;subst a;refine B.mono ?_;rintro e N ⟨u,hF⟩;obtain rfl:=(show C0 o r e from hF)
     go_wp2;exact⟨Z,Hu ad u g,Z⟩
    |ok z =>
     obtain⟨u4,p4⟩:=z;rw[h4]at a B;simp only[]at a;subst a;refine B.mono ?_;rintro e N ⟨u,aq⟩;obtain⟨rfl,ay⟩:=(show e=Af (Aa #[])/\BD N b ⟨c,bs,f,d,l,p4,0⟩from aq)
     have aj:Hid (BQ k N (λj=>W.heap.size<=j/\j<N.heap.size) (Ad t y) H):=ai.same (λj i=>⟨J,CA i.2 u.size⟩) (λj i=>u.block j i.2 J);have ah:=T (Hu ad u g);go_wp2;go_ret;exact⟨ah,_,_,Z,aj⟩
def YA(k:Nat)(W:O)(fm:Int)(f:Nat)(c:A4)(bs:A1)(g:Nat)(d l:Int)(h:Er W c bs)(z:Nat->A5 Unit)(N:Nat->Except (Int×Int) (DataW Unit×Nat))(cR:∀V,Er V c bs->Am X 37 #[I K fm,Ab #[I K d,I K l],G c bs.length g] V λe W'=>∃b,e=Af (Ad 150 (Ab #[A8 (U ⟨b,0,Y⟩),.func (.func f) #[] #[]]))/\BD W' b ⟨c,bs,g,d,l,0,0⟩/\V.heap.size<=b/\A0 V W')(cS:∀(b:Nat) (V:O) (p:Nat),W.heap.size<=b->BD V b ⟨c,bs,g,d,l,p,0⟩->Am X 223 #[A8 (U ⟨b,0,Y⟩)] V (ED V b ⟨c,bs,g,d,l,p,0⟩ (λ_:Unit=>Aa #[]) (z p)))(cT:∀(b:Nat) (V:O) (p:Nat),W.heap.size<=b->A0 W V->BD V b ⟨c,bs,g,d,l,p,0⟩->Am X 257 #[Ab #[A8 (U ⟨b,0,Y⟩),.func (.func f) #[] #[]]] V (IW k V b ⟨c,bs,g,d,l,p,0⟩ (N p))):Am X 18 #[I K fm,Ab #[I K d,I K l],G c bs.length g] W (He k W (FI z N bs l)):=by
 have ah:A0 W (W.alloc (E #[I K d,I K l] 61)):=BN;have ab:=T ah;have cN:=cR (W.alloc (E #[I K d,I K l] 61)) (h.below ah);obtain⟨af,HR⟩:∃af,Hid (FI z N bs l=af):=⟨_,show _=_ from rfl⟩
 rw[HR.out];have a:=HR.out;unfold FI at a;go_enter func18,ntmps18
 go_wp2_with(first
  |(go_at_call 37;refine cN.mono ?_;rintro e w2 ⟨b,rfl,hS,ax,S⟩))
 have ac:=T (ab.trans (S.mono ab.size));have i:W.heap.size<=b:=by simp only[BU,A0]at ax;omega
 have D:=cS b w2 0 i hS;have al:=λ(V:O) (p:Nat) hV=>cS b V p i hV;have am:=λ(V:O) (p:Nat) (S:A0 W V) hV=>cT b V p i S hV;refine LN (y:=(223,A8 (U ⟨b,0,Y⟩))) (w:=w2) M ?_
 go_wp2_with fail
 cases h1:z 0 with
 |error r =>
  obtain⟨q,s⟩:=r;rw[h1]at a D;simp only[]at a;subst a;refine D.mono ?_;rintro e B ⟨R,hF⟩;obtain rfl:=(show C0 q s e from hF)
  go_wp2;exact⟨Z,Hu ac R i,Z⟩
 |ok A =>
  obtain⟨u0,p0⟩:=A;rw[h1]at a D;simp only[]at a;refine D.mono ?_;rintro e B ⟨R,ao⟩;obtain⟨rfl,ag⟩:=(show e=Af (Aa #[])/\BD B b ⟨c,bs,g,d,l,p0,0⟩from ao)
  have Q:=T (Hu ac R i);have H:=am B p0 Q ag;have ay:=T (BC ag.row)
  go_wp2_with fail
  refine LN (y:=(257,Ab #[A8 (U ⟨b,0,Y⟩),.func (.func f) #[] #[]])) (w:=B) M ?_
  go_wp2_with fail
  cases h2:N p0 with
  |error r =>
   obtain⟨q,s⟩:=r;rw[h2]at a H;simp only[]at a;subst a;refine H.mono ?_;rintro e n ⟨aa,hF⟩;obtain rfl:=(show C0 q s e from hF)
   go_wp2;exact⟨Z,Hu Q aa i,Z⟩
  |ok dq =>
   obtain⟨L,p1⟩:=dq;rw[h2]at a H;simp only[]at a;refine H.mono ?_;rintro e n ⟨aa,ap⟩;obtain⟨⟨t,y,rfl,an⟩,au⟩:=(show(∃t y,e=Af (Ad t y)/\BQ k n (λj=>B.heap.size<=j/\j<n.heap.size) (Ad t y) L)/\BD n b ⟨c,bs,g,d,l,p1,0⟩from ap)
   have ad:=T (Hu Q aa i);have aw:=ay.out;have HD:Hid (BQ k n (λj=>b<j/\j<n.heap.size) (Ad t y) L):=an.same (λj m=>⟨CA aw m.1,m.2⟩) (λ_ _=>rfl);have F:=al n p1 au
   go_wp2_with fail
   refine LN (y:=(223,A8 (U ⟨b,0,Y⟩))) (w:=n) M ?_
   go_wp2_with fail
   cases h3:z p1 with
   |error r =>
    obtain⟨q,s⟩:=r;rw[h3]at a F;simp only[]at a;subst a;refine F.mono ?_;rintro e o ⟨u,hF⟩;obtain rfl:=(show C0 q s e from hF)
    go_wp2;exact⟨Z,Hu ad u i,Z⟩
   |ok A =>
    obtain⟨u2,x⟩:=A;rw[h3]at a F;simp only[]at a;refine F.mono ?_;rintro e o ⟨u,aq⟩;obtain⟨rfl,av⟩:=(show e=Af (Aa #[])/\BD o b ⟨c,bs,g,d,l,x,0⟩from aq)
    have ae:=T (Hu ad u i);have aj:Hid (BQ k o (λj=>b<j/\j<o.heap.size) (Ad t y) L):=HD.same (λj m=>⟨m.1,CA m.2 u.size⟩) (λj m=>u.block j m.2 J);have C:Am X 222 #[A8 (U ⟨b,0,Y⟩)] o (ED o b ⟨c,bs,g,d,l,x,0⟩ (λ_:Unit=>Aa #[]) (Gz ⟨Y,bs,0,0,l,x,0⟩)):=X7 o b ⟨c,bs,g,d,l,x,0⟩ av
    go_wp2_with fail
    refine LN (y:=(222,A8 (U ⟨b,0,Y⟩))) (w:=o) M ?_
    go_wp2_with fail
    cases h4:Gz ⟨Y,bs,0,0,l,x,0⟩with
    |error r =>
     obtain⟨q,s⟩:=r;rw[h4]at a C;simp only[]at a;subst a;refine C.mono ?_;rintro e P ⟨v,hF⟩;obtain rfl:=(show C0 q s e from hF)
     go_wp2;exact⟨Z,Hu ae v i,Z⟩
    |ok A =>
     obtain⟨u4,p4⟩:=A;rw[h4]at a C;simp only[]at a;subst a;refine C.mono ?_;rintro e P ⟨v,ar⟩;obtain⟨rfl,az⟩:=(show e=Af (Aa #[])/\BD P b ⟨c,bs,g,d,l,p4,0⟩from ar)
     have ak:Hid (BQ k P (λj=>W.heap.size<=j/\j<P.heap.size) (Ad t y) L):=aj.same (λj m=>⟨J,CA m.2 v.size⟩) (λj m=>v.block j m.2 J);have ai:=T (Hu ae v i);go_wp2;go_ret;exact⟨ai,_,_,Z,ak⟩
structure JU(W:World):Prop where
 u8:U8 W
 hd:GY W
 big:9<=W.heap.size
def U8.but(h:U8 W)(e:BF b W V)(j:7<b)(hb:9<=W.heap.size):U8 V:=by
 have a:∀(q off:Nat) (v:Al),q<=7->W.cell? ⟨q,off,Y⟩=U v->V.cell? ⟨q,off,Y⟩=U v:=λq off v k g=>(Im (w:=W) (e.block q J J)).trans g;exact⟨λc f=>a _ _ _ Ay (h.1 c f),λi d=>⟨a _ _ _ Ay (h.2 i d).1,a _ _ _ Ay (h.2 i d).2⟩⟩
def JU.below(h:JU W)(hb:A0 W V):JU V:=⟨h.u8.below hb,h.hd.below hb,C7 h.big hb.size⟩
def lv:(List.range 256).all (λc=>decide ((DT c).1<=10/\(DT c).2.1<=8/\((DT c).2.1=0\/(DT c).2.2=0)/\(DT c).2.2<18446744073709551616))=true:=M
def YB:∀c,c<256->(DT c).1<=10/\(DT c).2.1<=8/\((DT c).2.1=0\/(DT c).2.2=0)/\(DT c).2.2<18446744073709551616:=λc a=>CD (E8.1 lv c (CV.2 a))
def lw:(List.range 256).all (λc=>decide ((CX c).1<=10/\(CX c).2.1<=8/\((CX c).2.1=0\/(CX c).2.2=0)/\(CX c).2.2<18446744073709551616))=true:=M
def YC:∀c,c<256->(CX c).1<=10/\(CX c).2.1<=8/\((CX c).2.1=0\/(CX c).2.2=0)/\(CX c).2.2<18446744073709551616:=λc a=>CD (E8.1 lw c (CV.2 a))
def lz(h:GY W)(hb:1<b):LT 61 DT b W :=
 ⟨.inl rfl,λc a=>(YB c a).1,λc a=>(YB c a).2,λc V d=>gj V c.toNat c.toNat_lt (h.but d hb)⟩
def lB(h:GY W)(hb:1<b):LT 62 CX b W :=
 ⟨.inr rfl,λc a=>(YC c a).1,λc a=>(YC c a).2,λc V d=>gn V c.toNat c.toNat_lt (h.but d hb)⟩
def GI(fm:Int)(bs:A1)(lim:Int)(p:Nat):A5 Unit:=if fm=1 then Cd bs lim (bs.length+1-p) p else .ok ((),p)
def EF(fm:Int)(bs:A1)(d lim:Int)(p:Nat):Except (Int×Int) (DataW Unit×Nat) :=
 if fm=1 then CI bs lim d (λc p=>CR ⟨none,bs,0,0,lim,p,0⟩ c) (d.toNat+1) 0 p else if fm=2 then D5 DT bs lim d (d.toNat+1) 0 p else D5 CX bs lim d (d.toNat+1) 0 p
def Cj(fm:Int)(bs:A1)(d lim:Int):Except (Int×Int) (DataW Unit):=FI (GI fm bs lim) (EF fm bs d lim) bs lim
def lC(W:O)(fm:Int)(a:A4)(bs:A1)(f:Nat)(d l:Int)(x:fm=1\/fm=2\/fm=3)(h:Er W a bs)(j:JU W)(r:0<=d)(s:d<=100000)(u:bs.length<=200000000):Am X 18 #[I K fm,Ab #[I K d,I K l],G a bs.length f] W (He (d.toNat+1) W (Cj fm bs d l)):=by
 have y:=j.big;rcases x with rfl|rfl|rfl
 ·have k:GI 1 bs l=λp=>Cd bs l (bs.length+1-p) p:=by funext p;unfold GI;rw[BA rfl]
  have m:EF 1 bs d l=λp=>CI bs l d (λc p=>CR ⟨Y,bs,0,0,l,p,0⟩ c) (d.toNat+1) 0 p:=by funext p;unfold EF;rw[BA rfl]
  unfold Cj;rw[k,m];refine Yz (d.toNat+1) W 1 a bs f d l h _ _ (λV o=>X8 V a bs f d l o) (λb V p q g=>KY V b ⟨a,bs,f,d,l,p,0⟩ g) (λb V p q i g=>?_);exact U0 (d.toNat+1) V b ⟨a,bs,f,d,l,p,0⟩ g u (λv n=>(j.below i).u8.but n J (j.below i).big) J s B4 AW
 ·have k:GI 2 bs l=λp=>.ok ((),p):=by funext p;unfold GI;rw[Bz Ay]
  have m:EF 2 bs d l=λp=>D5 DT bs l d (d.toNat+1) 0 p:=by funext p;unfold EF;rw[Bz Ay,BA rfl]
  unfold Cj;rw[k,m];refine YA (d.toNat+1) W 2 61 a bs f d l h _ _ (λV o=>ls V a bs f d l o) (λb V p q g=>(Yy V b).mono ?_) (λb V p q i g=>?_)
  ·rintro e w ⟨rfl,rfl⟩;exact⟨BF.refl _ _,Z,g⟩
  exact(TV DT 61 (d.toNat+1) V b ⟨a,bs,f,d,l,p,0⟩ g u (λv n=>(j.below i).u8.but n J (j.below i).big) J (lz (j.below i).hd J) s B4 AW).mono λe w t=>t.toJ
 have k:GI 3 bs l=λp=>.ok ((),p):=by funext p;unfold GI;rw[Bz Ay]
 have m:EF 3 bs d l=λp=>D5 CX bs l d (d.toNat+1) 0 p:=by funext p;unfold EF;rw[Bz Ay,Bz Ay]
 unfold Cj;rw[k,m];refine YA (d.toNat+1) W 3 62 a bs f d l h _ _ (λV o=>lu V a bs f d l o) (λb V p q g=>(Yy V b).mono ?_) (λb V p q i g=>?_)
 ·rintro e w ⟨rfl,rfl⟩;exact⟨BF.refl _ _,Z,g⟩
 exact(TV CX 62 (d.toNat+1) V b ⟨a,bs,f,d,l,p,0⟩ g u (λv n=>(j.below i).u8.but n J (j.below i).big) J (lB (j.below i).hd J) s B4 AW).mono λe w t=>t.toJ
def CK{α:Type}(r:Except (Int×Int) α):Prop:=∀en pl,r=.error (en,pl)->en≠0
def Ve(bs:A1)(lim:Int):∀(k p a:Nat),CK (D4 bs lim k p a)
 |0,p,a,en,pl,h=>by rw[D4]at h;cases h
 |k+1,p,a,en,pl,h=>by
  rw[D4]at h
  repeat' split at h
  all_goals first|(injection h with h;injection h with h1 h2;omega)|exact Ve bs lim k _ _ en pl h
def Vf(a w:Int)(x:Nat)(p:Int):CK (DC a w x p):=λb c h=>by
 unfold DC at h
 repeat' split at h
 all_goals first|(injection h with h;injection h with h1 h2;omega)|cases h
def bg(bs:A1)(lim:Int):∀(k p:Nat) (a:A1),CK (EZ bs lim k p a)
 |0,p,a,en,pl,h=>by rw[EZ]at h;cases h
 |k+1,p,a,en,pl,h=>by
  rw[EZ]at h
  repeat' split at h
  all_goals first|(injection h with h;injection h with h1 h2;omega)|exact bg bs lim k _ _ en pl h
def Vg(bs:A1)(lim:Int):∀(k p:Nat) (a:A1) (b:Nat),CK (Dr bs lim k p a b)
 |0,p,a,b,en,pl,h=>by
  rw[Dr]at h;split at h
  ·cases h
  injection h with h;injection h with h1 h2;omega
 |k+1,p,a,b,en,pl,h=>by
  rw[Dr]at h;split at h
  ·injection h with h;injection h with h1 h2;omega
  split at h
  ·injection h with h;injection h with h1 h2;omega
  split at h
  ·injection h with h;injection h with h1 h2;omega
  exact Vg bs lim k _ _ _ en pl h
def ri(c:Nat->Nat×Nat×Nat)(bs:A1)(lim:Int)(ks:List A1)(p:Nat):CK (E3 c bs lim ks p):=λa b h=>by
 unfold E3 at h;split at h
 ·injection h with h;injection h with h1 h2;omega
 split at h
 ·injection h with h;injection h with h1 h2;omega
 split at h
 ·split at h
  ·next e he=>injection h with h;subst h;exact Ve bs lim _ _ _ a b he
  split at h
  ·next e he=>injection h with h;subst h;exact Vg bs lim _ _ _ _ a b he
  split at h
  ·injection h with h;injection h with h1 h2;omega
  cases h
 injection h with h;injection h with h1 h2;omega
def bh(a:∀p,CK (rd p)):∀(n p:Nat) (acc:List (DataW Unit)),CK (F0 rd n p acc)
 |0,p,acc,en,pl,h=>by rw[F0]at h;cases h
 |n+1,p,acc,en,pl,h=>by
  rw[F0]at h;split at h
  ·next e he=>injection h with h;subst h;exact a _ en pl he
  exact bh a n _ _ en pl h
def bi{kf:List A1->Nat->A5 A1}(b:∀a p,CK (kf a p))(c:∀p,CK (rd p)):∀(n p:Nat) (a:List A1) (acc:List (Lit×DataW Unit)),CK (F1 kf rd n p a acc)
 |0,p,a,acc,en,pl,h=>by rw[F1]at h;cases h
 |n+1,p,a,acc,en,pl,h=>by
  rw[F1]at h;split at h
  ·next e he=>injection h with h;subst h;exact b _ _ en pl he
  split at h
  ·next e he=>injection h with h;subst h;exact c _ en pl he
  exact bi b c n _ _ _ en pl h
def rj{li:Nat->Nat->Except (Int×Int) (List (DataW Unit)×Nat)}{ma:Nat->Nat->Except (Int×Int) (List (Lit×DataW Unit)×Nat)}{so w x:Nat}(c:so=9->∀x q,CK (li x q))(d:so=10->∀x q,CK (ma x q)):CK (F2 bs lim li ma so w x q):=λa b h=>by
 unfold F2 at h;split at h
 ·cases h
 ·cases h
 ·split at h
  ·next e he=>injection h with h;subst h;exact Vf _ _ _ _ a b he
  cases h
 ·split at h
  ·next e he=>injection h with h;subst h;exact Vf _ _ _ _ a b he
  cases h
 ·split at h
  ·next e he=>injection h with h;subst h;exact Vf _ _ _ _ a b he
  cases h
 ·split at h
  ·next e he=>injection h with h;subst h;exact bg _ _ _ _ _ a b he
  cases h
 ·split at h
  ·next e he=>injection h with h;subst h;exact Vg _ _ _ _ _ _ a b he
  cases h
 ·split at h
  ·next e he=>injection h with h;subst h;exact c Z _ _ a b he
  cases h
 ·split at h
  ·next e he=>injection h with h;subst h;exact d Z _ _ a b he
  cases h
 cases h
def Vh(b:Nat->Nat×Nat×Nat)(bs:A1)(lim depth:Int):∀(g a p:Nat),(a:Int)<=depth->depth<a+g->CK (D5 b bs lim depth g a p)
 |0,a,p,h1,h2,_,_,_=>J
 |g+1,a,p,h1,h2,en,pl,h=>by
  cases d:bs[p]? with
  |none =>
   unfold D5 at h;rw[d]at h;injection h with h;injection h with h3 h4;omega
  |some c =>
   by_cases i:(p:Int)=lim
   ·unfold D5 at h;rw[d]at h;simp only[]at h;rw[BA i]at h;injection h with h;injection h with h3 h4;omega
   rw[P5 d i rfl]at h;split at h
   ·injection h with h;injection h with h3 h4;omega
   split at h
   ·injection h with h;injection h with h3 h4;omega
   next hn =>
   split at h
   ·next e he=>injection h with h;subst h;exact Ve _ _ _ _ _ en pl he
   have j:¬(a:Int)=depth->∀q,CK (D5 b bs lim depth g (a+1) q):=λn q=>Vh b bs lim depth g (a+1) q J J;exact rj (λl x q=>bh (j (λf=>hn ⟨.inl l,f⟩)) _ _ _) (λk x q=>bi (λm p=>ri b bs lim m p) (j (λf=>hn ⟨.inr k,f⟩)) _ _ _ _) en pl h
def M3(bs:A1)(lim:Int):∀(k p:Nat),CK (Cd bs lim k p)
 |0,p,en,pl,h=>by rw[Cd]at h;cases h
 |k+1,p,en,pl,h=>by
  rw[Cd]at h;split at h
  ·cases h
  split at h
  ·injection h with h;injection h with h1 h2;omega
  split at h
  ·exact M3 bs lim k _ en pl h
  cases h
def Ls(bs:A1)(lim:Int):∀(l:A1) (p:Nat),CK (Ci bs lim l p)
 |[],p,en,pl,h=>by rw[Ci]at h;cases h
 |x::xs,p,en,pl,h=>by
  rw[Ci]at h;split at h
  ·injection h with h;injection h with h1 h2;omega
  split at h
  ·injection h with h;injection h with h1 h2;omega
  split at h
  ·exact Ls bs lim xs _ en pl h
  injection h with h;injection h with h1 h2;omega
def PA(bs:A1)(lim:Int):∀(k p a:Nat),CK (Do bs lim k p a)
 |0,p,a,en,pl,h=>by rw[Do]at h;cases h
 |k+1,p,a,en,pl,h=>by
  rw[Do]at h;split at h
  ·injection h with h;injection h with h1 h2;omega
  split at h
  ·injection h with h;injection h with h1 h2;omega
  split at h
  ·injection h with h;injection h with h1 h2;omega
  exact PA bs lim k _ _ en pl h
def rk(bs:A1)(lim:Int)(p:Nat):CK (FU bs lim p):=λa b h=>by
 unfold FU at h;split at h
 ·next e he=>injection h with h;subst h;exact PA _ _ _ _ _ a b he
 split at h
 ·injection h with h;injection h with h1 h2;omega
 split at h
 ·split at h
  ·next e he=>injection h with h;subst h;exact Ls _ _ _ _ a b he
  split at h
  ·next e he=>injection h with h;subst h;exact PA _ _ _ _ _ a b he
  split at h
  ·cases h
  injection h with h;injection h with h1 h2;omega
 cases h
def Vi(bs:A1)(lim:Int)(p:Nat):CK (Fw bs lim p):=λa b h=>by
 unfold Fw at h;split at h
 ·injection h with h;injection h with h1 h2;omega
 split at h
 ·injection h with h;injection h with h1 h2;omega
 repeat' split at h
 all_goals first|(injection h with h;injection h with h1 h2;omega)|exact rk _ _ _ a b h|cases h
def PB(bs:A1)(lim:Int):∀(g p:Nat) (a:A1) (b:Nat),CK (Ct bs lim g p a b)
 |0,p,a,b,en,pl,h=>by rw[Ct]at h;injection h with h;injection h with h1 h2;omega
 |g+1,p,a,b,en,pl,h=>by
  rw[Ct]at h;split at h
  ·injection h with h;injection h with h1 h2;omega
  split at h
  ·injection h with h;injection h with h1 h2;omega
  split at h
  ·cases h
  split at h
  ·split at h
   ·next e he=>injection h with h;subst h;exact Vi _ _ _ en pl he
   exact PB bs lim g _ _ _ en pl h
  split at h
  ·injection h with h;injection h with h1 h2;omega
  split at h
  ·injection h with h;injection h with h1 h2;omega
  exact PB bs lim g _ _ _ en pl h
def Vj(bs:A1)(lim:Int)(b:Nat)(z:Bool):∀(g p a:Nat),CK (Dn bs lim b z g p a)
 |0,p,a,en,pl,h=>by unfold Dn at h;cases h
 |g+1,p,a,en,pl,h=>by
  unfold Dn at h;split at h
  ·cases h
  split at h
  ·injection h with h;injection h with h1 h2;omega
  split at h
  ·split at h
   ·injection h with h;injection h with h1 h2;omega
   split at h
   ·injection h with h;injection h with h1 h2;omega
   exact Vj bs lim b z g _ _ en pl h
  split at h
  ·injection h with h;injection h with h1 h2;omega
  cases h
def Vk(s:BO)(c:UInt8):CK (CR s c):=λa b h=>by
 unfold CR at h;split at h
 ·split at h
  ·injection h with h;injection h with h1 h2;omega
  split at h
  ·injection h with h;injection h with h1 h2;omega
  split at h
  ·split at h
   ·cases h
   next e he=>injection h with h;subst h;exact Vj _ _ _ _ _ _ _ a b he
  injection h with h;injection h with h1 h2;omega
 split at h
 ·cases h
 next e he=>injection h with h;subst h;exact Vj _ _ _ _ _ _ _ a b he
def Vl{α:Type}{itF:α->Nat->A5 α}(b:∀a p,CK (itF a p)):∀(g p:Nat) (a:α),CK (Dp bs lim itF last g p a)
 |0,p,a,en,pl,h=>by rw[Dp]at h;injection h with h;injection h with h1 h2;omega
 |g+1,p,a,en,pl,h=>by
  rw[Dp]at h;split at h
  ·next e he=>injection h with h;subst h;exact M3 _ _ _ _ en pl he
  split at h
  ·next e he=>injection h with h;subst h;exact b _ _ en pl he
  split at h
  ·next e he=>injection h with h;subst h;exact M3 _ _ _ _ en pl he
  split at h
  ·injection h with h;injection h with h1 h2;omega
  split at h
  ·injection h with h;injection h with h1 h2;omega
  split at h
  ·cases h
  split at h
  ·exact Vl b g _ _ en pl h
  injection h with h;injection h with h1 h2;omega
def bj{α:Type}{itF:α->Nat->A5 α}(d:∀a p,CK (itF a p))(p:Nat)(a:α):CK (Di bs lim itF last p a):=λb c h=>by
 unfold Di at h;split at h
 ·next e he=>injection h with h;subst h;exact M3 _ _ _ _ b c he
 split at h
 ·exact Vl d _ _ _ b c h
 split at h
 ·injection h with h;injection h with h1 h2;omega
 split at h
 ·cases h
 exact Vl d _ _ _ b c h
def rl(c:∀p,CK (rd p))(a:List (DataW Unit))(p:Nat):CK (D9 rd a p):=λb d h=>by
 unfold D9 at h;split at h
 ·next e he=>injection h with h;subst h;exact c _ b d he
 cases h
def rn(bs:A1)(lim:Int)(ks:List A1)(p:Nat):CK (FH bs lim ks p):=λa b h=>by
 unfold FH at h;split at h
 ·next e he=>injection h with h;subst h;exact Ls _ _ _ _ a b he
 split at h
 ·next e he=>injection h with h;subst h;exact PB _ _ _ _ _ _ a b he
 split at h
 ·injection h with h;injection h with h1 h2;omega
 cases h
def bl(d:∀p,CK (rd p))(a:List A1×List (Lit×DataW Unit))(p:Nat):CK (DO bs lim rd a p):=λb c h=>by
 unfold DO at h;split at h
 ·next e he=>injection h with h;subst h;exact rn _ _ _ _ b c he
 split at h
 ·next e he=>injection h with h;subst h;exact M3 _ _ _ _ b c he
 split at h
 ·next e he=>injection h with h;subst h;exact Ls _ _ _ _ b c he
 split at h
 ·next e he=>injection h with h;subst h;exact M3 _ _ _ _ b c he
 split at h
 ·next e he=>injection h with h;subst h;exact d _ b c he
 cases h
def ro(d:¬(wi:Int)=depth->∀p,CK (rd p))(f:∀c p,CK (nm c p)):CK (GH bs lim depth wi rd nm c p):=λa b h=>by
 unfold GH at h;split at h
 ·split at h
  ·next e he=>injection h with h;subst h;exact Ls _ _ _ _ a b he
  cases h
 split at h
 ·split at h
  ·next e he=>injection h with h;subst h;exact Ls _ _ _ _ a b he
  cases h
 split at h
 ·split at h
  ·next e he=>injection h with h;subst h;exact Ls _ _ _ _ a b he
  cases h
 split at h
 ·split at h
  ·next e he=>injection h with h;subst h;exact PB _ _ _ _ _ _ a b he
  cases h
 split at h
 ·split at h
  ·injection h with h;injection h with h1 h2;omega
  next hn =>
  split at h
  ·next e he=>injection h with h;subst h;exact bj (rl (d hn)) _ _ a b he
  cases h
 split at h
 ·split at h
  ·injection h with h;injection h with h1 h2;omega
  next hn =>
  split at h
  ·next e he=>injection h with h;subst h;exact bj (bl (d hn)) _ _ a b he
  cases h
 split at h
 ·split at h
  ·next e he=>injection h with h;subst h;exact f _ _ a b he
  cases h
 injection h with h;injection h with h1 h2;omega
def RL(bs:A1)(lim depth:Int)(nm:UInt8->Nat->A5 Int)(b:∀c p,CK (nm c p)):∀(g a p:Nat),(a:Int)<=depth->depth<a+g->CK (CI bs lim depth nm g a p)
 |0,a,p,h1,h2,_,_,_=>J
 |g+1,a,p,h1,h2,en,pl,h=>by
  rw[CI]at h;split at h
  ·injection h with h;injection h with h3 h4;omega
  split at h
  ·injection h with h;injection h with h3 h4;omega
  exact ro (λd q=>RL bs lim depth nm b g (a+1) q J J) b en pl h
def rp(fm:Int)(bs:A1)(d l:Int)(p:Nat)(b:0<=d):CK (EF fm bs d l p):=λa e h=>by
 unfold EF at h;split at h
 ·exact RL _ _ _ _ (λc p=>Vk _ _) _ _ _ Bj J a e h
 split at h
 ·exact Vh _ _ _ _ _ _ _ Bj J a e h
 exact Vh _ _ _ _ _ _ _ Bj J a e h
def rq(fm:Int)(bs:A1)(d l:Int)(f:0<=d):CK (Cj fm bs d l):=λa b h=>by
 have c:∀p,CK (GI fm bs l p):=λp a b h=>by
  unfold GI at h;split at h
  ·exact M3 _ _ _ _ a b h
  cases h
 unfold Cj FI at h;split at h
 ·next e he=>injection h with h;subst h;exact c _ a b he
 split at h
 ·next e he=>injection h with h;subst h;exact rp fm bs d l _ f a b he
 split at h
 ·next e he=>injection h with h;subst h;exact c _ a b he
 split at h
 ·next e he =>
  injection h with h;subst h;unfold Gz at he;split at he
  ·cases he
  split at he<;>(injection he with he;injection he with h1 h2;omega)
 cases h
def uT{K':Act->O->Prop}(e:Shut (∀a w,S w->(S w->wpAnyH P md ops Q S fuel listed a w)->K' a w))(m:Region.wanted o (yielded ops a.tmps)=true)(c:TypeId)(x y:Operand)(k:o.op=.store c x y)(i:o.dst=Y)(g:Nat)(b:A3)(n:a.eval x=A8 (U ⟨g,0,Y⟩))(p:a.eval y=.agg b)(t:TypeId)(old:A3)(j:w.heap[g]?=U (E old t (0,0)))(hi:(P.info? c).map (·.size)=U b.size)(l:old.size=b.size)(d:b.all (·.oneCell')=true)(f:S (w.setRow g b))(h:wpAnyH P md ops Q S fuel listed a (w.setRow g b)):if Region.wanted o (yielded ops a.tmps)=true then Oper.wp P o a w K' Q else K' (a.put o.dst undef) w:=by
 rw[BA m];refine Hp c x y k g b n p t old j hi l d ?_;rw[i];exact e _ _ f (λ_=>h)
def dH(i:Nat)(n:Region.ready md ops listed=[i])(hi:ops[i]?=U o)(p:Region.wanted o (yielded ops a.tmps)=true)(c:TypeId)(x y:Operand)(l:o.op=.store c x y)(j:o.dst=Y)(g:Nat)(b:A3)(q:a.eval x=A8 (U ⟨g,0,Y⟩))(r:a.eval y=.agg b)(t:TypeId)(old:A3)(k:w.heap[g]?=U (E old t (0,0)))(s:(P.info? c).map (·.size)=U b.size)(m:old.size=b.size)(d:b.all (·.oneCell')=true)(f:S (w.setRow g b))(h:wpAnyH P md ops Q S fuel (listed.setIfInBounds i true) a (w.setRow g b)):wpAnyH P md ops Q S (fuel+1) listed a w :=
 OI n Az (Np hi (λ_ e=>uT e p c x y l j g b q r t old k s m d f h) OG)
def sF(i x y g:Nat)(F:Int×Int)(n:(Region.ready md ops listed,ops[i]?.map λo=>(Region.wanted o (yielded ops a.tmps),o.op,o.dst),a.eval (.tmp x),a.eval (.tmp y))=([i],U (true,.store 76 (.tmp x) (.tmp y),Y),A8 (U ⟨g,0,Y⟩),.agg (BH F)))(m:w.heap[g]?=U (E (BH (0,0)) 76))(l:S (w.setRow g (BH F)))(h:wpAnyH X md ops Q S fuel (listed.setIfInBounds i true) a (w.setRow g (BH F))):wpAnyH X md ops Q S (fuel+1) listed a w:=by
 obtain⟨f,b⟩:=GT n;obtain⟨b,c⟩:=GT b;obtain⟨c,j⟩:=GT c;obtain⟨o,p,d⟩:=Q5.1 b;obtain⟨d,e⟩:=GT d;obtain⟨e,k⟩:=GT e;exact dH i f p d _ _ _ e k g _ c j _ _ m (J5 _) Z (M6 _) l h
def Jy(i x y g:Nat)(T:A3)(p:(Region.ready md ops listed,ops[i]?.map λo=>(Region.wanted o (yielded ops a.tmps),o.op,o.dst),a.eval (.tmp x),a.eval (.tmp y))=([i],U (true,.store 74 (.tmp x) (.tmp y),Y),A8 (U ⟨g,0,Y⟩),.agg T))(n:w.heap[g]?=U (E BZ 74))(f:Sa T)(m:S (w.setRow g T))(h:wpAnyH X md ops Q S fuel (listed.setIfInBounds i true) a (w.setRow g T)):wpAnyH X md ops Q S (fuel+1) listed a w:=by
 obtain⟨j,b⟩:=GT p;obtain⟨b,c⟩:=GT b;obtain⟨c,k⟩:=GT c;obtain⟨o,q,d⟩:=Q5.1 b;obtain⟨d,e⟩:=GT d;obtain⟨e,l⟩:=GT e;exact dH i j q d _ _ _ e l g _ c k _ _ n (by rw[f.1];exact Nb) (by rw[f.1];rfl) f.2 m h
def zF{rest:List Oper}(x y:Nat)(c:o.guard=Y)(d:o.op=.store 76 (.tmp x) (.tmp y))(g:Nat)(F:Int×Int)(b:a.eval (.tmp x)=A8 (U ⟨g,0,Y⟩)/\a.eval (.tmp y)=.agg (BH F)/\w.heap[g]?=U (E (BH (0,0)) 76))(h:wpList X ops Q rest (a.put o.dst undef) (w.setRow g (BH F))):wpList X ops Q (o::rest) a w:=En x y c d g F b.1 b.2.1 b.2.2 h
def zT{rest:List Oper}(x y:Nat)(c:o.guard=Y)(d:o.op=.store 74 (.tmp x) (.tmp y))(g:Nat)(T:A3)(b:a.eval (.tmp x)=A8 (U ⟨g,0,Y⟩)/\a.eval (.tmp y)=.agg T/\w.heap[g]?=U (E BZ 74)/\Sa T)(h:wpList X ops Q rest (a.put o.dst undef) (w.setRow g T)):wpList X ops Q (o::rest) a w:=PQ x y c d g T b.1 b.2.1 b.2.2.1 b.2.2.2 h
def Hi.ck{args:A3}{Q:Ending->O->Prop}{d:Int}(h:Hi W (BP bs fm d l) V)(c:Am P f args V λe a=>e=r/\A0 V a)(k:∀w,Hid (Hi W (BP bs fm d l) w)->w.cell? ⟨W.heap.size,0,Y⟩=(#[A9 ⟨bs.toArray⟩,I K fm,I K d,I K l]:A3)[0]?->w.cell? ⟨W.heap.size,1,Y⟩=(#[A9 ⟨bs.toArray⟩,I K fm,I K d,I K l]:A3)[1]?->w.cell? ⟨W.heap.size,2,Y⟩=(#[A9 ⟨bs.toArray⟩,I K fm,I K d,I K l]:A3)[2]?->w.cell? ⟨W.heap.size,3,Y⟩=(#[A9 ⟨bs.toArray⟩,I K fm,I K d,I K l]:A3)[3]?->Q r w):Am P f args V Q:=CT c h.next (λ_ h=>h.box) k
def Ij.ck{args:A3}{Q:Ending->O->Prop}{d:Int}{N:Nat}(h:Ij W (BP bs fm d l) N V)(c:Am P f args V λe a=>e=r/\A0 V a)(k:∀w,Hid (Ij W (BP bs fm d l) N w)->w.cell? ⟨W.heap.size,0,Y⟩=(#[A9 ⟨bs.toArray⟩,I K fm,I K d,I K l]:A3)[0]?->w.cell? ⟨W.heap.size,1,Y⟩=(#[A9 ⟨bs.toArray⟩,I K fm,I K d,I K l]:A3)[1]?->w.cell? ⟨W.heap.size,2,Y⟩=(#[A9 ⟨bs.toArray⟩,I K fm,I K d,I K l]:A3)[2]?->w.cell? ⟨W.heap.size,3,Y⟩=(#[A9 ⟨bs.toArray⟩,I K fm,I K d,I K l]:A3)[3]?->Q r w):Am P f args V Q:=CT c h.next (λ_ h=>h.box) k
def Hj(xs:List Al)(i:Nat)(a:A3):Prop:=(xs.drop (5*i)).take 5=a.toList
def Sd(e:Lit×DataW Unit):Al:=match e.1 with
 |.string l=>D6 l
 |_=>undef
def CM:Nat->Ak->(Nat->Prop)->Al->A2->Prop
 |0,_,_,_,_=>False
 |k+1,V,F,v,d=>match d with
  |.nil=>v=.agg (BJ 0 0 ⟨#[]⟩ BV BV)
  |.lit (.bool b)=>v=.agg (BJ (if b=true then 2 else 1) 0 ⟨#[]⟩ BV BV)
  |.lit (.int .i64 z)=>v=.agg (BJ 3 z ⟨#[]⟩ BV BV) /\ -9223372036854775808<=z/\z<=9223372036854775807
  |.lit (.string l)=>v=.agg (BJ 4 0 ⟨l.toArray⟩ BV BV)
  |.ptr (.lit (.string l))=>v=.agg (BJ 5 0 ⟨l.toArray⟩ BV BV)
  |.agg ds=>∃u xs,v=.agg (BJ 6 0 ⟨#[]⟩ BV u)/\Dj V 74 5 F u ds.length xs/\∀(i:Nat) (d:A2),ds[i]?=some d->∃a,Hj xs i a/\CM k V F (.agg a) d
  |.map es=>∃kv u xs,v=.agg (BJ 7 0 ⟨#[]⟩ kv u)/\Dj V 9 1 F kv es.length (es.map Sd)/\Dj V 74 5 F u es.length xs/\∀(i:Nat) (key:Lit) (d:A2),es[i]?=some (key,d)->∃l a,key=.string l/\Hj xs i a/\CM k V F (.agg a) d
  |_=>False
def CM.same{V':O}{G:Nat->Prop}(b:∀k,F k->G k)(c:∀k,F k->V'.heap[k]?=V.heap[k]?):∀{k:Nat} {v:Al} {d:A2},CM k V F v d->CM k V' G v d
 |0,_,_,h=>h
 |k+1,v,d,h=>by
  unfold CM at h ⊢;split at h
  ·exact h
  ·exact h
  ·exact h
  ·exact h
  ·exact h
  ·obtain⟨u,o,e,n,m⟩:=h;refine⟨u,o,e,n.same b c,λi d j=>?_⟩;obtain⟨a,f,g⟩:=m i d j;exact⟨a,f,CM.same b c g⟩
  ·obtain⟨r,u,o,e,q,n,m⟩:=h;refine⟨r,u,o,e,q.same b c,n.same b c,λi key d j=>?_⟩;obtain⟨l,a,f,g,p⟩:=m i key d j;exact⟨l,a,f,g,CM.same b c p⟩
  exact h
def CM.more:∀{k m:Nat} {v:Al} {d:A2},k<=m->CM k V F v d->CM m V F v d
 |0,_,_,_,_,h=>h.elim
 |k+1,0,_,_,hm,_=>absurd hm J
 |k+1,m+1,v,d,hm,h=>by
  unfold CM at h ⊢;split at h
  ·exact h
  ·exact h
  ·exact h
  ·exact h
  ·exact h
  ·obtain⟨u,n,e,j,g⟩:=h;refine⟨u,n,e,j,λi d f=>?_⟩;obtain⟨a,b,c⟩:=g i d f;exact⟨a,b,CM.more J c⟩
  ·obtain⟨q,u,n,e,p,j,g⟩:=h;refine⟨q,u,n,e,p,j,λi key d f=>?_⟩;obtain⟨l,a,b,c,o⟩:=g i key d f;exact⟨l,a,b,c,CM.more J o⟩
  exact h
def Dj.slice{t:TypeId}(h:Dj V t size F v n xs):∃a m c,v=G a m c:=by
 rcases h.2 with⟨e,_⟩|⟨g,b,d,e,_⟩
 ·exact⟨_,_,_,e⟩
 exact⟨_,_,_,e⟩
def CM.shape(h:CM k V F v d):∃l n s a i j b p q,v=.agg (BJ l n s (G a i j) (G b p q)):=by
 cases k with
 |zero=>exact h.elim
 |succ k =>
  unfold CM at h;split at h
  ·exact⟨_,_,_,_,_,_,_,_,_,h⟩
  ·exact⟨_,_,_,_,_,_,_,_,_,h⟩
  ·exact⟨_,_,_,_,_,_,_,_,_,h.1⟩
  ·exact⟨_,_,_,_,_,_,_,_,_,h⟩
  ·exact⟨_,_,_,_,_,_,_,_,_,h⟩
  ·obtain⟨u,o,e,f,_⟩:=h;obtain⟨a,m,c,rfl⟩:=f.slice;exact⟨_,_,_,_,_,_,_,_,_,e⟩
  ·obtain⟨t,u,o,e,g,f,_⟩:=h;obtain⟨a,m,c,rfl⟩:=f.slice;obtain⟨r,w,c2,rfl⟩:=g.slice;exact⟨_,_,_,_,_,_,_,_,_,e⟩
  exact h.elim
def Oj{base:Nat}{t:TypeId}(h:W.ownsRow base t size v n xs)(F:Nat->Prop)(hF:∀g,base<=g->g<W.heap.size->F g):Dj W t size F v n xs:=by
 refine⟨h.1,?_⟩;rcases h.2 with d|⟨g,b,c,e,f,a,k,j,i,l⟩
 ·exact .inl d
 exact .inr ⟨g,b,c,e,hF g f (BC a),a,k,j,i,l⟩
def ER(k:Nat)(bs:A1)(lim:Int)(W:Ak)(r:Except (Int×Int) (DataW Unit×Nat))(e:Ending)(W':Ak):Prop :=
 A0 W W'/\∃r',FL bs lim r r'/\match r' with
 |.ok (d,q)=>C1 bs lim q/\∃kd n s a i j b p m,e=Af (Aa #[.agg (BJ kd n s (A7 a i j) (A7 b p m)),.int .i64 q,.agg (BH (0,0))])/\CM k W' (λj=>W.heap.size<=j/\j<W'.heap.size) (.agg (BJ kd n s (A7 a i j) (A7 b p m))) d
 |.error f=>∃kd n s a i j b p m z,e=Af (Aa #[.agg (BJ kd n s (A7 a i j) (A7 b p m)),.int .i64 z,.agg (BH f)])
def dI{α:Type}{r r':A5 α}(h:FL bs lim r r')(hb:CK r):CK r':=by
 intro b d a;rcases h with h|⟨q,_,_,_,x,c⟩
 ·exact hb b d (h.trans a)
 rw[c]at a;cases a
end
end Go.Proofs.YtnlnjkggkbbdhaaGreatDoor
