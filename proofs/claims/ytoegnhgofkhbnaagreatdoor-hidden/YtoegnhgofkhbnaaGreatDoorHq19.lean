import Derived.Test.YtoegnhgofkhbnaaGreatDoorHq18
import Derived.Test.YtoegnhgofkhbnaaGreatDoorHq17
set_option maxRecDepth 100000
set_option maxHeartbeats 8000000
set_option linter.all false
namespace Go.Proofs.YtoegnhgofkhbnaaGreatDoor
open Go.Proofs.Tryz
open Go.Value renaming int->A7,slice->A8,pointer->A9,string->Aa,tuple->Ab,agg->Ac,iface->Ae
open Go.Obj renaming cells->Af
open Go.Ending renaming returned->Ag
open Go.IntKind renaming i64->Ah
open Option renaming some->Aj,none->Ak
open Go renaming World->Al,Value->Am,Calls->An
open Go.Proofs.Tryz renaming prog->Ao
variable{b fuel k last n p q size wi:Nat}{V W w:Al}{s:AQ}{rd:Nat->Except (Int×Int) (DataW Unit×Nat)}{bs:A2}{depth fm l lim:Int}{c:UInt8}{nm:UInt8->Nat->A6 Int}{d:A3}{P:Program}{ops:Array Oper}{Q:Exit->Act->Al->Prop}{md:Region.Mode}{S:Al->Prop}{listed:Array Bool}{a:Act}{o:Oper}{f:FuncId}{r:Ending}{F:Nat->Prop}{v:Am}{xs:List Am}
section
open Go.RowKit
def Ph{α:Type}(W:Al)(b:Nat)(s:AQ)(val:Al->Am->α->Prop)(r:A6 α)(e:Ending)(W':Al):Prop :=
 AE b W W'/\match r with
 |.ok (x,p)=>(∃v,e=Ag v/\val W' v x)/\Az W' b {s with pos:=p}
 |.error (en,pl)=>B7 en pl e
theorem gj(c:b<W.heap.size):Pg b s (Ht k W b s) (λV=>AE b W V) :=
 ⟨λ_ _ _ _ _ h=>h.src,λ_ _ _ _ _ _ _ _ h d a e=>h.step c d a (by have:=h.len;omega),λ_ _ _ _ _ h=>h.box,λ_ _ _ _ _ h=>h.but,λ_ _ h a=>h.trans a⟩
theorem gm(c:b<W.heap.size):Pg b s (DE k W b s) (λV=>AE b W V) :=
 ⟨λ_ _ _ _ _ h=>h.src,λ_ _ _ _ _ _ _ _ h e a d=>h.go c e a d,λ_ _ _ _ _ h=>h.box,λ_ _ _ _ _ h=>h.but,λ_ _ h a=>h.trans a⟩
theorem Wp(c:∀p d q,rd p=.ok (d,q)->p<q):∀a p b q,Cv rd a p=.ok (b,q)->p<q:=λa p b q h=>by
 unfold Cv at h;split at h
 ·cases h
 next d r hr =>
 injection h with h;injection h with h1 h2;have:=c _ _ _ hr;omega
theorem RY(c:∀p d q,rd p=.ok (d,q)->p<q):∀a p b q,C0 bs lim rd a p=.ok (b,q)->p<q:=λa p b q h=>by
 unfold C0 at h;split at h
 ·cases h
 next l p1 h1 =>
 split at h
 ·cases h
 next u2 p2 h2 =>
 split at h
 ·cases h
 next u3 p3 h3 =>
 split at h
 ·cases h
 next u4 p4 h4 =>
 split at h
 ·cases h
 next d p5 h5 =>
 injection h with h;injection h with h6 h7;have:=Wn h1;have:=FQ _ _ _ _ _ _ h2;have:=KW _ _ _ _ _ _ h3;have:=FQ _ _ _ _ _ _ h4;have:=c _ _ _ h5;omega
theorem gn(k:Nat)(h:Az W b s):Ht k W b s (W.heap.size+2) s.within s.pos [] (((W.alloc (Af #[A9 (Aj ⟨b,0,Ak⟩)] 207)).alloc (Af #[A8 Ak 0 0] 218)).alloc (Af #[A9 (Aj ⟨b,0,Ak⟩)] 207)):=by
 have a:A1 W (((W.alloc (Af #[A9 (Aj ⟨b,0,Ak⟩)] 207)).alloc (Af #[A8 Ak 0 0] 218)).alloc (Af #[A9 (Aj ⟨b,0,Ak⟩)] 207)):=((AH).alloc (by simp) _).alloc (by simp;omega) _;refine⟨h.below a,AE.of_below a,?_,?_,AB _,⟨Ak,0,0,[],?_,FK _ _ _ _,by simp[Value.ownBlock],λi x d c=>by simp at c⟩,by simp,Cy _⟩
 ·exact(AL _ _ _ (by simp;omega)).trans ((AL _ _ _ (by simp)).trans (Ay W _))
 ·have:=Ay ((W.alloc (Af #[A9 (Aj ⟨b,0,Ak⟩)] 207)).alloc (Af #[A8 Ak 0 0] 218)) (Af #[A9 (Aj ⟨b,0,Ak⟩)] 207);rw[AM,AM]at this;exact this
 refine(AL _ _ _ (by simp)).trans ?_;have:=Ay (W.alloc (Af #[A9 (Aj ⟨b,0,Ak⟩)] 207)) (Af #[A8 Ak 0 0] 218);rw[AM]at this;exact this
theorem gq(k:Nat)(h:Az W b s):DE k W b s (W.heap.size+4) s.within s.pos ([],[]) (((((W.alloc (Af #[A9 (Aj ⟨b,0,Ak⟩)] 207)).alloc (Af #[A8 Ak 0 0] 220)).alloc (.map #[] 0)).alloc (Af #[.map (Aj (W.heap.size+2))] 345)).alloc (Af #[A9 (Aj ⟨b,0,Ak⟩)] 207)):=by
 have e:A1 W (((((W.alloc (Af #[A9 (Aj ⟨b,0,Ak⟩)] 207)).alloc (Af #[A8 Ak 0 0] 220)).alloc (.map #[] 0)).alloc (Af #[.map (Aj (W.heap.size+2))] 345)).alloc (Af #[A9 (Aj ⟨b,0,Ak⟩)] 207)):=((((AH).alloc (by simp) _).alloc (by simp;omega) _).alloc (by simp;omega) _).alloc (by simp;omega) _;generalize hA:W.alloc (Af #[A9 (Aj ⟨b,0,Ak⟩)] 207)=A at *;have c:A.heap.size=W.heap.size+1:=by rw[<-hA];simp
 have f:A.heap[W.heap.size]?=Aj (Af #[A9 (Aj ⟨b,0,Ak⟩)] 207):=by rw[<-hA];exact Ay W _
 generalize hC:A.alloc (Af #[A8 Ak 0 0] 220)=C at *;have a:C.heap.size=W.heap.size+2:=by rw[<-hC];simp[c]
 have g:C.heap[W.heap.size]?=Aj (Af #[A9 (Aj ⟨b,0,Ak⟩)] 207):=by rw[<-hC];exact(AL _ _ _ (by omega)).trans f
 have j:C.heap[W.heap.size+1]?=Aj (Af #[A8 Ak 0 0] 220):=by rw[<-hC,<-c];exact Ay A _
 have m:Ek (C.alloc (.map #[] 0)) (W.heap.size+2) []:=⟨.map [],by rw[<-a];exact QG C Ao 9 (unitElem (H:=Unit)),λl=>by simp[Maps.has]⟩
 refine⟨h.below e,AE.of_below e,?_,?_,?_,?_,AB _,⟨Ak,0,0,[],?_,FK _ _ _ _,by simp[Value.ownBlock],λi x d n=>by simp at n⟩,by simp;omega,⟨Cy _,Cy _⟩⟩
 ·exact(AL _ _ _ (by simp;omega)).trans ((AL _ _ _ (by simp;omega)).trans ((AL _ _ _ (by omega)).trans g))
 ·refine(AL _ _ _ (by simp;omega)).trans ?_;have:=Ay (C.alloc (.map #[] 0)) (Af #[.map (Aj (W.heap.size+2))] 345);rw[AM,a]at this;exact this
 ·exact(m.but (b:=W.heap.size) (by omega) (AE.of_below AH)).but (b:=W.heap.size) (by omega) (AE.of_below AH)
 ·have:=Ay ((C.alloc (.map #[] 0)).alloc (Af #[.map (Aj (W.heap.size+2))] 345)) (Af #[A9 (Aj ⟨b,0,Ak⟩)] 207);rw[AM,AM,a]at this;exact this
 exact(AL _ _ _ (by simp;omega)).trans ((AL _ _ _ (by simp;omega)).trans ((AL _ _ _ (by omega)).trans j))
theorem gt(k:Nat)(W:Al)(b:Nat)(s:AQ)(f:Nat->Except (Int×Int) (DataW Unit×Nat))(h:Az W b s)(Y:KV k b {s with within:=s.within+1} W f)(C:∀p d q,f p=.ok (d,q)->p<q)(U:s.bs.length<=200000000)(u:¬(s.within:Int)=s.depth)(Z:s.within<=100000):An Ao 232 #[Ac #[A9 (Aj ⟨b,0,Ak⟩)]] W (Ph W b s (λV v m=>(∃a n c,v=A8 a n c)/\AJ (k+1) V (λj=>W.heap.size<=j/\j<V.heap.size) (Ae 218 v) (.agg m)) (BW s.bs s.lim (Cv f) 93 s.pos [])):=by
 have S:=At h.row;have O:A1 W ((W.alloc (Af #[A9 (Aj ⟨b,0,Ak⟩)] 207)).alloc (Af #[A8 Ak 0 0] 218)):=(AH).alloc (by simp) _;have o:=gc ((W.alloc (Af #[A9 (Aj ⟨b,0,Ak⟩)] 207)).alloc (Af #[A8 Ak 0 0] 218)) b (W.heap.size+1) W.heap.size s (Cv f) [] (Ht k W b s) (λV=>AE b W V) (gj S) (h.below O) u Z (by simp only[AM,A1];exact gn k h) (λN p m V R=>ge k W b s (s.within+1) f h Y C U N p m V R) (Wp C);have ab:∀(A:Fn) (first r:A4) (w:Al),(Instr.makeFunc A first r).run Ao w=.ok (.func A first r) w:=λ_ _ _ _=>rfl;have kr:((W.alloc (Af #[A9 (Aj ⟨b,0,Ak⟩)] 207)).alloc (Af #[A8 Ak 0 0] 218)).cell? ⟨W.heap.size,0,Ak⟩=Aj (A9 (Aj ⟨b,0,Ak⟩)):=Ar ((AL _ _ _ (by simp)).trans (Ay W _)) 0
 cases D:BW s.bs s.lim (Cv f) 93 s.pos []with
 |error K =>
  obtain⟨J,pl⟩:=K;rw[D]at o;go_enter func232,ntmps232
  go_wp2_with(first
   |(go_at_call 241;refine o.mono ?_;rintro e y hF;obtain⟨hF,P⟩:=(show B7 J pl e/\AE b W y from hF);obtain rfl:=hF))
  exact⟨rfl,P,rfl⟩
 |ok I =>
  obtain⟨m,q⟩:=I;rw[D]at o;go_enter func232,ntmps232
  go_wp2_with(first
   |(go_at_call 241;refine o.mono ?_;rintro e y hF;obtain⟨rfl,t⟩:=(show e=Ag (Ab #[])/\Ht k W b s _ s.within q m y from hF);obtain⟨a,ad,c,xs,Q,X,ac,i⟩:=t.own;have kl:=Ar Q 0;have z:=Ap X;have G:=Ap i;have E:=Ap t.but;have F:=Ap t.src))
  go_ret;refine⟨E,⟨_,rfl,⟨_,_,_,rfl⟩,?_⟩,F⟩;unfold AJ;refine⟨_,xs,rfl,⟨z.1,?_⟩,λx aa d l u=>(G x aa d l u).same (λj T=>⟨by omega,T.2.1⟩) (λ_ _=>rfl)⟩;rcases z.2 with L|⟨g,r,H,e,hb,B,M⟩
  ·exact .inl L
  exact .inr ⟨g,r,H,e,⟨by omega,(At B)⟩,B,M⟩
theorem gu(k:Nat)(W:Al)(b:Nat)(s:AQ)(f:Nat->Except (Int×Int) (DataW Unit×Nat))(h:Az W b s)(Y:KV k b {s with within:=s.within+1} W f)(z:∀p d q,f p=.ok (d,q)->p<q)(U:s.bs.length<=200000000)(P:∀V,AE b W V->U8 V)(K:7<b)(S:¬(s.within:Int)=s.depth)(Z:s.within<=100000):An Ao 233 #[Ac #[A9 (Aj ⟨b,0,Ak⟩)]] W (Ph W b s (λV v i=>(∃a n c,v=A8 a n c)/\AJ (k+1) V (λj=>W.heap.size<=j/\j<V.heap.size) (Ae 220 v) (.map i.2)) (BW s.bs s.lim (C0 s.bs s.lim f) 125 s.pos ([],[]))):=by
 have R:=At h.row;have ab:∀V:Al,(Instr.makeMap 345 Ak).run Ao V=.ok (.map (Aj V.heap.size)) (V.alloc (.map #[] 0)):=λV=>by kernel_rfl
 have L:A1 W ((((W.alloc (Af #[A9 (Aj ⟨b,0,Ak⟩)] 207)).alloc (Af #[A8 Ak 0 0] 220)).alloc (.map #[] 0)).alloc (Af #[.map (Aj (W.heap.size+2))] 345)):=(((AH).alloc (by simp) _).alloc (by simp;omega) _).alloc (by simp;omega) _;have m:=gd ((((W.alloc (Af #[A9 (Aj ⟨b,0,Ak⟩)] 207)).alloc (Af #[A8 Ak 0 0] 220)).alloc (.map #[] 0)).alloc (Af #[.map (Aj (W.heap.size+2))] 345)) b (W.heap.size+1) W.heap.size (W.heap.size+3) s (C0 s.bs s.lim f) ([],[]) (DE k W b s) (λV=>AE b W V) (gm R) (h.below L) S Z (by simp only[AM,A1];exact gq k h) (λN p i V Q=>gi k W b s (s.within+1) f h Y z U P K N p i V Q) (RY z);have aa:∀(x:Fn) (first o:A4) (w:Al),(Instr.makeFunc x first o).run Ao w=.ok (.func x first o) w:=λ_ _ _ _=>rfl;have kr:((((W.alloc (Af #[A9 (Aj ⟨b,0,Ak⟩)] 207)).alloc (Af #[A8 Ak 0 0] 220)).alloc (.map #[] 0)).alloc (Af #[.map (Aj (W.heap.size+2))] 345)).cell? ⟨W.heap.size,0,Ak⟩=Aj (A9 (Aj ⟨b,0,Ak⟩)):=Ar ((AL _ _ _ (by simp;omega)).trans ((AL _ _ _ (by simp;omega)).trans ((AL _ _ _ (by simp)).trans (Ay W _)))) 0
 cases A:BW s.bs s.lim (C0 s.bs s.lim f) 125 s.pos ([],[])with
 |error H =>
  obtain⟨G,pl⟩:=H;rw[A]at m;go_enter func233,ntmps233
  go_wp2_with(first
   |(go_at_call 241;refine m.mono ?_;rintro e t hF;obtain⟨hF,M⟩:=(show B7 G pl e/\AE b W t from hF);obtain rfl:=hF))
  exact⟨rfl,M,rfl⟩
 |ok F =>
  obtain⟨i,q⟩:=F;rw[A]at m;go_enter func233,ntmps233
  go_wp2_with(first
   |(go_at_call 241;refine m.mono ?_;rintro e t hF;obtain⟨rfl,r⟩:=(show e=Ag (Ab #[])/\DE k W b s _ s.within q i t from hF);obtain⟨a,ad,c,xs,O,X,ac,l⟩:=r.own;have kl:=Ar O 0;have u:=Ap X;have D:=Ap l;have B:=Ap r.but;have C:=Ap r.src))
  go_ret;refine⟨B,⟨_,rfl,⟨_,_,_,rfl⟩,?_⟩,C⟩;unfold AJ;refine⟨_,xs,rfl,⟨u.1,?_⟩,D.same (λj T=>⟨by omega,T.2.1⟩) (λ_ _=>rfl)⟩;rcases u.2 with I|⟨g,o,E,e,hb,y,J⟩
  ·exact .inl I
  exact .inr ⟨g,o,E,e,⟨by omega,(At y)⟩,y,J⟩
theorem Wq(W:Al)(b:Nat)(s:AQ)(last:Int)(f:Fn)(g cs:A4)(h:Az W b s)(j:(s.within:Int)=s.depth):An Ao 241 #[Ac #[A9 (Aj ⟨b,0,Ak⟩)],A7 .u8 last,.func f g cs] W λe c=>B7 11 ((s.pos:Int)-1) e/\AE b W c:=by
 have a:=Ap (Eu h);have d:=fX _ b s a.src j;have k:=Ar a.box 0;go_enter func241,ntmps241;go_wp2;go_step3
 go_wp2_with(first
  |(go_at_call 221;refine d.mono ?_;rintro e l ⟨hF,i,_⟩;obtain rfl:=hF))
 exact⟨rfl,rfl,a.but.trans i⟩
theorem gv(W:Al)(b:Nat)(s:AQ)(h:Az W b s)(l:(s.within:Int)=s.depth):An Ao 232 #[Ac #[A9 (Aj ⟨b,0,Ak⟩)]] W λe g=>B7 11 ((s.pos:Int)-1) e/\AE b W g:=by
 have d:A1 W ((W.alloc (Af #[A9 (Aj ⟨b,0,Ak⟩)] 207)).alloc (Af #[A8 Ak 0 0] 218)):=(AH).alloc (by simp) _;have f:Hid (AE b W ((W.alloc (Af #[A9 (Aj ⟨b,0,Ak⟩)] 207)).alloc (Af #[A8 Ak 0 0] 218))):=AE.of_below d;have n:∀V:Al,(Instr.makeMap 345 Ak).run Ao V=.ok (.map (Aj V.heap.size)) (V.alloc (.map #[] 0)):=λV=>by kernel_rfl
 have i:=λlast a j cs=>Wq _ b s last a j cs (h.below d) l;have m:∀(a:Fn) (first c:A4) (w:Al),(Instr.makeFunc a first c).run Ao w=.ok (.func a first c) w:=λ_ _ _ _=>rfl;have o:((W.alloc (Af #[A9 (Aj ⟨b,0,Ak⟩)] 207)).alloc (Af #[A8 Ak 0 0] 218)).cell? ⟨W.heap.size,0,Ak⟩=Aj (A9 (Aj ⟨b,0,Ak⟩)):=Ar ((AL _ _ _ (by simp)).trans (Ay W _)) 0;go_enter func232,ntmps232
 go_wp2_with(first
  |(go_at_call 241;refine(i _ _ _ _).mono ?_;rintro e p ⟨hF,k⟩;obtain rfl:=hF))
 exact⟨rfl,rfl,f.trans k⟩
theorem gx(W:Al)(b:Nat)(s:AQ)(h:Az W b s)(l:(s.within:Int)=s.depth):An Ao 233 #[Ac #[A9 (Aj ⟨b,0,Ak⟩)]] W λe g=>B7 11 ((s.pos:Int)-1) e/\AE b W g:=by
 have d:A1 W ((((W.alloc (Af #[A9 (Aj ⟨b,0,Ak⟩)] 207)).alloc (Af #[A8 Ak 0 0] 220)).alloc (.map #[] 0)).alloc (Af #[.map (Aj (W.heap.size+2))] 345)):=(((AH).alloc (by simp) _).alloc (by simp;omega) _).alloc (by simp;omega) _;have f:Hid (AE b W ((((W.alloc (Af #[A9 (Aj ⟨b,0,Ak⟩)] 207)).alloc (Af #[A8 Ak 0 0] 220)).alloc (.map #[] 0)).alloc (Af #[.map (Aj (W.heap.size+2))] 345))):=AE.of_below d;have n:∀V:Al,(Instr.makeMap 345 Ak).run Ao V=.ok (.map (Aj V.heap.size)) (V.alloc (.map #[] 0)):=λV=>by kernel_rfl
 have i:=λlast a j cs=>Wq _ b s last a j cs (h.below d) l;have m:∀(a:Fn) (first c:A4) (w:Al),(Instr.makeFunc a first c).run Ao w=.ok (.func a first c) w:=λ_ _ _ _=>rfl;have o:((((W.alloc (Af #[A9 (Aj ⟨b,0,Ak⟩)] 207)).alloc (Af #[A8 Ak 0 0] 220)).alloc (.map #[] 0)).alloc (Af #[.map (Aj (W.heap.size+2))] 345)).cell? ⟨W.heap.size,0,Ak⟩=Aj (A9 (Aj ⟨b,0,Ak⟩)):=Ar ((AL _ _ _ (by simp;omega)).trans ((AL _ _ _ (by simp;omega)).trans ((AL _ _ _ (by simp)).trans (Ay W _)))) 0;go_enter func233,ntmps233
 go_wp2_with(first
  |(go_at_call 241;refine(i _ _ _ _).mono ?_;rintro e p ⟨hF,k⟩;obtain rfl:=hF))
 exact⟨rfl,rfl,f.trans k⟩
theorem RZ{most:Nat}{z:Bool}:∀{g p num:Nat} {x q:Nat},Cd bs lim most z g p num=.ok (x,q)->p<=q
 |0,p,num,x,q,h=>by
  unfold Cd at h;cases h;exact AB _
 |g+1,p,num,x,q,h=>by
  unfold Cd at h;split at h
  ·cases h;exact AB _
  split at h
  ·cases h
  split at h
  ·split at h
   ·cases h
   split at h
   ·cases h
   have:=RZ h;omega
  split at h
  ·cases h
  cases h;exact AB _
theorem Wr{z:Int}(a:c.toNat=45\/Cm c=true)(h:Ci s c=.ok (z,q)):(-9223372036854775808<=z/\z<=9223372036854775807)/\s.pos<=q:=by
 unfold Ci at h;split at h
 ·split at h
  ·cases h
  split at h
  ·cases h
  split at h
  ·next c' _ _ b =>
   have d:=By b;split at h
   ·next x p hx =>
    injection h with h;injection h with h1 h2;have:=Nj (by omega) (by decide) hx;have:=RZ hx;exact⟨by omega,by omega⟩
   cases h
  cases h
 next hn =>
 have b:Cm c=true:=by
  rcases a with a|a
  ·exact absurd a hn
  exact a
 have d:=By b;split at h
 ·next x p hx =>
  injection h with h;injection h with h1 h2;have:=Nj (by omega) (by decide) hx;have:=RZ hx;exact⟨by omega,by omega⟩
 cases h
theorem gy(g:Nat)(W:Al)(b:Nat)(s:AQ)(c:UInt8)(h:Az W b s)(w:E5 s c)(A:c.toNat=110):An Ao 228 #[Ac #[A9 (Aj ⟨b,0,Ak⟩)]] W (Ig (g+1) W b s (match Ba s.bs s.lim [117,108,108] (s.pos+1)with|.error e=>.error e|.ok (_,q)=>.ok (.nil,q))):=by
 have d:=Ap (Eu h);have r:=d.cell;have o:=E6 _ b s c d.src w;have J:=At h.row;have D:((c.toNat:Int)==110)=true:=by rw[A];rfl
 have E:=AI (c:=c) 116 (by omega);have F:=AI (c:=c) 102 (by omega);have G:=AI (c:=c) 34 (by omega);have H:=AI (c:=c) 91 (by omega);have I:=AI (c:=c) 123 (by omega);have f:∀V,Az V b s.next->AE b W V->An Ao 230 #[Ac #[A9 (Aj ⟨b,0,Ak⟩)],Aa ⟨#[117,108,108]⟩] V (DD V b s.next (λ_:Unit=>Ab #[]) (Ba s.bs s.lim [117,108,108] (s.pos+1))):=λV z _=>Ma V b s.next [117,108,108] (by simp) z
 cases p:Ba s.bs s.lim [117,108,108] (s.pos+1)with
 |error v =>
  obtain⟨u,B⟩:=v;rw[p]at f;simp only[];go_enter func228,ntmps228
  go_wp2_with(first
   |(go_at_call 226;refine o.mono ?_;rintro e n ⟨rfl,m,j⟩;have a:=Ap (d.step m j);have r:=a.cell;have i:=f n a.src a.but)
   |(go_at_call 230;refine i.mono ?_;rintro e t ⟨k,l⟩;obtain rfl:=(show B7 u B e from l)))
  exact⟨rfl,a.but.trans k,rfl⟩
 |ok C =>
  obtain⟨x,q⟩:=C;rw[p]at f;simp only[];go_enter func228,ntmps228
  go_wp2_with(first
   |(go_at_call 226;refine o.mono ?_;rintro e n ⟨rfl,m,j⟩;have a:=Ap (d.step m j);have r:=a.cell;have i:=f n a.src a.but)
   |(go_at_call 230;refine i.mono ?_;rintro e t ⟨k,l⟩;obtain⟨rfl,y⟩:=(show e=Ag (Ab #[])/\Az t b {s with pos:=q}from l)))
  go_ret;exact⟨a.but.trans k,⟨_,_,rfl,rfl⟩,y⟩
theorem gz(g:Nat)(W:Al)(b:Nat)(s:AQ)(c:UInt8)(h:Az W b s)(w:E5 s c)(A:c.toNat=116):An Ao 228 #[Ac #[A9 (Aj ⟨b,0,Ak⟩)]] W (Ig (g+1) W b s (match Ba s.bs s.lim [114,117,101] (s.pos+1)with|.error e=>.error e|.ok (_,q)=>.ok (.lit (.bool true),q))):=by
 have d:=Ap (Eu h);have r:=d.cell;have o:=E6 _ b s c d.src w;have J:=At h.row;have D:=AI (c:=c) 110 (by omega);have E:((c.toNat:Int)==116)=true:=by rw[A];rfl
 have F:=AI (c:=c) 102 (by omega);have G:=AI (c:=c) 34 (by omega);have H:=AI (c:=c) 91 (by omega);have I:=AI (c:=c) 123 (by omega);have f:∀V,Az V b s.next->AE b W V->An Ao 230 #[Ac #[A9 (Aj ⟨b,0,Ak⟩)],Aa ⟨#[114,117,101]⟩] V (DD V b s.next (λ_:Unit=>Ab #[]) (Ba s.bs s.lim [114,117,101] (s.pos+1))):=λV z _=>Ma V b s.next [114,117,101] (by simp) z
 cases p:Ba s.bs s.lim [114,117,101] (s.pos+1)with
 |error v =>
  obtain⟨u,B⟩:=v;rw[p]at f;simp only[];go_enter func228,ntmps228
  go_wp2_with(first
   |(go_at_call 226;refine o.mono ?_;rintro e n ⟨rfl,m,j⟩;have a:=Ap (d.step m j);have r:=a.cell;have i:=f n a.src a.but)
   |(go_at_call 230;refine i.mono ?_;rintro e t ⟨k,l⟩;obtain rfl:=(show B7 u B e from l)))
  exact⟨rfl,a.but.trans k,rfl⟩
 |ok C =>
  obtain⟨x,q⟩:=C;rw[p]at f;simp only[];go_enter func228,ntmps228
  go_wp2_with(first
   |(go_at_call 226;refine o.mono ?_;rintro e n ⟨rfl,m,j⟩;have a:=Ap (d.step m j);have r:=a.cell;have i:=f n a.src a.but)
   |(go_at_call 230;refine i.mono ?_;rintro e t ⟨k,l⟩;obtain⟨rfl,y⟩:=(show e=Ag (Ab #[])/\Az t b {s with pos:=q}from l)))
  go_ret;exact⟨a.but.trans k,⟨_,_,rfl,rfl⟩,y⟩
theorem gA(g:Nat)(W:Al)(b:Nat)(s:AQ)(c:UInt8)(h:Az W b s)(w:E5 s c)(A:c.toNat=102):An Ao 228 #[Ac #[A9 (Aj ⟨b,0,Ak⟩)]] W (Ig (g+1) W b s (match Ba s.bs s.lim [97,108,115,101] (s.pos+1)with|.error e=>.error e|.ok (_,q)=>.ok (.lit (.bool false),q))):=by
 have d:=Ap (Eu h);have r:=d.cell;have o:=E6 _ b s c d.src w;have J:=At h.row;have D:=AI (c:=c) 110 (by omega);have E:=AI (c:=c) 116 (by omega);have F:((c.toNat:Int)==102)=true:=by rw[A];rfl
 have G:=AI (c:=c) 34 (by omega);have H:=AI (c:=c) 91 (by omega);have I:=AI (c:=c) 123 (by omega);have f:∀V,Az V b s.next->AE b W V->An Ao 230 #[Ac #[A9 (Aj ⟨b,0,Ak⟩)],Aa ⟨#[97,108,115,101]⟩] V (DD V b s.next (λ_:Unit=>Ab #[]) (Ba s.bs s.lim [97,108,115,101] (s.pos+1))):=λV z _=>Ma V b s.next [97,108,115,101] (by simp) z
 cases p:Ba s.bs s.lim [97,108,115,101] (s.pos+1)with
 |error v =>
  obtain⟨u,B⟩:=v;rw[p]at f;simp only[];go_enter func228,ntmps228
  go_wp2_with(first
   |(go_at_call 226;refine o.mono ?_;rintro e n ⟨rfl,m,j⟩;have a:=Ap (d.step m j);have r:=a.cell;have i:=f n a.src a.but)
   |(go_at_call 230;refine i.mono ?_;rintro e t ⟨k,l⟩;obtain rfl:=(show B7 u B e from l)))
  exact⟨rfl,a.but.trans k,rfl⟩
 |ok C =>
  obtain⟨x,q⟩:=C;rw[p]at f;simp only[];go_enter func228,ntmps228
  go_wp2_with(first
   |(go_at_call 226;refine o.mono ?_;rintro e n ⟨rfl,m,j⟩;have a:=Ap (d.step m j);have r:=a.cell;have i:=f n a.src a.but)
   |(go_at_call 230;refine i.mono ?_;rintro e t ⟨k,l⟩;obtain⟨rfl,y⟩:=(show e=Ag (Ab #[])/\Az t b {s with pos:=q}from l)))
  go_ret;exact⟨a.but.trans k,⟨_,_,rfl,rfl⟩,y⟩
theorem gC(g:Nat)(W:Al)(b:Nat)(s:AQ)(c:UInt8)(h:Az W b s)(y:E5 s c)(E:c.toNat=34)(F:s.bs.length<=200000000)(C:∀V,AE b W V->U8 V)(z:7<b):An Ao 228 #[Ac #[A9 (Aj ⟨b,0,Ak⟩)]] W (Ig (g+1) W b s (match Bn s.bs s.lim (s.bs.length+1-(s.pos+1)) (s.pos+1) [] 0 with|.error e=>.error e|.ok (x,q)=>.ok (.lit (.string x),q))):=by
 have d:=Ap (Eu h);have t:=d.cell;have p:=E6 _ b s c d.src y;have O:=At h.row;have I:=AI (c:=c) 110 (by omega);have J:=AI (c:=c) 116 (by omega);have K:=AI (c:=c) 102 (by omega);have L:((c.toNat:Int)==34)=true:=by rw[E];rfl
 have M:=AI (c:=c) 91 (by omega);have N:=AI (c:=c) 123 (by omega);have f:∀V,Az V b s.next->AE b W V->An Ao 231 #[Ac #[A9 (Aj ⟨b,0,Ak⟩)]] V (DD V b s.next (λl:A2=>Aa ⟨l.toArray⟩) (Bn s.bs s.lim (s.bs.length+1-(s.pos+1)) (s.pos+1) [] 0)):=λV D A=>Wf V b s.next D (C V A) z F
 cases r:Bn s.bs s.lim (s.bs.length+1-(s.pos+1)) (s.pos+1) [] 0 with
 |error w =>
  obtain⟨v,G⟩:=w;rw[r]at f;simp only[];go_enter func228,ntmps228
  go_wp2_with(first
   |(go_at_call 226;refine p.mono ?_;rintro e o ⟨rfl,n,j⟩;have a:=Ap (d.step n j);have t:=a.cell;have i:=f o a.src a.but)
   |(go_at_call 231;refine i.mono ?_;rintro e u ⟨k,m⟩;obtain rfl:=(show B7 v G e from m)))
  exact⟨rfl,a.but.trans k,rfl⟩
 |ok H =>
  obtain⟨x,q⟩:=H;rw[r]at f;simp only[];go_enter func228,ntmps228
  go_wp2_with(first
   |(go_at_call 226;refine p.mono ?_;rintro e o ⟨rfl,n,j⟩;have a:=Ap (d.step n j);have t:=a.cell;have i:=f o a.src a.but)
   |(go_at_call 231;refine i.mono ?_;rintro e u ⟨k,m⟩;obtain⟨rfl,B⟩:=(show e=Ag (Aa ⟨x.toArray⟩)/\Az u b {s with pos:=q}from m)))
  go_ret;exact⟨a.but.trans k,⟨_,_,rfl,rfl⟩,B⟩
theorem gD(g:Nat)(W:Al)(b:Nat)(s:AQ)(c:UInt8)(h:Az W b s)(t:E5 s c)(N:c.toNat=91)(i:Nat->Except (Int×Int) (DataW Unit×Nat))(R:KV g b {s with within:=s.within+1} W i)(P:∀p d q,i p=.ok (d,q)->p<q)(Q:s.bs.length<=200000000)(O:¬(s.within:Int)=s.depth)(S:s.within<=100000):An Ao 228 #[Ac #[A9 (Aj ⟨b,0,Ak⟩)]] W (Ig (g+1) W b s (match BW s.bs s.lim (Cv i) 93 (s.pos+1) []with|.error e=>.error e|.ok (x,q)=>.ok (.agg x,q))):=by
 have k:=Ap (Eu h);have E:=k.cell;have B:=E6 _ b s c k.src t;have aa:=At h.row;have e1:=AI (c:=c) 110 (by omega);have e2:=AI (c:=c) 116 (by omega);have e3:=AI (c:=c) 102 (by omega);have e4:=AI (c:=c) 34 (by omega);have e5:((c.toNat:Int)==91)=true:=by rw[N];rfl
 have e6:=AI (c:=c) 123 (by omega);have l:∀V,Az V b s.next->AE b W V->An Ao 232 #[Ac #[A9 (Aj ⟨b,0,Ak⟩)]] V (Ph V b s.next (λA v x=>(∃a n c,v=A8 a n c)/\AJ (g+1) A (λj=>V.heap.size<=j/\j<A.heap.size) (Ae 218 v) (.agg x)) (BW s.bs s.lim (Cv i) 93 (s.pos+1) [])):=λV M J=>gt g V b s.next i M (λU p t I=>R U p t (J.trans I)) P Q O S
 cases D:BW s.bs s.lim (Cv i) 93 (s.pos+1) []with
 |error H =>
  obtain⟨G,T⟩:=H;rw[D]at l;simp only[];go_enter func228,ntmps228
  go_wp2_with(first
   |(go_at_call 226;refine B.mono ?_;rintro e m ⟨rfl,z,u⟩;have f:=Ap (k.step z u);have E:=f.cell;have r:=l m f.src f.but)
   |(go_at_call 232;refine r.mono ?_;rintro e o ⟨w,y⟩;obtain rfl:=(show B7 G T e from y)))
  exact⟨rfl,f.but.trans w,rfl⟩
 |ok X =>
  obtain⟨x,q⟩:=X;rw[D]at l;simp only[];go_enter func228,ntmps228
  go_wp2_with(first
   |(go_at_call 226;refine B.mono ?_;rintro e m ⟨rfl,z,u⟩;have f:=Ap (k.step z u);have E:=f.cell;have r:=l m f.src f.but)
   |(go_at_call 232;refine r.mono ?_;rintro e o ⟨w,y⟩;obtain⟨⟨v4,rfl,⟨Y,n4,Z,rfl⟩,K⟩,L⟩:=(show(∃v,e=Ag v/\(∃a n c,v=A8 a n c)/\AJ (g+1) o (λj=>m.heap.size<=j/\j<o.heap.size) (Ae 218 v) (.agg x))/\Az o b {s with pos:=q}from y);have F:=Ap K))
  go_ret;exact⟨f.but.trans w,⟨_,_,rfl,F.same (λj C=>⟨AW f.but.size C.1,C.2⟩) (λ_ _=>rfl)⟩,L⟩
theorem gE(W:Al)(b:Nat)(s:AQ)(c:UInt8)(h:Az W b s)(k:E5 s c)(q:c.toNat=91)(r:(s.within:Int)=s.depth):An Ao 228 #[Ac #[A9 (Aj ⟨b,0,Ak⟩)]] W λe f=>AE b W f/\B7 11 s.pos e:=by
 have d:=Ap (Eu h);have t:=d.cell;have j:=E6 _ b s c d.src k;have v:=AI (c:=c) 110 (by omega);have w:=AI (c:=c) 116 (by omega);have x:=AI (c:=c) 102 (by omega);have y:=AI (c:=c) 34 (by omega);have z:((c.toNat:Int)==91)=true:=by rw[q];rfl
 have A:=AI (c:=c) 123 (by omega);have g:∀V,Az V b s.next->An Ao 232 #[Ac #[A9 (Aj ⟨b,0,Ak⟩)]] V λe f=>B7 11 s.pos e/\AE b V f:=λV p=>by
  have:=gv V b s.next p r
  rwa[show((s.next.pos:Int)-1)=s.pos by show(((s.pos+1:Nat)):Int)-1=s.pos;omega]at this
 go_enter func228,ntmps228
 go_wp2_with(first
  |(go_at_call 226;refine j.mono ?_;rintro e u ⟨rfl,o,l⟩;have a:=Ap (d.step o l);have t:=a.cell;have i:=g u a.src)
  |(go_at_call 232;refine i.mono ?_;rintro e B ⟨n,m⟩;obtain rfl:=n))
 exact⟨rfl,a.but.trans m,rfl⟩
theorem gG(g:Nat)(W:Al)(b:Nat)(s:AQ)(c:UInt8)(h:Az W b s)(t:E5 s c)(Q:c.toNat=123)(i:Nat->Except (Int×Int) (DataW Unit×Nat))(Y:KV g b {s with within:=s.within+1} W i)(S:∀p d q,i p=.ok (d,q)->p<q)(T:s.bs.length<=200000000)(N:∀V,AE b W V->U8 V)(K:7<b)(R:¬(s.within:Int)=s.depth)(Z:s.within<=100000):An Ao 228 #[Ac #[A9 (Aj ⟨b,0,Ak⟩)]] W (Ig (g+1) W b s (match BW s.bs s.lim (C0 s.bs s.lim i) 125 (s.pos+1) ([],[])with|.error e=>.error e|.ok (x,q)=>.ok (.map x.2,q))):=by
 have k:=Ap (Eu h);have F:=k.cell;have B:=E6 _ b s c k.src t;have aa:=At h.row;have e1:=AI (c:=c) 110 (by omega);have e2:=AI (c:=c) 116 (by omega);have e3:=AI (c:=c) 102 (by omega);have e4:=AI (c:=c) 34 (by omega);have e5:=AI (c:=c) 91 (by omega);have e6:((c.toNat:Int)==123)=true:=by rw[Q];rfl
 have l:∀V,Az V b s.next->AE b W V->An Ao 233 #[Ac #[A9 (Aj ⟨b,0,Ak⟩)]] V (Ph V b s.next (λA v x=>(∃a n c,v=A8 a n c)/\AJ (g+1) A (λj=>V.heap.size<=j/\j<A.heap.size) (Ae 220 v) (.map x.2)) (BW s.bs s.lim (C0 s.bs s.lim i) 125 (s.pos+1) ([],[]))):=λV O C=>gu g V b s.next i O (λU p t J=>Y U p t (C.trans J)) S T (λX P=>N X (C.trans P)) K R Z
 cases E:BW s.bs s.lim (C0 s.bs s.lim i) 125 (s.pos+1) ([],[])with
 |error I =>
  obtain⟨H,pl⟩:=I;rw[E]at l;simp only[];go_enter func228,ntmps228
  go_wp2_with(first
   |(go_at_call 226;refine B.mono ?_;rintro e m ⟨rfl,z,u⟩;have f:=Ap (k.step z u);have F:=f.cell;have r:=l m f.src f.but)
   |(go_at_call 233;refine r.mono ?_;rintro e o ⟨w,y⟩;obtain rfl:=(show B7 H pl e from y)))
  exact⟨rfl,f.but.trans w,rfl⟩
 |ok xq =>
  obtain⟨x,q⟩:=xq;rw[E]at l;simp only[];go_enter func228,ntmps228
  go_wp2_with(first
   |(go_at_call 226;refine B.mono ?_;rintro e m ⟨rfl,z,u⟩;have f:=Ap (k.step z u);have F:=f.cell;have r:=l m f.src f.but)
   |(go_at_call 233;refine r.mono ?_;rintro e o ⟨w,y⟩;obtain⟨⟨v4,rfl,⟨a4,n4,c4,rfl⟩,L⟩,M⟩:=(show(∃v,e=Ag v/\(∃a n c,v=A8 a n c)/\AJ (g+1) o (λj=>m.heap.size<=j/\j<o.heap.size) (Ae 220 v) (.map x.2))/\Az o b {s with pos:=q}from y);have G:=Ap L))
  go_ret;exact⟨f.but.trans w,⟨_,_,rfl,G.same (λj D=>⟨AW f.but.size D.1,D.2⟩) (λ_ _=>rfl)⟩,M⟩
theorem gH(W:Al)(b:Nat)(s:AQ)(c:UInt8)(h:Az W b s)(k:E5 s c)(q:c.toNat=123)(r:(s.within:Int)=s.depth):An Ao 228 #[Ac #[A9 (Aj ⟨b,0,Ak⟩)]] W λe f=>AE b W f/\B7 11 s.pos e:=by
 have d:=Ap (Eu h);have t:=d.cell;have j:=E6 _ b s c d.src k;have v:=AI (c:=c) 110 (by omega);have w:=AI (c:=c) 116 (by omega);have x:=AI (c:=c) 102 (by omega);have y:=AI (c:=c) 34 (by omega);have z:=AI (c:=c) 91 (by omega);have A:((c.toNat:Int)==123)=true:=by rw[q];rfl
 have g:∀V,Az V b s.next->An Ao 233 #[Ac #[A9 (Aj ⟨b,0,Ak⟩)]] V λe f=>B7 11 s.pos e/\AE b V f:=λV p=>by
  have:=gx V b s.next p r
  rwa[show((s.next.pos:Int)-1)=s.pos by show(((s.pos+1:Nat)):Int)-1=s.pos;omega]at this
 go_enter func228,ntmps228
 go_wp2_with(first
  |(go_at_call 226;refine j.mono ?_;rintro e u ⟨rfl,o,l⟩;have a:=Ap (d.step o l);have t:=a.cell;have i:=g u a.src)
  |(go_at_call 233;refine i.mono ?_;rintro e B ⟨n,m⟩;obtain rfl:=n))
 exact⟨rfl,a.but.trans m,rfl⟩
theorem gI(W:Al)(b:Nat)(s:AQ)(c:UInt8)(h:Az W b s)(k:E5 s c)(q:¬(c.toNat=110\/c.toNat=116\/c.toNat=102\/c.toNat=34\/c.toNat=91\/c.toNat=123\/c.toNat=45\/Cm c=true)):An Ao 228 #[Ac #[A9 (Aj ⟨b,0,Ak⟩)]] W λe f=>AE b W f/\B7 9 s.pos e:=by
 have d:=Ap (Eu h);have r:=d.cell;have j:=E6 _ b s c d.src k;have u:=AI (c:=c) 110 (by omega);have v:=AI (c:=c) 116 (by omega);have w:=AI (c:=c) 102 (by omega);have x:=AI (c:=c) 34 (by omega);have y:=AI (c:=c) 91 (by omega);have z:=AI (c:=c) 123 (by omega);have A:=AI (c:=c) 45 (by omega);have o:decide (48<=(c.toNat:Int)/\(c.toNat:Int)<=57)=false:=by
  have:Cm c=false:=by cases p:Cm c with|false=>rfl|true=>exact absurd (.inr (.inr (.inr (.inr (.inr (.inr (.inr p))))))) q
  exact this
 have g:∀V,Az V b s.next->An Ao 227 #[A9 (Aj ⟨b,0,Ak⟩),A7 Ah 9] V λe f=>B7 9 s.pos e/\f=V:=λV n=>by
  have:=Fd V b s.next 9 n
  rwa[show((s.next.pos:Int)-1)=s.pos by show(((s.pos+1:Nat)):Int)-1=s.pos;omega]at this
 go_enter func228,ntmps228
 go_wp2_with(first
  |(go_at_call 226;refine j.mono ?_;rintro e t ⟨rfl,m,l⟩;have a:=Ap (d.step m l);have r:=a.cell;have i:=g t a.src)
  |(go_at_call 234;refine(K8 c _).mono ?_;rintro e B ⟨rfl,rfl⟩;rw[o])
  |(go_at_call 227;refine i.mono ?_;rintro e C ⟨hF,rfl⟩;obtain rfl:=hF))
 exact⟨rfl,a.but,rfl⟩
theorem Ws(W:Al)(b:Nat)(s:AQ)(d:Int)(h:Az W b s)(g:∀V,Az V b s->An Ao 226 #[A9 (Aj ⟨b,0,Ak⟩)] V λe c=>B7 d s.pos e/\A1 V c):An Ao 228 #[Ac #[A9 (Aj ⟨b,0,Ak⟩)]] W λe c=>AE b W c/\B7 d s.pos e:=by
 have a:=Ap (Eu h);have j:=a.cell;have f:=g _ a.src;go_enter func228,ntmps228
 go_wp2_with(first
  |(go_at_call 226;refine f.mono ?_;rintro e k ⟨hF,i⟩;obtain rfl:=hF))
 exact⟨rfl,a.but.trans (AE.of_below i),rfl⟩
theorem S2{α:Type}{itF:α->Nat->A6 α}(c:∀a p b q,itF a p=.ok (b,q)->p<q):∀(g p:Nat) (a b:α) (q:Nat),C8 bs lim itF last g p a=.ok (b,q)->p<q
 |0,p,a,b,q,h=>by rw[C8]at h;cases h
 |g+1,p,a,b,q,h=>by
  rw[C8]at h;split at h
  ·cases h
  next u1 p1 h1 =>
  split at h
  ·cases h
  next a2 p2 h2 =>
  split at h
  ·cases h
  next u3 p3 h3 =>
  have:=FQ _ _ _ _ _ _ h1;have:=c _ _ _ _ h2;have:=FQ _ _ _ _ _ _ h3;split at h
  ·cases h
  split at h
  ·cases h
  split at h
  ·injection h with h;injection h with h4 h5;omega
  split at h
  ·have:=S2 c g (p3+1) a2 b q h;omega
  cases h
theorem Wt{α:Type}{itF:α->Nat->A6 α}(b:∀a p a' q,itF a p=.ok (a',q)->p<q){a a':α}(h:BW bs lim itF last p a=.ok (a',q)):p<q:=by
 unfold BW at h;split at h
 ·cases h
 next u1 p1 h1 =>
 have:=FQ _ _ _ _ _ _ h1;split at h
 ·have:=S2 b _ _ _ _ _ h;omega
 split at h
 ·cases h
 split at h
 ·injection h with h;injection h with h4 h5;omega
 have:=S2 b _ _ _ _ _ h;omega
theorem gJ(a:∀p d q,rd p=.ok (d,q)->p<q)(b:∀z q,(c.toNat=45\/Cm c=true)->nm c p=.ok (z,q)->p<=q)(h:FA bs lim depth wi rd nm c p=.ok (d,q)):p<=q:=by
 unfold FA at h;split at h
 ·split at h
  ·cases h
  next u r hr =>
  injection h with h;injection h with h1 h2;have:=KW _ _ _ _ _ _ hr;omega
 split at h
 ·split at h
  ·cases h
  next u r hr =>
  injection h with h;injection h with h1 h2;have:=KW _ _ _ _ _ _ hr;omega
 split at h
 ·split at h
  ·cases h
  next u r hr =>
  injection h with h;injection h with h1 h2;have:=KW _ _ _ _ _ _ hr;omega
 split at h
 ·split at h
  ·cases h
  next l r hr =>
  injection h with h;injection h with h1 h2;have:=Me _ _ _ _ _ _ _ _ hr;omega
 split at h
 ·split at h
  ·cases h
  split at h
  ·cases h
  next l r hr =>
  injection h with h;injection h with h1 h2;have:=Wt (Wp a) hr;omega
 split at h
 ·split at h
  ·cases h
  split at h
  ·cases h
  next l r hr =>
  injection h with h;injection h with h1 h2;have:=Wt (RY a) hr;omega
 split at h
 ·next hc =>
  split at h
  ·cases h
  next z r hr =>
  injection h with h;injection h with h1 h2;have:=b z r hc hr;omega
 cases h
def Ez(s:AQ)(c:UInt8)(p:Nat):A6 Int:=Ci {s with pos:=p} c
theorem Nx(s:AQ):∀(g a p:Nat) (d:A3) (q:Nat),BX s.bs s.lim s.depth (Ez s) g a p=.ok (d,q)->p<q
 |0,_,_,_,_,h=>by rw[BX]at h;cases h
 |g+1,a,p,d,q,h=>by
  rw[BX]at h;split at h
  ·cases h
  split at h
  ·cases h
  have:=gJ (p:=p+1) (nm:=Ez s) (Nx s g (a+1)) (λz q b c=>(Wr (s:={s with pos:=p+1}) b c).2) h;omega
theorem Wu:∀(g:Nat) (W:Al) (b:Nat) (s:AQ),Az W b s->s.bs.length<=200000000->(∀V,AE b W V->U8 V)->7<b->s.depth<=100000->(s.within:Int)<=s.depth->s.depth<s.within+g ->
  An Ao 228 #[Ac #[A9 (Aj ⟨b,0,Ak⟩)]] W (Ig g W b s (BX s.bs s.lim s.depth (Ez s) g s.within s.pos))
 |0,W,b,s,_,_,_,_,_,d,h2=>by omega
 |g+1,W,b,s,h,hlen,hU,h7,hdp,hwd,hgd=>by
  have x:¬(s.within:Int)=s.depth->KV g b {s with within:=s.within+1} W (BX s.bs s.lim s.depth (Ez s) g (s.within+1)):=λD U p t r =>
   Wu g U b {s with pos:=p,within:=s.within+1} t hlen (λX A=>hU X (r.trans A)) h7 hdp (by show((s.within+1:Nat):Int)<=s.depth;omega) (by show s.depth<((s.within+1:Nat):Int)+g;omega)
  rcases Ji h with d|d|⟨c,d⟩
  ·have e:BX s.bs s.lim s.depth (Ez s) (g+1) s.within s.pos=.error (9,(s.pos:Int)):=by
    rw[BX,DI (by have:s.pos=s.bs.length:=d;omega)]
   rw[e];exact Ws W b s 9 h (λV u=>K6 V b s u d)
  ·have e:BX s.bs s.lim s.depth (Ez s) (g+1) s.within s.pos=.error (8,(s.pos:Int)):=by
    rw[BX,AY d.1];simp only[];rw[As d.2]
   rw[e];exact Ws W b s 8 h (λV u=>K7 V b s u d)
  have e:BX s.bs s.lim s.depth (Ez s) (g+1) s.within s.pos=FA s.bs s.lim s.depth s.within (BX s.bs s.lim s.depth (Ez s) g (s.within+1)) (Ez s) c (s.pos+1):=by
   rw[BX,d.1];simp only[];rw[Aq d.2]
  rw[e];have v:(((s.pos+1:Nat)):Int)-1=s.pos:=by omega
  unfold FA;by_cases m:c.toNat=110
  ·rw[As m];refine(gy g W b s c h d m).mono λe w a=>?_;cases f:Ba s.bs s.lim [117,108,108] (s.pos+1)<;>(rw[f]at a;exact a)
  rw[Aq m];by_cases c2:c.toNat=116
  ·rw[As c2];refine(gz g W b s c h d c2).mono λe w a=>?_;cases f:Ba s.bs s.lim [114,117,101] (s.pos+1)<;>(rw[f]at a;exact a)
  rw[Aq c2];by_cases n:c.toNat=102
  ·rw[As n];refine(gA g W b s c h d n).mono λe w a=>?_;cases f:Ba s.bs s.lim [97,108,115,101] (s.pos+1)<;>(rw[f]at a;exact a)
  rw[Aq n];by_cases o:c.toNat=34
  ·rw[As o];refine(gC g W b s c h d o hlen hU h7).mono λe w a=>?_;cases f:Bn s.bs s.lim (s.bs.length+1-(s.pos+1)) (s.pos+1) [] 0<;>(rw[f]at a;exact a)
  rw[Aq o];by_cases j:c.toNat=91
  ·rw[As j];by_cases i:(s.within:Int)=s.depth
   ·rw[As i,v];exact gE W b s c h d j i
   rw[Aq i];refine(gD g W b s c h d j _ (x i) (Nx s g (s.within+1)) hlen i (by omega)).mono λe w a=>?_;cases f:BW s.bs s.lim (Cv (BX s.bs s.lim s.depth (Ez s) g (s.within+1))) 93 (s.pos+1) []<;>(rw[f]at a;exact a)
  rw[Aq j];by_cases k:c.toNat=123
  ·rw[As k];by_cases i:(s.within:Int)=s.depth
   ·rw[As i,v];exact gH W b s c h d k i
   rw[Aq i];refine(gG g W b s c h d k _ (x i) (Nx s g (s.within+1)) hlen hU h7 i (by omega)).mono λe w a=>?_;cases f:BW s.bs s.lim (C0 s.bs s.lim (BX s.bs s.lim s.depth (Ez s) g (s.within+1))) 125 (s.pos+1) ([],[])<;>(rw[f]at a;exact a)
  rw[Aq k];by_cases l:c.toNat=45\/Cm c=true
  ·rw[As l];refine(bw W b s c h d l).mono λe w a=>?_;have y:Ez s c (s.pos+1)=Ci s.next c:=rfl
   rw[y]
   cases f:Ci s.next c with
   |error C =>
    rw[f]at a;exact a
   |ok B =>
    obtain⟨z,q⟩:=B;rw[f]at a;obtain⟨r,rfl,t⟩:=a;exact⟨r,⟨_,_,rfl,rfl,(Wr l f).1⟩,t⟩
  rw[Aq l,v];exact gI W b s c h d (by
   rintro(a|a|a|a|a|a|a)
   ·exact m a
   ·exact c2 a
   ·exact n a
   ·exact o a
   ·exact j a
   ·exact k a
   exact l a)
def Gu(sp:Nat->A6 Unit)(th:Nat->Except (Int×Int) (DataW Unit×Nat))(bs:A2)(lim:Int):Except (Int×Int) (DataW Unit) :=
 match sp 0 with
 |.error e=>.error e
 |.ok (_,p0)=>match th p0 with
  |.error e=>.error e
  |.ok (d,p1)=>match sp p1 with
   |.error e=>.error e
   |.ok (_,p2)=>match G2 ⟨Ak,bs,0,0,lim,p2,0⟩with
    |.error e=>.error e
    |.ok _=>.ok d
def IP(k:Nat)(W:Al)(r:Except (Int×Int) (DataW Unit))(e:Ending)(W':Al):Prop :=
 A1 W W'/\match r with
 |.ok d=>∃t y,e=Ag (Ae t y)/\AJ k W' (λj=>W.heap.size<=j/\j<W'.heap.size) (Ae t y) d
 |.error (en,pl)=>B7 en pl e
theorem gK(k:Nat)(W:Al)(fm:Int)(c:A5)(bs:A2)(f:Nat)(d l:Int)(h:Dv W c bs)(x:Nat->A6 Unit)(G:Nat->Except (Int×Int) (DataW Unit×Nat))(cR:∀V,Dv V c bs->An Ao 81 #[A7 Ah fm,Ac #[A7 Ah d,A7 Ah l],A8 c bs.length f] V λe X=>∃b,e=Ag (Ae 207 (Ac #[A9 (Aj ⟨b,0,Ak⟩)]))/\Az X b ⟨c,bs,f,d,l,0,0⟩/\V.heap.size<=b/\A1 V X)(Y:∀(b:Nat) (V:Al) (p:Nat),W.heap.size<=b->Az V b ⟨c,bs,f,d,l,p,0⟩->An Ao 229 #[Ac #[A9 (Aj ⟨b,0,Ak⟩)]] V (DD V b ⟨c,bs,f,d,l,p,0⟩ (λ_:Unit=>Ab #[]) (x p)))(cT:∀(b:Nat) (V:Al) (p:Nat),W.heap.size<=b->A1 W V->Az V b ⟨c,bs,f,d,l,p,0⟩->An Ao 228 #[Ac #[A9 (Aj ⟨b,0,Ak⟩)]] V (Ig k V b ⟨c,bs,f,d,l,p,0⟩ (G p))):An Ao 51 #[A7 Ah fm,Ac #[A7 Ah d,A7 Ah l],A8 c bs.length f] W (IP k W (Gu x G bs l)):=by
 have ab:A1 W (W.alloc (Af #[A7 Ah d,A7 Ah l] 79)):=AH;have P:=Ap ab;have cN:=cR (W.alloc (Af #[A7 Ah d,A7 Ah l] 79)) (h.below ab);obtain⟨R,U⟩:∃R,Hid (Gu x G bs l=R):=⟨_,show _=_ from rfl⟩
 rw[U.out];have a:=U.out;unfold Gu at a;go_enter func51,ntmps51
 go_wp2_with(first
  |(go_at_call 81;refine cN.mono ?_;rintro e w2 ⟨b,rfl,hS,ap,J⟩))
 have Q:=Ap (P.trans (J.mono P.size));have g:W.heap.size<=b:=by simp only[AM,A1]at ap;omega
 have C:=Y b w2 0 g hS;have af:=λ(V:Al) (p:Nat) M=>Y b V p g M;have ag:=λ(V:Al) (p:Nat) (J:A1 W V) M=>cT b V p g J M;refine OX (y:=(229,Ac #[A9 (Aj ⟨b,0,Ak⟩)])) (w:=w2) (by kernel_rfl) ?_
 go_wp2_with fail
 cases Z:x 0 with
 |error q =>
  obtain⟨o,r⟩:=q;rw[Z]at a C;simp only[]at a;subst a;refine C.mono ?_;rintro e A ⟨K,hF⟩;obtain rfl:=(show B7 o r e from hF)
  go_wp2;exact⟨rfl,Ka Q K g,rfl⟩
 |ok z =>
  obtain⟨u0,N⟩:=z;rw[Z]at a C;simp only[]at a;refine C.mono ?_;rintro e A ⟨K,ai⟩;obtain⟨rfl,aa⟩:=(show e=Ag (Ab #[])/\Az A b ⟨c,bs,f,d,l,N,0⟩from ai)
  have I:=Ap (Ka Q K g);have E:=ag A N I aa;have aq:=Ap (At aa.row)
  go_wp2_with fail
  refine OX (y:=(228,Ac #[A9 (Aj ⟨b,0,Ak⟩)])) (w:=A) (by kernel_rfl) ?_
  go_wp2_with fail
  cases h2:G N with
  |error q =>
   obtain⟨o,r⟩:=q;rw[h2]at a E;simp only[]at a;subst a;refine E.mono ?_;rintro e m ⟨L,hF⟩;obtain rfl:=(show B7 o r e from hF)
   go_wp2;exact⟨rfl,Ka I L g,rfl⟩
  |ok dq =>
   obtain⟨F,O⟩:=dq;rw[h2]at a E;simp only[]at a;refine E.mono ?_;rintro e m ⟨L,aj⟩;obtain⟨⟨t,y,rfl,ah⟩,am⟩:=(show(∃t y,e=Ag (Ae t y)/\AJ k m (λj=>A.heap.size<=j/\j<m.heap.size) (Ae t y) F)/\Az m b ⟨c,bs,f,d,l,O,0⟩from aj)
   have S:=Ap (Ka I L g);have ao:=aq.out;have HD:Hid (AJ k m (λj=>b<j/\j<m.heap.size) (Ae t y) F):=ah.same (λj i=>⟨Br ao i.1,i.2⟩) (λ_ _=>rfl);have D:=af m O am
   go_wp2_with fail
   refine OX (y:=(229,Ac #[A9 (Aj ⟨b,0,Ak⟩)])) (w:=m) (by kernel_rfl) ?_
   go_wp2_with fail
   cases h3:x O with
   |error q =>
    obtain⟨o,r⟩:=q;rw[h3]at a D;simp only[]at a;subst a;refine D.mono ?_;rintro e n ⟨s,hF⟩;obtain rfl:=(show B7 o r e from hF)
    go_wp2;exact⟨rfl,Ka S s g,rfl⟩
   |ok z =>
    obtain⟨u2,v⟩:=z;rw[h3]at a D;simp only[]at a;refine D.mono ?_;rintro e n ⟨s,ak⟩;obtain⟨rfl,an⟩:=(show e=Ag (Ab #[])/\Az n b ⟨c,bs,f,d,l,v,0⟩from ak)
    have T:=Ap (Ka S s g);have ad:Hid (AJ k n (λj=>b<j/\j<n.heap.size) (Ae t y) F):=HD.same (λj i=>⟨i.1,Br i.2 s.size⟩) (λj i=>s.block j i.2 (by omega));have B:An Ao 222 #[A9 (Aj ⟨b,0,Ak⟩)] n (DD n b ⟨c,bs,f,d,l,v,0⟩ (λ_:Unit=>Ab #[]) (G2 ⟨Ak,bs,0,0,l,v,0⟩)):=bu n b ⟨c,bs,f,d,l,v,0⟩ an
    go_wp2_with fail
    refine OX (y:=(222,A9 (Aj ⟨b,0,Ak⟩))) (w:=n) (by kernel_rfl) ?_
    go_wp2_with fail
    cases h4:G2 ⟨Ak,bs,0,0,l,v,0⟩with
    |error q =>
     obtain⟨o,r⟩:=q;rw[h4]at a B;simp only[]at a;subst a;refine B.mono ?_;rintro e H ⟨u,hF⟩;obtain rfl:=(show B7 o r e from hF)
     go_wp2;exact⟨rfl,Ka T u g,rfl⟩
    |ok z =>
     obtain⟨u4,p4⟩:=z;rw[h4]at a B;simp only[]at a;subst a;refine B.mono ?_;rintro e H ⟨u,al⟩;obtain⟨rfl,ar⟩:=(show e=Ag (Ab #[])/\Az H b ⟨c,bs,f,d,l,p4,0⟩from al)
     have ae:Hid (AJ k H (λj=>W.heap.size<=j/\j<H.heap.size) (Ae t y) F):=ad.same (λj i=>⟨by omega,Br i.2 u.size⟩) (λj i=>u.block j i.2 (by omega));have ac:=Ap (Ka T u g);go_wp2;go_ret;exact⟨ac,_,_,rfl,ae⟩
structure Jr(W:World):Prop where
 u8:U8 W
 hd:GP W
 big:9<=W.heap.size
theorem U8.but(h:U8 W)(e:AE b W V)(j:7<b)(k:9<=W.heap.size):U8 V:=by
 have a:∀(q off:Nat) (v:Am),q<=7->W.cell? ⟨q,off,Ak⟩=Aj v->V.cell? ⟨q,off,Ak⟩=Aj v:=λq off v l g=>(GF (w:=W) (e.block q (by omega) (by omega))).trans g;exact⟨λc f=>a _ _ _ (by decide) (h.1 c f),λi d=>⟨a _ _ _ (by decide) (h.2 i d).1,a _ _ _ (by decide) (h.2 i d).2⟩⟩
theorem Jr.below(h:Jr W)(a:A1 W V):Jr V:=⟨h.u8.below a,h.hd.below a,AW h.big a.size⟩
def KX(fm:Int)(bs:A2)(lim:Int)(p:Nat):A6 Unit:=if fm=1 then Bk bs lim (bs.length+1-p) p else .ok ((),p)
def GU(fm:Int)(bs:A2)(d lim:Int)(p:Nat):Except (Int×Int) (DataW Unit×Nat) :=
 if fm=1 then BX bs lim d (λc p=>Ci ⟨Ak,bs,0,0,lim,p,0⟩ c) (d.toNat+1) 0 p else if fm=2 then Mc bC bs lim d (d.toNat+1) 0 p else Mc bD bs lim d (d.toNat+1) 0 p
def BB(fm:Int)(bs:A2)(d lim:Int):Except (Int×Int) (DataW Unit):=Gu (KX fm bs lim) (GU fm bs d lim) bs lim
def CM{α:Type}(r:Except (Int×Int) α):Prop:=∀en pl,r=.error (en,pl)->en≠0
theorem Li(bs:A2)(lim:Int):∀(k p:Nat),CM (Bk bs lim k p)
 |0,p,en,pl,h=>by rw[Bk]at h;cases h
 |k+1,p,en,pl,h=>by
  rw[Bk]at h;split at h
  ·cases h
  split at h
  ·injection h with h;injection h with h1 h2;omega
  split at h
  ·exact Li bs lim k _ en pl h
  cases h
theorem JK(bs:A2)(lim:Int):∀(l:A2) (p:Nat),CM (Ba bs lim l p)
 |[],p,en,pl,h=>by rw[Ba]at h;cases h
 |x::xs,p,en,pl,h=>by
  rw[Ba]at h;split at h
  ·injection h with h;injection h with h1 h2;omega
  split at h
  ·injection h with h;injection h with h1 h2;omega
  split at h
  ·exact JK bs lim xs _ en pl h
  injection h with h;injection h with h1 h2;omega
theorem NX(bs:A2)(lim:Int):∀(k p a:Nat),CM (Ce bs lim k p a)
 |0,p,a,en,pl,h=>by rw[Ce]at h;cases h
 |k+1,p,a,en,pl,h=>by
  rw[Ce]at h;split at h
  ·injection h with h;injection h with h1 h2;omega
  split at h
  ·injection h with h;injection h with h1 h2;omega
  split at h
  ·injection h with h;injection h with h1 h2;omega
  exact NX bs lim k _ _ en pl h
theorem ox(bs:A2)(lim:Int)(p:Nat):CM (Ey bs lim p):=λa b h=>by
 unfold Ey at h;split at h
 ·next e he=>injection h with h;subst h;exact NX _ _ _ _ _ a b he
 split at h
 ·injection h with h;injection h with h1 h2;omega
 split at h
 ·split at h
  ·next e he=>injection h with h;subst h;exact JK _ _ _ _ a b he
  split at h
  ·next e he=>injection h with h;subst h;exact NX _ _ _ _ _ a b he
  split at h
  ·cases h
  injection h with h;injection h with h1 h2;omega
 cases h
theorem Tb(bs:A2)(lim:Int)(p:Nat):CM (Eb bs lim p):=λa b h=>by
 unfold Eb at h;split at h
 ·injection h with h;injection h with h1 h2;omega
 split at h
 ·injection h with h;injection h with h1 h2;omega
 repeat' split at h
 all_goals first|(injection h with h;injection h with h1 h2;omega)|exact ox _ _ _ a b h|cases h
theorem NY(bs:A2)(lim:Int):∀(g p:Nat) (a:A2) (b:Nat),CM (Bn bs lim g p a b)
 |0,p,a,b,en,pl,h=>by rw[Bn]at h;injection h with h;injection h with h1 h2;omega
 |g+1,p,a,b,en,pl,h=>by
  rw[Bn]at h;split at h
  ·injection h with h;injection h with h1 h2;omega
  split at h
  ·injection h with h;injection h with h1 h2;omega
  split at h
  ·cases h
  split at h
  ·split at h
   ·next e he=>injection h with h;subst h;exact Tb _ _ _ en pl he
   exact NY bs lim g _ _ _ en pl h
  split at h
  ·injection h with h;injection h with h1 h2;omega
  split at h
  ·injection h with h;injection h with h1 h2;omega
  exact NY bs lim g _ _ _ en pl h
theorem Tc(bs:A2)(lim:Int)(b:Nat)(z:Bool):∀(g p a:Nat),CM (Cd bs lim b z g p a)
 |0,p,a,en,pl,h=>by unfold Cd at h;cases h
 |g+1,p,a,en,pl,h=>by
  unfold Cd at h;split at h
  ·cases h
  split at h
  ·injection h with h;injection h with h1 h2;omega
  split at h
  ·split at h
   ·injection h with h;injection h with h1 h2;omega
   split at h
   ·injection h with h;injection h with h1 h2;omega
   exact Tc bs lim b z g _ _ en pl h
  split at h
  ·injection h with h;injection h with h1 h2;omega
  cases h
theorem Yx(s:AQ)(c:UInt8):CM (Ci s c):=λa b h=>by
 unfold Ci at h;split at h
 ·split at h
  ·injection h with h;injection h with h1 h2;omega
  split at h
  ·injection h with h;injection h with h1 h2;omega
  split at h
  ·split at h
   ·cases h
   next e he=>injection h with h;subst h;exact Tc _ _ _ _ _ _ _ a b he
  injection h with h;injection h with h1 h2;omega
 split at h
 ·cases h
 next e he=>injection h with h;subst h;exact Tc _ _ _ _ _ _ _ a b he
theorem Td{α:Type}{itF:α->Nat->A6 α}(b:∀a p,CM (itF a p)):∀(g p:Nat) (a:α),CM (C8 bs lim itF last g p a)
 |0,p,a,en,pl,h=>by rw[C8]at h;injection h with h;injection h with h1 h2;omega
 |g+1,p,a,en,pl,h=>by
  rw[C8]at h;split at h
  ·next e he=>injection h with h;subst h;exact Li _ _ _ _ en pl he
  split at h
  ·next e he=>injection h with h;subst h;exact b _ _ en pl he
  split at h
  ·next e he=>injection h with h;subst h;exact Li _ _ _ _ en pl he
  split at h
  ·injection h with h;injection h with h1 h2;omega
  split at h
  ·injection h with h;injection h with h1 h2;omega
  split at h
  ·cases h
  split at h
  ·exact Td b g _ _ en pl h
  injection h with h;injection h with h1 h2;omega
theorem Yy{α:Type}{itF:α->Nat->A6 α}(d:∀a p,CM (itF a p))(p:Nat)(a:α):CM (BW bs lim itF last p a):=λb c h=>by
 unfold BW at h;split at h
 ·next e he=>injection h with h;subst h;exact Li _ _ _ _ b c he
 split at h
 ·exact Td d _ _ _ b c h
 split at h
 ·injection h with h;injection h with h1 h2;omega
 split at h
 ·cases h
 exact Td d _ _ _ b c h
theorem oy(c:∀p,CM (rd p))(a:List (DataW Unit))(p:Nat):CM (Cv rd a p):=λb d h=>by
 unfold Cv at h;split at h
 ·next e he=>injection h with h;subst h;exact c _ b d he
 cases h
theorem oz(bs:A2)(lim:Int)(ks:List A2)(p:Nat):CM (El bs lim ks p):=λa b h=>by
 unfold El at h;split at h
 ·next e he=>injection h with h;subst h;exact JK _ _ _ _ a b he
 split at h
 ·next e he=>injection h with h;subst h;exact NY _ _ _ _ _ _ a b he
 split at h
 ·injection h with h;injection h with h1 h2;omega
 cases h
theorem Yz(d:∀p,CM (rd p))(a:List A2×List (Lit×DataW Unit))(p:Nat):CM (C0 bs lim rd a p):=λb c h=>by
 unfold C0 at h;split at h
 ·next e he=>injection h with h;subst h;exact oz _ _ _ _ b c he
 split at h
 ·next e he=>injection h with h;subst h;exact Li _ _ _ _ b c he
 split at h
 ·next e he=>injection h with h;subst h;exact JK _ _ _ _ b c he
 split at h
 ·next e he=>injection h with h;subst h;exact Li _ _ _ _ b c he
 split at h
 ·next e he=>injection h with h;subst h;exact d _ b c he
 cases h
theorem oA(d:¬(wi:Int)=depth->∀p,CM (rd p))(f:∀c p,CM (nm c p)):CM (FA bs lim depth wi rd nm c p):=λa b h=>by
 unfold FA at h;split at h
 ·split at h
  ·next e he=>injection h with h;subst h;exact JK _ _ _ _ a b he
  cases h
 split at h
 ·split at h
  ·next e he=>injection h with h;subst h;exact JK _ _ _ _ a b he
  cases h
 split at h
 ·split at h
  ·next e he=>injection h with h;subst h;exact JK _ _ _ _ a b he
  cases h
 split at h
 ·split at h
  ·next e he=>injection h with h;subst h;exact NY _ _ _ _ _ _ a b he
  cases h
 split at h
 ·split at h
  ·injection h with h;injection h with h1 h2;omega
  next hn =>
  split at h
  ·next e he=>injection h with h;subst h;exact Yy (oy (d hn)) _ _ a b he
  cases h
 split at h
 ·split at h
  ·injection h with h;injection h with h1 h2;omega
  next hn =>
  split at h
  ·next e he=>injection h with h;subst h;exact Yy (Yz (d hn)) _ _ a b he
  cases h
 split at h
 ·split at h
  ·next e he=>injection h with h;subst h;exact f _ _ a b he
  cases h
 injection h with h;injection h with h1 h2;omega
theorem Te(bs:A2)(lim b:Int)(nm:UInt8->Nat->A6 Int)(d:∀c p,CM (nm c p)):∀(g a p:Nat),(a:Int)<=b->b<a+g->CM (BX bs lim b nm g a p)
 |0,a,p,h1,h2,_,_,_=>by omega
 |g+1,a,p,h1,h2,en,pl,h=>by
  rw[BX]at h;split at h
  ·injection h with h;injection h with h3 h4;omega
  split at h
  ·injection h with h;injection h with h3 h4;omega
  exact oA (λe q=>Te bs lim b nm d g (a+1) q (by omega) (by omega)) d en pl h
theorem qP{K':Act->Al->Prop}(e:Shut (∀a w,S w->(S w->wpAnyH P md ops Q S fuel listed a w)->K' a w))(m:Region.wanted o (yielded ops a.tmps)=true)(c:TypeId)(x y:Operand)(k:o.op=.store c x y)(i:o.dst=Ak)(g:Nat)(b:A4)(n:a.eval x=A9 (Aj ⟨g,0,Ak⟩))(p:a.eval y=.agg b)(t:TypeId)(old:A4)(j:w.heap[g]?=Aj (Af old t (0,0)))(hi:(P.info? c).map (·.size)=Aj b.size)(l:old.size=b.size)(d:b.all (·.oneCell')=true)(f:S (w.setRow g b))(h:wpAnyH P md ops Q S fuel listed a (w.setRow g b)):if Region.wanted o (yielded ops a.tmps)=true then Oper.wp P o a w K' Q else K' (a.put o.dst undef) w:=by
 rw[As m];refine IB c x y k g b n p t old j hi l d ?_;rw[i];exact e _ _ f (λ_=>h)
theorem TN(i:Nat)(n:Region.ready md ops listed=[i])(hi:ops[i]?=Aj o)(p:Region.wanted o (yielded ops a.tmps)=true)(c:TypeId)(x y:Operand)(l:o.op=.store c x y)(j:o.dst=Ak)(g:Nat)(b:A4)(q:a.eval x=A9 (Aj ⟨g,0,Ak⟩))(r:a.eval y=.agg b)(t:TypeId)(old:A4)(k:w.heap[g]?=Aj (Af old t (0,0)))(s:(P.info? c).map (·.size)=Aj b.size)(m:old.size=b.size)(d:b.all (·.oneCell')=true)(f:S (w.setRow g b))(h:wpAnyH P md ops Q S fuel (listed.setIfInBounds i true) a (w.setRow g b)):wpAnyH P md ops Q S (fuel+1) listed a w :=
 N9 n (by simp) (LF hi (λ_ e=>qP e p c x y l j g b q r t old k s m d f h) N6)
theorem sF(i x y g:Nat)(F:Int×Int)(n:(Region.ready md ops listed,ops[i]?.map λo=>(Region.wanted o (yielded ops a.tmps),o.op,o.dst),a.eval (.tmp x),a.eval (.tmp y))=([i],Aj (true,.store 64 (.tmp x) (.tmp y),Ak),A9 (Aj ⟨g,0,Ak⟩),.agg (Aw F)))(m:w.heap[g]?=Aj (Af (Aw (0,0)) 64))(l:S (w.setRow g (Aw F)))(h:wpAnyH Ao md ops Q S fuel (listed.setIfInBounds i true) a (w.setRow g (Aw F))):wpAnyH Ao md ops Q S (fuel+1) listed a w:=by
 obtain⟨f,b⟩:=Eh n;obtain⟨b,c⟩:=Eh b;obtain⟨c,j⟩:=Eh c;obtain⟨o,p,d⟩:=MP.1 b;obtain⟨d,e⟩:=Eh d;obtain⟨e,k⟩:=Eh e;exact TN i f p d _ _ _ e k g _ c j _ _ m (Hd _) rfl (Kt _) l h
theorem I1(i x y g:Nat)(T:A4)(p:(Region.ready md ops listed,ops[i]?.map λo=>(Region.wanted o (yielded ops a.tmps),o.op,o.dst),a.eval (.tmp x),a.eval (.tmp y))=([i],Aj (true,.store 62 (.tmp x) (.tmp y),Ak),A9 (Aj ⟨g,0,Ak⟩),.agg T))(n:w.heap[g]?=Aj (Af AR 62))(f:Qf T)(m:S (w.setRow g T))(h:wpAnyH Ao md ops Q S fuel (listed.setIfInBounds i true) a (w.setRow g T)):wpAnyH Ao md ops Q S (fuel+1) listed a w:=by
 obtain⟨j,b⟩:=Eh p;obtain⟨b,c⟩:=Eh b;obtain⟨c,k⟩:=Eh c;obtain⟨o,q,d⟩:=MP.1 b;obtain⟨d,e⟩:=Eh d;obtain⟨e,l⟩:=Eh e;exact TN i j q d _ _ _ e l g _ c k _ _ n (by rw[f.1];exact Lo) (by rw[f.1];rfl) f.2 m h
theorem zF{rest:List Oper}(x y:Nat)(c:o.guard=Ak)(d:o.op=.store 64 (.tmp x) (.tmp y))(g:Nat)(F:Int×Int)(b:a.eval (.tmp x)=A9 (Aj ⟨g,0,Ak⟩)/\a.eval (.tmp y)=.agg (Aw F)/\w.heap[g]?=Aj (Af (Aw (0,0)) 64))(h:wpList Ao ops Q rest (a.put o.dst undef) (w.setRow g (Aw F))):wpList Ao ops Q (o::rest) a w:=Dd x y c d g F b.1 b.2.1 b.2.2 h
theorem zT{rest:List Oper}(x y:Nat)(c:o.guard=Ak)(d:o.op=.store 62 (.tmp x) (.tmp y))(g:Nat)(T:A4)(b:a.eval (.tmp x)=A9 (Aj ⟨g,0,Ak⟩)/\a.eval (.tmp y)=.agg T/\w.heap[g]?=Aj (Af AR 62)/\Qf T)(h:wpList Ao ops Q rest (a.put o.dst undef) (w.setRow g T)):wpList Ao ops Q (o::rest) a w:=O9 x y c d g T b.1 b.2.1 b.2.2.1 b.2.2.2 h
theorem FG.ck{args:A4}{Q:Ending->Al->Prop}{d:Int}(h:FG W (AF bs fm d l) V)(c:An P f args V λe a=>e=r/\A1 V a)(k:∀w,Hid (FG W (AF bs fm d l) w)->w.cell? ⟨W.heap.size,0,Ak⟩=(#[Aa ⟨bs.toArray⟩,A7 Ah fm,A7 Ah d,A7 Ah l]:A4)[0]?->w.cell? ⟨W.heap.size,1,Ak⟩=(#[Aa ⟨bs.toArray⟩,A7 Ah fm,A7 Ah d,A7 Ah l]:A4)[1]?->w.cell? ⟨W.heap.size,2,Ak⟩=(#[Aa ⟨bs.toArray⟩,A7 Ah fm,A7 Ah d,A7 Ah l]:A4)[2]?->w.cell? ⟨W.heap.size,3,Ak⟩=(#[Aa ⟨bs.toArray⟩,A7 Ah fm,A7 Ah d,A7 Ah l]:A4)[3]?->Q r w):An P f args V Q:=BN c h.next (λ_ h=>h.box) k
theorem Gd.ck{args:A4}{Q:Ending->Al->Prop}{d:Int}{N:Nat}(h:Gd W (AF bs fm d l) N V)(c:An P f args V λe a=>e=r/\A1 V a)(k:∀w,Hid (Gd W (AF bs fm d l) N w)->w.cell? ⟨W.heap.size,0,Ak⟩=(#[Aa ⟨bs.toArray⟩,A7 Ah fm,A7 Ah d,A7 Ah l]:A4)[0]?->w.cell? ⟨W.heap.size,1,Ak⟩=(#[Aa ⟨bs.toArray⟩,A7 Ah fm,A7 Ah d,A7 Ah l]:A4)[1]?->w.cell? ⟨W.heap.size,2,Ak⟩=(#[Aa ⟨bs.toArray⟩,A7 Ah fm,A7 Ah d,A7 Ah l]:A4)[2]?->w.cell? ⟨W.heap.size,3,Ak⟩=(#[Aa ⟨bs.toArray⟩,A7 Ah fm,A7 Ah d,A7 Ah l]:A4)[3]?->Q r w):An P f args V Q:=BN c h.next (λ_ h=>h.box) k
def FH(xs:List Am)(i:Nat)(a:A4):Prop:=(xs.drop (5*i)).take 5=a.toList
def Qi(e:Lit×DataW Unit):Am:=match e.1 with
 |.string l=>BU l
 |_=>undef
def BG:Nat->Al->(Nat->Prop)->Am->A3->Prop
 |0,_,_,_,_=>False
 |k+1,V,F,v,d=>match d with
  |.nil=>v=.agg (Ax 0 0 ⟨#[]⟩ AK AK)
  |.lit (.bool b)=>v=.agg (Ax (if b=true then 2 else 1) 0 ⟨#[]⟩ AK AK)
  |.lit (.int Ah z)=>v=.agg (Ax 3 z ⟨#[]⟩ AK AK) /\ -9223372036854775808<=z/\z<=9223372036854775807
  |.lit (.string l)=>v=.agg (Ax 4 0 ⟨l.toArray⟩ AK AK)
  |.ptr (.lit (.string l))=>v=.agg (Ax 5 0 ⟨l.toArray⟩ AK AK)
  |.agg ds=>∃u xs,v=.agg (Ax 6 0 ⟨#[]⟩ AK u)/\C7 V 62 5 F u ds.length xs/\∀(i:Nat) (d:A3),ds[i]?=Aj d->∃a,FH xs i a/\BG k V F (.agg a) d
  |.map es=>∃kv u xs,v=.agg (Ax 7 0 ⟨#[]⟩ kv u)/\C7 V 9 1 F kv es.length (es.map Qi)/\C7 V 62 5 F u es.length xs/\∀(i:Nat) (key:Lit) (d:A3),es[i]?=Aj (key,d)->∃l a,key=.string l/\FH xs i a/\BG k V F (.agg a) d
  |_=>False
theorem BG.same{V':Al}{G:Nat->Prop}(b:∀k,F k->G k)(c:∀k,F k->V'.heap[k]?=V.heap[k]?):∀{k:Nat} {v:Am} {d:A3},BG k V F v d->BG k V' G v d
 |0,_,_,h=>h
 |k+1,v,d,h=>by
  unfold BG at h ⊢;split at h
  ·exact h
  ·exact h
  ·exact h
  ·exact h
  ·exact h
  ·obtain⟨u,o,e,n,m⟩:=h;refine⟨u,o,e,n.same b c,λi d j=>?_⟩;obtain⟨a,f,g⟩:=m i d j;exact⟨a,f,BG.same b c g⟩
  ·obtain⟨r,u,o,e,q,n,m⟩:=h;refine⟨r,u,o,e,q.same b c,n.same b c,λi key d j=>?_⟩;obtain⟨l,a,f,g,p⟩:=m i key d j;exact⟨l,a,f,g,BG.same b c p⟩
  exact h
theorem BG.more:∀{k m:Nat} {v:Am} {d:A3},k<=m->BG k V F v d->BG m V F v d
 |0,_,_,_,_,h=>h.elim
 |k+1,0,_,_,hm,_=>absurd hm (by omega)
 |k+1,m+1,v,d,hm,h=>by
  unfold BG at h ⊢;split at h
  ·exact h
  ·exact h
  ·exact h
  ·exact h
  ·exact h
  ·obtain⟨u,n,e,j,g⟩:=h;refine⟨u,n,e,j,λi d f=>?_⟩;obtain⟨a,b,c⟩:=g i d f;exact⟨a,b,BG.more (by omega) c⟩
  ·obtain⟨q,u,n,e,p,j,g⟩:=h;refine⟨q,u,n,e,p,j,λi key d f=>?_⟩;obtain⟨l,a,b,c,o⟩:=g i key d f;exact⟨l,a,b,c,BG.more (by omega) o⟩
  exact h
theorem C7.slice{t:TypeId}(h:C7 V t size F v n xs):∃a m c,v=A8 a m c:=by
 rcases h.2 with⟨e,_⟩|⟨g,b,d,e,_⟩
 ·exact⟨_,_,_,e⟩
 exact⟨_,_,_,e⟩
theorem BG.shape(h:BG k V F v d):∃l n s a i j b p q,v=.agg (Ax l n s (A8 a i j) (A8 b p q)):=by
 cases k with
 |zero=>exact h.elim
 |succ k =>
  unfold BG at h;split at h
  ·exact⟨_,_,_,_,_,_,_,_,_,h⟩
  ·exact⟨_,_,_,_,_,_,_,_,_,h⟩
  ·exact⟨_,_,_,_,_,_,_,_,_,h.1⟩
  ·exact⟨_,_,_,_,_,_,_,_,_,h⟩
  ·exact⟨_,_,_,_,_,_,_,_,_,h⟩
  ·obtain⟨u,o,e,f,_⟩:=h;obtain⟨a,m,c,rfl⟩:=f.slice;exact⟨_,_,_,_,_,_,_,_,_,e⟩
  ·obtain⟨t,u,o,e,g,f,_⟩:=h;obtain⟨a,m,c,rfl⟩:=f.slice;obtain⟨r,w,c2,rfl⟩:=g.slice;exact⟨_,_,_,_,_,_,_,_,_,e⟩
  exact h.elim
theorem ME{base:Nat}{t:TypeId}(h:W.ownsRow base t size v n xs)(F:Nat->Prop)(hF:∀g,base<=g->g<W.heap.size->F g):C7 W t size F v n xs:=by
 refine⟨h.1,?_⟩;rcases h.2 with d|⟨g,b,c,e,f,a,k,j,i,l⟩
 ·exact .inl d
 exact .inr ⟨g,b,c,e,hF g f (At a),a,k,j,i,l⟩
def DA(k:Nat)(bs:A2)(lim:Int)(W:Al)(r:Except (Int×Int) (DataW Unit×Nat))(e:Ending)(W':Al):Prop :=
 A1 W W'/\∃r',Ep bs lim r r'/\match r' with
 |.ok (d,q)=>AS bs lim q/\∃kd n s a i j b p m,e=Ag (Ab #[.agg (Ax kd n s (A8 a i j) (A8 b p m)),A7 Ah q,.agg (Aw (0,0))])/\BG k W' (λj=>W.heap.size<=j/\j<W'.heap.size) (.agg (Ax kd n s (A8 a i j) (A8 b p m))) d
 |.error f=>∃kd n s a i j b p m z,e=Ag (Ab #[.agg (Ax kd n s (A8 a i j) (A8 b p m)),A7 Ah z,.agg (Aw f)])
theorem Zh{α:Type}{r r':A6 α}(h:Ep bs lim r r')(d:CM r):CM r':=by
 intro b e a;rcases h with h|⟨q,_,_,_,x,c⟩
 ·exact d b e (h.trans a)
 rw[c]at a;cases a
end
end Go.Proofs.YtoegnhgofkhbnaaGreatDoor
