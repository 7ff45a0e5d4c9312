import Derived.Test.YtnlnjkggkbbdhaaGreatDoorTq11
set_option maxRecDepth 100000
set_option maxHeartbeats 8000000
set_option linter.all false
namespace Go.Proofs.YtnlnjkggkbbdhaaGreatDoor
open Go.Proofs.Tryz
open Go.Value renaming int->I,slice->G
open Option renaming some->U,none->Y
open Go.IntKind renaming i64->K
open Go renaming World->O
open Go.Obj renaming cells->E
open Go.Proofs.Tryz renaming prog->X
open Go.Value renaming pointer->A8,string->A9,agg->Ab,iface->Ad
open Go.Ending renaming returned->Af
open Go renaming World->Ak,Value->Al,Calls->Am
variable{b k m p q so w x:Nat}{lim:Int}{bs l:A1}{A B C V V' W W':O}{fv v:Al}{d:A2}{s:BO}{ks:List A1}{hd:Nat->Nat×Nat×Nat}{xs:List Al}{es:List (Lit×DataW Unit)}{rd:Nat->Except (Int×Int) (DataW Unit×Nat)}
section
open Go.RowKit
section
variable{bs:A1} {lim:Int} {li:Nat->Nat->Except (Int×Int) (List (DataW Unit)×Nat)} {ma:Nat->Nat->Except (Int×Int) (List (Lit×DataW Unit)×Nat)} {w x q:Nat}
def kq:F2 bs lim li ma 1 w x q=.ok (.nil,q):=rfl
def ku:F2 bs lim li ma 2 w x q=.ok (.lit (.bool false),q):=rfl
def kw:F2 bs lim li ma 3 w x q=.ok (.lit (.bool true),q):=rfl
def ky:F2 bs lim li ma 7 w x q=(match EZ bs lim x q []with|.error e=>.error e|.ok (l,r)=>.ok (.ptr (.lit (.string l)),r)):=rfl
def kz:F2 bs lim li ma 8 w x q=(match Dr bs lim x q [] 0 with|.error e=>.error e|.ok (l,r)=>.ok (.lit (.string l),r)):=rfl
def kA:F2 bs lim li ma 9 w x q=(match li x q with|.error e=>.error e|.ok (ds,r)=>.ok (.agg ds,r)):=rfl
def kB:F2 bs lim li ma 10 w x q=(match ma x q with|.error e=>.error e|.ok (ds,r)=>.ok (.map ds,r)):=rfl
def kD(h:4<=so/\so<=6):F2 bs lim li ma so w x q=(match DC so w x q with|.error e=>.error e|.ok z=>.ok (.lit (.int K z),q)):=by
 rcases(show so=4\/so=5\/so=6 by omega)with rfl|rfl|rfl<;>rfl
end
def QY{so w:Int}{p z:Int}(h:DC so w x p=.ok z):-9223372036854775808<=z/\z<=9223372036854775807:=by
 have a:∀y:Int,-9223372036854775808<=wrap64 y/\wrap64 y<=9223372036854775807:=λy=>by unfold wrap64;omega
 unfold DC at h;split at h
 ·injection h with h;subst h;unfold GX;split
  ·exact a _
  split
  ·exact a _
  split<;>exact a _
 split at h
 ·cases h
 split at h<;>(injection h with h;omega)
def Yi(bs:A1)(lim:Int):∀(k p a x q:Nat),D4 bs lim k p a=.ok (x,q)->x<(a+1)*256^k
 |0,p,a,x,q,h=>by
  unfold D4 at h;cases h;simp
 |k+1,p,a,x,q,h=>by
  rw[D4]at h;split at h
  ·cases h
  next c _ =>
  split at h
  ·cases h
  have b:=Yi bs lim k (p+1) _ x q h;have d:c.toNat<256:=c.toNat_lt;have e:(a*256+c.toNat+1)*256^k<=((a+1)*256)*256^k:=Qa _ J;have f:((a+1)*256)*256^k=(a+1)*256^(k+1):=by rw[Qo,Jf,JJ 256]
  omega
def Yj{g:Nat}(h:w<=8/\(w=0\/g=0)/\g<18446744073709551616)(d:D4 bs lim w p g=.ok (x,q)):x<18446744073709551616:=by
 have a:=Yi bs lim w p g x q d;obtain⟨b,c,f⟩:=h;rcases c with rfl|rfl
 ·simp at a;omega
 have:(256:Nat)^w<=256^8:=Oy Ay b;have e:(256:Nat)^8=18446744073709551616:=Ay
 omega
def kE(lo:Nat)(e:W.heap.size<=lo)(hb:b<W.heap.size)(h:BQ k V (λj=>lo<=j/\j<V.heap.size) v d)(c:BF b V V'):BQ k V' (λj=>W.heap.size<=j/\j<V'.heap.size) v d :=
 h.same (λj a=>⟨J,CA a.2 c.size⟩) (λj a=>c.block j a.2 J)
def kF{lo:Nat}(m:W.heap.size<=lo)(h:BG V lo v l):BQ (k+1) V (λj=>W.heap.size<=j/\j<V.heap.size) (Ad 151 v) (.ptr (.lit (.string l))):=by
 unfold BQ;refine⟨v,Z,Az,?_⟩;rcases h.1.2 with a|⟨g,c,d,e,i,b,f⟩
 ·exact .inl ⟨a.1,a.2⟩
 exact .inr ⟨g,c,d,e,⟨J,(BC b)⟩,b,f⟩
def TS{t:A3}{R:Ending->O->Prop}(u:FrameMode)(i:u≠.run)(h:BD V b s)(g:s.within=k+1)(j:s.within<=1000000)(H:∀a,BD a b {s with within:=k}->BF b V a->Leaves X f257 t R [] (settle u) a):Leaves X f257 t R [{target:=.fn (.func 249) #[],args:=#[A8 (U ⟨b,0,Y⟩)]}] u V:=by
 refine OM (f:=249) (args:=#[A8 (U ⟨b,0,Y⟩)]) i keS ?_;refine(ko V b k s u h g j).mono ?_;rintro e m l ⟨rfl,rfl,d,c⟩;exact H l d c
def kG(g:Nat)(W:O)(b:Nat)(s:BO)(c:UInt8)(Q:Nat->Nat×Nat×Nat)(f d w y:Nat)(h:BD W b s)(h1:EW s c)(bn:Q c.toNat=(d,w,y))(bz:d<=10)(hw:w<=8)(hg:w=0\/y=0)(bm:y<18446744073709551616)(bo:s.bs.length<=200000000)(b0:s.within<=100000)(hf:f=61\/f=62)(hU:∀V,BF b W V->U8 V)(ai:7<b)(cH:∀V,BF b W V->Am X f #[I .u8 c.toNat] V λe V'=>e=Af (Ab #[I K d,I K w,I .u64 y])/\A0 V V')(cL:¬(s.within:Int)=s.depth->∀(V:O) (p ae:Nat),BD V b {s with pos:=p,within:=s.within+1}->BF b W V->ae<18446744073709551616->Am X 262 #[Ab #[A8 (U ⟨b,0,Y⟩),.func (.func f) #[] #[]],I .u64 ae] V (NH V b {s with pos:=p,within:=s.within+1} (λV' v ds=>(∃aa ae c,v=G aa ae c)/\BQ (g+1) V' (λa1=>V.heap.size<=a1/\a1<V'.heap.size) (Ad 153 v) (.agg ds)) (F0 (D5 Q s.bs s.lim s.depth g (s.within+1)) ae p [])))(cM:¬(s.within:Int)=s.depth->∀(V:O) (p ae:Nat),BD V b {s with pos:=p,within:=s.within+1}->BF b W V->ae<18446744073709551616->Am X 263 #[Ab #[A8 (U ⟨b,0,Y⟩),.func (.func f) #[] #[]],I .u64 ae] V (NH V b {s with pos:=p,within:=s.within+1} (λV' v es=>(∃aa ae c,v=G aa ae c)/\BQ (g+1) V' (λa1=>V.heap.size<=a1/\a1<V'.heap.size) (Ad 155 v) (.map es)) (F1 (E3 Q s.bs s.lim) (D5 Q s.bs s.lim s.depth g (s.within+1)) ae p [] []))):Am X 257 #[Ab #[A8 (U ⟨b,0,Y⟩),.func (.func f) #[] #[]]] W (P6 (g+1) W b s (D5 Q s.bs s.lim s.depth (g+1) s.within s.pos)):=by
 obtain⟨bh,HR⟩:∃bh,Hid (D5 Q s.bs s.lim s.depth (g+1) s.within s.pos=bh):=⟨_,show _=_ from rfl⟩
 rw[HR.out];have o:=HR.out;rw[P5 h1.1 h1.2 bn]at o;clear HR bn;have ba:∀V,BD V b s->Am X 226 #[A8 (U ⟨b,0,Y⟩)] V λe W'=>e=Af (I .u8 c.toNat)/\BD W' b s.next/\BF b V W':=λV A=>Ep V b s c A h1
 have cA:∀V,BD V b s.next->Am X 258 #[Ab #[A8 (U ⟨b,0,Y⟩),.func (.func f) #[] #[]],Ab #[I K d,I K w,I .u64 y]] V (MB V b s.next (λx:Nat=>I .u64 x) (D4 s.bs s.lim w (s.pos+1) y)):=λV A=>Tj V b s.next f d w y hw hg A
 have ag:∀V,BD V b {s.next with within:=s.within+1}->Am X 258 #[Ab #[A8 (U ⟨b,0,Y⟩),.func (.func f) #[] #[]],Ab #[I K d,I K w,I .u64 y]] V (MB V b {s.next with within:=s.within+1} (λx:Nat=>I .u64 x) (D4 s.bs s.lim w (s.pos+1) y)):=λV A=>Tj V b {s.next with within:=s.within+1} f d w y hw hg A;have ah:Hid (∀x q,D4 s.bs s.lim w (s.pos+1) y=.ok (x,q)->x<18446744073709551616):=λx q hx=>Yj ⟨hw,hg,bm⟩ hx;have cN:∀(V:O) (p x:Nat),BD V b {s with pos:=p}->x<18446744073709551616->Am X 259 #[Ab #[A8 (U ⟨b,0,Y⟩),.func (.func f) #[] #[]],Ab #[I K d,I K w,I .u64 y],I .u64 x] V (X9 V b {s with pos:=p} (DC d w x p)):=λV p x A hx=>gd V b {s with pos:=p} f d w y x hx A;have cB:∀(V:O) (p x:Nat),BD V b {s with pos:=p}->x<18446744073709551616->Am X 260 #[Ab #[A8 (U ⟨b,0,Y⟩),.func (.func f) #[] #[]],I .u64 x] V (NH V b {s with pos:=p} (λV' v a8=>BG V' (V.heap.size+1) v a8) (EZ s.bs s.lim x p [])):=λV p x A hx=>hH V b {s with pos:=p} f x hx A bo;have cX:∀(V:O) (p x:Nat),BD V b {s with pos:=p}->BF b W V->x<18446744073709551616->Am X 261 #[Ab #[A8 (U ⟨b,0,Y⟩),.func (.func f) #[] #[]],I .u64 x] V (MB V b {s with pos:=p} (λa8:A1=>A9 ⟨a8.toArray⟩) (Dr s.bs s.lim x p [] 0)):=λV p x A hB hx=>Yb V b {s with pos:=p} f x hx A (hU V hB) ai bo;have aw:∀V,BD V b s.next->Am X 227 #[A8 (U ⟨b,0,Y⟩),I K 9] V λe W'=>C0 9 s.pos e/\W'=V:=λV A=>by
  have:=EX V b s.next 9 A
  rwa[show((s.next.pos:Int)-1)=s.pos by show(((s.pos+1:Nat)):Int)-1=s.pos;omega]at this
 have au:∀V,BD V b s.next->(s.within:Int)=s.depth->Am X 221 #[A8 (U ⟨b,0,Y⟩)] V λe W'=>C0 11 s.pos e/\BF b V W'/\∃p,BD W' b {s with pos:=p}:=λV A Q=>by
  have:=Ye V b s.next A Q
  rwa[show((s.next.pos:Int)-1)=s.pos by show(((s.pos+1:Nat)):Int)-1=s.pos;omega]at this
 have av:∀V,BD V b s.next->¬(s.within:Int)=s.depth->Am X 221 #[A8 (U ⟨b,0,Y⟩)] V λe W'=>e=Af (.tuple #[])/\BD W' b {s.next with within:=s.within+1}/\BF b V W':=λV A Q=>TQ V b s.next A Q (by show s.within<=_;omega)
 have HH:=T h;have bv:=BC h.row;have bb:A0 W (W.alloc (E #[A8 (U ⟨b,0,Y⟩),.func (.func f) #[] #[]] 150)).drew:=(BN).drew;have a2:=T bb;have bf:=T (h.below bb);have bg:Hid ((W.alloc (E #[A8 (U ⟨b,0,Y⟩),.func (.func f) #[] #[]] 150)).drew.heap[W.heap.size]?=U (E #[A8 (U ⟨b,0,Y⟩),.func (.func f) #[] #[]] 150)):=BI W _;have a3:Hid (∀(a9:A3) (V:O),(callFunc f a9).run X V=.ok (.enter f a9) V):=by
  show∀_ _,_;rcases hf with rfl|rfl<;>exact λa9 V=>M
 clear h h1 bb hw hg bm hf hU
 go_enter_defers func257,ntmps257
 go_wp2_with fail
 refine Yg (λa4 V=>Jm W b W.heap.size a4 (.func (.func f) #[] #[]) d w y s.next V) (λa4=>{tmps:=#[Ab #[A8 (U ⟨b,0,Y⟩),.func (.func f) #[] #[]],A8 (U ⟨W.heap.size,0,Y⟩),.nilIface,A8 (U ⟨a4,0,Y⟩),undef,A8 (U ⟨W.heap.size,1,Y⟩),.func (.func f) #[] #[],A8 (U ⟨W.heap.size,0,Y⟩),A8 (U ⟨b,0,Y⟩),I .u8 c.toNat,Ab #[I K d,I K w,I .u64 y],undef,undef,undef,undef,undef,undef,undef,undef,undef,undef,undef,undef,undef,undef,undef,undef,undef,undef,undef,undef,undef,undef,undef,undef,undef,undef,undef,undef,undef,undef,undef,undef,undef,undef,undef,undef,undef,undef,undef,undef,undef,undef,undef,undef,undef,undef,undef,undef,undef,undef,undef,undef,undef,undef,undef,undef,undef,undef,undef,undef,undef,undef],defers:=[]}) (λbe=>?reg) ?tail
 case reg =>
  refine Ec (S:=λV=>V.heap[W.heap.size]?=U (E #[A8 (U ⟨b,0,Y⟩),.func (.func f) #[] #[]] 150)) M ?_;have hS:=bg.out;refine D3 (i:=0) (v:=A8 (U ⟨W.heap.size,1,Y⟩)) Z M M M (λc aa w h=>LQ results257 5 Ay _ c aa w h) (.inl ⟨Z,λV A=>rfl⟩) hS ?_;refine D3 (i:=1) (v:=.func (.func f) #[] #[]) rfl M M M (λc aa w h=>LQ results257 6 Ay _ c aa w h) (.inl ⟨rfl,λV A=>?y1⟩) hS ?_
  case y1=>(have h2:=BB A 1;go_simp)
  refine D3 (i:=2) (v:=A8 (U ⟨W.heap.size,0,Y⟩)) Z M M M (λc aa w h=>LQ results257 7 Ay _ c aa w h) (.inl ⟨Z,λV A=>rfl⟩) hS ?_;refine D3 (i:=3) (v:=A8 (U ⟨b,0,Y⟩)) Z M M M (λc aa w h=>LQ results257 8 Ay _ c aa w h) (.inl ⟨Z,λV A=>?y3⟩) hS ?_
  case y3=>(have h2:=BB A 0;go_simp)
  refine Hq 4 6 (λaf u=>?_) (λaf u=>?_)
  ·go_simp;refine(ba _ bf).mono ?_;rintro e w2 ⟨rfl,a7,an⟩;simp only[];have ak:=(an.block _ (BC hS) J).trans hS;have am:=(BF.of_below a2).trans an;have bc:=BC ak;refine u.out _ _ ak (λ_=>?_);clear u;refine Hq 5 6 (λaf u=>?_) (λaf u=>?_)
   ·go_simp;rw[a3.out];refine Ns (cH _ am) ?_;rintro e w3 ⟨rfl,P⟩;simp only[];have ad:=(P.block _ bc).trans ak;have a5:=BC ad;refine u.out _ _ ad (λ_=>?_);clear u;refine C9 6 (λaf u=>?_);go_simp;have al:(w3.alloc (E #[I K 0,I K 0,I .u64 0] 201)).heap[W.heap.size]?=_:=(BT _ _ _ a5).trans ad;refine u.out _ _ al (λ_=>?_);clear u;refine C9 7 (λaf u=>?_);rw[BA Bk];refine Hp 201 _ _ Z w3.heap.size #[I K d,I K w,I .u64 y] Z Z 201 _ (BI w3 _) MD Z Ba ?_;have t:Hid (Jm W b W.heap.size w3.heap.size (.func (.func f) #[] #[]) d w y s.next ((w3.alloc (E #[I K 0,I K 0,I .u64 0] 201)).setRow w3.heap.size #[I K d,I K w,I .u64 y])) :=
     NG w3.heap.size HH ((a7.below P).below BN) ((am.trans (BF.of_below P)).trans (BF.of_below BN)) al a5 (BI w3 _)
    refine u.out _ _ t.box (λ_=>?_);clear u;refine Cv ?_;exact be _ _ t
   go_simp;have ad:(w2.alloc (E #[I K 0,I K 0,I .u64 0] 201)).heap[W.heap.size]?=_:=(BT _ _ _ bc).trans ak;have ao:A0 w2 (w2.alloc (E #[I K 0,I K 0,I .u64 0] 201)):=BN;have a5:=BC ad;refine u.out _ _ ad (λ_=>?_);clear u;refine C9 5 (λaf u=>?_);go_simp;rw[a3.out];refine Ns (cH _ (am.trans (BF.of_below ao))) ?_;rintro e w3 ⟨rfl,P⟩;simp only[];have al:=(P.block _ a5).trans ad;have a0:=(P.block w2.heap.size Az).trans (BI w2 (E #[I K 0,I K 0,I .u64 0] 201));refine u.out _ _ al (λ_=>?_);clear u;refine C9 7 (λaf u=>?_);rw[BA Bk];refine Hp 201 _ _ Z w2.heap.size #[I K d,I K w,I .u64 y] Z Z 201 _ a0 MD Z Ba ?_;have t:Hid (Jm W b W.heap.size w2.heap.size (.func (.func f) #[] #[]) d w y s.next (w3.setRow w2.heap.size #[I K d,I K w,I .u64 y])) :=
    NG w2.heap.size HH ((a7.below ao).below P) ((am.trans (BF.of_below ao)).trans (BF.of_below P)) al bc a0
   refine u.out _ _ t.box (λ_=>?_);clear u;refine Cv ?_;exact be _ _ t
  go_simp;have ad:((W.alloc (E #[A8 (U ⟨b,0,Y⟩),.func (.func f) #[] #[]] 150)).drew.alloc (E #[I K 0,I K 0,I .u64 0] 201)).heap[W.heap.size]?=_:=(BT _ _ _ (BC hS)).trans hS;have ao:A0 W ((W.alloc (E #[A8 (U ⟨b,0,Y⟩),.func (.func f) #[] #[]] 150)).drew.alloc (E #[I K 0,I K 0,I .u64 0] 201)):=a2.alloc a2.size _;have bl:((W.alloc (E #[A8 (U ⟨b,0,Y⟩),.func (.func f) #[] #[]] 150)).drew.alloc (E #[I K 0,I K 0,I .u64 0] 201)).heap[W.heap.size+1]?=U (E #[I K 0,I K 0,I .u64 0] 201):=by
   have:=BI (W.alloc (E #[A8 (U ⟨b,0,Y⟩),.func (.func f) #[] #[]] 150)).drew (E #[I K 0,I K 0,I .u64 0] 201);rw[show(W.alloc (E #[A8 (U ⟨b,0,Y⟩),.func (.func f) #[] #[]] 150)).drew.heap.size=W.heap.size+1 from BU ..]at this;exact this
  have bq:=T (HH.below ao);refine u.out _ _ ad (λ_=>?_);clear u;refine C9 4 (λaf u=>?_);go_simp;refine(ba _ bq).mono ?_;rintro e w2 ⟨rfl,a7,an⟩;simp only[];have ak:=(an.block _ (BC ad) J).trans ad;have bk:=(an.block _ (BC bl) J).trans bl;have am:=(BF.of_below ao).trans an;refine u.out _ _ ak (λ_=>?_);clear u;refine C9 5 (λaf u=>?_);go_simp;rw[a3.out];refine Ns (cH _ am) ?_;rintro e w3 ⟨rfl,P⟩;simp only[];have al:=(P.block _ (BC ak)).trans ak;have a0:=(P.block _ (BC bk)).trans bk;refine u.out _ _ al (λ_=>?_);clear u;refine C9 7 (λaf u=>?_);rw[BA Bk];refine Hp 201 _ _ Z (W.heap.size+1) #[I K d,I K w,I .u64 y] Z Z 201 _ a0 MD Z Ba ?_;have t:Hid (Jm W b W.heap.size (W.heap.size+1) (.func (.func f) #[] #[]) d w y s.next (w3.setRow (W.heap.size+1) #[I K d,I K w,I .u64 y])) :=
   NG (W.heap.size+1) HH (a7.below P) (am.trans (BF.of_below P)) al J a0
  refine u.out _ _ t.box (λ_=>?_);clear u;refine Cv ?_;exact be _ _ t
 case tail =>
  intro a4 V hT;have t:=T hT;clear hT bg bf a2 HH cH ba a3;have R:=BB t.box 0;have l:=BB t.box 1;have j:=BB t.hd 0;have a:=BB t.hd 1;have n:=BB t.hd 2;have bw:d=0\/d=1\/d=2\/d=3\/d=4\/d=5\/d=6\/d=7\/d=8\/d=9\/d=10:=J
  rcases bw with k|k|k|k|k|k|k|k|k|k|k
  all_goals
   first|have e0:((d:Int)==0)=true:=by rw[k];rfl|have e0:((d:Int)==0)=false:=B0
   first|have e2:((d:Int)==2)=true:=by rw[k];rfl|have e2:((d:Int)==2)=false:=B0
   first|have e3:((d:Int)==3)=true:=by rw[k];rfl|have e3:((d:Int)==3)=false:=B0
   first|have e4:((d:Int)==4)=true:=by rw[k];rfl|have e4:((d:Int)==4)=false:=B0
   first|have e5:((d:Int)==5)=true:=by rw[k];rfl|have e5:((d:Int)==5)=false:=B0
   first|have e6:((d:Int)==6)=true:=by rw[k];rfl|have e6:((d:Int)==6)=false:=B0
   first|have e7:((d:Int)==7)=true:=by rw[k];rfl|have e7:((d:Int)==7)=false:=B0
   first|have e8:((d:Int)==8)=true:=by rw[k];rfl|have e8:((d:Int)==8)=false:=B0
   first|have e9:((d:Int)==9)=true:=by rw[k];rfl|have e9:((d:Int)==9)=false:=B0
   first|have br:((d:Int)==10)=true:=by rw[k];rfl|have br:((d:Int)==10)=false:=B0
  ·rw[BA k]at o;subst o;have bi:=aw V t.src;clear k aw cA ag cN cB cX au av cL cM
   go_wp2_with(first
    |(go_at_call 227;refine bi.mono ?_;clear bi;rintro e w7 ⟨hF,rfl⟩;obtain rfl:=hF))
   exact⟨t.but,Z,_,t.src⟩
  all_goals
   rw[Bz J]at o
   first
   |have h9:9<=d:=by omega
    clear h9;by_cases ap:(s.within:Int)=s.depth
    ·rw[BA ⟨J,ap⟩]at o;subst o;have cE:=au V t.src ap;clear k aw cA ag cN cB cX au av cL cM
     go_wp2_with(first
      |(go_at_call 221;refine cE.mono ?_;clear cE;rintro e w7 ⟨hF,bt,bu⟩;obtain rfl:=hF))
     exact⟨t.but.trans bt,Z,bu⟩
    rw[Bz (λhh=>ap hh.2)]at o;have cE:=av V t.src ap;clear aw cA cN cB cX au av
    cases r:D4 s.bs s.lim w (s.pos+1) y with
    |error er =>
     rw[r]at o;simp only[]at o;subst o;obtain⟨en,pl⟩:=er;rw[r]at ag;clear k cL cM ah
     go_wp2_with(first
      |(go_at_call 221;refine cE.mono ?_;clear cE;rintro e w4 ⟨rfl,ay,ax⟩;have D:=T (t.step ay ax);clear t R l j a n ax ay;have R:=BB D.box 0;have l:=BB D.box 1;have j:=BB D.hd 0;have a:=BB D.hd 1;have n:=BB D.hd 2;have F:=ag w4 D.src;clear ag)
      |(go_at_call 258;refine F.mono ?_;clear F;rintro e w5 ⟨H,rfl,pz,bd⟩))
     exact TS _ Az bd Z Bn (λB az ai=>⟨(D.but.trans H).trans ai,Z,_,az⟩)
    |ok xq =>
     obtain⟨x,q⟩:=xq;rw[r]at o ag;simp only[]at o;rw[k]at o;have aq:=ah.out x q r
     first
     |rw[kA]at o
      obtain⟨C,HZ⟩:∃C,Hid (F0 (D5 Q s.bs s.lim s.depth g (s.within+1)) x q []=C):=⟨_,show _=_ from rfl⟩
      have N:=λB (hs:BD B b {s with pos:=q,within:=s.within+1}) (hb:BF b W B)=>cL ap B q x hs hb aq
     |rw[kB]at o
      obtain⟨C,HZ⟩:∃C,Hid (F1 (E3 Q s.bs s.lim) (D5 Q s.bs s.lim s.depth g (s.within+1)) x q [] []=C):=⟨_,show _=_ from rfl⟩
      have N:=λB (hs:BD B b {s with pos:=q,within:=s.within+1}) (hb:BF b W B)=>cM ap B q x hs hb aq
     rw[HZ.out]at o N;clear k cL cM ah r HZ;rcases C with⟨en,pl⟩|⟨ds,bx⟩
     all_goals
      simp only[]at o;subst o
      go_wp2_with(first
       |(go_at_call 221;refine cE.mono ?_;clear cE;rintro e w4 ⟨rfl,ay,ax⟩;have D:=T (t.step ay ax);clear t R l j a n ax ay;have R:=BB D.box 0;have l:=BB D.box 1;have j:=BB D.hd 0;have a:=BB D.hd 1;have n:=BB D.hd 2;have F:=ag w4 D.src;clear ag)
       |(go_at_call 258;refine F.mono ?_;clear F;rintro e w5 ⟨H,rfl,ac⟩;have m:=T (D.step ac H);clear D R l j a n H ac;have R:=BB m.box 0;have l:=BB m.box 1;have j:=BB m.hd 0;have a:=BB m.hd 1;have n:=BB m.hd 2;have z:=N w5 m.src m.but;clear N)
       |(go_at_call 262;refine z.mono ?_;clear z;rintro e w6 ⟨ab,aj⟩;first|(obtain⟨⟨v6,rfl,⟨a6,n6,c6,rfl⟩,bj⟩,L⟩:=aj)|(obtain⟨rfl,L⟩:=aj))
       |(go_at_call 263;refine z.mono ?_;clear z;rintro e w6 ⟨ab,aj⟩;first|(obtain⟨⟨v6,rfl,⟨a6,n6,c6,rfl⟩,bj⟩,L⟩:=aj)|(obtain⟨rfl,L⟩:=aj)))
      first
      |exact TS _ Az L.choose_spec Z Bn (λB az ai=>⟨(m.but.trans ab).trans ai,Z,_,az⟩)
      |exact TS _ Az L Z Bn (λB az ai=>⟨_,OY results257 _ _,(m.but.trans ab).trans ai,⟨_,_,Z,kE _ m.but.size bv bj ai⟩,az⟩)
   |rw[Bz J]at o
    clear aw ag au av cL cM;have F:=cA V t.src;clear cA
    cases r:D4 s.bs s.lim w (s.pos+1) y with
    |error er =>
     rw[r]at o F;simp only[]at o;subst o;obtain⟨en,pl⟩:=er;clear k cN cB cX ah
     go_wp2_with(first
      |(go_at_call 258;refine F.mono ?_;clear F;rintro e w5 ⟨H,rfl,pz,bd⟩))
     exact⟨t.but.trans H,Z,pz,bd⟩
    |ok xq =>
     obtain⟨x,q⟩:=xq;rw[r]at o F;simp only[]at o;have aq:=ah.out x q r
     first
     |have h9:d<=3:=by omega
      clear h9;rw[k]at o
      first|rw[kq]at o|rw[ku]at o|rw[kw]at o
      subst o;clear k cN cB cX ah r
      go_wp2_with(first
       |(go_at_call 258;refine F.mono ?_;clear F;rintro e w5 ⟨H,rfl,ac⟩;have m:=T (t.step ac H);clear t R l j a n H ac;have R:=BB m.box 0;have l:=BB m.box 1;have j:=BB m.hd 0;have a:=BB m.hd 1;have n:=BB m.hd 2))
      exact⟨_,OY results257 _ _,m.but,⟨_,_,Z,Z⟩,m.src⟩
     |have h9:7<=d:=by omega
      clear h9;rw[k]at o
      first
      |rw[ky]at o
       obtain⟨C,HZ⟩:∃C,Hid (EZ s.bs s.lim x q []=C):=⟨_,show _=_ from rfl⟩
       have N:=λB (hs:BD B b {s with pos:=q}) (_:BF b W B)=>cB B q x hs aq
      |rw[kz]at o
       obtain⟨C,HZ⟩:∃C,Hid (Dr s.bs s.lim x q [] 0=C):=⟨_,show _=_ from rfl⟩
       have N:=λB (hs:BD B b {s with pos:=q}) (hb:BF b W B)=>cX B q x hs hb aq
      rw[HZ.out]at o N;clear k cN cB cX ah r HZ;rcases C with⟨en,pl⟩|⟨a8,bx⟩
      all_goals
       simp only[]at o;subst o
       go_wp2_with(first
        |(go_at_call 258;refine F.mono ?_;clear F;rintro e w5 ⟨H,rfl,ac⟩;have m:=T (t.step ac H);clear t R l j a n H ac;have R:=BB m.box 0;have l:=BB m.box 1;have j:=BB m.hd 0;have a:=BB m.hd 1;have n:=BB m.hd 2;have z:=N w5 m.src m.but;clear N)
        |(go_at_call 260;refine z.mono ?_;clear z;rintro e w6 ⟨ab,aj⟩;first|(obtain⟨⟨v6,rfl,o6,b6,a6,n6,c6,rfl⟩,L⟩:=aj)|(obtain⟨rfl,L⟩:=aj))
        |(go_at_call 261;refine z.mono ?_;clear z;rintro e w6 ⟨ab,rfl,L⟩))
       first
       |exact⟨m.but.trans ab,Z,L⟩
       |exact⟨_,OY results257 _ _,m.but.trans ab,⟨_,_,Z,Z⟩,L⟩
       |exact⟨_,OY results257 _ _,m.but.trans ab,⟨_,_,Z,kF (Ao m.but.size) ⟨o6,b6,_,_,_,Z⟩⟩,L⟩
     |rw[kD J]at o
      have N:=λB (hs:BD B b {s with pos:=q})=>cN B q x hs aq;obtain⟨C,HZ⟩:∃C,Hid (DC d w x q=C):=⟨_,show _=_ from rfl⟩
      rw[HZ.out]at o N;clear k cN cB cX ah r;rcases C with⟨en,pl⟩|b1
      all_goals
       simp only[]at o;subst o
       try have bp:=T (QY HZ)
       clear HZ
       go_wp2_with(first
        |(go_at_call 258;refine F.mono ?_;clear F;rintro e w5 ⟨H,rfl,ac⟩;have m:=T (t.step ac H);clear t R l j a n H ac;have R:=BB m.box 0;have l:=BB m.box 1;have j:=BB m.hd 0;have a:=BB m.hd 1;have n:=BB m.hd 2;have z:=N w5 m.src;clear N)
        |(go_at_call 259;refine z.mono ?_;clear z;rintro e w6 ⟨ab,rfl,L⟩))
       first
       |exact⟨m.but.trans ab,Z,L⟩
       |exact⟨_,OY results257 _ _,m.but.trans ab,⟨_,_,Z,Z,bp⟩,L⟩
structure GG(b m:Nat)(W W':World):Prop where
 os:W'.os=W.os
 tape:W'.tape=W.tape
 output:W'.output=W.output
 size:W.heap.size<=W'.heap.size
 block:∀k,k<W.heap.size->k≠b->k≠m->W'.heap[k]?=W.heap[k]?
def GG.of1(h:BF b W W'):GG b m W W':=⟨h.os,h.tape,h.output,h.size,λk a c _=>h.block k a c⟩
def GG.of2(h:BF m W W'):GG b m W W':=⟨h.os,h.tape,h.output,h.size,λk a _ c=>h.block k a c⟩
def GG.trans(h:GG b m A B)(k:GG b m B C):GG b m A C :=
 ⟨k.os.trans h.os,k.tape.trans h.tape,k.output.trans h.output,C7 h.size k.size,λi d a c=>(k.block i B1 a c).trans (h.block i d a c)⟩
def BD.off(h:BD V b s)(k:m≠b)(hi:∀g off,s.bs≠[]->s.ia=U ⟨g,off,Y⟩->g≠m)(d:BF m V V'):BD V' b s :=
 ⟨(d.block b (BC h.row) (Ne.symm k)).trans h.row,λi f=>by
  obtain⟨g,off,a,j,c⟩:=h.inp i f;exact⟨g,off,a,j,(Im (w:=V) (d.block g (G8 c) (hi g off (λe=>by simp[e]at f) a))).trans c⟩,h.len,h.le⟩
def E2.but(h:E2 V m ks)(d:m≠b)(a:BF b V V'):E2 V' m ks :=
 h.kept (row:=U b) ⟨a.os,a.tape,a.output,a.size,λk c f=>a.block k c (λe=>f (by rw[e]))⟩ (λe=>d (by injection e))
def TT(W:Ak)(b m:Nat)(s:BO)(ks:List A1)(r:A5 A1)(e:Ending)(W':Ak):Prop :=
 GG b m W W'/\match r with
 |.ok (l,p)=>e=Af (A9 ⟨l.toArray⟩)/\BD W' b {s with pos:=p}/\E2 W' m (l::ks)
 |.error (en,pl)=>C0 en pl e/\∃p,BD W' b {s with pos:=p}
def QZ(bs:A1)(lim:Int):∀(n p b:Nat) (a l:A1) (r:Nat),Dr bs lim n p a b=.ok (l,r)->l.length=a.length+n/\r=p+n
 |0,p,b,a,l,r,h=>by
  rw[Dr]at h;split at h
  ·injection h with h;injection h with h1 h2;subst h1;subst h2;exact⟨Z,Z⟩
  cases h
 |n+1,p,b,a,l,r,h=>by
  rw[Dr]at h;split at h
  ·cases h
  split at h
  ·cases h
  split at h
  ·cases h
  have:=QZ bs lim n _ _ _ l r h;rw[BK]at this;simp at this;omega
def kH(W:O)(b m:Nat)(s:BO)(c:UInt8)(ks:List A1)(hd:Nat->Nat×Nat×Nat)(f n w j:Nat)(h:BD W b s)(h1:EW s c)(hk:E2 W m ks)(bg:m≠b)(be:∀a8 off,s.bs≠[]->s.ia=U ⟨a8,off,Y⟩->a8≠m)(bm:ks.length<1000000000)(bd:hd c.toNat=(n,w,j))(hw:w<=8)(hg:w=0\/j=0)(bc:j<18446744073709551616)(bn:s.bs.length<=200000000)(hf:f=61\/f=62)(hU:∀V,BF b W V->U8 V)(bk:7<b)(cH:∀V,BF b W V->Am X f #[I .u8 c.toNat] V λe V'=>e=Af (Ab #[I K n,I K w,I .u64 j])/\A0 V V'):Am X 265 #[Ab #[A8 (U ⟨b,0,Y⟩),.func (.func f) #[] #[]],.map (U m)] W (TT W b m s ks (E3 hd s.bs s.lim ks s.pos)):=by
 obtain⟨a3,HR⟩:∃a3,Hid (E3 hd s.bs s.lim ks s.pos=a3):=⟨_,show _=_ from rfl⟩
 rw[HR.out];have k:=HR.out;unfold E3 at k;rw[h1.1]at k;simp only[]at k;rw[Bz h1.2,bd]at k;simp only[]at k;clear HR bd;have an:∀V,BD V b s->Am X 226 #[A8 (U ⟨b,0,Y⟩)] V λe P=>e=Af (I .u8 c.toNat)/\BD P b s.next/\BF b V P:=λV d=>Ep V b s c d h1
 have cA:∀V,BD V b s.next->Am X 258 #[Ab #[A8 (U ⟨b,0,Y⟩),.func (.func f) #[] #[]],Ab #[I K n,I K w,I .u64 j]] V (MB V b s.next (λx:Nat=>I .u64 x) (D4 s.bs s.lim w (s.pos+1) j)):=λV d=>Tj V b s.next f n w j hw hg d
 have ak:Hid (∀x q,D4 s.bs s.lim w (s.pos+1) j=.ok (x,q)->x<18446744073709551616):=λx q hx=>Yj ⟨hw,hg,bc⟩ hx;have cX:∀(V:O) (p x:Nat),BD V b {s with pos:=p}->BF b W V->x<18446744073709551616->Am X 261 #[Ab #[A8 (U ⟨b,0,Y⟩),.func (.func f) #[] #[]],I .u64 x] V (MB V b {s with pos:=p} (λl:A1=>A9 ⟨l.toArray⟩) (Dr s.bs s.lim x p [] 0)):=λV p x d hB hx=>Yb V b {s with pos:=p} f x hx d (hU V hB) bk bn;have am:∀V,BD V b s.next->Am X 227 #[A8 (U ⟨b,0,Y⟩),I K 9] V λe P=>C0 9 s.pos e/\P=V:=λV d=>by
  have:=EX V b s.next 9 d
  rwa[show((s.next.pos:Int)-1)=s.pos by show(((s.pos+1:Nat)):Int)-1=s.pos;omega]at this
 have ah:∀(V:O) (p:Nat),BD V b {s with pos:=p}->Am X 227 #[A8 (U ⟨b,0,Y⟩),I K 12] V λe P=>C0 12 ((p:Int)-1) e/\P=V:=λV p d=>EX V b {s with pos:=p} 12 d;have az:Hid (∀V,BF b W V->E2 V m ks):=λV d=>hk.but bg d;have bh:Hid (∀V V' p,BD V b {s with pos:=p}->BF m V V'->BD V' b {s with pos:=p}):=λV V' p d hB=>d.off bg be hB;have HH:=T h;have bp:=BC h.row;have ao:A0 W (W.alloc (E #[A8 (U ⟨b,0,Y⟩),.func (.func f) #[] #[]] 150)).drew:=(BN).drew;have ae:=T ao;have a1:=T (h.below ao);have a2:Hid ((W.alloc (E #[A8 (U ⟨b,0,Y⟩),.func (.func f) #[] #[]] 150)).drew.heap[W.heap.size]?=U (E #[A8 (U ⟨b,0,Y⟩),.func (.func f) #[] #[]] 150)):=BI W _;have af:Hid (∀(al:A3) (V:O),(callFunc f al).run X V=.ok (.enter f al) V):=by
  show∀_ _,_;rcases hf with rfl|rfl<;>exact λal V=>M
 clear h h1 ao hw hg bc hf hU hk be;go_enter func265,ntmps265
 go_wp2_with fail
 refine Yg (λaa V=>Jm W b W.heap.size aa (.func (.func f) #[] #[]) n w j s.next V) (λaa=>{tmps:=#[Ab #[A8 (U ⟨b,0,Y⟩),.func (.func f) #[] #[]],.map (U m),A8 (U ⟨W.heap.size,0,Y⟩),undef,A9 ⟨#[]⟩,A8 (U ⟨aa,0,Y⟩),undef,A8 (U ⟨W.heap.size,1,Y⟩),.func (.func f) #[] #[],A8 (U ⟨W.heap.size,0,Y⟩),A8 (U ⟨b,0,Y⟩),I .u8 c.toNat,Ab #[I K n,I K w,I .u64 j],undef,undef,undef,undef,undef,undef,undef,undef,undef,undef,undef,undef,undef,undef,undef,undef,undef,undef,undef],defers:=[]}) (λax=>?reg) ?tail
 case reg =>
  refine Ec (S:=λV=>V.heap[W.heap.size]?=U (E #[A8 (U ⟨b,0,Y⟩),.func (.func f) #[] #[]] 150)) M ?_;have D:=a2.out;refine D3 (i:=0) (v:=A8 (U ⟨W.heap.size,1,Y⟩)) Z M M M (λ_ _ _ h=>h) (.inl ⟨Z,λV d=>rfl⟩) D ?_;refine D3 (i:=1) (v:=.func (.func f) #[] #[]) rfl M M M (λ_ _ _ h=>h) (.inl ⟨rfl,λV d=>?y1⟩) D ?_
  case y1=>(have h2:=BB d 1;go_simp)
  refine D3 (i:=2) (v:=A8 (U ⟨W.heap.size,0,Y⟩)) Z M M M (λ_ _ _ h=>h) (.inl ⟨Z,λV d=>rfl⟩) D ?_;refine D3 (i:=3) (v:=A8 (U ⟨b,0,Y⟩)) Z M M M (λ_ _ _ h=>h) (.inl ⟨Z,λV d=>?y3⟩) D ?_
  case y3=>(have h2:=BB d 0;go_simp)
  refine Hq 4 6 (λt a=>?_) (λt a=>?_)
  ·go_simp;refine(an _ a1).mono ?_;rintro e C ⟨rfl,aj,Q⟩;simp only[];have F:=(Q.block _ (BC D) J).trans D;have N:=(BF.of_below ae).trans Q;have au:=BC F;refine a.out _ _ F (λ_=>?_);clear a;refine Hq 5 6 (λt a=>?_) (λt a=>?_)
   ·go_simp;rw[af.out];refine Ns (cH _ N) ?_;rintro e z ⟨rfl,u⟩;simp only[];have A:=(u.block _ au).trans F;have ai:=BC A;refine a.out _ _ A (λ_=>?_);clear a;refine C9 6 (λt a=>?_);go_simp;have H:(z.alloc (E #[I K 0,I K 0,I .u64 0] 201)).heap[W.heap.size]?=_:=(BT _ _ _ ai).trans A;refine a.out _ _ H (λ_=>?_);clear a;refine C9 7 (λt a=>?_);rw[BA Bk];refine Hp 201 _ _ Z z.heap.size #[I K n,I K w,I .u64 j] Z Z 201 _ (BI z _) MD Z Ba ?_;have o:Hid (Jm W b W.heap.size z.heap.size (.func (.func f) #[] #[]) n w j s.next ((z.alloc (E #[I K 0,I K 0,I .u64 0] 201)).setRow z.heap.size #[I K n,I K w,I .u64 j])) :=
     NG z.heap.size HH ((aj.below u).below BN) ((N.trans (BF.of_below u)).trans (BF.of_below BN)) H ai (BI z _)
    refine a.out _ _ o.box (λ_=>?_);clear a;refine Cv ?_;exact ax _ _ o
   go_simp;have A:(C.alloc (E #[I K 0,I K 0,I .u64 0] 201)).heap[W.heap.size]?=_:=(BT _ _ _ au).trans F;have R:A0 C (C.alloc (E #[I K 0,I K 0,I .u64 0] 201)):=BN;have ai:=BC A;refine a.out _ _ A (λ_=>?_);clear a;refine C9 5 (λt a=>?_);go_simp;rw[af.out];refine Ns (cH _ (N.trans (BF.of_below R))) ?_;rintro e z ⟨rfl,u⟩;simp only[];have H:=(u.block _ ai).trans A;have ad:=(u.block C.heap.size Az).trans (BI C (E #[I K 0,I K 0,I .u64 0] 201));refine a.out _ _ H (λ_=>?_);clear a;refine C9 7 (λt a=>?_);rw[BA Bk];refine Hp 201 _ _ Z C.heap.size #[I K n,I K w,I .u64 j] Z Z 201 _ ad MD Z Ba ?_;have o:Hid (Jm W b W.heap.size C.heap.size (.func (.func f) #[] #[]) n w j s.next (z.setRow C.heap.size #[I K n,I K w,I .u64 j])) :=
    NG C.heap.size HH ((aj.below R).below u) ((N.trans (BF.of_below R)).trans (BF.of_below u)) H au ad
   refine a.out _ _ o.box (λ_=>?_);clear a;refine Cv ?_;exact ax _ _ o
  go_simp;have A:((W.alloc (E #[A8 (U ⟨b,0,Y⟩),.func (.func f) #[] #[]] 150)).drew.alloc (E #[I K 0,I K 0,I .u64 0] 201)).heap[W.heap.size]?=_:=(BT _ _ _ (BC D)).trans D;have R:A0 W ((W.alloc (E #[A8 (U ⟨b,0,Y⟩),.func (.func f) #[] #[]] 150)).drew.alloc (E #[I K 0,I K 0,I .u64 0] 201)):=ae.alloc ae.size _;have bb:((W.alloc (E #[A8 (U ⟨b,0,Y⟩),.func (.func f) #[] #[]] 150)).drew.alloc (E #[I K 0,I K 0,I .u64 0] 201)).heap[W.heap.size+1]?=U (E #[I K 0,I K 0,I .u64 0] 201):=by
   have:=BI (W.alloc (E #[A8 (U ⟨b,0,Y⟩),.func (.func f) #[] #[]] 150)).drew (E #[I K 0,I K 0,I .u64 0] 201);rw[show(W.alloc (E #[A8 (U ⟨b,0,Y⟩),.func (.func f) #[] #[]] 150)).drew.heap.size=W.heap.size+1 from BU ..]at this;exact this
  have bi:=T (HH.below R);refine a.out _ _ A (λ_=>?_);clear a;refine C9 4 (λt a=>?_);go_simp;refine(an _ bi).mono ?_;rintro e C ⟨rfl,aj,Q⟩;simp only[];have F:=(Q.block _ (BC A) J).trans A;have ba:=(Q.block _ (BC bb) J).trans bb;have N:=(BF.of_below R).trans Q;refine a.out _ _ F (λ_=>?_);clear a;refine C9 5 (λt a=>?_);go_simp;rw[af.out];refine Ns (cH _ N) ?_;rintro e z ⟨rfl,u⟩;simp only[];have H:=(u.block _ (BC F)).trans F;have ad:=(u.block _ (BC ba)).trans ba;refine a.out _ _ H (λ_=>?_);clear a;refine C9 7 (λt a=>?_);rw[BA Bk];refine Hp 201 _ _ Z (W.heap.size+1) #[I K n,I K w,I .u64 j] Z Z 201 _ ad MD Z Ba ?_;have o:Hid (Jm W b W.heap.size (W.heap.size+1) (.func (.func f) #[] #[]) n w j s.next (z.setRow (W.heap.size+1) #[I K n,I K w,I .u64 j])) :=
   NG (W.heap.size+1) HH (aj.below u) (N.trans (BF.of_below u)) H J ad
  refine a.out _ _ o.box (λ_=>?_);clear a;refine Cv ?_;exact ax _ _ o
 case tail =>
  intro aa V hT;have o:=T hT;clear hT a2 a1 ae HH cH an af;have k0:=BB o.box 0;have k1:=BB o.box 1;have m0:=BB o.hd 0;have m1:=BB o.hd 1;have m2:=BB o.hd 2;by_cases hv:n=8
  ·have e8:((n:Int)==8)=true:=kfr
   have bj:((n:Int) != 8)=false:=kfr
   rw[BA hv]at k;clear am hv
   go_wp2_with fail
   refine Ec (S:=λV9=>V9.heap[W.heap.size]?=U (E #[A8 (U ⟨b,0,Y⟩),.func (.func f) #[] #[]] 150)/\V9.heap[aa]?=U (E #[I K n,I K w,I .u64 j] 201)) M ?_;have B:=T (o.step (o.src.below (C5 _ _).drew) (BF.of_below (C5 _ _).drew));change wpAnyH _ _ _ _ _ _ _ _ (World.drew V);refine D3 (i:=0) (v:=Ab #[A8 (U ⟨b,0,Y⟩),.func (.func f) #[] #[]]) rfl M M M (λ_ _ _ h=>h) (.inl ⟨rfl,λV9 d=>?y0⟩) ⟨B.box,B.hd⟩ ?_
   case y0=>(have c0:=BB d.1 0;have c1:=BB d.1 1;go_simp)
   refine D3 (i:=1) (v:=Ab #[A8 (U ⟨b,0,Y⟩),.func (.func f) #[] #[]]) rfl M M M (λ_ _ _ h=>h) (.inl ⟨rfl,λV9 d=>?y1⟩) ⟨B.box,B.hd⟩ ?_
   case y1=>(have c0:=BB d.1 0;have c1:=BB d.1 1;go_simp)
   refine D3 (i:=2) (v:=Ab #[I K n,I K w,I .u64 j]) Z M M M (λ_ _ _ h=>h) (.inl ⟨Z,λV9 d=>?y2⟩) ⟨B.box,B.hd⟩ ?_
   case y2=>(have c0:=BB d.2 0;have c1:=BB d.2 1;have c2:=BB d.2 2;go_simp)
   have a4:=cA _ B.src;clear cA o k0 k1 m0 m1 m2;refine C9 3 (λt a=>?_);go_simp;refine a4.mono ?_;clear a4;rintro e w5 ⟨ap,ab⟩
   cases ha:D4 s.bs s.lim w (s.pos+1) j with
   |error er =>
    rw[ha]at k ab;simp only[]at k;subst k;obtain⟨en,pl⟩:=er;obtain⟨hF,pz,aw⟩:=(show C0 en pl e/\∃p,BD w5 b {s with pos:=p}from ab)
    obtain rfl:=hF;exact⟨Z,.of1 (B.but.trans ap),Z,pz,aw⟩
   |ok xq =>
    obtain⟨x,q⟩:=xq;rw[ha]at k ab;simp only[]at k;have bo:=ak.out x q ha;obtain⟨rfl,a9⟩:=(show e=Af (I .u64 x)/\BD w5 b {s with pos:=q}from ab)
    have L:=T (B.step a9 ap);simp only[];refine a.out _ _ ⟨L.box,L.hd⟩ (λ_=>?_);clear a;have a7:=cX w5 q x L.src L.but bo;clear cX ak ha ab ap a9 B;refine C9 4 (λt a=>?_);go_simp;refine a7.mono ?_;clear a7;rintro e w6 ⟨aq,ac⟩
    cases hz:Dr s.bs s.lim x q [] 0 with
    |error er =>
     rw[hz]at k ac;simp only[]at k;subst k;obtain⟨en,pl⟩:=er;obtain⟨hF,pz,aw⟩:=(show C0 en pl e/\∃p,BD w6 b {s with pos:=p}from ac)
     obtain rfl:=hF;exact⟨Z,.of1 (L.but.trans aq),Z,pz,aw⟩
    |ok lr =>
     obtain⟨l,ay⟩:=lr;rw[hz]at k ac;simp only[]at k;have bf:=QZ _ _ _ _ _ _ _ _ hz;simp only[DX,DY]at bf;obtain⟨rfl,av⟩:=(show e=Af (A9 ⟨l.toArray⟩)/\BD w6 b {s with pos:=ay}from ac)
     have y:=T (L.step av aq);have a0:Hid (l.length<=1000000000):=by
      show _<=_;have h1:ay<=s.bs.length:=av.le;omega
     simp only[];refine a.out _ _ ⟨y.box,y.hd⟩ (λ_=>?_);clear a hz bf ac aq av L;refine C9 5 (λt a=>?_);go_simp;refine a.out _ _ ⟨y.box,y.hd⟩ (λ_=>?_);clear a;refine Cv ?_;have k0:=BB y.box 0;by_cases r:l∈ks
     ·rw[BA r]at k;subst k;have cK:=Yc w6 m ks l (az w6 y.but) r a0;clear r
      go_wp2_with(first
       |(go_at_call 250;refine cK.mono ?_;clear cK k0;rintro e w7 ⟨rfl,g⟩;have ag:=T (y.step (y.src.below g) (BF.of_below g));clear y g;have k0:=BB ag.box 0;have a6:=ah w7 ay ag.src;clear ah)
       |(go_at_call 227;refine a6.mono ?_;clear a6;rintro e w8 ⟨hF,rfl⟩;obtain rfl:=hF))
      exact⟨Z,.of1 ag.but,Z,_,ag.src⟩
     rw[Bz r]at k;subst k;have cK:=Yd w6 m ks l (az w6 y.but) r bm a0;clear r ah
     go_wp2_with(first
      |(go_at_call 250;refine cK.mono ?_;clear cK k0;rintro e w7 ⟨rfl,bl,g⟩))
     go_ret;exact⟨(GG.of1 y.but).trans (GG.of2 g),Z,bh _ _ _ y.src g,bl⟩
  have e8:((n:Int)==8)=false:=Ax
  have bj:((n:Int) != 8)=true:=Ax
  rw[Bz hv]at k;subst k;have a5:=am V o.src;clear hv am cA cX ah ak
  go_wp2_with(first
   |(go_at_call 227;refine a5.mono ?_;clear a5;rintro e w7 ⟨hF,rfl⟩;obtain rfl:=hF))
  exact⟨Z,.of1 o.but,Z,_,o.src⟩
def Yk(W:O)(b m:Nat)(s:BO)(f:Nat)(r:Int)(h:BD W b s)(q:∀V,BD V b s->Am X 226 #[A8 (U ⟨b,0,Y⟩)] V λe k=>C0 r s.pos e/\A0 V k):Am X 265 #[Ab #[A8 (U ⟨b,0,Y⟩),.func (.func f) #[] #[]],.map (U m)] W λe k=>BF b W k/\C0 r s.pos e/\∃p,BD k b {s with pos:=p}:=by
 have j:=T h;have t:A0 W (W.alloc (E #[A8 (U ⟨b,0,Y⟩),.func (.func f) #[] #[]] 150)).drew:=(BN).drew;have c:=T t;have u:Hid ((W.alloc (E #[A8 (U ⟨b,0,Y⟩),.func (.func f) #[] #[]] 150)).drew.heap[W.heap.size]?=U (E #[A8 (U ⟨b,0,Y⟩),.func (.func f) #[] #[]] 150)):=BI W _;clear h t;go_enter func265,ntmps265
 go_wp2_with fail
 refine Ec (S:=λV=>V.heap[W.heap.size]?=U (E #[A8 (U ⟨b,0,Y⟩),.func (.func f) #[] #[]] 150)) M ?_;have a:=u.out;refine D3 (i:=0) (v:=A8 (U ⟨W.heap.size,1,Y⟩)) Z M M M (λ_ _ _ h=>h) (.inl ⟨Z,λV g=>rfl⟩) a ?_;refine D3 (i:=1) (v:=.func (.func f) #[] #[]) rfl M M M (λ_ _ _ h=>h) (.inl ⟨rfl,λV g=>?y1⟩) a ?_
 case y1=>(have w:=BB g 1;go_simp)
 refine D3 (i:=2) (v:=A8 (U ⟨W.heap.size,0,Y⟩)) Z M M M (λ_ _ _ h=>h) (.inl ⟨Z,λV g=>rfl⟩) a ?_;refine D3 (i:=3) (v:=A8 (U ⟨b,0,Y⟩)) Z M M M (λ_ _ _ h=>h) (.inl ⟨Z,λV g=>?y3⟩) a ?_
 case y3=>(have w:=BB g 0;go_simp)
 refine Hq 4 6 (λo l=>?_) (λo l=>?_)
 ·go_simp;refine(q _ (j.below c)).mono ?_;rintro e y ⟨hF,d⟩;obtain rfl:=hF;exact⟨Z,(BF.of_below c).trans (BF.of_below d),Z,_,(j.below c).below d⟩
 go_simp;have x:((W.alloc (E #[A8 (U ⟨b,0,Y⟩),.func (.func f) #[] #[]] 150)).drew.alloc (E #[I K 0,I K 0,I .u64 0] 201)).heap[W.heap.size]?=_:=(BT _ _ _ (BC a)).trans a;have n:A0 W ((W.alloc (E #[A8 (U ⟨b,0,Y⟩),.func (.func f) #[] #[]] 150)).drew.alloc (E #[I K 0,I K 0,I .u64 0] 201)):=c.alloc c.size _;refine l.out _ _ x (λ_=>?_);clear l;refine C9 4 (λo l=>?_);go_simp;refine(q _ (j.below n)).mono ?_;rintro e y ⟨hF,d⟩;obtain rfl:=hF;exact⟨Z,(BF.of_below n).trans (BF.of_below d),Z,_,(j.below n).below d⟩
structure LT(f:Nat)(hd:Nat->Nat×Nat×Nat)(b:Nat)(W:World):Prop where
 fn:f=61\/f=62
 so:∀c,c<256->(hd c).1<=10
 fit:∀c,c<256->(hd c).2.1<=8/\((hd c).2.1=0\/(hd c).2.2=0)/\(hd c).2.2<18446744073709551616
 call:∀(c:UInt8) (V:World),BF b W V->Calls prog f #[.int .u8 c.toNat] V λe V'=>e=.returned (.agg #[.int .i64 (hd c.toNat).1,.int .i64 (hd c.toNat).2.1,.int .u64 (hd c.toNat).2.2])/\A0 V V'
def LT.but{f:Nat}(h:LT f hd b W)(d:BF b W V):LT f hd b V:=⟨h.fn,h.so,h.fit,λc a e=>h.call c a (d.trans e)⟩
def kI(W:O)(b m:Nat)(s:BO)(ks:List A1)(i:Nat->Nat×Nat×Nat)(f:Nat)(h:BD W b s)(q:E2 W m ks)(u:m≠b)(p:∀g off,s.bs≠[]->s.ia=U ⟨g,off,Y⟩->g≠m)(r:ks.length<1000000000)(t:s.bs.length<=200000000)(o:∀V,BF b W V->U8 V)(n:7<b)(d:LT f i b W):Am X 265 #[Ab #[A8 (U ⟨b,0,Y⟩),.func (.func f) #[] #[]],.map (U m)] W (TT W b m s ks (E3 i s.bs s.lim ks s.pos)):=by
 rcases Is h with a|a|⟨c,a⟩
 ·have e:E3 i s.bs s.lim ks s.pos=.error (9,(s.pos:Int)):=by
   unfold E3;rw[Dz (by have:s.pos=s.bs.length:=a;omega)]
  rw[e];refine(Yk W b m s f 9 h (λV l=>IQ V b s l a)).mono ?_;rintro e w ⟨a,j,k⟩;exact⟨.of1 a,j,k⟩
 ·have e:E3 i s.bs s.lim ks s.pos=.error (8,(s.pos:Int)):=by
   unfold E3;rw[C6 a.1];simp only[];rw[BA a.2]
  rw[e];refine(Yk W b m s f 8 h (λV l=>IR V b s l a)).mono ?_;rintro e w ⟨a,j,k⟩;exact⟨.of1 a,j,k⟩
 exact kH W b m s c ks i f _ _ _ h a q u p r Z (d.fit _ c.toNat_lt).1 (d.fit _ c.toNat_lt).2.1 (d.fit _ c.toNat_lt).2.2 t d.fn o n (d.call c)
def JS(k:Nat)(V:Ak)(F:Nat->Prop)(xs:List Al)(es:List (Lit×DataW Unit)):Prop :=
 ∀(i:Nat) (key:Lit) (d:A2),es[i]?=some (key,d)->∃l x,key=.string l/\xs[2*i]?=some (A9 ⟨l.toArray⟩)/\xs[2*i+1]?=some x/\BQ k V F x d
def JS.same{F G:Nat->Prop}(h:JS k V F xs es)(f:∀k,F k->G k)(j:∀k,F k->V'.heap[k]?=V.heap[k]?):JS k V' G xs es:=λi key d g=>by
 obtain⟨l,x,a,b,c,e⟩:=h i key d g;exact⟨l,x,a,b,c,e.same f j⟩
def BF.trans'(h:BF b A B)(k:GG b m B C)(d:A.heap.size<=m:=by omega):BF b A C :=
 ⟨k.os.trans h.os,k.tape.trans h.tape,k.output.trans h.output,C7 h.size k.size,λi c a=>(k.block i B1 a J).trans (h.block i c a)⟩
structure JT(k:Nat)(W:World)(b:Nat)(fv:Value)(s:BO)(p:Nat)(v:Value)(es:List (Lit×DataW Unit))(ks:List A1)(V:World):Prop where
 src:BD V b {s with pos:=p}
 but:BF b W V
 box:V.heap[W.heap.size]?=some (.cells #[.pointer (some ⟨b,0,none⟩),fv] 150)
 keys:E2 V (W.heap.size+1) ks
 own:∃xs,V.ownsRow (W.heap.size+2) 157 2 v es.length xs/\JS k V (λj=>W.heap.size+2<=j/\j<V.heap.size/\some j≠v.ownBlock) xs es
 size:W.heap.size+2<=V.heap.size
def Yl{base:Nat}{t:TypeId}{size:Nat}{n:Nat}(h:W.ownsRow base t size v n xs)(k:GG b m W W')(p:b<base)(o:m<base):W'.ownsRow base t size v n xs:=by
 obtain⟨i,a⟩:=h;refine⟨i,?_⟩;rcases a with a|⟨g,d,f,e,l,c,j⟩
 ·exact .inl a
 exact .inr ⟨g,d,f,e,l,(k.block g (BC c) J J).trans c,j⟩
def JT.step{ks':List A1}(h:JT k W b fv s p v es ks V)(hb:b<W.heap.size)(g:BD V' b {s with pos:=q})(a:GG b (W.heap.size+1) V V')(f:E2 V' (W.heap.size+1) ks'):JT k W b fv s q v es ks' V':=by
 obtain⟨i,d,e⟩:=h.own;have l:=h.size;refine⟨g,h.but.trans' a,(a.block _ (BC h.box) J J).trans h.box,f,⟨i,Yl d a J J,?_⟩,C7 h.size a.size⟩;exact e.same (λj c=>⟨c.1,CA c.2.1 a.size,c.2.2⟩) (λj c=>a.block j c.2.1 J J)
def JT.push{w5:O}{v' x:Al}{V0:O}(h:JT k W b fv s p v es ks V)(D:BD W b s)(u:V.ownsRow (W.heap.size+2) 157 2 v es.length xs)(S:JS k V (λj=>W.heap.size+2<=j/\j<V.heap.size/\U j≠v.ownBlock) xs es)(L:BQ k V (λj=>V0.heap.size<=j/\j<V.heap.size) x d)(R:∀g,v.ownBlock=U g->g<V0.heap.size)(aa:W.heap.size+2<=V0.heap.size)(Q:w5.ownsRow (W.heap.size+2) 157 2 v' (es.length+1) (xs++[A9 ⟨l.toArray⟩,x]))(f:(V.alloc (E #[A9 ⟨l.toArray⟩,x] 157)).grownBy w5 v.ownBlock)(o:v'.ownBlock=v.ownBlock\/v'.ownBlock=U (V.alloc (E #[A9 ⟨l.toArray⟩,x] 157)).heap.size):JT k W b fv s p v' (es++[(.string l,d)]) ks w5:=by
 have ac:=h.size;have ab:V.heap.size+1<=w5.heap.size:=Au f.size
 have key:∀g,v.ownBlock=U g->W.heap.size+2<=g:=λg f=>Fa u f;have q:∀j,j<V.heap.size->U j≠v.ownBlock->w5.heap[j]?=V.heap[j]?:=λj a n=>(f.block j Ax n).trans (BT _ _ _ a);have r:∀j,j<W.heap.size+2->w5.heap[j]?=V.heap[j]?:=λj a=>q j J (λe=>keK);have P:E2 w5 (W.heap.size+1) ks:=by
  have H:BF (W.heap.size+2) V (V.alloc (E #[A9 ⟨l.toArray⟩,x] 157)):=BF.of_below BN;have F:=h.keys.but (b:=W.heap.size+2) J H;exact F.kept f (λe=>AN)
 refine⟨D.same Z Z h.src (λj a=>r j J),⟨f.os.trans h.but.os,f.tape.trans h.but.tape,f.output.trans h.but.output,Ao h.but.size,λj a n=>(r j J).trans (h.but.block j a n)⟩,(r _ J).trans h.box,P,⟨_,by rw[BK];exact Q,λi y c m=>?_⟩,J⟩;have t:∀j,j<V.heap.size->U j≠v.ownBlock->U j≠v'.ownBlock:=λj a n=>by
  rcases o with o|o
  ·rw[o];exact n
  rw[o];intro e;injection e with e;simp at e;omega
 have ad:=u.1;by_cases N:i<es.length
 ·rw[F6 N]at m;obtain⟨l',x',z,A,B,C⟩:=S i y c m;refine⟨l',x',z,by rw[F6 J];exact A,by rw[F6 J];exact B,?_⟩;exact C.same (λj a=>⟨a.1,Ao a.2.1,t j a.2.1 a.2.2⟩) (λj a=>q j a.2.1 a.2.2)
 have e:i=es.length:=by
  have:=Cf m;rw[BK]at this;simp at this;omega
 subst e;rw[Ez J]at m;simp at m;obtain⟨rfl,rfl⟩:=m;have w:∀j,V0.heap.size<=j->U j≠v.ownBlock:=λj a e=>Ao (R j e.symm)
 refine⟨l,x,Z,?_,?_,L.same (λj a=>⟨J,J,t j a.2 (w j a.1)⟩) (λj a=>q j a.2 (w j a.1))⟩
 ·rw[Ez J,show 2*es.length-xs.length=0 by omega];rfl
 rw[Ez J,show 2*es.length+1-xs.length=1 by omega];rfl
def JT.row(h:JT k W b fv s p v es ks V):BQ (k+1) V (λj=>W.heap.size<=j/\j<V.heap.size) (Ad 155 v) (.map es):=by
 obtain⟨o,a,i⟩:=h.own;unfold BQ;refine⟨v,o,Z,⟨a.1,?_⟩,i.same (λj n=>⟨J,n.2.1⟩) (λ_ _=>rfl)⟩;rcases a.2 with l|⟨g,d,f,e,q,c,m⟩
 ·exact .inl l
 exact .inr ⟨g,d,f,e,⟨J,(BC c)⟩,c,m⟩
def Tryz.infoEntry:(prog.info? 157).map (λi=>(i.zero,i.size,i.bytes))=U (U (Ab #[.string ByteArray.empty,.nilIface]),2,32):=M
def R0(bs:A1)(lim:Int):∀(k p a x q:Nat),D4 bs lim k p a=.ok (x,q)->q=p+k
 |0,p,a,x,q,h=>by
  unfold D4 at h;cases h;rfl
 |k+1,p,a,x,q,h=>by
  rw[D4]at h;split at h
  ·cases h
  split at h
  ·cases h
  have:=R0 bs lim k (p+1) _ x q h;omega
def Ym(h:E3 hd bs lim ks p=.ok (l,q)):p<q:=by
 unfold E3 at h;split at h
 ·cases h
 split at h
 ·cases h
 split at h
 ·split at h
  ·cases h
  next x q' ha =>
  split at h
  ·cases h
  next l' r hb =>
  split at h
  ·cases h
  injection h with h;injection h with h1 h2;have:=R0 _ _ _ _ _ _ _ ha;have:=QZ _ _ _ _ _ _ _ _ hb;omega
 cases h
def kJ(k:Nat)(a:Al)(h:BD W b s):JT k W b a s s.pos (G Y 0 0) [] [] ((W.alloc (E #[A8 (U ⟨b,0,Y⟩),a] 150)).alloc (.map #[] 0)):=by
 have c:A0 W ((W.alloc (E #[A8 (U ⟨b,0,Y⟩),a] 150)).alloc (.map #[] 0)):=(BN).alloc Az _;refine⟨h.below c,BF.of_below c,(BT _ _ _ Az).trans (BI W _),⟨.map [],?_,λl=>by simp[Maps.has]⟩,⟨[],FQ _ _ _ _,λi key d e=>by simp at e⟩,Az⟩;have:=Qc (W.alloc (E #[A8 (U ⟨b,0,Y⟩),a] 150)) X 9 (unitElem (H:=Unit));rw[BU]at this;exact this
def kK(k:Nat)(W:O)(b:Nat)(s:BO)(f n:Nat)(F:Nat->Nat×Nat×Nat)(P:Nat->Except (Int×Int) (DataW Unit×Nat))(hn:n<18446744073709551616)(h:BD W b s)(a8:s.bs.length<=200000000)(hU:∀V,BF b W V->U8 V)(a1:7<b)(cH:LT f F b W)(ao:TR k f b s W P)(am:∀p d q,P p=.ok (d,q)->p<q):Am X 263 #[Ab #[A8 (U ⟨b,0,Y⟩),.func (.func f) #[] #[]],I .u64 n] W (NH W b s (λV aq B=>(∃a n c,aq=G a n c)/\BQ (k+1) V (λj=>W.heap.size<=j/\j<V.heap.size) (Ad 155 aq) (.map B)) (F1 (E3 F s.bs s.lim) P n s.pos [] [])):=by
 obtain⟨i0,hi,be,bf,bg⟩:=DZ Tryz.infoEntry;have a9:∀V:O,(Instr.makeMap 346 Y).run X V=.ok (.map (U V.heap.size)) (V.alloc (.map #[] 0)):=λV=>M
 have ak:Hid (JT k W b (.func (.func f) #[] #[]) s s.pos (G Y 0 0) [] [] ((W.alloc (E #[A8 (U ⟨b,0,Y⟩),.func (.func f) #[] #[]] 150)).alloc (.map #[] 0))):=kJ _ _ h;have af:=BC h.row;have ai:Hid (∀g off,s.bs≠[]->s.ia=U ⟨g,off,Y⟩->g≠W.heap.size+1):=λg off ba e=>by
  have hl:0<s.bs.length:=by cases a3:s.bs with|nil=>exact absurd a3 ba|cons _ _=>simp
  obtain⟨g',bo,L,_,e3⟩:=h.inp 0 hl;rw[e]at L;injection L with L;injection L with L;have:g'<W.heap.size:=G8 e3;omega
 have cK:∀(V:O) (p:Nat) (i:List A1),BD V b {s with pos:=p}->BF b W V->E2 V (W.heap.size+1) i->i.length<1000000000->Am X 265 #[Ab #[A8 (U ⟨b,0,Y⟩),.func (.func f) #[] #[]],.map (U (W.heap.size+1))] V (TT V b (W.heap.size+1) {s with pos:=p} i (E3 F s.bs s.lim i p)):=λV p i hV D hk hl=>kI V b (W.heap.size+1) {s with pos:=p} i F f hV hk J ai hl a8 (λa0 a2=>hU a0 (D.trans a2)) a1 (cH.but D);have aw:=T h;have aj:=T ao;have au:=T am;have a7:=h.le;obtain⟨R,C⟩:∃R,Hid (F1 (E3 F s.bs s.lim) P n s.pos [] []=R):=⟨_,show _=_ from rfl⟩
 rw[C.out];clear h ao am cH hU ai;go_enter func263,ntmps263;go_wp2;generalize(W.alloc (E #[A8 (U ⟨b,0,Y⟩),.func (.func f) #[] #[]] 150)).alloc (.map #[] 0)=W0 at *;clear a9
 go_loopg[5,10] n (λg y bi wr=>∃(m p:Nat) (a:A4) (t c:Nat) (B:List (Lit×DataW Unit)) (i:List A1),y=G a t c/\bi=I .u64 m/\Hid (m+g=n)/\Hid (p<=s.bs.length)/\Hid (B.length<=p/\i.length<=p)/\Hid (JT k W b (.func (.func f) #[] #[]) s p (G a t c) B i wr)/\Hid (F1 (E3 F s.bs s.lim) P g p i B=R))
 case atStart=>exact⟨0,s.pos,Y,0,0,[],[],rfl,rfl,AD,a7,⟨DK _,DK _⟩,ak,C⟩
 case round =>
  clear ak C;obtain⟨m,p,a,t,c0,B,i,rfl,rfl,hg,hp,ha,x,C⟩:=hrel;have kb:=BB x.box 0;have ap:=BB x.box 1
  cases gk with
  |zero =>
   have hk:m=n:=AT
   subst hk;have S:Hid (R=.ok (B,p)):=C.symm;clear C hg cK;go_wp2;go_ret;rw[S.out];exact⟨x.but,⟨_,Z,⟨_,_,_,Z⟩,x.row⟩,x.src⟩
  |succ g =>
   have bl:m<n:=AT
   have L:decide ((m:Int)<(n:Int))=true:=Ax
   have e2:decide (m<n)=true:=Ax
   have a6:i.length<1000000000:=Aq ha.out.2 hp.out
   have H:=cK wr p i x.src x.but x.keys a6;have w:=C.out;rw[F1]at w;clear C cK
   cases v:E3 F s.bs s.lim i p with
   |error er =>
    rw[v]at w H;simp only[]at w;obtain⟨en,pl⟩:=er;have S:=T w.symm;clear w v
    go_wp2_with(first
     |(go_at_call 265;refine H.mono ?_;clear H;rintro e A ⟨D,hF⟩;obtain⟨hF,pz,ag⟩:=(show C0 en pl e/\∃p,BD A b {s with pos:=p}from hF);obtain rfl:=hF))
    rw[S.out];exact⟨Z,x.but.trans' D,Z,pz,ag⟩
   |ok lq =>
    obtain⟨key,q⟩:=lq;rw[v]at w H;simp only[]at w;have bm:=Ym v;clear v;have bh:True:=trivial
    cases N:P q with
    |error er =>
     rw[N]at w;simp only[]at w;obtain⟨en,pl⟩:=er;have S:=T w.symm;have ab:=T N;clear w N bh
     go_wp2_with(first
      |(go_at_call 265;refine H.mono ?_;rintro e A ⟨D,hF⟩;obtain⟨rfl,ae,ad⟩:=(show e=Af (A9 ⟨key.toArray⟩)/\BD A b {s with pos:=q}/\E2 A (W.heap.size+1) (key::i)from hF);have o:=T (x.step af ae D ad);have kb:=BB o.box 0;have ap:=BB o.box 1;have u:=aj.out A q o.src o.but;rw[ab.out]at u)
      |(go_at_call 257;refine u.mono ?_;rintro e Q ⟨l,z⟩;obtain⟨z,pz,ag⟩:=(show C0 en pl e/\∃p,BD Q b {s with pos:=p}from z);obtain rfl:=z))
     rw[S.out];exact⟨Z,o.but.trans l,Z,pz,ag⟩
    |ok dr =>
     obtain⟨d,r⟩:=dr;rw[N]at w;simp only[]at w;have ab:=T N;have bn:=au.out q d r N;have HN:=T w;have bk:B.length<=200000000:=Aq ha.out.1 hp.out
     have ah:Hid (B.length+1<=r/\i.length+1<=r):=⟨Ao ha.out.1,Ao ha.out.2⟩
     go_wp2_with(first
      |(go_at_call 265;refine H.mono ?_;rintro e A ⟨D,hF⟩;obtain⟨rfl,ae,ad⟩:=(show e=Af (A9 ⟨key.toArray⟩)/\BD A b {s with pos:=q}/\E2 A (W.heap.size+1) (key::i)from hF);have o:=T (x.step af ae D ad);have kb:=BB o.box 0;have ap:=BB o.box 1;have u:=aj.out A q o.src o.but;rw[ab.out]at u;have ax:=T o.size;have av:Hid (∀g,(Value.slice a t c0).ownBlock=U g->g<A.heap.size):=by{obtain⟨xs,h1,_⟩:=o.own;exact P7 h1})
      |(go_at_call 257;refine u.mono ?_;rintro e Q ⟨l,z⟩;obtain⟨⟨aa,y,rfl,a4⟩,al⟩:=(show(∃aa y,e=Af (Ad aa y)/\BQ k Q (λj=>A.heap.size<=j/\j<Q.heap.size) (Ad aa y) d)/\BD Q b {s with pos:=r}from z);have ac:=T (o.step af al (.of1 l) (o.keys.but J l));have HD:=T a4;have HQ:Hid (r<=s.bs.length):=al.le;obtain⟨xs,bb,bd⟩:=ac.own;have HO:=T bb;have az:=T bd;have ar:=T ac.size)
      |(at_builtin;refine MH _ Z _ _ 155 Z (W.heap.size+2) 157 i0 (Ab #[.string ByteArray.empty,.nilIface]) 2 32 underlying155 hi be bf bg Z Ay _ _ _ Z (HO.alloc _) ⟨Q.heap.size,0,Y⟩ 1 1 [A9 ⟨key.toArray⟩,Ad aa y] Z Z (EE _ _ _) (λbp hu=>Bv) Ay AC J (Ar ar.out) ?_;intro v' w5 an a5 bc;have ay:=T (ac.push aw HO az HD av ax an a5 bc);obtain⟨g5,bj,rfl⟩:=ownsRow_succ an))
     go_roundg g
     case measure=>omega
     case rel=>exact⟨m+1,r,_,_,_,B++[(.string key,d)],key::i,rfl,AE,B6,HQ,⟨by rw[BK];exact ah.1,ah.2⟩,ay,HN⟩
def Yn(bs:A1)(lim:Int):∀(n p:Nat) (a l:A1) (r:Nat),EZ bs lim n p a=.ok (l,r)->r=p+n
 |0,p,a,l,r,h=>by
  rw[EZ]at h;injection h with h;injection h with h1 h2;exact h2.symm
 |n+1,p,a,l,r,h=>by
  rw[EZ]at h;split at h
  ·cases h
  split at h
  ·cases h
  have:=Yn bs lim n _ _ l r h;omega
def Yo(a:∀p d q,rd p=.ok (d,q)->p<q):∀(n p:Nat) (acc ds:List (DataW Unit)) (r:Nat),F0 rd n p acc=.ok (ds,r)->p<=r
 |0,p,acc,ds,r,h=>by
  rw[F0]at h;injection h with h;injection h with b c;omega
 |n+1,p,acc,ds,r,h=>by
  rw[F0]at h;split at h
  ·cases h
  next d q hq =>
  have b:=a _ _ _ hq;have c:=Yo a n q _ ds r h;omega
def Yp{kf:List A1->Nat->A5 A1}(b:∀a p l q,kf a p=.ok (l,q)->p<q)(c:∀p d q,rd p=.ok (d,q)->p<q):∀(n p:Nat) (a:List A1) (acc es:List (Lit×DataW Unit)) (r:Nat),F1 kf rd n p a acc=.ok (es,r)->p<=r
 |0,p,a,acc,es,r,h=>by
  rw[F1]at h;injection h with h;injection h with e f;omega
 |n+1,p,a,acc,es,r,h=>by
  rw[F1]at h;split at h
  ·cases h
  next l q hq =>
  split at h
  ·cases h
  next d r' hr =>
  have e:=b _ _ _ _ hq;have f:=c _ _ _ hr;have g:=Yp b c n r' _ _ es r h;omega
def kL{li:Nat->Nat->Except (Int×Int) (List (DataW Unit)×Nat)}{ma:Nat->Nat->Except (Int×Int) (List (Lit×DataW Unit)×Nat)}{r:Nat}(c:∀x q a r,li x q=.ok (a,r)->q<=r)(e:∀x q b r,ma x q=.ok (b,r)->q<=r)(h:F2 bs lim li ma so w x q=.ok (d,r)):q<=r:=by
 unfold F2 at h;split at h
 ·injection h with h;injection h with h1 h2;omega
 ·injection h with h;injection h with h1 h2;omega
 ·split at h
  ·cases h
  injection h with h;injection h with h1 h2;omega
 ·split at h
  ·cases h
  injection h with h;injection h with h1 h2;omega
 ·split at h
  ·cases h
  injection h with h;injection h with h1 h2;omega
 ·split at h
  ·cases h
  next l r' hl =>
  injection h with h;injection h with h1 h2;have:=Yn _ _ _ _ _ _ _ hl;omega
 ·split at h
  ·cases h
  next l r' hl =>
  injection h with h;injection h with h1 h2;have:=QZ _ _ _ _ _ _ _ _ hl;omega
 ·split at h
  ·cases h
  next a r' hl =>
  injection h with h;injection h with h1 h2;have:=c _ _ _ _ hl;omega
 ·split at h
  ·cases h
  next b r' hl =>
  injection h with h;injection h with h1 h2;have:=e _ _ _ _ hl;omega
 injection h with h;injection h with h1 h2;omega
def TU(f:Nat->Nat×Nat×Nat)(bs:A1)(lim depth:Int):∀(g e p:Nat) (d:A2) (q:Nat),D5 f bs lim depth g e p=.ok (d,q)->p<q
 |0,_,_,_,_,h=>by rw[D5]at h;cases h
 |g+1,e,p,d,q,h=>by
  have j:=TU f bs lim depth g (e+1)
  cases a:bs[p]? with
  |none =>
   unfold D5 at h;rw[a]at h;cases h
  |some c =>
   by_cases i:(p:Int)=lim
   ·unfold D5 at h;rw[a]at h;simp only[]at h;rw[BA i]at h;cases h
   rw[P5 a i rfl]at h;split at h
   ·cases h
   split at h
   ·cases h
   split at h
   ·cases h
   next x q' ha =>
   have o:=R0 _ _ _ _ _ _ _ ha;have s:=kL (λx q k r b=>Yo j x q [] k r b) (λx q m r b=>Yp (λt p l q n=>Ym n) j x q [] [] m r b) h;omega
def TV(a:Nat->Nat×Nat×Nat)(f:Nat):∀(g:Nat) (W:O) (b:Nat) (s:BO),BD W b s->s.bs.length<=200000000->(∀V,BF b W V->U8 V)->7<b->LT f a b W->s.depth<=100000->(s.within:Int)<=s.depth->s.depth<s.within+g ->
  Am X 257 #[Ab #[A8 (U ⟨b,0,Y⟩),.func (.func f) #[] #[]]] W (P6 g W b s (D5 a s.bs s.lim s.depth g s.within s.pos))
 |0,W,b,s,_,_,_,_,_,_,d,h2=>J
 |g+1,W,b,s,h,hlen,hU,h7,cH,hdp,hwd,hgd=>by
  have r:¬(s.within:Int)=s.depth->∀V,BF b W V->TR g f b {s with within:=s.within+1} V (D5 a s.bs s.lim s.depth g (s.within+1)):=λl V j t p k i =>
   TV a f g t b {s with pos:=p,within:=s.within+1} k hlen (λm o=>hU m ((j.trans i).trans o)) h7 (cH.but (j.trans i)) hdp keW keO
  rcases Is h with d|d|⟨c,d⟩
  ·have e:D5 a s.bs s.lim s.depth (g+1) s.within s.pos=.error (9,(s.pos:Int)):=by
    unfold D5;rw[Dz (by have:s.pos=s.bs.length:=d;omega)]
   rw[e];exact Yh W b s f 9 h (λV j=>IQ V b s j d)
  ·have e:D5 a s.bs s.lim s.depth (g+1) s.within s.pos=.error (8,(s.pos:Int)):=by
    unfold D5;rw[C6 d.1];simp only[];rw[BA d.2]
   rw[e];exact Yh W b s f 8 h (λV j=>IR V b s j d)
  exact kG g W b s c a f _ _ _ h d Z (cH.so _ c.toNat_lt) (cH.fit _ c.toNat_lt).1 (cH.fit _ c.toNat_lt).2.1 (cH.fit _ c.toNat_lt).2.2 hlen J cH.fn hU h7 (cH.call c)
   (λl V p n k i q=>km g V b {s with pos:=p,within:=s.within+1} f n _ q k hlen (r l V i) (TU a s.bs s.lim s.depth g (s.within+1)))
   (λl V p n k i q=>kK g V b {s with pos:=p,within:=s.within+1} f n a _ q k hlen (λm o=>hU m (i.trans o)) h7 (cH.but i) (r l V i) (TU a s.bs s.lim s.depth g (s.within+1)))
def Dp{α:Type}(bs:A1)(lim:Int)(itF:α->Nat->A5 α)(last:Nat):Nat->Nat->α->A5 α
 |0,p,_=>.error (9,p)
 |g+1,p,acc=>match Cd bs lim (bs.length+1-p) p with
  |.error e=>.error e
  |.ok (_,p1)=>match itF acc p1 with
   |.error e=>.error e
   |.ok (acc',p2)=>match Cd bs lim (bs.length+1-p2) p2 with
    |.error e=>.error e
    |.ok (_,p3)=>match bs[p3]? with
     |none=>.error (9,p3)
     |some c=>if(p3:Int)=lim then .error (8,p3)else if c.toNat=last then .ok (acc',p3+1)else if c.toNat=44 then Dp bs lim itF last g (p3+1) acc' else .error (9,p3)
def Di{α:Type}(bs:A1)(lim:Int)(itF:α->Nat->A5 α)(last p:Nat)(acc:α):A5 α :=
 match Cd bs lim (bs.length+1-p) p with
 |.error e=>.error e
 |.ok (_,p1)=>match bs[p1]? with
  |none=>Dp bs lim itF last (bs.length+1-p1) p1 acc
  |some c=>if(p1:Int)=lim then .error (8,p1)else if c.toNat=last then .ok (acc,p1+1)else Dp bs lim itF last (bs.length+1-p1) p1 acc
def D9(rd:Nat->Except (Int×Int) (DataW Unit×Nat))(ds:List (DataW Unit))(p:Nat):Except (Int×Int) (List (DataW Unit)×Nat) :=
 match rd p with
 |.error e=>.error e
 |.ok (d,q)=>.ok (ds++[d],q)
def FH(bs:A1)(lim:Int)(ks:List A1)(p:Nat):A5 A1 :=
 match Ci bs lim [34] p with
 |.error e=>.error e
 |.ok (_,q)=>match Ct bs lim (bs.length+1-q) q [] 0 with
  |.error e=>.error e
  |.ok (l,r)=>if l∈ks then .error (12,(r:Int)-1)else .ok (l,r)
def DO(bs:A1)(lim:Int)(rd:Nat->Except (Int×Int) (DataW Unit×Nat))(a:List A1×List (Lit×DataW Unit))(p:Nat):Except (Int×Int) ((List A1×List (Lit×DataW Unit))×Nat) :=
 match FH bs lim a.1 p with
 |.error e=>.error e
 |.ok (l,p1)=>match Cd bs lim (bs.length+1-p1) p1 with
  |.error e=>.error e
  |.ok (_,p2)=>match Ci bs lim [58] p2 with
   |.error e=>.error e
   |.ok (_,p3)=>match Cd bs lim (bs.length+1-p3) p3 with
    |.error e=>.error e
    |.ok (_,p4)=>match rd p4 with
     |.error e=>.error e
     |.ok (d,p5)=>.ok ((l::a.1,a.2++[(.string l,d)]),p5)
def GH(bs:A1)(lim depth:Int)(wi:Nat)(rd:Nat->Except (Int×Int) (DataW Unit×Nat))(nm:UInt8->Nat->A5 Int)(c:UInt8)(p:Nat):Except (Int×Int) (DataW Unit×Nat) :=
 if c.toNat=110 then match Ci bs lim [117,108,108] p with
  |.error e=>.error e
  |.ok (_,q)=>.ok (.nil,q)
 else if c.toNat=116 then match Ci bs lim [114,117,101] p with
  |.error e=>.error e
  |.ok (_,q)=>.ok (.lit (.bool true),q)
 else if c.toNat=102 then match Ci bs lim [97,108,115,101] p with
  |.error e=>.error e
  |.ok (_,q)=>.ok (.lit (.bool false),q)
 else if c.toNat=34 then match Ct bs lim (bs.length+1-p) p [] 0 with
  |.error e=>.error e
  |.ok (l,q)=>.ok (.lit (.string l),q)
 else if c.toNat=91 then(if(wi:Int)=depth then .error (11,(p:Int)-1)else match Di bs lim (D9 rd) 93 p []with
  |.error e=>.error e
  |.ok (ds,q)=>.ok (.agg ds,q))
 else if c.toNat=123 then(if(wi:Int)=depth then .error (11,(p:Int)-1)else match Di bs lim (DO bs lim rd) 125 p ([],[])with
  |.error e=>.error e
  |.ok (es,q)=>.ok (.map es.2,q))
 else if c.toNat=45\/Dm c=true then match nm c p with
  |.error e=>.error e
  |.ok (z,q)=>.ok (.lit (.int .i64 z),q)
 else .error (9,(p:Int)-1)
def CI(bs:A1)(lim depth:Int)(nm:UInt8->Nat->A5 Int):Nat->Nat->Nat->Except (Int×Int) (DataW Unit×Nat)
 |0,_,_=>.error (0,0)
 |g+1,wi,p=>match bs[p]? with
  |none=>.error (9,p)
  |some c=>if(p:Int)=lim then .error (8,p)else GH bs lim depth wi (CI bs lim depth nm g (wi+1)) nm c (p+1)
def IW(k:Nat)(W:Ak)(b:Nat)(s:BO)(r:Except (Int×Int) (DataW Unit×Nat))(e:Ending)(W':Ak):Prop :=
 BF b W W'/\match r with
 |.ok (d,p)=>(∃t y,e=Af (Ad t y)/\BQ k W' (λj=>W.heap.size<=j/\j<W'.heap.size) (Ad t y) d)/\BD W' b {s with pos:=p}
 |.error (en,pl)=>C0 en pl e
def MI(k b:Nat)(s:BO)(W0:Ak)(rd:Nat->Except (Int×Int) (DataW Unit×Nat)):Prop :=
 ∀(V:Ak) (p:Nat),BD V b {s with pos:=p}->BF b W0 V->Am prog 228 #[Ab #[A8 (some ⟨b,0,none⟩)]] V (IW k V b {s with pos:=p} (rd p))
end
end Go.Proofs.YtnlnjkggkbbdhaaGreatDoor
