import Derived.Test.YtoegnhgofkhbnaaGreatDoorHq13
import Derived.Test.YtoegnhgofkhbnaaGreatDoorHq11
import Derived.Test.YtoegnhgofkhbnaaGreatDoorHq12
set_option maxRecDepth 100000
set_option maxHeartbeats 8000000
set_option linter.all false
namespace Go.Proofs.YtoegnhgofkhbnaaGreatDoor
open Go.Proofs.Tryz
open Go.Value renaming int->A7,slice->A8,pointer->A9,string->Aa,tuple->Ab,agg->Ac,bool->Ad
open Go.Obj renaming cells->Af
open Go.Ending renaming returned->Ag
open Go.IntKind renaming i64->Ah
open Option renaming some->Aj,none->Ak
open Go renaming World->Al,Value->Am,Calls->An
variable{A B C V V' W W':Al}{b base k m n p size:Nat}{sv v:Am}{xs:List Am}{q:Bi}{bs:A2}{c c0:UInt8}{l lim:Int}
section
open Go.RowKit Go.Lib
def RW(bs:A2)(lim:Int):Nat->Nat->A2->Nat->A6 A2
 |0,p,acc,wh=>if wh=acc.length then .ok (acc,p)else .error (9,(p:Int)-1)
 |k+1,p,acc,wh=>match bs[p]? with
  |none=>.error (9,p)
  |some c=>if(p:Int)=lim then .error (8,p)else if BC (acc.drop wh) c=0 then .error (9,p)else
   RW bs lim k (p+1) (acc++[c]) (if BC (acc.drop wh) c=2 then acc.length+1 else wh)
end
section
open Go.RowKit
def Wj(rd:Nat->Except (Int×Int) (DataW Unit×Nat)):Nat->Nat->List (DataW Unit)->Except (Int×Int) (List (DataW Unit)×Nat)
 |0,p,acc=>.ok (acc,p)
 |k+1,p,acc=>match rd p with
  |.error e=>.error e
  |.ok (d,q)=>Wj rd k q (acc++[d])
def fY(hd:Nat->Nat×Nat×Nat)(bs:A2)(lim:Int)(ks:List A2)(p:Nat):A6 A2 :=
 match bs[p]? with
 |none=>.error (9,p)
 |some c=>if(p:Int)=lim then .error (8,p)else if(hd c.toNat).1=8 then
   match Rm bs lim (hd c.toNat).2.1 (p+1) (hd c.toNat).2.2 with
   |.error e=>.error e
   |.ok (x,q)=>match RW bs lim x q [] 0 with
    |.error e=>.error e
    |.ok (l,r)=>if l∈ks then .error (12,(r:Int)-1)else .ok (l,r)
  else .error (9,p)
def Wk(kf:List A2->Nat->A6 A2)(rd:Nat->Except (Int×Int) (DataW Unit×Nat)):Nat->Nat->List A2->List (Lit×DataW Unit)->Except (Int×Int) (List (Lit×DataW Unit)×Nat)
 |0,p,_,acc=>.ok (acc,p)
 |k+1,p,ks,acc=>match kf ks p with
  |.error e=>.error e
  |.ok (l,q)=>match rd q with
   |.error e=>.error e
   |.ok (d,r)=>Wk kf rd k r (l::ks) (acc++[(.string l,d)])
def fZ(bs:A2)(lim:Int)(li:Nat->Nat->Except (Int×Int) (List (DataW Unit)×Nat))(ma:Nat->Nat->Except (Int×Int) (List (Lit×DataW Unit)×Nat))(so w x q:Nat):Except (Int×Int) (DataW Unit×Nat) :=
 match so with
 |2=>.ok (.lit (.bool false),q)
 |3=>.ok (.lit (.bool true),q)
 |4=>match Rl 4 w x q with
  |.error e=>.error e
  |.ok z=>.ok (.lit (.int Ah z),q)
 |5=>match Rl 5 w x q with
  |.error e=>.error e
  |.ok z=>.ok (.lit (.int Ah z),q)
 |6=>match Rl 6 w x q with
  |.error e=>.error e
  |.ok z=>.ok (.lit (.int Ah z),q)
 |7=>match Vd bs lim x q []with
  |.error e=>.error e
  |.ok (l,r)=>.ok (.ptr (.lit (.string l)),r)
 |8=>match RW bs lim x q [] 0 with
  |.error e=>.error e
  |.ok (l,r)=>.ok (.lit (.string l),r)
 |9=>match li x q with
  |.error e=>.error e
  |.ok (ds,r)=>.ok (.agg ds,r)
 |10=>match ma x q with
  |.error e=>.error e
  |.ok (es,r)=>.ok (.map es,r)
 |_=>.ok (.nil,q)
def Mc(hd:Nat->Nat×Nat×Nat)(bs:A2)(lim depth:Int):Nat->Nat->Nat->Except (Int×Int) (DataW Unit×Nat)
 |0,_,_=>.error (0,0)
 |g+1,wi,p=>match bs[p]? with
  |none=>.error (9,p)
  |some c=>if(p:Int)=lim then .error (8,p)else if(hd c.toNat).1=0 then .error (9,p)else
   if((hd c.toNat).1=9\/(hd c.toNat).1=10)/\(wi:Int)=depth then .error (11,p)else
   match Rm bs lim (hd c.toNat).2.1 (p+1) (hd c.toNat).2.2 with
   |.error e=>.error e
   |.ok (x,q)=>fZ bs lim (λx q=>Wj (Mc hd bs lim depth g (wi+1)) x q []) (λx q=>Wk (fY hd bs lim) (Mc hd bs lim depth g (wi+1)) x q [] []) (hd c.toNat).1 (hd c.toNat).2.1 x q
theorem RX{t:TypeId}(h:W.ownsRow base t size v n xs)(k:AE b W W')(m:b<base):W'.ownsRow base t size v n xs:=by
 obtain⟨i,a⟩:=h;refine⟨i,?_⟩;rcases a with a|⟨g,d,f,e,l,c,j⟩
 ·exact .inl a
 exact .inr ⟨g,d,f,e,l,(k.block g (At c) (by omega)).trans c,j⟩
theorem Pf{t:TypeId}(h:V.ownsRow base t size v n xs):∀g,v.ownBlock=Aj g->g<V.heap.size:=λg a=>by
 rcases h.2 with⟨b,_⟩|⟨f,d,e,rfl,i,c,_⟩
 ·subst b;cases a
 cases a;exact At c
theorem Tryz.infoThing:(prog.info? 89).map (λi=>(i.zero,i.size,i.bytes))=Aj (Aj .nilIface,1,16):=by kernel_rfl
structure Gs(b m:Nat)(W W':World):Prop where
 os:W'.os=W.os
 tape:W'.tape=W.tape
 output:W'.output=W.output
 size:W.heap.size<=W'.heap.size
 block:∀k,k<W.heap.size->k≠b->k≠m->W'.heap[k]?=W.heap[k]?
theorem Gs.of1(h:AE b W W'):Gs b m W W':=⟨h.os,h.tape,h.output,h.size,λk a c _=>h.block k a c⟩
theorem Gs.of2(h:AE m W W'):Gs b m W W':=⟨h.os,h.tape,h.output,h.size,λk a _ c=>h.block k a c⟩
theorem Gs.trans(h:Gs b m A B)(k:Gs b m B C):Gs b m A C :=
 ⟨k.os.trans h.os,k.tape.trans h.tape,k.output.trans h.output,AW h.size k.size,λi d a c=>(k.block i (by have:=h.size;omega) a c).trans (h.block i d a c)⟩
theorem Az.off{s:AQ}(h:Az V b s)(k:m≠b)(hi:∀g off,s.bs≠[]->s.ia=Aj ⟨g,off,Ak⟩->g≠m)(d:AE m V V'):Az V' b s :=
 ⟨(d.block b (At h.row) (Ne.symm k)).trans h.row,λi f=>by
  obtain⟨g,off,a,j,c⟩:=h.inp i f;exact⟨g,off,a,j,(GF (w:=V) (d.block g (F8 c) (hi g off (λe=>by simp[e]at f) a))).trans c⟩,h.len,h.le⟩
theorem Ek.but{ks:List A2}(h:Ek V m ks)(d:m≠b)(a:AE b V V'):Ek V' m ks :=
 h.kept (row:=Aj b) ⟨a.os,a.tape,a.output,a.size,λk c f=>a.block k c (λe=>f (by rw[e]))⟩ (λe=>d (by injection e))
def Hs(k:Nat)(V:Al)(F:Nat->Prop)(xs:List Am)(es:List (Lit×DataW Unit)):Prop :=
 ∀(i:Nat) (key:Lit) (d:A3),es[i]?=Aj (key,d)->∃l x,key=.string l/\xs[2*i]?=Aj (Aa ⟨l.toArray⟩)/\xs[2*i+1]?=Aj x/\AJ k V F x d
theorem Hs.same{F G:Nat->Prop}{es:List (Lit×DataW Unit)}(h:Hs k V F xs es)(f:∀k,F k->G k)(j:∀k,F k->V'.heap[k]?=V.heap[k]?):Hs k V' G xs es:=λi key d g=>by
 obtain⟨l,x,a,b,c,e⟩:=h i key d g;exact⟨l,x,a,b,c,e.same f j⟩
theorem AE.trans'(h:AE b A B)(k:Gs b m B C)(d:A.heap.size<=m:=by omega):AE b A C :=
 ⟨k.os.trans h.os,k.tape.trans h.tape,k.output.trans h.output,AW h.size k.size,λi c a=>(k.block i (by have:=h.size;omega) a (by omega)).trans (h.block i c a)⟩
theorem ga{t:TypeId}(h:W.ownsRow base t size v n xs)(k:Gs b m W W')(p:b<base)(o:m<base):W'.ownsRow base t size v n xs:=by
 obtain⟨i,a⟩:=h;refine⟨i,?_⟩;rcases a with a|⟨g,d,f,e,l,c,j⟩
 ·exact .inl a
 exact .inr ⟨g,d,f,e,l,(k.block g (At c) (by omega) (by omega)).trans c,j⟩
theorem Tryz.infoEntry:(prog.info? 222).map (λi=>(i.zero,i.size,i.bytes))=Aj (Aj (Ac #[.string ByteArray.empty,.nilIface]),2,32):=by kernel_rfl
def C8{α:Type}(bs:A2)(lim:Int)(itF:α->Nat->A6 α)(last:Nat):Nat->Nat->α->A6 α
 |0,p,_=>.error (9,p)
 |g+1,p,acc=>match Bk bs lim (bs.length+1-p) p with
  |.error e=>.error e
  |.ok (_,p1)=>match itF acc p1 with
   |.error e=>.error e
   |.ok (acc',p2)=>match Bk bs lim (bs.length+1-p2) p2 with
    |.error e=>.error e
    |.ok (_,p3)=>match bs[p3]? with
     |none=>.error (9,p3)
     |some c=>if(p3:Int)=lim then .error (8,p3)else if c.toNat=last then .ok (acc',p3+1)else if c.toNat=44 then C8 bs lim itF last g (p3+1) acc' else .error (9,p3)
def BW{α:Type}(bs:A2)(lim:Int)(itF:α->Nat->A6 α)(last p:Nat)(acc:α):A6 α :=
 match Bk bs lim (bs.length+1-p) p with
 |.error e=>.error e
 |.ok (_,p1)=>match bs[p1]? with
  |none=>C8 bs lim itF last (bs.length+1-p1) p1 acc
  |some c=>if(p1:Int)=lim then .error (8,p1)else if c.toNat=last then .ok (acc,p1+1)else C8 bs lim itF last (bs.length+1-p1) p1 acc
def Cv(rd:Nat->Except (Int×Int) (DataW Unit×Nat))(ds:List (DataW Unit))(p:Nat):Except (Int×Int) (List (DataW Unit)×Nat) :=
 match rd p with
 |.error e=>.error e
 |.ok (d,q)=>.ok (ds++[d],q)
def El(bs:A2)(lim:Int)(ks:List A2)(p:Nat):A6 A2 :=
 match Ba bs lim [34] p with
 |.error e=>.error e
 |.ok (_,q)=>match Bn bs lim (bs.length+1-q) q [] 0 with
  |.error e=>.error e
  |.ok (l,r)=>if l∈ks then .error (12,(r:Int)-1)else .ok (l,r)
def C0(bs:A2)(lim:Int)(rd:Nat->Except (Int×Int) (DataW Unit×Nat))(a:List A2×List (Lit×DataW Unit))(p:Nat):Except (Int×Int) ((List A2×List (Lit×DataW Unit))×Nat) :=
 match El bs lim a.1 p with
 |.error e=>.error e
 |.ok (l,p1)=>match Bk bs lim (bs.length+1-p1) p1 with
  |.error e=>.error e
  |.ok (_,p2)=>match Ba bs lim [58] p2 with
   |.error e=>.error e
   |.ok (_,p3)=>match Bk bs lim (bs.length+1-p3) p3 with
    |.error e=>.error e
    |.ok (_,p4)=>match rd p4 with
     |.error e=>.error e
     |.ok (d,p5)=>.ok ((l::a.1,a.2++[(.string l,d)]),p5)
def FA(bs:A2)(lim depth:Int)(wi:Nat)(rd:Nat->Except (Int×Int) (DataW Unit×Nat))(nm:UInt8->Nat->A6 Int)(c:UInt8)(p:Nat):Except (Int×Int) (DataW Unit×Nat) :=
 if c.toNat=110 then match Ba bs lim [117,108,108] p with
  |.error e=>.error e
  |.ok (_,q)=>.ok (.nil,q)
 else if c.toNat=116 then match Ba bs lim [114,117,101] p with
  |.error e=>.error e
  |.ok (_,q)=>.ok (.lit (.bool true),q)
 else if c.toNat=102 then match Ba bs lim [97,108,115,101] p with
  |.error e=>.error e
  |.ok (_,q)=>.ok (.lit (.bool false),q)
 else if c.toNat=34 then match Bn bs lim (bs.length+1-p) p [] 0 with
  |.error e=>.error e
  |.ok (l,q)=>.ok (.lit (.string l),q)
 else if c.toNat=91 then(if(wi:Int)=depth then .error (11,(p:Int)-1)else match BW bs lim (Cv rd) 93 p []with
  |.error e=>.error e
  |.ok (ds,q)=>.ok (.agg ds,q))
 else if c.toNat=123 then(if(wi:Int)=depth then .error (11,(p:Int)-1)else match BW bs lim (C0 bs lim rd) 125 p ([],[])with
  |.error e=>.error e
  |.ok (es,q)=>.ok (.map es.2,q))
 else if c.toNat=45\/Cm c=true then match nm c p with
  |.error e=>.error e
  |.ok (z,q)=>.ok (.lit (.int Ah z),q)
 else .error (9,(p:Int)-1)
def BX(bs:A2)(lim depth:Int)(nm:UInt8->Nat->A6 Int):Nat->Nat->Nat->Except (Int×Int) (DataW Unit×Nat)
 |0,_,_=>.error (0,0)
 |g+1,wi,p=>match bs[p]? with
  |none=>.error (9,p)
  |some c=>if(p:Int)=lim then .error (8,p)else FA bs lim depth wi (BX bs lim depth nm g (wi+1)) nm c (p+1)
def Ig(k:Nat)(W:Al)(b:Nat)(s:AQ)(r:Except (Int×Int) (DataW Unit×Nat))(e:Ending)(W':Al):Prop :=
 AE b W W'/\match r with
 |.ok (d,p)=>(∃t y,e=Ag (.iface t y)/\AJ k W' (λj=>W.heap.size<=j/\j<W'.heap.size) (.iface t y) d)/\Az W' b {s with pos:=p}
 |.error (en,pl)=>B7 en pl e
def KV(k b:Nat)(s:AQ)(W0:Al)(rd:Nat->Except (Int×Int) (DataW Unit×Nat)):Prop :=
 ∀(V:Al) (p:Nat),Az V b {s with pos:=p}->AE b W0 V->An prog 228 #[Ac #[A9 (Aj ⟨b,0,Ak⟩)]] V (Ig k V b {s with pos:=p} (rd p))
def Md{α:Type}(St:Nat->α->Al->Prop)(Fr:Al->Prop)(r:A6 α)(e:Ending)(V:Al):Prop :=
 match r with
 |.ok (a,q)=>e=Ag (Ab #[])/\St q a V
 |.error (en,pl)=>B7 en pl e/\Fr V
structure Pg{α:Type}(b:Nat)(s:AQ)(St:Nat->Nat->Nat->α->World->Prop)(Fr:World->Prop):Prop where
 src:∀N wi p a V,St N wi p a V->Az V b {s with pos:=p,within:=wi}
 step:∀N wi p a V wi' q V',St N wi p a V->Az V' b {s with pos:=q,within:=wi' }->AE b V V'->p<=q->St N wi' q a V'
 box:∀N wi p a V,St N wi p a V->V.heap[N]?=some (.cells #[.pointer (some ⟨b,0,none⟩)] 207)
 fr:∀N wi p a V,St N wi p a V->Fr V
 frb:∀V V',Fr V->AE b V V'->Fr V'
theorem FQ(bs:A2)(lim:Int):∀(g p:Nat) (u:Unit) (q:Nat),Bk bs lim g p=.ok (u,q)->p<=q
 |0,p,u,q,h=>by
  rw[Bk]at h;injection h with h;injection h with h1 h2;omega
 |g+1,p,u,q,h=>by
  rw[Bk]at h;split at h
  ·injection h with h;injection h with h1 h2;omega
  split at h
  ·cases h
  split at h
  ·have:=FQ bs lim g (p+1) u q h;omega
  injection h with h;injection h with h1 h2;omega
theorem gc{α:Type}(W:Al)(b L r:Nat)(s:AQ)(F:α->Nat->A6 α)(K:α)(B:Nat->Nat->Nat->α->Al->Prop)(Z:Al->Prop)(hI:Pg b s B Z)(h:Az W b s)(hd:¬(s.within:Int)=s.depth)(a7:s.within<=100000)(a1:B W.heap.size s.within s.pos K (W.alloc (Af #[A9 (Aj ⟨b,0,Ak⟩)] 207)))(ag:∀ai p a V,B ai (s.within+1) p a V->An prog 242 #[A9 (Aj ⟨L,0,Ak⟩),A9 (Aj ⟨r,0,Ak⟩)] V (Md (B ai (s.within+1)) Z (F a p)))(a0:∀a p N ac,F a p=.ok (N,ac)->p<ac):An prog 241 #[Ac #[A9 (Aj ⟨b,0,Ak⟩)],A7 .u8 93,.func (.func 242) #[] #[A9 (Aj ⟨L,0,Ak⟩),A9 (Aj ⟨r,0,Ak⟩)]] W (Md (λac a V=>B W.heap.size s.within ac a V) Z (BW s.bs s.lim F 93 s.pos K)):=by
 have HS:=Ap a1;have f:=Ap hI;have ar:=Ap a0;have cE:=Wh (W.alloc (Af #[A9 (Aj ⟨b,0,Ak⟩)] 207)) b s (h.below AH) hd (by omega);have v:∀(V:Al) (p:Nat),Az V b {s with pos:=p,within:=s.within+1}->An prog 249 #[A9 (Aj ⟨b,0,Ak⟩)] V λe Q=>e=Ag (Ab #[])/\Az Q b {s with pos:=p}/\AE b V Q:=λV p k=>Wi V b s.within {s with pos:=p,within:=s.within+1} k rfl (by show s.within+1<=_;omega);obtain⟨R,J⟩:∃R,Hid (BW s.bs s.lim F 93 s.pos K=R):=⟨_,show _=_ from rfl⟩
 rw[J.out];have d:=J.out;unfold BW at d;have t:=Ar (f.box _ _ _ _ _ HS) 0;go_enter func241,ntmps241;go_wp2;go_step3
 go_wp2_with fail
 refine cE.mono ?_;rintro e w2 ⟨rfl,az,av⟩;have u:=Ap (f.step _ _ _ _ _ _ _ _ HS az av (by omega));have t:=Ar (f.box _ _ _ _ _ u) 0
 go_wp2_with fail
 refine(K9 w2 b {s with pos:=s.pos,within:=s.within+1} (f.src _ _ _ _ _ u)).mono ?_;rintro e w3 ⟨aj,q⟩
 cases w:Bk s.bs s.lim (s.bs.length+1-s.pos) s.pos with
 |error D =>
  obtain⟨C,G⟩:=D;simp only[w]at d q;subst d;obtain rfl:=(show B7 C G e from q)
  go_wp2;exact⟨rfl,rfl,f.frb _ _ (f.fr _ _ _ _ _ u) aj⟩
 |ok up =>
  obtain⟨a8,i⟩:=up;simp only[w]at d q;have a3:=FQ _ _ _ _ _ _ w;obtain⟨rfl,am⟩:=(show e=Ag (Ab #[])/\Az w3 b {s with pos:=i,within:=s.within+1}from q)
  have y:=Ap (f.step _ _ _ _ _ _ _ _ u am aj (by omega));have ah:Hid (i<=s.bs.length):=am.le;have t:=Ar (f.box _ _ _ _ _ y) 0;have a2:(LW {s with pos:=i,within:=s.within+1}/\R=.error (8,(i:Int)))\/(∃c,E5 {s with pos:=i,within:=s.within+1} c/\c.toNat=93/\R=.ok (K,i+1))\/((An prog 236 #[A9 (Aj ⟨b,0,Ak⟩),A7 .u8 93] w3 λe Q=>e=Ag (Ad false)/\Az Q b {s with pos:=i,within:=s.within+1}/\AE b w3 Q)/\C8 s.bs s.lim F 93 (s.bs.length+1-i) i K=R):=by
   have k:=(f.src _ _ _ _ _ y)
   cases l:s.bs[i]? with
   |none =>
    rw[l]at d;refine .inr (.inr ⟨OW 93 k ?_,d⟩);have x:i<=s.bs.length:=k.le;have M:=JV.1 l;show i=s.bs.length;omega
   |some c =>
    rw[l]at d;simp only[]at d;have M:=B9 l;by_cases o:(i:Int)=s.lim
    ·rw[As o]at d;exact .inl ⟨⟨M,o⟩,d.symm⟩
    rw[Aq o]at d;by_cases m:c.toNat=93
    ·rw[As m]at d;exact .inr (.inl ⟨c,⟨l,o⟩,m,d.symm⟩)
    rw[Aq m]at d;refine .inr (.inr ⟨?_,d⟩);have:=LX (c:=c) 93 k ⟨l,o⟩;rwa[show((c.toNat:Int)==93)=false by simp;omega]at this
  go_wp2_with fail
  rcases a2 with⟨ay,rfl⟩|⟨c,al,hc,rfl⟩|⟨cF,d⟩
  ·refine(Rj w3 b {s with pos:=i,within:=s.within+1} 93 (f.src _ _ _ _ _ y) ay).mono ?_;rintro e w4 ⟨rfl,T⟩;go_wp2;exact⟨rfl,rfl,f.frb _ _ (f.fr _ _ _ _ _ y) (AE.of_below T)⟩
  ·have cF:=LX (c:=c) 93 (f.src _ _ _ _ _ y) al;rw[show((c.toNat:Int)==93)=true by rw[hc];rfl]at cF;refine cF.mono ?_;rintro e w4 ⟨rfl,ae,T⟩;have n:=Ap (f.step _ _ _ _ _ _ _ _ y ae T (by omega));have t:=Ar (f.box _ _ _ _ _ n) 0
   go_wp2_with fail
   refine(E6 w4 b {s with pos:=i,within:=s.within+1} c (f.src _ _ _ _ _ n) al).mono ?_;rintro e w5 ⟨rfl,aa,U⟩;have H:=Ap (f.step _ _ _ _ _ _ _ _ n (show Az w5 b {s with pos:=i+1,within:=s.within+1}from aa) U (by omega));have t:=Ar (f.box _ _ _ _ _ H) 0
   go_wp2_with fail
   refine(v w5 (i+1) (f.src _ _ _ _ _ H)).mono ?_;rintro e w6 ⟨rfl,ab,aw⟩;have z:=Ap (f.step _ _ _ _ _ _ _ _ H ab aw (by omega));go_wp2;refine Nw ?_;go_end0;exact⟨rfl,z⟩
  have J:=Ap d;refine cF.mono ?_;rintro e w4 ⟨rfl,ae,T⟩;have n:=Ap (f.step _ _ _ _ _ _ _ _ y ae T (by omega));go_wp2;go_step3;go_wp2
  go_loopg[21] (s.bs.length+1-i) (λg _ wr=>∃(p:Nat) (a:α),Hid (s.bs.length+1<=p+g)/\Hid (p<=s.bs.length)/\Hid (B W.heap.size (s.within+1) p a wr)/\Hid (C8 s.bs s.lim F 93 g p a=R))
  case atStart=>exact⟨i,K,by show _<=_;have:=ah.out;omega,ah,n,J⟩
  case round =>
   obtain⟨p,a,hg,hp,n,J⟩:=hrel;obtain⟨g,rfl⟩:∃g,gk=g+1:=⟨gk-1,by have:=hg.out;have:=hp.out;omega⟩
   have t:=Ar (f.box _ _ _ _ _ n) 0;have d:=J.out;rw[C8]at d
   go_wp2_with fail
   refine(K9 wr b {s with pos:=p,within:=s.within+1} (f.src _ _ _ _ _ n)).mono ?_;rintro e w5 ⟨U,X⟩
   cases w:Bk s.bs s.lim (s.bs.length+1-p) p with
   |error D =>
    obtain⟨C,G⟩:=D;simp only[w]at d X;subst d;clear w ag v;obtain rfl:=(show B7 C G e from X)
    go_wp2;exact⟨rfl,rfl,f.frb _ _ (f.fr _ _ _ _ _ n) U⟩
   |ok up =>
    obtain⟨u1,q1⟩:=up;simp only[w]at d X;have a4:=FQ _ _ _ _ _ _ w;clear w;obtain⟨rfl,aa⟩:=(show e=Ag (Ab #[])/\Az w5 b {s with pos:=q1,within:=s.within+1}from X)
    have H:=Ap (f.step _ _ _ _ _ _ _ _ n aa U (by omega));clear n aa U X
    go_wp2_with fail
    refine(ag _ _ _ _ H).mono ?_;clear ag;rintro e w6 E
    cases l:F a q1 with
    |error D =>
     obtain⟨C,G⟩:=D;rw[l]at d E;simp only[]at d;subst d;clear l v;obtain⟨E,ax⟩:=(show B7 C G e/\Z w6 from E)
     obtain rfl:=E;go_wp2;exact⟨rfl,rfl,ax⟩
    |ok aq =>
     obtain⟨N,q2⟩:=aq;rw[l]at d E;simp only[]at d;have a5:=ar.out _ _ _ _ l;clear l;obtain⟨rfl,ab⟩:=(show e=Ag (Ab #[])/\B W.heap.size (s.within+1) q2 N w6 from E)
     have z:=Ap ab;clear H E ab;have t:=Ar (f.box _ _ _ _ _ z) 0
     go_wp2_with fail
     refine(K9 w6 b {s with pos:=q2,within:=s.within+1} (f.src _ _ _ _ _ z)).mono ?_;clear t;rintro e w7 ⟨ad,Y⟩
     cases o:Bk s.bs s.lim (s.bs.length+1-q2) q2 with
     |error D =>
      obtain⟨C,G⟩:=D;simp only[o]at d Y;subst d;clear o v;obtain rfl:=(show B7 C G e from Y)
      go_wp2;exact⟨rfl,rfl,f.frb _ _ (f.fr _ _ _ _ _ z) ad⟩
     |ok up =>
      obtain⟨u3,j⟩:=up;simp only[o]at d Y;have a6:=FQ _ _ _ _ _ _ o;clear o;obtain⟨rfl,an⟩:=(show e=Ag (Ab #[])/\Az w7 b {s with pos:=j,within:=s.within+1}from Y)
      have I:=Ap (f.step _ _ _ _ _ _ _ _ z an ad (by omega));clear z an ad Y;have t:=Ar (f.box _ _ _ _ _ I) 0
      go_wp2_with fail
      have k:=(f.src _ _ _ _ _ I)
      cases m:s.bs[j]? with
      |none =>
       simp only[m]at d;subst d;refine(K6 w7 b {s with pos:=j,within:=s.within+1} k (by show j=s.bs.length;have x:j<=s.bs.length:=k.le;have M:=JV.1 m;omega)).mono ?_;clear m v k;rintro e w8 ⟨rfl,P⟩;go_wp2;exact⟨rfl,rfl,f.frb _ _ (f.fr _ _ _ _ _ I) (AE.of_below P)⟩
      |some c =>
       rw[m]at d;simp only[]at d;have M:=B9 m;by_cases x:(j:Int)=s.lim
       ·rw[As x]at d;subst d;refine(K7 w7 b {s with pos:=j,within:=s.within+1} k ⟨M,x⟩).mono ?_;clear m x M v k;rintro e w8 ⟨rfl,P⟩;go_wp2;exact⟨rfl,rfl,f.frb _ _ (f.fr _ _ _ _ _ I) (AE.of_below P)⟩
       rw[Aq x]at d;refine(E6 w7 b {s with pos:=j,within:=s.within+1} c k ⟨m,x⟩).mono ?_;clear m x t k;rintro e w8 ⟨rfl,af,P⟩;have A:=Ap (f.step _ _ _ _ _ _ _ _ I (show Az w8 b {s with pos:=j+1,within:=s.within+1}from af) P (by omega));have au:Hid (j+1<=s.bs.length):=af.le;clear I af P;have t:=Ar (f.box _ _ _ _ _ A) 0;by_cases O:c.toNat=93
       ·rw[As O]at d;subst d;have e1:((c.toNat:Int)==93)=true:=by rw[O];rfl
        clear O
        go_wp2_with fail
        refine(v w8 (j+1) (f.src _ _ _ _ _ A)).mono ?_;clear v t;rintro e w9 ⟨rfl,ao,ak⟩;have H9:=Ap (f.step _ _ _ _ _ _ _ _ A ao ak (by omega));clear A ao ak;go_wp2
        first|(refine Nw ?_;go_end0)|go_end0
        exact⟨rfl,H9⟩
       rw[Aq O]at d;have e1:=AI (c:=c) 93 (by omega);by_cases S:c.toNat=44
       ·rw[As S]at d;have HN:=Ap d;have e2:((c.toNat:Int)==44)=true:=by rw[S];rfl
        have ap:Hid (s.bs.length+1<=(j+1)+g):=by show _<=_;have:=hg.out;omega
        clear O S d v;go_wp2;go_roundg g
        case measure=>omega
        case rel=>exact⟨j+1,N,ap,au,A,HN⟩
       rw[Aq S]at d;subst d;have e2:=AI (c:=c) 44 (by omega);have cR:=Fd w8 b {s with pos:=j+1,within:=s.within+1} 9 (f.src _ _ _ _ _ A);rw[show((({s with pos:=j+1,within:=s.within+1}:AQ).pos:Int)-1)=j by show(((j+1:Nat)):Int)-1=j;omega]at cR;clear O S v
       go_wp2_with fail
       refine cR.mono ?_;rintro e w9 ⟨rfl,rfl⟩;go_wp2;exact⟨rfl,rfl,f.fr _ _ _ _ _ A⟩
theorem gd{α:Type}(W:Al)(b L r m:Nat)(s:AQ)(G:α->Nat->A6 α)(M:α)(C:Nat->Nat->Nat->α->Al->Prop)(u:Al->Prop)(hI:Pg b s C u)(h:Az W b s)(hd:¬(s.within:Int)=s.depth)(a7:s.within<=100000)(a1:C W.heap.size s.within s.pos M (W.alloc (Af #[A9 (Aj ⟨b,0,Ak⟩)] 207)))(ag:∀ai p a V,C ai (s.within+1) p a V->An prog 243 #[A9 (Aj ⟨r,0,Ak⟩),A9 (Aj ⟨m,0,Ak⟩),A9 (Aj ⟨L,0,Ak⟩)] V (Md (C ai (s.within+1)) u (G a p)))(a0:∀a p a' ac,G a p=.ok (a',ac)->p<ac):An prog 241 #[Ac #[A9 (Aj ⟨b,0,Ak⟩)],A7 .u8 125,.func (.func 243) #[] #[A9 (Aj ⟨r,0,Ak⟩),A9 (Aj ⟨m,0,Ak⟩),A9 (Aj ⟨L,0,Ak⟩)]] W (Md (λac a V=>C W.heap.size s.within ac a V) u (BW s.bs s.lim G 125 s.pos M)):=by
 have HS:=Ap a1;have f:=Ap hI;have ar:=Ap a0;have cE:=Wh (W.alloc (Af #[A9 (Aj ⟨b,0,Ak⟩)] 207)) b s (h.below AH) hd (by omega);have w:∀(V:Al) (p:Nat),Az V b {s with pos:=p,within:=s.within+1}->An prog 249 #[A9 (Aj ⟨b,0,Ak⟩)] V λe S=>e=Ag (Ab #[])/\Az S b {s with pos:=p}/\AE b V S:=λV p k=>Wi V b s.within {s with pos:=p,within:=s.within+1} k rfl (by show s.within+1<=_;omega);obtain⟨R,K⟩:∃R,Hid (BW s.bs s.lim G 125 s.pos M=R):=⟨_,show _=_ from rfl⟩
 rw[K.out];have d:=K.out;unfold BW at d;have v:=Ar (f.box _ _ _ _ _ HS) 0;go_enter func241,ntmps241;go_wp2;go_step3
 go_wp2_with fail
 refine cE.mono ?_;rintro e w2 ⟨rfl,az,av⟩;have N:=Ap (f.step _ _ _ _ _ _ _ _ HS az av (by omega));have v:=Ar (f.box _ _ _ _ _ N) 0
 go_wp2_with fail
 refine(K9 w2 b {s with pos:=s.pos,within:=s.within+1} (f.src _ _ _ _ _ N)).mono ?_;rintro e w3 ⟨aj,q⟩
 cases x:Bk s.bs s.lim (s.bs.length+1-s.pos) s.pos with
 |error E =>
  obtain⟨D,H⟩:=E;simp only[x]at d q;subst d;obtain rfl:=(show B7 D H e from q)
  go_wp2;exact⟨rfl,rfl,f.frb _ _ (f.fr _ _ _ _ _ N) aj⟩
 |ok up =>
  obtain⟨a8,i⟩:=up;simp only[x]at d q;have a3:=FQ _ _ _ _ _ _ x;obtain⟨rfl,am⟩:=(show e=Ag (Ab #[])/\Az w3 b {s with pos:=i,within:=s.within+1}from q)
  have z:=Ap (f.step _ _ _ _ _ _ _ _ N am aj (by omega));have ah:Hid (i<=s.bs.length):=am.le;have v:=Ar (f.box _ _ _ _ _ z) 0;have a2:(LW {s with pos:=i,within:=s.within+1}/\R=.error (8,(i:Int)))\/(∃c,E5 {s with pos:=i,within:=s.within+1} c/\c.toNat=125/\R=.ok (M,i+1))\/((An prog 236 #[A9 (Aj ⟨b,0,Ak⟩),A7 .u8 125] w3 λe S=>e=Ag (Ad false)/\Az S b {s with pos:=i,within:=s.within+1}/\AE b w3 S)/\C8 s.bs s.lim G 125 (s.bs.length+1-i) i M=R):=by
   have k:=(f.src _ _ _ _ _ z)
   cases l:s.bs[i]? with
   |none =>
    rw[l]at d;refine .inr (.inr ⟨OW 125 k ?_,d⟩);have y:i<=s.bs.length:=k.le;have O:=JV.1 l;show i=s.bs.length;omega
   |some c =>
    rw[l]at d;simp only[]at d;have O:=B9 l;by_cases t:(i:Int)=s.lim
    ·rw[As t]at d;exact .inl ⟨⟨O,t⟩,d.symm⟩
    rw[Aq t]at d;by_cases n:c.toNat=125
    ·rw[As n]at d;exact .inr (.inl ⟨c,⟨l,t⟩,n,d.symm⟩)
    rw[Aq n]at d;refine .inr (.inr ⟨?_,d⟩);have:=LX (c:=c) 125 k ⟨l,t⟩;rwa[show((c.toNat:Int)==125)=false by simp;omega]at this
  go_wp2_with fail
  rcases a2 with⟨ay,rfl⟩|⟨c,al,hc,rfl⟩|⟨cF,d⟩
  ·refine(Rj w3 b {s with pos:=i,within:=s.within+1} 125 (f.src _ _ _ _ _ z) ay).mono ?_;rintro e w4 ⟨rfl,U⟩;go_wp2;exact⟨rfl,rfl,f.frb _ _ (f.fr _ _ _ _ _ z) (AE.of_below U)⟩
  ·have cF:=LX (c:=c) 125 (f.src _ _ _ _ _ z) al;rw[show((c.toNat:Int)==125)=true by rw[hc];rfl]at cF;refine cF.mono ?_;rintro e w4 ⟨rfl,ae,U⟩;have o:=Ap (f.step _ _ _ _ _ _ _ _ z ae U (by omega));have v:=Ar (f.box _ _ _ _ _ o) 0
   go_wp2_with fail
   refine(E6 w4 b {s with pos:=i,within:=s.within+1} c (f.src _ _ _ _ _ o) al).mono ?_;rintro e w5 ⟨rfl,aa,X⟩;have I:=Ap (f.step _ _ _ _ _ _ _ _ o (show Az w5 b {s with pos:=i+1,within:=s.within+1}from aa) X (by omega));have v:=Ar (f.box _ _ _ _ _ I) 0
   go_wp2_with fail
   refine(w w5 (i+1) (f.src _ _ _ _ _ I)).mono ?_;rintro e w6 ⟨rfl,ab,aw⟩;have A:=Ap (f.step _ _ _ _ _ _ _ _ I ab aw (by omega));go_wp2;refine Nw ?_;go_end0;exact⟨rfl,A⟩
  have K:=Ap d;refine cF.mono ?_;rintro e w4 ⟨rfl,ae,U⟩;have o:=Ap (f.step _ _ _ _ _ _ _ _ z ae U (by omega));go_wp2;go_step3;go_wp2
  go_loopg[21] (s.bs.length+1-i) (λg _ wr=>∃(p:Nat) (a:α),Hid (s.bs.length+1<=p+g)/\Hid (p<=s.bs.length)/\Hid (C W.heap.size (s.within+1) p a wr)/\Hid (C8 s.bs s.lim G 125 g p a=R))
  case atStart=>exact⟨i,M,by show _<=_;have:=ah.out;omega,ah,o,K⟩
  case round =>
   obtain⟨p,a,hg,hp,o,K⟩:=hrel;obtain⟨g,rfl⟩:∃g,gk=g+1:=⟨gk-1,by have:=hg.out;have:=hp.out;omega⟩
   have v:=Ar (f.box _ _ _ _ _ o) 0;have d:=K.out;rw[C8]at d
   go_wp2_with fail
   refine(K9 wr b {s with pos:=p,within:=s.within+1} (f.src _ _ _ _ _ o)).mono ?_;rintro e w5 ⟨X,Y⟩
   cases x:Bk s.bs s.lim (s.bs.length+1-p) p with
   |error E =>
    obtain⟨D,H⟩:=E;simp only[x]at d Y;subst d;clear x ag w;obtain rfl:=(show B7 D H e from Y)
    go_wp2;exact⟨rfl,rfl,f.frb _ _ (f.fr _ _ _ _ _ o) X⟩
   |ok up =>
    obtain⟨u1,q1⟩:=up;simp only[x]at d Y;have a4:=FQ _ _ _ _ _ _ x;clear x;obtain⟨rfl,aa⟩:=(show e=Ag (Ab #[])/\Az w5 b {s with pos:=q1,within:=s.within+1}from Y)
    have I:=Ap (f.step _ _ _ _ _ _ _ _ o aa X (by omega));clear o aa X Y
    go_wp2_with fail
    refine(ag _ _ _ _ I).mono ?_;clear ag;rintro e w6 F
    cases l:G a q1 with
    |error E =>
     obtain⟨D,H⟩:=E;rw[l]at d F;simp only[]at d;subst d;clear l w;obtain⟨F,ax⟩:=(show B7 D H e/\u w6 from F)
     obtain rfl:=F;go_wp2;exact⟨rfl,rfl,ax⟩
    |ok aq =>
     obtain⟨a',q2⟩:=aq;rw[l]at d F;simp only[]at d;have a5:=ar.out _ _ _ _ l;clear l;obtain⟨rfl,ab⟩:=(show e=Ag (Ab #[])/\C W.heap.size (s.within+1) q2 a' w6 from F)
     have A:=Ap ab;clear I F ab;have v:=Ar (f.box _ _ _ _ _ A) 0
     go_wp2_with fail
     refine(K9 w6 b {s with pos:=q2,within:=s.within+1} (f.src _ _ _ _ _ A)).mono ?_;clear v;rintro e w7 ⟨ad,Z⟩
     cases t:Bk s.bs s.lim (s.bs.length+1-q2) q2 with
     |error E =>
      obtain⟨D,H⟩:=E;simp only[t]at d Z;subst d;clear t w;obtain rfl:=(show B7 D H e from Z)
      go_wp2;exact⟨rfl,rfl,f.frb _ _ (f.fr _ _ _ _ _ A) ad⟩
     |ok up =>
      obtain⟨u3,j⟩:=up;simp only[t]at d Z;have a6:=FQ _ _ _ _ _ _ t;clear t;obtain⟨rfl,an⟩:=(show e=Ag (Ab #[])/\Az w7 b {s with pos:=j,within:=s.within+1}from Z)
      have J:=Ap (f.step _ _ _ _ _ _ _ _ A an ad (by omega));clear A an ad Z;have v:=Ar (f.box _ _ _ _ _ J) 0
      go_wp2_with fail
      have k:=(f.src _ _ _ _ _ J)
      cases n:s.bs[j]? with
      |none =>
       simp only[n]at d;subst d;refine(K6 w7 b {s with pos:=j,within:=s.within+1} k (by show j=s.bs.length;have y:j<=s.bs.length:=k.le;have O:=JV.1 n;omega)).mono ?_;clear n w k;rintro e w8 ⟨rfl,Q⟩;go_wp2;exact⟨rfl,rfl,f.frb _ _ (f.fr _ _ _ _ _ J) (AE.of_below Q)⟩
      |some c =>
       rw[n]at d;simp only[]at d;have O:=B9 n;by_cases y:(j:Int)=s.lim
       ·rw[As y]at d;subst d;refine(K7 w7 b {s with pos:=j,within:=s.within+1} k ⟨O,y⟩).mono ?_;clear n y O w k;rintro e w8 ⟨rfl,Q⟩;go_wp2;exact⟨rfl,rfl,f.frb _ _ (f.fr _ _ _ _ _ J) (AE.of_below Q)⟩
       rw[Aq y]at d;refine(E6 w7 b {s with pos:=j,within:=s.within+1} c k ⟨n,y⟩).mono ?_;clear n y v k;rintro e w8 ⟨rfl,af,Q⟩;have B:=Ap (f.step _ _ _ _ _ _ _ _ J (show Az w8 b {s with pos:=j+1,within:=s.within+1}from af) Q (by omega));have au:Hid (j+1<=s.bs.length):=af.le;clear J af Q;have v:=Ar (f.box _ _ _ _ _ B) 0;by_cases P:c.toNat=125
       ·rw[As P]at d;subst d;have e1:((c.toNat:Int)==125)=true:=by rw[P];rfl
        clear P
        go_wp2_with fail
        refine(w w8 (j+1) (f.src _ _ _ _ _ B)).mono ?_;clear w v;rintro e w9 ⟨rfl,ao,ak⟩;have H9:=Ap (f.step _ _ _ _ _ _ _ _ B ao ak (by omega));clear B ao ak;go_wp2
        first|(refine Nw ?_;go_end0)|go_end0
        exact⟨rfl,H9⟩
       rw[Aq P]at d;have e1:=AI (c:=c) 125 (by omega);by_cases T:c.toNat=44
       ·rw[As T]at d;have HN:=Ap d;have e2:((c.toNat:Int)==44)=true:=by rw[T];rfl
        have ap:Hid (s.bs.length+1<=(j+1)+g):=by show _<=_;have:=hg.out;omega
        clear P T d w;go_wp2;go_roundg g
        case measure=>omega
        case rel=>exact⟨j+1,a',ap,au,B,HN⟩
       rw[Aq T]at d;subst d;have e2:=AI (c:=c) 44 (by omega);have cR:=Fd w8 b {s with pos:=j+1,within:=s.within+1} 9 (f.src _ _ _ _ _ B);rw[show((({s with pos:=j+1,within:=s.within+1}:AQ).pos:Int)-1)=j by show(((j+1:Nat)):Int)-1=j;omega]at cR;clear P T w
       go_wp2_with fail
       refine cR.mono ?_;rintro e w9 ⟨rfl,rfl⟩;go_wp2;exact⟨rfl,rfl,f.fr _ _ _ _ _ B⟩
theorem Gw.of_below{A:Nat}(h:A1 W W'):Gw A q sv W W':=⟨h.size,λj a _ _ _ _=>h.block j a⟩
theorem Gw.trans{A:Nat}{X:Al}(h:Gw A q sv W V)(g:Gw A q sv V X):Gw A q sv W X :=
 ⟨AW h.size g.size,λj e a b c d=>(g.block j (Br e h.size) a b c d).trans (h.block j e a b c d)⟩
def Xh(W0:Al)(A:Nat)(q:Bi)(sts:List ((Nat->Nat)×Int×Int))(sv:Am)(P:Nat->Nat)(x mn:Nat)(W:Al)(e:Ending)(W':Al):Prop :=
 ∃(i:Nat) (sts':List ((Nat->Nat)×Int×Int)) (sa':A5) (sc':Nat) (nf':Lit->Option Nat) (mn':Nat) (mf':Lit->Option Nat),e=Ag (A7 Ah i)/\BQ W0 A q sts' (A8 sa' sts'.length sc') nf' mn' mf' W'/\La q sts' mf'/\mn'<=mn+1/\(∀(j:Nat) (x:(Nat->Nat)×Int×Int),sts[j]?=Aj x->sts'[j]?=Aj x)/\sts'.length<=sts.length+1/\∃t Y,sts'[i]?=Aj t/\Mi q.rs.length q.st (ER q.st (q.tk x) P q.rs.length) Y/\(∀r,r<16->t.1 r=Y r)/\Gw A q sv W W'/\L8 sv (A8 sa' sts'.length sc') W
theorem jG(w:Al)(A:Nat)(q:Bi)(c:List ((Nat->Nat)×Int×Int))(G:A5)(o:Nat)(C:Lit->Option Nat)(n:Nat)(m:Lit->Option Nat)(W:Al)(h:BQ w A q c (A8 G c.length o) C n m W)(a7:La q c m)(a9:c.length<100000)(bl:n<100000)(f:Nat)(s:(Nat->Nat)×Int×Int)(N:c[f]?=Aj s)(key:A2)(F:Bool)(hb:key.length<=maxLen)(x:Nat)(hx:Gx q.lf key F=x)(Dn:x<q.L)(l:Lit)(hl:keyOf prog 293 (.agg (CO f x))=Aj l)(hi:m l=Ak):An prog 160 #[A9 (Aj ⟨A,0,Ak⟩),A7 Ah f,Ac #[Aa ⟨key.toArray⟩,Ad F]] W (Xh w A q c (A8 G c.length o) s.1 x n W):=by
 have HA:Hid (BQ w A q c (A8 G c.length o) C n m (W.alloc (Af #[Aa ⟨key.toArray⟩,Ad F] 277))):=h.next AH
 have HW:Hid (A1 W (W.alloc (Af #[Aa ⟨key.toArray⟩,Ad F] 277))):=AH;have cL:=X8 w A q c _ C n m _ HA key F hb;rw[hx]at cL;have ap:=Ap a7;go_enter func160,ntmps160
 go_wp2_with(first
  |(go_at_call 176;refine cL.mono ?_;rintro e b ⟨rfl,z⟩;have D:=Ap (HA.next z);have ag:=Ap (HW.trans (z.mono HW.size))))
 have O:Hid (BQ w A q c (A8 G c.length o) C n m (b.alloc (Af #[A7 Ah f,A7 Ah x] 293))):=D.next AH
 have ae:Hid ((b.alloc (Af #[A7 Ah f,A7 Ah x] 293)).heap[b.heap.size]?=Aj (Af (CO f x) 293)):=Ay _ _;have ao:Hid (∀g,(Value.slice G c.length o).ownBlock=Aj g->g<b.heap.size):=λg e=>NK D.states e;have H:Hid (A<b.heap.size/\q.nb<b.heap.size/\q.mb<b.heap.size):=⟨(At D.row),D.numbers.lt,D.moves.lt⟩
 have ar:Hid (A1 W (b.alloc (Af #[A7 Ah f,A7 Ah x] 293))):=ag.alloc ag.size _;generalize b.alloc (Af #[A7 Ah f,A7 Ah x] 293)=V0 at *;refine Cp (S:=λZ=>Z.cell? ⟨A,22,Ak⟩=Aj (.map (Aj q.mb))/\Z.heap[b.heap.size]?=Aj (Af (CO f x) 293)/\Cn Z 293 q.mb n m) (⟨Ar O.row 22,ae,O.moves⟩) (by kernel_rfl) ?_;intro a;refine Au 0 16 (A9 (Aj ⟨A,0,Ak⟩)) a ?_;refine Au 1 17 (A9 (Aj ⟨A,0,Ak⟩)) a ?_;refine Au 2 18 (A9 (Aj ⟨A,22,Ak⟩)) a ?_;refine AD 3 19 (.map (Aj q.mb)) rfl (λZ k=>?y3) a ?_
 case y3=>(have z1:=k.1;go_simp)
 refine AD 4 20 (.agg (CO f x)) rfl (λZ k=>?y4) a ?_
 case y4=>exact JA 293 (.tmp 7) rfl b.heap.size rfl _ _ _ _ k.2.1 underlying293 rfl (by kernel_rfl)
 refine AD 5 21 (Ab #[A7 Ah 0,Ad false]) rfl (λZ k=>?y5) a ?_
 case y5=>(have z2:=Pn k.2.2 Sc underlying116 hl;rw[hi]at z2;go_simp)
 refine Au 6 15 (Ab #[A7 Ah 0,Ad false]) a ?_;refine Au 7 22 (A7 Ah 0) a ?_;refine Au 8 23 (Ad false) a ?_;refine Au 9 8 (A7 Ah 0) a ?_;refine Au 10 9 (Ad false) a ?_;refine Bw ?_;go_simp;have P:=Ap (O.next (AT _ _).drew);have af:Hid ((World.drew V0).heap[b.heap.size]?=Aj (Af (CO f x) 293)):=ae.out;have au:=Ap (ar.drew);generalize World.drew V0=V at *;obtain⟨g,bg,ba,bi,bh,hc⟩:=P.state_at N;injection ba with J _ T;subst J;subst T;have ax:V.cell? ⟨A,20,Ak⟩=Aj (A8 (Aj ⟨g,0,Ak⟩) c.length o):=Ar P.row 20;have d1:V.cell? ⟨b.heap.size,1,Ak⟩=Aj (A7 Ah x):=Ar af 1;have bj:(f:Int)<(c.length:Int):=by have:=B9 N;omega
 have HC:Hid (∀(j:Nat) (u:Am),(AG s.1)[j]?=Aj u->V.cell? ⟨g,f*18+j,Ak⟩=Aj u):=λj u hu=>hc j u (by
  have hj:=At hu;unfold CB;rw[MN hj];exact hu)
 go_wp2;have a:(λZ:Al=>Z.heap[b.heap.size]?=Aj (Af (CO f x) 293)) {V with drawn:=V.drawn+1}:=af.out;have v:Hid (BQ w A q c (A8 (Aj ⟨g,0,Ak⟩) c.length o) C n m {V with drawn:=V.drawn+1}):=P.next (AT _ _).drew
 have am:Hid (∀(j:Nat) (u:Am),(AG s.1)[j]?=Aj u->({V with drawn:=V.drawn+1}:Al).cell? ⟨g,f*18+j,Ak⟩=Aj u):=HC.out;have bf:({V with drawn:=V.drawn+1}:Al).cell? ⟨A,20,Ak⟩=Aj (A8 (Aj ⟨g,0,Ak⟩) c.length o):=ax;have cA:=iU {V with drawn:=V.drawn+1} A q.ra q.rc q.rs.length q.st q.tb q.L q.tc q.tk v.bits.1 v.bits.2 v.few.1 v.auR v.auT s.1 (v.here f s N).2 x Dn;refine Dr (S:=λZ=>Z.heap[b.heap.size]?=Aj (Af (CO f x) 293)) (by kernel_rfl) ?_;have ah:Hid (A1 W {V with drawn:=V.drawn+1}):=au.drew;generalize({V with drawn:=V.drawn+1}:Al)=V1 at *;refine Au 0 26 (A9 (Aj ⟨A,0,Ak⟩)) a ?_;refine Au 1 27 (A9 (Aj ⟨A,0,Ak⟩)) a ?_;refine Au 2 28 (A9 (Aj ⟨A,0,Ak⟩)) a ?_;refine Au 3 29 (A9 (Aj ⟨A,0,Ak⟩)) a ?_;refine Au 4 30 (A9 (Aj ⟨A,20,Ak⟩)) a ?_;refine Au 6 32 (A7 Ah f) a ?_;refine Au 10 36 (A9 (Aj ⟨b.heap.size,1,Ak⟩)) a ?_;refine AD 11 37 (A7 Ah x) rfl (λZ k=>?y11) a ?_
 case y11=>(have z1:Z.cell? ⟨b.heap.size,1,Ak⟩=Aj (A7 Ah x):=Ar k 1;go_simp)
 refine Bc 5 (λK d=>?_);go_simp;refine d.out _ _ a (λ_=>?_);refine Bc 7 (λK d=>?_);go_simp;refine d.out _ _ a (λ_=>?_);refine Bc 8 (λK d=>?_);go_simp;refine d.out _ _ a (λ_=>?_);refine Bc 9 (λK d=>?_);refine IU (by kernel_rfl) ?_;refine Xa 119 _ rfl g (f*18) rfl (AG s.1) _ am underlying119 rfl (DU s.1) ?_;refine d.out _ _ a (λ_=>?_);refine Bc 12 (λK d=>?_);go_simp;refine cA.mono ?_;rintro e w4 ⟨⟨Y,rfl,hY⟩,z⟩;simp only[];have R:=Ap hY;have ak:=Ap (v.next z);have X:(λZ:Al=>Z.heap[b.heap.size]?=Aj (Af (CO f x) 293)) w4:=(z.block _ (At a)).trans a;refine d.out _ _ X (λ_=>?_);have ai:Hid (Gw A q (A8 (Aj ⟨g,0,Ak⟩) c.length o) W w4):=Gw.of_below (ah.trans (z.mono ah.size));refine Bc 13 (λK d=>?_);go_simp;refine(X4 w A q c _ o C n m w4 ak Y R.2.2 a9).mono ?_;rintro e w6 ⟨i,ac,bd,be,bc,rfl,hF,az,ay,a8,a6,t,ht,bb⟩;simp only[];have al:=Ap ay;have r:(λZ:Al=>Z.heap[b.heap.size]?=Aj (Af (CO f x) 293)) w6:=(hF.block _ (At X) (λe=>by have:=ao.out _ e.symm;omega) (by have:=H.1;omega) (by have:=H.2.1;omega) (by have:=H.2.2;omega)).trans X;have I:=Ap a8;have E:Hid (ac[i]?=Aj t/\∀ab,ab<16->t.1 ab=Y ab):=⟨ht,bb⟩
 refine d.out _ _ r (λ_=>?_);have aq:=Ap (az.mono ai.size);have av:=Ap (ai.trans hF);refine Au 14 8 (A7 Ah i) r ?_;refine Bw ?_;go_simp;go_wp2;have Q:=Ap (al.next (AT _ _).drew);have bk:=B9 E.1;obtain⟨w7,bm,a5,M⟩:=WQ Q.moves Sc underlying116 (by omega) hl i (by omega);obtain⟨B,J,e2⟩:∃B:Lit->Option Nat,B l=Aj i/\∀y,y≠l->B y=m y:=by
  have:=Classical.propDecidable;exact⟨λy=>if y=l then Aj i else m y,As rfl,λy hh=>Aq hh⟩
 have ad:=Ap (Q.moved M (a5 B J e2));have an:Hid (La q ac B):=by
  intro f2 x2 l2 k2 aj aa;by_cases e:l2=l
  ·subst e;have T:=CX (J.symm.trans aa);have U:=WG.inj aj hl;injection U with U;have e5:f2=f/\x2=x:=by
    have:=congrArg Array.toList U;simp[CO]at this;omega
   rw[e5.1,e5.2,<-T];exact⟨s,t,Y,I _ _ N,E.1,R,E.2⟩
  rw[e2 l2 e]at aa;obtain⟨s2,t2,Y2,a1,a2,a3,a4⟩:=ap.out f2 x2 l2 k2 aj aa;exact⟨s2,t2,Y2,I _ _ a1,I _ _ a2,a3,a4⟩
 have p:(λZ:Al=>Z.cell? ⟨A,22,Ak⟩=Aj (.map (Aj q.mb))/\Z.heap[b.heap.size]?=Aj (Af (CO f x) 293)) {w6 with drawn:=w6.drawn+1}:=⟨Ar Q.row 22,r⟩
 have a0:(λZ:Al=>Z.cell? ⟨A,22,Ak⟩=Aj (.map (Aj q.mb))/\Z.heap[b.heap.size]?=Aj (Af (CO f x) 293)) w7:=⟨Ar ad.row 22,(M.block b.heap.size (At p.2) (by have:=H.2.2;simp;omega)).trans p.2⟩
 have aw:=Ap (av.trans ⟨M.size,λj hj _ _ _ hn=>M.block j hj (by simpa using hn)⟩);refine Dr (S:=λZ=>Z.cell? ⟨A,22,Ak⟩=Aj (.map (Aj q.mb))/\Z.heap[b.heap.size]?=Aj (Af (CO f x) 293)) (by kernel_rfl) ?_;refine Au 0 40 (A9 (Aj ⟨A,0,Ak⟩)) p ?_;refine Au 1 41 (A9 (Aj ⟨A,0,Ak⟩)) p ?_;refine Au 2 42 (A9 (Aj ⟨A,22,Ak⟩)) p ?_;refine AD 3 43 (.map (Aj q.mb)) rfl (λZ k=>?y3) p ?_
 case y3=>(have z1:=k.1;go_simp)
 refine AD 4 44 (.agg (CO f x)) rfl (λZ k=>?y4) p ?_
 case y4=>exact JA 293 (.tmp 7) rfl b.heap.size rfl _ _ _ _ k.2 underlying293 rfl (by kernel_rfl)
 refine Au 5 45 (A7 Ah i) p ?_;refine Bc 6 (λK d=>?_);go_simp;refine d.out _ _ a0 (λ_=>?_);refine Bw ?_;go_simp;go_wp2;go_ret;exact⟨i,ac,bd,be,bc,n+1,B,rfl,ad,an,AB _,I,a6,t,Y,E.1,R,E.2,aw,aq⟩
theorem jH(d:Al)(A:Nat)(q:Bi)(a:List ((Nat->Nat)×Int×Int))(k:A5)(m:Nat)(j:Lit->Option Nat)(c:Nat)(b:Lit->Option Nat)(W:Al)(h:BQ d A q a (A8 k a.length m) j c b W)(p:La q a b)(F:a.length<100000)(E:c<100000)(f:Nat)(s:(Nat->Nat)×Int×Int)(r:a[f]?=Aj s)(key:A2)(g:Bool)(v:key.length<=maxLen)(x:Nat)(w:Gx q.lf key g=x)(Dn:x<q.L)(H:q.L<=100000):An prog 160 #[A9 (Aj ⟨A,0,Ak⟩),A7 Ah f,Ac #[Aa ⟨key.toArray⟩,Ad g]] W (Xh d A q a (A8 k a.length m) s.1 x c W):=by
 have I:=B9 r;obtain⟨l,o⟩:=jE f x (by omega) (by omega)
 cases n:b l with
 |none=>exact jG d A q a k m j c b W h p F E f s r key g v x w Dn l o n
 |some i =>
  refine(jF d A q a _ j c b W h f key g v x w l o i n).mono ?_;rintro e G ⟨rfl,u⟩;obtain⟨J,t,Y,y,z,B,C⟩:=p f x l i o n;have e:=CX (r.symm.trans y);subst e;exact⟨i,a,k,m,j,c,b,rfl,h.next u,p,LN _,λ_ _ D=>D,LN _,t,Y,z,B,C,Gw.of_below u,.inl rfl⟩
end
section
open Go.RowKit Go.Lib
def Bm(c:UInt8):Nat:=if c.toNat<128 then 1 else if c.toNat<194 then 0 else if c.toNat<224 then 2 else if c.toNat<240 then 3 else if c.toNat<245 then 4 else 0
def CJ(c:UInt8):Nat:=if c.toNat<194 then 0 else if c.toNat=224 then 160 else if c.toNat=240 then 144 else if c.toNat<245 then 128 else 0
def CR(c:UInt8):Nat:=if c.toNat<194 then 0 else if c.toNat=237 then 159 else if c.toNat=244 then 143 else if c.toNat<245 then 191 else 0
theorem px:(List.range 256).all (λx=>(let c:=UInt8.ofNat x;decide ((CV c=0↔Bm c=1)/\(CV c=1↔Bm c=0)/\(2<=Bm c->CV c=Bm c/\Jn c=CJ c/\Jo c=CR c/\128<=CJ c)/\Bm c<=4)))=true:=by kernel_rfl
theorem O1(c:UInt8):(CV c=0↔Bm c=1)/\(CV c=1↔Bm c=0)/\(2<=Bm c->CV c=Bm c/\Jn c=CJ c/\Jo c=CR c/\128<=CJ c)/\Bm c<=4:=by
 have h:=D7.1 px c.toNat (BT.2 c.toNat_lt);have a:=By h;rw[UInt8.ofNat_toNat]at a;exact a
def I0(c0:UInt8)(j:Nat)(c:UInt8):Bool:=(j==1&&(decide (c.toNat<CJ c0)||decide (CR c0<c.toNat)))||(decide (1<j)&&(decide (c.toNat<128)||decide (191<c.toNat)))
def J3(bs:A2)(n p:Nat)(c0:UInt8):Nat->Nat->Nat×Bool
 |0,_=>(Bm c0,true)
 |g+1,j=>if n<=p+j then(j,false)else match bs[p+j]? with
  |none=>(j,false)
  |some c=>if I0 c0 j c=true then(j,false)else J3 bs n p c0 g (j+1)
def My(bs:A2)(n p:Nat)(c0:UInt8):Nat×Bool:=if Bm c0=0 then(0,false)else J3 bs n p c0 (Bm c0-1) 1
theorem Ts(a c:UInt8):I0 a 1 c=true↔(c.toNat<CJ a\/CR a<c.toNat):=by
 unfold I0;simp
theorem O2(a c:UInt8)(j:Nat)(d:1<j):I0 a j c=true↔(c.toNat<128\/191<c.toNat):=by
 unfold I0;have b:(j==1)=false:=by simp;omega
 rw[b,Bs d];simp
theorem py(a:UInt8)(l:A2)(c:UInt8)(e:l.length+1<Bm a):BC (a::l) c=if I0 a (l.length+1) c=true then 0 else if l.length+2=Bm a then 2 else 1:=by
 obtain⟨_,_,g,m⟩:=O1 a;obtain⟨f,j,k,n⟩:=g (by omega)
 match l,e with
 |[],e =>
  show BC [a] c=if I0 a 1 c=true then 0 else if 2=Bm a then 2 else 1;simp only[BC,f,j,k];by_cases b:c.toNat<CJ a\/CR a<c.toNat
  ·rw[As b,As ((Ts a c).2 b)]
  rw[Aq b,Aq (λh=>b ((Ts a c).1 h))];by_cases d:Bm a=2
  ·rw[As d,As d.symm]
  rw[Aq d,Aq (λh=>d h.symm)]
 |[b1],e =>
  show BC [a,b1] c=if I0 a 2 c=true then 0 else if 3=Bm a then 2 else 1;simp only[BC,f];by_cases b:c.toNat<128\/191<c.toNat
  ·rw[As b,As ((O2 a c 2 (by decide)).2 b)]
  rw[Aq b,Aq (λh=>b ((O2 a c 2 (by decide)).1 h))];by_cases d:Bm a=3
  ·rw[As d,As d.symm]
  rw[Aq d,Aq (λh=>d h.symm)]
 |[b1,b2],e =>
  show BC [a,b1,b2] c=if I0 a 3 c=true then 0 else if 4=Bm a then 2 else 1;have i:4=Bm a:=by
   have:3<Bm a:=e;omega
  simp only[BC];by_cases b:c.toNat<128\/191<c.toNat
  ·rw[As b,As ((O2 a c 3 (by decide)).2 b)]
  rw[Aq b,Aq (λh=>b ((O2 a c 3 (by decide)).1 h)),As i]
 |_::_::_::l,e=>simp only[Bq]at e;omega
theorem pz(c:UInt8):BC [] c=if Bm c=0 then 0 else if Bm c=1 then 2 else 1:=by
 obtain⟨d,e,f,g⟩:=O1 c;simp only[BC];by_cases a:Bm c=0
 ·rw[As a];have:=e.2 a;rw[Aq (by omega),As this]
 rw[Aq a];by_cases b:Bm c=1
 ·rw[As b,As (d.2 b)]
 rw[Aq b,Aq (λh=>b (d.1 h)),Aq (λh=>a (e.1 h))]
theorem pA(a c:UInt8)(j:Nat)(e:2<=Bm a)(g:1<=j)(h:c.toNat<32):I0 a j c=true:=by
 obtain⟨_,_,d,_⟩:=O1 a;have f:=(d e).2.2.2;unfold I0;by_cases b:j=1
 ·subst b;simp;omega
 simp;omega
def Dx(bs:A2)(p k:Nat):A2:=(bs.drop p).take k
theorem YS(h:bs[p+k]?=Aj c):Dx bs p (k+1)=Dx bs p k++[c]:=by
 unfold Dx;rw[Hi,KD,h];rfl
theorem Tt(h:p+k<=bs.length):(Dx bs p k).length=k:=by
 unfold Dx;rw[Hj,DK];omega
theorem pC(h:bs[p]?=Aj c):Dx bs p 1=[c]:=by
 have:=YS (bs:=bs) (p:=p) (k:=0) (c:=c) (by simpa using h);rw[this];simp[Dx]
theorem pD(h:bs[p]?=Aj c)(e:1<=k)(f:p+k<=bs.length):∃l,Dx bs p k=c::l/\l.length+1=k:=by
 have a:=B9 h;have b:=(J8.1 h).2;obtain⟨k,rfl⟩:∃d,k=d+1:=⟨k-1,by omega⟩
 refine⟨(bs.drop (p+1)).take k,?_,?_⟩
 ·unfold Dx;rw[F5 a,Oy,b]
 rw[Hj,DK];omega
theorem YT(o:Lm bs l lim)(A:(n:Int)=min (bs.length:Int) lim)(q:bs[p]?=Aj c0)(a:A2):∀(g j f:Nat),1<=j->j+g=Bm c0->AS bs lim (p+j)->bs.length+1<=p+j+f ->
  match J3 bs n p c0 g j with
  |(k,true)=>k=Bm c0/\AS bs lim (p+k)/\Bn bs lim f (p+j) (a++Dx bs p j) (if g=0 then a.length+j else a.length)=Bn bs lim (f-g) (p+k) (a++Dx bs p k) (a++Dx bs p k).length
  |(k,false)=>k<=Bm c0/\AS bs lim (p+k)/\Bn bs lim f (p+j) (a++Dx bs p j) (if g=0 then a.length+j else a.length)=.error (BM bs l (p+k) 9)
 |0,j,f,hj,hg,hi,_=>by
  rw[J3];simp only[];have y:j=Bm c0:=by omega
  subst y;refine⟨trivial,hi,?_⟩;rw[As trivial,AC,Tt hi.1];rfl
 |g+1,j,f,hj,hg,hi,hf=>by
  obtain⟨f,rfl⟩:∃v,f=v+1:=⟨f-1,by have:=hi.1;omega⟩
  rw[J3];by_cases u:n<=p+j
  ·rw[As u];simp only[];refine⟨by omega,hi,?_⟩;rw[Aq (by omega),Bn]
   cases b:bs[p+j]? with
   |none=>simp only[];rw[JM hi.1 b]
   |some c =>
    have r:=B9 b;have d:((p+j:Nat):Int)=lim:=by have:=hi.2;omega
    simp only[];rw[As d,GB o b d]
  rw[Aq u];have r:p+j<bs.length:=by omega
  have b:=AY r;obtain⟨c,x⟩:∃c,c=bs[p+j]:=⟨_,rfl⟩
  rw[<-x]at b;rw[b];simp only[];have d:¬((p+j:Nat):Int)=lim:=by omega
  obtain⟨t,C,D⟩:=pD q hj (by omega);have e:=py c0 t c (by omega);have hcut:(a++Dx bs p j).drop a.length=c0::t:=by rw[List.drop_left,C]
  rw[<-hcut,D,show t.length+2=j+1 by omega]at e;have z:(a++Dx bs p j).length=a.length+j:=by rw[AC,Tt (by omega)]
  by_cases i:I0 c0 j c=true
  ·rw[As i];simp only[];refine⟨by omega,hi,?_⟩;rw[Aq (by omega),Bn,b];simp only[];rw[As i]at e;rw[Aq d,Aq (by omega),Aq (by omega),Hc o hi b d];by_cases m:c.toNat<32
   ·rw[As m]
   rw[Aq m,As e]
  rw[Aq i];rw[Aq i]at e;have m:¬c.toNat<32:=λh=>i (pA c0 c j (by omega) hj h);have E:=YT o A q a g (j+1) f (by omega) (by omega) (DZ hi b d) (by omega);have B:Bn bs lim (f+1) (p+j) (a++Dx bs p j) (if g+1=0 then a.length+j else a.length)=Bn bs lim f (p+(j+1)) (a++Dx bs p (j+1)) (if g=0 then a.length+(j+1)else a.length):=by
   rw[Aq (by omega),Bn,b];simp only[];rw[Aq d,Aq (by omega),Aq (by omega),Aq m,e,z];have w:¬(if j+1=Bm c0 then 2 else 1)=0:=by split<;>decide
   rw[Aq w,YS b,CE];by_cases s:g=0
   ·rw[As (show j+1=Bm c0 by omega),As rfl,As s];rfl
   rw[Aq (show¬j+1=Bm c0 by omega),Aq (by decide),Aq s];rfl
  rw[B,show f+1-(g+1)=f-g by omega];exact E
theorem pE(o:Lm bs l lim)(x:(n:Int)=min (bs.length:Int) lim)(hi:AS bs lim p)(e:bs[p]?=Aj c0)(m:¬(p:Int)=lim)(t:¬c0.toNat=34)(u:¬c0.toNat=92)(v:¬c0.toNat<32)(d:A2)(g:Nat)(z:bs.length+1<=p+g):match My bs n p c0 with
  |(k,true)=>1<=k/\AS bs lim (p+k)/\k<=g/\Bn bs lim g p d d.length=Bn bs lim (g-k) (p+k) (d++Dx bs p k) (d++Dx bs p k).length
  |(k,false)=>AS bs lim (p+k)/\Bn bs lim g p d d.length=.error (BM bs l (p+k) 9):=by
 have B:=B9 e;have w:BC (d.drop d.length) c0=BC [] c0:=by rw[LD]
 obtain⟨g,rfl⟩:∃s,g=s+1:=⟨g-1,by omega⟩
 have i:Bn bs lim (g+1) p d d.length=if BC [] c0=0 then .error (9,(p:Int))else Bn bs lim g (p+1) (d++[c0]) (if BC [] c0=2 then d.length+1 else d.length):=by
  conv=>lhs;rw[Bn,e]
  simp only[];rw[Aq m,Aq (λh=>t h.1),Aq (λh=>u h.1),Aq v,w]
 unfold My;rw[pz]at i;by_cases j:Bm c0=0
 ·rw[As j];simp only[];rw[As j]at i;simp only[LJ];refine⟨hi,?_⟩;rw[i,Hc o hi e m];rfl
 rw[Aq j];rw[Aq j]at i;have y:Bn bs lim (g+1) p d d.length=Bn bs lim g (p+1) (d++Dx bs p 1) (if Bm c0-1=0 then d.length+1 else d.length):=by
  rw[i,Aq (by split<;>decide),pC e];by_cases q:Bm c0=1
  ·rw[As q,As rfl,As (by omega)]
  rw[Aq q,Aq (by decide),Aq (by omega)]
 have A:=(O1 c0).2.2.2;have f:=YT o x e d (Bm c0-1) 1 g (AB _) (by omega) (DZ hi e m) (by omega);rw[<-y]at f;generalize J3 bs n p c0 (Bm c0-1) 1=r at f ⊢;obtain⟨k,b⟩:=r;cases b
 ·exact⟨f.2.1,f.2.2⟩
 simp only[]at f ⊢;obtain⟨a,b,c⟩:=f;have:=b.1;refine⟨by omega,b,by omega,?_⟩;rw[c,show g-(Bm c0-1)=g+1-k by omega]
end
end Go.Proofs.YtoegnhgofkhbnaaGreatDoor
