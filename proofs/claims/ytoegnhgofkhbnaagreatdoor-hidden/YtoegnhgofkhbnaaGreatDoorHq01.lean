import Derived.RangeFuncRecord
import Derived.RangeFuncOwn
import Derived.RangeFuncFrom
import Derived.Below
import Derived.Test.YtoegnhgofkhbnaaGreatDoorHq00
set_option maxRecDepth 100000
set_option maxHeartbeats 8000000
set_option linter.all false
namespace Go.Proofs.YtoegnhgofkhbnaaGreatDoor
open Go.Proofs.Tryz
open Go.Value renaming int->A7,slice->A8,pointer->A9,agg->Ac,bool->Ad,iface->Ae
open Go.Obj renaming cells->Af
open Go.Ending renaming returned->Ag
open Go.IntKind renaming i64->Ah,u8->Ai
open Option renaming some->Aj,none->Ak
open Go renaming World->Al,Calls->An
open Go.Proofs.Tryz renaming prog->Ao
variable{A B C W W' W0 w:Al}{a:Act}{N b hi lo:Nat}{c:UInt8}{bs:A2}{Q:Exit->Act->Al->Prop}
section
open Go.RowKit
structure GL(w:World)(a:A5)(B:List Int):Prop where
 at_:∀i,i<B.length->∃b off,a=some ⟨b,off,none⟩/\b<w.heap.size/\∀j (h':j<B.length),w.cell? ⟨b,off+j,none⟩=some (.int .i64 B[j])
theorem GL.below{w':Al}{a:A5}{B:List Int}(h:GL w a B)(c:A1 w w'):GL w' a B :=
 ⟨λi g=>by
  obtain⟨b,off,f,d,e⟩:=h.at_ i g;exact⟨b,off,f,Br d c.size,λj k=>(c.cell (p:=⟨b,_,Ak⟩) d).trans (e j k)⟩⟩
theorem KO{B:Nat}{a:Al}(h:Below B a w)(n:Nat):Below B a (w.drewN n):=h.trans ⟨rfl,rfl,rfl,AB _,λ_ _=>rfl⟩
def IE(B:List Int)(i:Nat):Int:=if i=0 then 0 else B.getD (i-1) 0
def Ni(B:List Int)(i:Nat):Bool:=decide (IE B i<B.getD i 0/\B.getD i 0<=65536)
def KP(B:List Int)(i:Nat):Bool:=decide (1<=B.getD i 0/\B.getD i 0<=65536/\(0<i->B.getD (i-1) 0<B.getD i 0))
def Fb(B:List Int):Bool:=decide (B.length<=8)&&(List.range B.length).all (Ni B)
def Fc(B:List Int):Bool:=(List.range B.length).all (KP B)&&decide (B.length<=8)
theorem aL(B:List Int):Fb B=Fc B:=by
 unfold Fb Fc;rw[QU];congr 1;rw[MY,D7,D7];constructor
 ·intro h i c;have d:∀k,k<B.length->Ni B k=true:=λk b=>h k (BT.2 b);have j:∀k,k<B.length->1<=B.getD k 0:=by
   intro k
   induction k with
   |zero=>intro b;have:=By (d 0 b);unfold IE at this;simp only[As]at this;omega
   |succ k g =>
    intro b;have:=By (d (k+1) b);unfold IE at this;rw[Aq (by omega)]at this;have:=g (by omega);simp only[Ly]at *;omega
  have e:=BT.1 c;have a:=By (d i e);have f:=j i e;refine Bs ⟨f,a.2,λl=>?_⟩;unfold IE at a;rw[Aq (by omega)]at a;exact a.1
 intro h i c;have a:=By (h i c);refine Bs ⟨?_,a.2.1⟩;unfold IE;split
 ·omega
 exact a.2.2 (by omega)
theorem aM(a:A5)(q:Nat)(B:List Int)(t:B.length<=maxLen)(w:Al)(s:GL w a B):An Ao 43 #[A8 a B.length q] w λe A=>e=Ag (Ad (Fb B))/\A=w:=by
 unfold maxLen at t;have n:=Ap s;by_cases m:B.length<=8
 ·have r:¬(8:Int)<B.length:=by omega
  go_enter func43,ntmps43;go_wp2
  go_loopg[11,3,5] B.length (λg x y z wr=>∃k:Nat,Hid (k+g=B.length)/\x=A7 Ah k/\y=A7 Ah (IE B k)/\w=wr/\Hid (∀i,i<k->Ni B i=true))
  case atStart=>exact⟨0,by show _=_;omega,rfl,rfl,rfl,λi h=>by omega⟩
  case round =>
   obtain⟨k,d,rfl,rfl,rfl,l⟩:=hrel
   cases gk with
   |zero =>
    have v:¬(k:Int)<B.length:=by have:=d.out;omega
    have c:Hid (Fb B=true):=by
     show _=_;unfold Fb;rw[Bs m,Gj,D7];exact λi h=>l.out i (by have:=BT.1 h;have:=d.out;omega)
    go_wp2;go_ret;exact⟨by rw[c.out];rfl,rfl⟩
   |succ g =>
    have v:(k:Int)<B.length:=by have:=d.out;omega
    obtain⟨b,off,rfl,E,u⟩:=n.at_ k (by omega);have F:=u k (by omega);have j:Hid (B.getD k 0=B[k]):=by show _=_;rw[KC,AY (by omega)];rfl
    have o:Hid (IE B (k+1)=B[k]):=by show _=_;unfold IE;rw[Aq (by omega)];exact j
    have f:Hid (Ni B k=decide (IE B k<B[k]/\B[k]<=65536)):=by show _=_;unfold Ni;rw[j.out]
    generalize B[k]=x at *;generalize IE B k=p at *;by_cases C:x<=p
    ·have c:Hid (Fb B=false):=by
      show _=_;unfold Fb;rw[Ja];right;rw[F7];exact⟨k,BT.2 (by omega),by rw[f.out,BJ (by omega)];decide⟩
     go_wp2;go_ret;exact⟨by rw[c.out];rfl,rfl⟩
    by_cases D:65536<x
    ·have c:Hid (Fb B=false):=by
      show _=_;unfold Fb;rw[Ja];right;rw[F7];exact⟨k,BT.2 (by omega),by rw[f.out,BJ (by omega)];decide⟩
     go_wp2;go_ret;exact⟨by rw[c.out];rfl,rfl⟩
    go_wp2;go_roundg g
    case measure=>omega
    case rel =>
     refine⟨k+1,by show _=_;have:=d.out;omega,by go_num,by rw[o.out],rfl,λi h=>?_⟩;by_cases e:i=k
     ·subst e;rw[f.out];exact Bs (by omega)
     exact l i (by omega)
 have r:(8:Int)<B.length:=by omega
 have c:Hid (Fb B=false):=by show _=_;unfold Fb;rw[BJ m];rfl
 go_enter func43,ntmps43;go_wp2;go_ret;exact⟨by rw[c.out];rfl,rfl⟩
theorem aN(a:A5)(t:Nat)(B:List Int)(D:B.length<=maxLen)(w:Al)(C:GL w a B):An Ao 20 #[A8 a B.length t] w λe G=>e=Ag (Ad (Fc B))/\A1 w G:=by
 unfold maxLen at D;have s:=Ap C;go_enter func20,ntmps20;go_wp2
 go_loopg[3] B.length (λg x wr=>∃k:Nat,Hid (k+g=B.length)/\x=A7 Ah k/\A1 w wr/\Hid (∀i,i<k->KP B i=true))
 case atStart=>exact⟨0,by show _=_;omega,rfl,AT _ _,λi l=>by omega⟩
 case round =>
  obtain⟨k,h,rfl,d,m⟩:=hrel
  cases gk with
  |zero =>
   have F:¬(k:Int)<B.length:=by have:=h.out;omega
   have c:Hid (Fc B=decide ((B.length:Int)<=8)):=by
    show _=_;unfold Fc;have:(List.range B.length).all (KP B)=true:=by
     rw[D7];exact λi l=>m.out i (by have:=BT.1 l;have:=h.out;omega)
    rw[this,Gj];exact GI.2 (by omega)
   go_wp2;go_ret;exact⟨by rw[c.out];rfl,d⟩
  |succ g =>
   have F:(k:Int)<B.length:=by have:=h.out;omega
   obtain⟨b,off,rfl,I,q⟩:=(s.below d).at_ k (by omega);have E:=q k (by omega);have p:Hid (B.getD k 0=B[k]):=by show _=_;rw[KC,AY (by omega)];rfl
   have L:(0:Int)<=k:=by omega
   rcases Nat.eq_zero_or_pos k with r|r
   ·subst r;rw[LJ]at E;have f:Hid (KP B 0=decide (1<=B[0]/\B[0]<=65536)):=by show _=_;unfold KP;rw[p.out];exact GI.2 (by omega)
    generalize B[0]=x at *;have K:decide ((0:Int)<0)=false:=rfl;by_cases n:x<1
    ·have c:Hid (Fc B=false):=by
      show _=_;unfold Fc;rw[Ja];left;rw[F7];exact⟨0,BT.2 (by omega),by rw[f.out,BJ (by omega)];decide⟩
     go_wp2
     go_quiet (fail)
     go_wp2;go_ret;exact⟨by rw[c.out];rfl,KO d _⟩
    have v:=BJ n;by_cases o:65536<x
    ·have c:Hid (Fc B=false):=by
      show _=_;unfold Fc;rw[Ja];left;rw[F7];exact⟨0,BT.2 (by omega),by rw[f.out,BJ (by omega)];decide⟩
     go_wp2
     go_quiet (fail)
     go_wp2;go_ret;exact⟨by rw[c.out];rfl,KO d _⟩
    have z:=BJ o;go_wp2
    go_quiet (fail)
    go_wp2;go_roundg g
    case measure=>omega
    case rel =>
     refine⟨0+1,by show _=_;have:=h.out;omega,by go_num,KO d _,λi l=>?_⟩;by_cases e:i=0
     ·subst e;rw[f.out];exact Bs (by omega)
     exact m i (by omega)
   obtain⟨j,rfl⟩:∃j,k=j+1:=⟨k-1,by omega⟩
   have J:=q j (by omega);have f:Hid (KP B (j+1)=decide (1<=B[j+1]/\B[j+1]<=65536/\B[j]<B[j+1])):=by
    show _=_;unfold KP;rw[p.out];have u:B.getD (j+1-1) 0=B[j]:=by rw[KC,Ly,AY (by omega)];rfl
    rw[u];exact GI.2 (by omega)
   generalize B[j+1]=x at *;generalize B[j]=y at *;have M:(0:Int)<((j+1:Nat):Int):=by omega
   by_cases n:x<1
   ·have c:Hid (Fc B=false):=by
     show _=_;unfold Fc;rw[Ja];left;rw[F7];exact⟨j+1,BT.2 (by omega),by rw[f.out,BJ (by omega)];decide⟩
    go_wp2
    go_quiet (fail)
    go_wp2;go_ret;exact⟨by rw[c.out];rfl,KO d _⟩
   have v:=BJ n;by_cases o:65536<x
   ·have c:Hid (Fc B=false):=by
     show _=_;unfold Fc;rw[Ja];left;rw[F7];exact⟨j+1,BT.2 (by omega),by rw[f.out,BJ (by omega)];decide⟩
    go_wp2
    go_quiet (fail)
    go_wp2;go_ret;exact⟨by rw[c.out];rfl,KO d _⟩
   have z:=BJ o;by_cases A:x<=y
   ·have c:Hid (Fc B=false):=by
     show _=_;unfold Fc;rw[Ja];left;rw[F7];exact⟨j+1,BT.2 (by omega),by rw[f.out,BJ (by omega)];decide⟩
    go_wp2
    go_quiet (fail)
    go_wp2;go_ret;exact⟨by rw[c.out];rfl,KO d _⟩
   have H:=BJ A;go_wp2
   go_quiet (fail)
   go_wp2;go_roundg g
   case measure=>omega
   case rel =>
    refine⟨j+1+1,by show _=_;have:=h.out;omega,by go_num,KO d _,λi l=>?_⟩;by_cases e:i=j+1
    ·subst e;rw[f.out];exact Bs (by omega)
    exact m i (by omega)
structure AQ where
 ia:A5
 bs:A2
 cap:Nat
 depth:Int
 lim:Int
 pos:Nat
 within:Nat
def AQ.arr(s:AQ):A4:=#[A8 s.ia s.bs.length s.cap,A7 Ah s.depth,A7 Ah s.lim,A7 Ah s.pos,A7 Ah s.within]
structure Az(W:World)(b:Nat)(s:AQ):Prop where
 row:W.heap[b]?=some (.cells s.arr 205)
 inp:∀i (h:i<s.bs.length),∃g off,s.ia=some ⟨g,off,none⟩/\g≠b/\W.cell? ⟨g,off+i,none⟩=some (.int .u8 (s.bs[i]'h).toNat)
 len:s.bs.length<=maxLen
 le:s.pos<=s.bs.length
structure AE(b:Nat)(W W':World):Prop where
 os:W'.os=W.os
 tape:W'.tape=W.tape
 output:W'.output=W.output
 size:W.heap.size<=W'.heap.size
 block:∀k,k<W.heap.size->k≠b->W'.heap[k]?=W.heap[k]?
theorem AE.refl(b:Nat)(W:Al):AE b W W:=⟨rfl,rfl,rfl,AB _,λ_ _ _=>rfl⟩
theorem AE.trans(h:AE b A B)(k:AE b B C):AE b A C :=
 ⟨k.os.trans h.os,k.tape.trans h.tape,k.output.trans h.output,AW h.size k.size,λi c a=>(k.block i (by have:=h.size;omega) a).trans (h.block i c a)⟩
theorem AE.of_below(h:A1 W W'):AE b W W':=⟨h.os,h.tape,h.output,h.size,λk a _=>h.block k a⟩
theorem Az.below{s:AQ}(h:Az W b s)(c:A1 W W'):Az W' b s :=
 ⟨(c.block _ (At h.row)).trans h.row,λi f=>by
  obtain⟨g,off,d,e,a⟩:=h.inp i f;exact⟨g,off,d,e,(c.cell (p:=⟨g,off+i,Ak⟩) (F8 a)).trans a⟩,h.len,h.le⟩
def GO(e p:Int):Value:=Ae 167 (Ac #[A7 Ah e,A7 Ah p])
def B7(e p:Int)(en:Ending):Prop:=en=.panicked [{v:=GO e p,recovered:=false}]
theorem DN(W:Al)(n:Nat):A1 W (W.drewN n):=⟨rfl,rfl,rfl,AB _,λ_ _=>rfl⟩
theorem OT(W:Al)(b:Nat)(s:AQ)(h:Az W b s)(c:s.pos=s.bs.length):An Ao 225 #[A9 (Aj ⟨b,0,Ak⟩)] W λe a=>e=Ag (Ad false)/\∃n,a=W.drewN n:=by
 have f:W.cell? ⟨b,0,Ak⟩=Aj (A8 s.ia s.bs.length s.cap):=Ar h.row 0;have g:W.cell? ⟨b,3,Ak⟩=Aj (A7 Ah s.pos):=Ar h.row 3;have d:(s.pos:Int)=s.bs.length:=by omega
 go_enter func225,ntmps225;go_wp2
 go_region
 go_wp2;go_ret;exact⟨rfl,1,rfl⟩
theorem OU(W:Al)(b:Nat)(s:AQ)(h:Az W b s)(d:s.pos<s.bs.length)(c:(s.pos:Int)=s.lim):An Ao 225 #[A9 (Aj ⟨b,0,Ak⟩)] W λe a=>B7 8 s.pos e/\∃n,a=W.drewN n:=by
 have g:W.cell? ⟨b,0,Ak⟩=Aj (A8 s.ia s.bs.length s.cap):=Ar h.row 0;have i:W.cell? ⟨b,2,Ak⟩=Aj (A7 Ah s.lim):=Ar h.row 2;have j:W.cell? ⟨b,3,Ak⟩=Aj (A7 Ah s.pos):=Ar h.row 3;have f:¬(s.pos:Int)=s.bs.length:=by omega
 go_enter func225,ntmps225;go_wp2
 go_region
 go_wp2
 go_region
 go_wp2;exact⟨rfl,by rw[c];rfl,2,rfl⟩
theorem OV(W:Al)(b:Nat)(s:AQ)(h:Az W b s)(c:s.pos<s.bs.length)(f:¬(s.pos:Int)=s.lim):An Ao 225 #[A9 (Aj ⟨b,0,Ak⟩)] W λe a=>e=Ag (Ad true)/\∃n,a=W.drewN n:=by
 have g:W.cell? ⟨b,0,Ak⟩=Aj (A8 s.ia s.bs.length s.cap):=Ar h.row 0;have i:W.cell? ⟨b,2,Ak⟩=Aj (A7 Ah s.lim):=Ar h.row 2;have j:W.cell? ⟨b,3,Ak⟩=Aj (A7 Ah s.pos):=Ar h.row 3;have d:¬(s.pos:Int)=s.bs.length:=by omega
 go_enter func225,ntmps225;go_wp2
 go_region
 go_wp2
 go_region
 go_wp2;go_ret;exact⟨rfl,2,rfl⟩
def LV(s:AQ):Prop:=s.pos=s.bs.length
def LW(s:AQ):Prop:=s.pos<s.bs.length/\(s.pos:Int)=s.lim
def E5(s:AQ)(c:UInt8):Prop:=s.bs[s.pos]?=Aj c/\¬(s.pos:Int)=s.lim
theorem Ji{s:AQ}(h:Az W b s):LV s\/LW s\/∃c,E5 s c:=by
 have:=h.le;by_cases d:s.pos=s.bs.length
 ·exact .inl d
 by_cases a:(s.pos:Int)=s.lim
 ·exact .inr (.inl ⟨by omega,a⟩)
 exact .inr (.inr ⟨s.bs[s.pos]'(by omega),by rw[AY (by omega)],a⟩)
theorem E5.lt{s:AQ}(h:E5 s c):s.pos<s.bs.length:=B9 h.1
theorem E5.cell{s:AQ}(h:Az W b s)(d:E5 s c):∃g off,s.ia=Aj ⟨g,off,Ak⟩/\g≠b/\W.cell? ⟨g,off+s.pos,Ak⟩=Aj (A7 Ai c.toNat):=by
 obtain⟨g,off,e,f,a⟩:=h.inp s.pos d.lt;have:=(J8.1 d.1).2;rw[this]at a;exact⟨g,off,e,f,a⟩
def AQ.next(s:AQ):AQ:={s with pos:=s.pos+1}
theorem bg{s:AQ}(h:Az W b s)(m:s.pos<s.bs.length)(n:Nat):Az ((W.drewN n).setCell ⟨b,3,Ak⟩ (A7 Ah ((s.pos:Int)+1))) b s.next/\AE b W ((W.drewN n).setCell ⟨b,3,Ak⟩ (A7 Ah ((s.pos:Int)+1))):=by
 have j:(W.drewN n).heap[b]?=Aj (Af s.arr 205):=h.row;have o:=At h.row;refine⟨⟨?_,λi e=>?_,h.len,?_⟩,⟨rfl,rfl,rfl,by simp[World.setCell,World.drewN,A1],λk l f=>?_⟩⟩
 ·rw[DJ _ _ _ _ _ _ j];rfl
 ·obtain⟨g,off,c,a,d⟩:=h.inp i e;refine⟨g,off,c,a,?_⟩;have:((W.drewN n).setCell ⟨b,3,Ak⟩ (A7 Ah ((s.pos:Int)+1))).heap[g]?=W.heap[g]?:=BV (W.drewN n) _ _ _ (by simpa using a);exact(GF (w:=W) this).trans d
 ·show s.pos+1<=s.bs.length;omega
 exact BV (W.drewN n) _ _ _ (by simpa using f)
theorem K6(W:Al)(b:Nat)(s:AQ)(h:Az W b s)(d:LV s):An Ao 226 #[A9 (Aj ⟨b,0,Ak⟩)] W λe a=>B7 9 s.pos e/\A1 W a:=by
 have c:=OT W b s h d;have f:W.cell? ⟨b,3,Ak⟩=Aj (A7 Ah s.pos):=Ar h.row 3;go_enter func226,ntmps226
 go_wp2_with(first|(go_at_call 225;refine c.mono ?_;rintro e g ⟨rfl,n,rfl⟩))
 exact⟨rfl,rfl,DN _ _⟩
theorem K7(W:Al)(b:Nat)(s:AQ)(h:Az W b s)(a:LW s):An Ao 226 #[A9 (Aj ⟨b,0,Ak⟩)] W λe c=>B7 8 s.pos e/\A1 W c:=by
 have d:=OU W b s h a.1 a.2;go_enter func226,ntmps226
 go_wp2_with(first|(go_at_call 225;refine d.mono ?_;rintro e f ⟨rfl,n,rfl⟩))
 exact⟨rfl,rfl,DN _ _⟩
theorem E6(W:Al)(b:Nat)(s:AQ)(c:UInt8)(h:Az W b s)(a:E5 s c):An Ao 226 #[A9 (Aj ⟨b,0,Ak⟩)] W λe f=>e=Ag (A7 Ai c.toNat)/\Az f b s.next/\AE b W f:=by
 have l:=OV W b s h a.lt a.2;have j:=Ap (bg h a.lt);have y:=a.lt;have r:=h.len;unfold maxLen at r;obtain⟨g,off,m,o,p⟩:=a.cell h;have z:W.cell? ⟨b,3,Ak⟩=Aj (A7 Ah s.pos):=Ar h.row 3;have x:=Cx W b 3 _ _ h.row;go_enter func226,ntmps226
 go_wp2_with(first|(go_at_call 225;refine l.mono ?_;rintro e A ⟨rfl,n,rfl⟩))
 obtain⟨d,q⟩:=j.out n;have k:=Ap d;have i:=Ap q;have t:((W.drewN n).setCell ⟨b,3,Ak⟩ (A7 Ah ((s.pos:Int)+1))).cell? ⟨b,0,Ak⟩=Aj (A8 (Aj ⟨g,off,Ak⟩) s.bs.length s.cap):=by rw[<-m];exact Ar d.row 0
 have u:((W.drewN n).setCell ⟨b,3,Ak⟩ (A7 Ah ((s.pos:Int)+1))).cell? ⟨b,3,Ak⟩=Aj (A7 Ah ((s.pos:Int)+1)):=Ar d.row 3;have v:((W.drewN n).setCell ⟨b,3,Ak⟩ (A7 Ah ((s.pos:Int)+1))).cell? ⟨g,off+s.pos,Ak⟩=Aj (A7 Ai c.toNat):=by
  have:((W.drewN n).setCell ⟨b,3,Ak⟩ (A7 Ah ((s.pos:Int)+1))).heap[g]?=W.heap[g]?:=BV (W.drewN n) _ _ _ (by simpa using o);exact(GF (w:=W) this).trans p
 generalize(W.drewN n).setCell ⟨b,3,Ak⟩ (A7 Ah ((s.pos:Int)+1))=V at *
 go_region
 go_wp2;go_ret;exact⟨rfl,k.below (AT _ _).drew,i.trans (AE.of_below (AT _ _).drew)⟩
theorem Az.drewN{s:AQ}(h:Az W b s)(n:Nat):Az (W.drewN n) b s:=h.below (DN W n)
theorem bh(W:Al)(b:Nat)(s:AQ)(x:Int)(h:Az W b s)(d:LV s):An Ao 236 #[A9 (Aj ⟨b,0,Ak⟩),A7 Ai x] W λe a=>e=Ag (Ad false)/\∃n,a=W.drewN n:=by
 have c:∀n,An Ao 225 #[A9 (Aj ⟨b,0,Ak⟩)] (W.drewN n) λe a=>e=Ag (Ad false)/\∃m,a=(W.drewN n).drewN m:=λn=>OT _ b s (h.drewN n) d;go_enter func236,ntmps236;go_wp2
 go_quiet (first|(go_at_call 225;exact(c _).quiet_of))
 go_wp2;go_ret;exact⟨rfl,nq,rfl⟩
theorem bi(W:Al)(b:Nat)(s:AQ)(c:UInt8)(x:Int)(h:Az W b s)(a:E5 s c):An Ao 236 #[A9 (Aj ⟨b,0,Ak⟩),A7 Ai x] W λe d=>e=Ag (Ad ((c.toNat:Int)==x))/\∃n,d=W.drewN n:=by
 have f:∀n,An Ao 225 #[A9 (Aj ⟨b,0,Ak⟩)] (W.drewN n) λe d=>e=Ag (Ad true)/\∃m,d=(W.drewN n).drewN m:=λn=>OV _ b s (h.drewN n) a.lt a.2;obtain⟨g,off,i,l,o⟩:=a.cell h;have j:W.cell? ⟨b,0,Ak⟩=Aj (A8 (Aj ⟨g,off,Ak⟩) s.bs.length s.cap):=by rw[<-i];exact Ar h.row 0
 have k:W.cell? ⟨b,3,Ak⟩=Aj (A7 Ah s.pos):=Ar h.row 3;have p:=a.lt;have q:(s.pos:Int)<s.bs.length:=by omega
 go_enter func236,ntmps236;go_wp2
 go_quiet (first|(go_at_call 225;exact(f _).quiet_of))
 go_wp2;go_ret;exact⟨rfl,nq,rfl⟩
theorem Rj(W:Al)(b:Nat)(s:AQ)(x:Int)(h:Az W b s)(c:LW s):An Ao 236 #[A9 (Aj ⟨b,0,Ak⟩),A7 Ai x] W λe a=>B7 8 s.pos e/\A1 W a:=by
 have d:An Ao 225 #[A9 (Aj ⟨b,0,Ak⟩)] W.drew λe a=>B7 8 s.pos e/\∃m,a=W.drew.drewN m:=OU _ b s (h.drewN 1) c.1 c.2;go_enter func236,ntmps236;go_wp2;refine Dr (S:=λ_=>True) (by kernel_rfl) ?_;refine Ds (i:=0) (v:=A9 (Aj ⟨b,0,Ak⟩)) rfl (by kernel_rfl) (by kernel_rfl) (by kernel_rfl) (λ_ _ _ h=>h) (.inl ⟨rfl,λW g=>rfl⟩) trivial ?_;refine Bc 1 (λK f=>?_);go_simp;refine d.mono ?_;rintro e j ⟨rfl,n,rfl⟩;exact⟨rfl,rfl,(AT _ _).drew.trans (DN W.drew n)⟩
theorem K8(c:UInt8)(w:Al):An Ao 234 #[A7 Ai c.toNat] w λe a=>e=Ag (Ad (decide (48<=(c.toNat:Int)/\(c.toNat:Int)<=57)))/\a=w:=by
 by_cases b:(48:Int)<=c.toNat
 ·by_cases d:(c.toNat:Int)<=57
  ·go_enter func234,ntmps234;go_wp2;go_ret;exact⟨by rw[Bs (by omega)];rfl,rfl⟩
  go_enter func234,ntmps234;go_wp2;go_ret;exact⟨by rw[BJ (by omega)];rfl,rfl⟩
 go_enter func234,ntmps234;go_wp2;go_ret;exact⟨by rw[BJ (by omega)];rfl,rfl⟩
theorem Fd(W:Al)(b:Nat)(s:AQ)(e:Int)(h:Az W b s):An Ao 227 #[A9 (Aj ⟨b,0,Ak⟩),A7 Ah e] W λc a=>B7 e ((s.pos:Int)-1) c/\a=W:=by
 have f:W.cell? ⟨b,3,Ak⟩=Aj (A7 Ah s.pos):=Ar h.row 3;have d:=h.len;have g:=h.le;unfold maxLen at d;go_enter func227,ntmps227;go_wp2;exact⟨rfl,rfl,rfl⟩
theorem bj(W:Al)(b:Nat)(s:AQ)(h:Az W b s)(d:LV s):An Ao 251 #[A9 (Aj ⟨b,0,Ak⟩)] W λe a=>e=Ag (Ad false)/\∃n,a=W.drewN n:=by
 have c:∀n,An Ao 225 #[A9 (Aj ⟨b,0,Ak⟩)] (W.drewN n) λe a=>e=Ag (Ad false)/\∃m,a=(W.drewN n).drewN m:=λn=>OT _ b s (h.drewN n) d;go_enter func251,ntmps251;go_wp2
 go_quiet (first|(go_at_call 225;exact(c _).quiet_of))
 go_wp2;go_ret;exact⟨rfl,nq,rfl⟩
theorem bl(W:Al)(b:Nat)(s:AQ)(c:UInt8)(h:Az W b s)(f:E5 s c):An Ao 251 #[A9 (Aj ⟨b,0,Ak⟩)] W λe a=>e=Ag (Ad (decide (48<=(c.toNat:Int)/\(c.toNat:Int)<=57)))/\∃n,a=W.drewN n:=by
 have j:∀n,An Ao 225 #[A9 (Aj ⟨b,0,Ak⟩)] (W.drewN n) λe a=>e=Ag (Ad true)/\∃m,a=(W.drewN n).drewN m:=λn=>OV _ b s (h.drewN n) f.lt f.2;have i:∀n,An Ao 234 #[A7 Ai c.toNat] (W.drewN n) λe a=>e=Ag (Ad (decide (48<=(c.toNat:Int)/\(c.toNat:Int)<=57)))/\a=W.drewN n:=λn=>K8 c _;obtain⟨g,off,k,p,q⟩:=f.cell h;have l:W.cell? ⟨b,0,Ak⟩=Aj (A8 (Aj ⟨g,off,Ak⟩) s.bs.length s.cap):=by rw[<-k];exact Ar h.row 0
 have o:W.cell? ⟨b,3,Ak⟩=Aj (A7 Ah s.pos):=Ar h.row 3;have r:=f.lt;have t:(s.pos:Int)<s.bs.length:=by omega
 generalize decide (48<=(c.toNat:Int)/\(c.toNat:Int)<=57)=d at *;go_enter func251,ntmps251;go_wp2
 go_quiet (first|(go_at_call 225;exact(j _).quiet_of)|(go_at_call 234;exact(i _).quiet_of_same))
 go_wp2;go_ret;exact⟨rfl,nq,rfl⟩
theorem bm(W:Al)(b:Nat)(s:AQ)(h:Az W b s)(c:LW s):An Ao 251 #[A9 (Aj ⟨b,0,Ak⟩)] W λe a=>B7 8 s.pos e/\A1 W a:=by
 have d:An Ao 225 #[A9 (Aj ⟨b,0,Ak⟩)] W.drew λe a=>B7 8 s.pos e/\∃m,a=W.drew.drewN m:=OU _ b s (h.drewN 1) c.1 c.2;go_enter func251,ntmps251;go_wp2;refine Dr (S:=λ_=>True) (by kernel_rfl) ?_;refine Ds (i:=0) (v:=A9 (Aj ⟨b,0,Ak⟩)) rfl (by kernel_rfl) (by kernel_rfl) (by kernel_rfl) (λ_ _ _ h=>h) (.inl ⟨rfl,λW g=>rfl⟩) trivial ?_;refine Bc 1 (λK f=>?_);go_simp;refine d.mono ?_;rintro e j ⟨rfl,n,rfl⟩;exact⟨rfl,rfl,(AT _ _).drew.trans (DN W.drew n)⟩
def Cm(c:UInt8):Bool:=decide (48<=(c.toNat:Int)/\(c.toNat:Int)<=57)
def Cd(bs:A2)(lim:Int)(most:Nat)(z:Bool):Nat->Nat->Nat->A6 Nat
 |0,p,num=>.ok (num,p)
 |g+1,p,num=>match bs[p]? with
  |none=>.ok (num,p)
  |some c=>if(p:Int)=lim then .error (8,p)else
   if Cm c=true then(if z=true then .error (9,p)else if(most-(c.toNat-48))/10<num then .error (10,p)else Cd bs lim most z g (p+1) (num*10+(c.toNat-48)))
   else if c.toNat=46\/c.toNat=101\/c.toNat=69 then .error (10,p)else .ok (num,p)
def DD{α:Type}(W:Al)(b:Nat)(s:AQ)(val:α->Value)(r:A6 α)(e:Ending)(W':Al):Prop :=
 AE b W W'/\match r with
 |.ok (x,p)=>e=Ag (val x)/\Az W' b {s with pos:=p}
 |.error (en,pl)=>B7 en pl e
structure Hq(W0:World)(b N:Nat)(s:AQ)(W:World):Prop where
 src:Az W b s
 but:AE b W0 W
 box:W.heap[N]?=some (.cells #[.pointer (some ⟨b,0,none⟩)] 207)
 ne:N≠b
theorem Hq.step{s s':AQ}(h:Hq W0 b N s W)(c:Az W' b s')(a:AE b W W'):Hq W0 b N s' W' :=
 ⟨c,h.but.trans a,(a.block _ (At h.box) h.ne).trans h.box,h.ne⟩
theorem Hq.cell{s:AQ}(h:Hq W0 b N s W):W.cell? ⟨N,0,Ak⟩=Aj (A9 (Aj ⟨b,0,Ak⟩)):=Ar h.box 0
theorem CK{s s':AQ}(h:Hid (Hq W0 b N s W))(c:Az W' b s')(a:AE b W W'):Hid (Hq W0 b N s' W')/\W'.cell? ⟨N,0,Ak⟩=Aj (A9 (Aj ⟨b,0,Ak⟩)):=⟨h.out.step c a,(h.out.step c a).cell⟩
theorem Eu{s:AQ}(h:Az W b s):Hq W b W.heap.size s (W.alloc (Af #[A9 (Aj ⟨b,0,Ak⟩)] 207)) :=
 ⟨h.below AH,AE.of_below AH,Ay _ _,by have:=At h.row;omega⟩
theorem OW{s:AQ}(x:Int)(h:Az W b s)(d:LV s):An Ao 236 #[A9 (Aj ⟨b,0,Ak⟩),A7 Ai x] W λe a=>e=Ag (Ad false)/\Az a b s/\AE b W a :=
 (bh W b s x h d).mono λ_ _ ⟨f,n,c⟩=>⟨f,c▸h.drewN n,c▸AE.of_below (DN W n)⟩
theorem LX{s:AQ}(x:Int)(h:Az W b s)(f:E5 s c):An Ao 236 #[A9 (Aj ⟨b,0,Ak⟩),A7 Ai x] W λe a=>e=Ag (Ad ((c.toNat:Int)==x))/\Az a b s/\AE b W a :=
 (bi W b s c x h f).mono λ_ _ ⟨g,n,d⟩=>⟨g,d▸h.drewN n,d▸AE.of_below (DN W n)⟩
theorem bo{s:AQ}(h:Az W b s)(d:LV s):An Ao 251 #[A9 (Aj ⟨b,0,Ak⟩)] W λe a=>e=Ag (Ad false)/\Az a b s/\AE b W a :=
 (bj W b s h d).mono λ_ _ ⟨f,n,c⟩=>⟨f,c▸h.drewN n,c▸AE.of_below (DN W n)⟩
theorem bq{s:AQ}(h:Az W b s)(f:E5 s c):An Ao 251 #[A9 (Aj ⟨b,0,Ak⟩)] W λe a=>e=Ag (Ad (Cm c))/\Az a b s/\AE b W a :=
 (bl W b s c h f).mono λ_ _ ⟨g,n,d⟩=>⟨g,d▸h.drewN n,d▸AE.of_below (DN W n)⟩
theorem UX(W:Al)(b:Nat)(s:AQ)(first:UInt8)(o:Nat)(h:Az W b s)(hm:o=9223372036854775807\/o=9223372036854775808)(G:48<=first.toNat/\first.toNat<=57):An Ao 245 #[Ac #[A9 (Aj ⟨b,0,Ak⟩)],A7 Ai first.toNat,A7 .u64 o] W
   (DD W b s (λx:Nat=>A7 .u64 x) (Cd s.bs s.lim o (first.toNat==48) (s.bs.length+1-s.pos) s.pos (first.toNat-48))):=by
 have J:=Ap (Eu h);have Y:=h.le;have Z:=h.len;unfold maxLen at Z;have ad:=G.1;have ae:=G.2;obtain⟨R,j⟩:∃R,Hid (Cd s.bs s.lim o (first.toNat==48) (s.bs.length+1-s.pos) s.pos (first.toNat-48)=R):=⟨_,show _=_ from rfl⟩
 rw[j.out];clear h G;go_enter func245,ntmps245;go_wp2;generalize W.alloc (Af #[A9 (Aj ⟨b,0,Ak⟩)] 207)=W0 at *
 go_loopg[7,8] (s.bs.length+1-s.pos) (λg x _ wr=>∃p q:Nat,x=A7 .u64 q/\Hid (p+g=s.bs.length+1)/\p<=s.bs.length/\q<=o/\Hid (Hq W b W.heap.size {s with pos:=p} wr)/\Hid (Cd s.bs s.lim o (first.toNat==48) g p q=R))
 case atStart=>exact⟨s.pos,first.toNat-48,by go_num,by show _=_;omega,Y,by omega,J,j⟩
 case round =>
  clear J j;obtain⟨p,q,rfl,N,hp,af,a,j⟩:=hrel;have i:=a.cell;obtain⟨g,rfl⟩:∃g,gk=g+1:=⟨gk-1,by have:=N.out;omega⟩
  rcases Ji a.src with k|k|⟨c,k⟩
  ·have l:Hid (R=.ok (q,p)):=by
    show _=_;rw[<-j.out,Cd,DI (by have:p=s.bs.length:=k;omega)]
   have r:=bo a.src k;have m:=λ(x:Int) (V:Al) (y:Az V b {s with pos:=p})=>OW x y k;clear k j;have A:True:=trivial;have B:True:=trivial
   go_wp2_with(first
    |(go_at_call 251;refine r.mono ?_;clear r i;rintro e P ⟨rfl,f,d⟩;obtain⟨a,i⟩:=CK a f d;clear f d)
    |(go_at_call 236;clear A;refine(m 46 _ a.src).mono ?_;clear i;rintro e Q ⟨rfl,f,d⟩;obtain⟨a,i⟩:=CK a f d;clear f d)
    |(go_at_call 236;clear B;refine(m 101 _ a.src).mono ?_;clear i;rintro e S ⟨rfl,f,d⟩;obtain⟨a,i⟩:=CK a f d;clear f d)
    |(go_at_call 236;refine(m 69 _ a.src).mono ?_;clear i;rintro e T ⟨rfl,f,d⟩;obtain⟨a,i⟩:=CK a f d;clear f d))
   go_ret;rw[l.out];exact⟨a.but,rfl,a.src⟩
  ·have l:Hid (R=.error (8,(p:Int))):=by
    show _=_;have U:(p:Int)=s.lim:=k.2;have X:p<s.bs.length:=k.1;rw[<-j.out,Cd,AY X];simp[U]
   have r:=bm wr b {s with pos:=p} a.src k;clear k j
   go_wp2_with(first
    |(go_at_call 251;refine r.mono ?_;clear r i;rintro e P ⟨rfl,d⟩))
   rw[l.out];exact⟨rfl,a.but.trans (AE.of_below d),rfl⟩
  have L:s.bs[p]?=Aj c:=k.1;have M:¬(p:Int)=s.lim:=k.2;have r:=bq a.src k;have m:=λ(x:Int) (V:Al) (y:Az V b {s with pos:=p})=>LX x y k;have w:∀V,Az V b {s with pos:=p}->An Ao 226 #[A9 (Aj ⟨b,0,Ak⟩)] V λe K=>e=Ag (A7 Ai c.toNat)/\Az K b {s with pos:=p+1}/\AE b V K:=λV y=>E6 V b {s with pos:=p} c y k;have aa:p<s.bs.length:=k.lt;rw[Cd,L]at j;simp only[]at j;rw[Aq M]at j;clear k L M
  go_wp2_with fail
  refine r.mono ?_;clear r i;rintro e P ⟨rfl,f,d⟩;obtain⟨a,i⟩:=CK a f d;clear f d;cases z:Cm c
  ·rw[z]at j;rw[Aq (by simp)]at j;clear z;have A:True:=trivial;have B:True:=trivial;by_cases t:c.toNat=46\/c.toNat=101\/c.toNat=69
   ·have l:Hid (R=.error (10,(p:Int))):=by show _=_;rw[<-j.out,As t]
    clear j;rcases t with t|t|t
    all_goals
     first|have D:((c.toNat:Int)==46)=true:=(by simp;omega)|have D:=AI (c:=c) 46 (by omega)
     first|have C:((c.toNat:Int)==101)=true:=(by simp;omega)|have C:=AI (c:=c) 101 (by omega)
     first|have E:((c.toNat:Int)==69)=true:=(by simp;omega)|have E:=AI (c:=c) 69 (by omega)
     clear t
     go_wp2_with(first
      |(go_at_call 236;clear A;refine(m 46 _ a.src).mono ?_;clear i;rintro e Q ⟨rfl,f,d⟩;rw[D];obtain⟨a,i⟩:=CK a f d;clear f d)
      |(go_at_call 236;clear B;refine(m 101 _ a.src).mono ?_;clear i;rintro e S ⟨rfl,f,d⟩;rw[C];obtain⟨a,i⟩:=CK a f d;clear f d)
      |(go_at_call 236;refine(m 69 _ a.src).mono ?_;clear i;rintro e T ⟨rfl,f,d⟩;rw[E];obtain⟨a,i⟩:=CK a f d;clear f d)
      |(go_at_call 226;refine(w _ a.src).mono ?_;clear i;rintro e v ⟨rfl,f,d⟩;obtain⟨a,i⟩:=CK a f d;clear f d;have n:=λ(u:Int)=>Fd v b {s with pos:=p+1} u a.src)
      |(go_at_call 227;refine(n _).mono ?_;clear n i;rintro e H ⟨hF,rfl⟩;obtain rfl:=hF))
     rw[l.out];exact⟨rfl,a.but,by show B7 _ _ _;unfold B7 GO;simp⟩
   have l:Hid (R=.ok (q,p)):=by show _=_;rw[<-j.out,Aq t]
   clear j w;have D:=AI (c:=c) 46 (by omega);have C:=AI (c:=c) 101 (by omega);have E:=AI (c:=c) 69 (by omega);clear t
   go_wp2_with(first
    |(go_at_call 236;clear A;refine(m 46 _ a.src).mono ?_;clear i;rintro e Q ⟨rfl,f,d⟩;rw[D];obtain⟨a,i⟩:=CK a f d;clear f d)
    |(go_at_call 236;clear B;refine(m 101 _ a.src).mono ?_;clear i;rintro e S ⟨rfl,f,d⟩;rw[C];obtain⟨a,i⟩:=CK a f d;clear f d)
    |(go_at_call 236;refine(m 69 _ a.src).mono ?_;clear i;rintro e T ⟨rfl,f,d⟩;rw[E];obtain⟨a,i⟩:=CK a f d;clear f d))
   go_ret;rw[l.out];exact⟨a.but,rfl,a.src⟩
  rw[z]at j;rw[As rfl]at j;have F:=By z;have ab:=F.1;have ac:=F.2;clear z F;by_cases hz:(first.toNat:Int)=48
  ·have l:Hid (R=.error (9,(p:Int))):=by
    show _=_;rw[<-j.out,As (by simp;omega)]
   clear j m
   go_wp2_with(first
    |(go_at_call 226;refine(w _ a.src).mono ?_;clear i;rintro e v ⟨rfl,f,d⟩;obtain⟨a,i⟩:=CK a f d;clear f d;have n:=λ(u:Int)=>Fd v b {s with pos:=p+1} u a.src)
    |(go_at_call 227;refine(n _).mono ?_;clear n i;rintro e H ⟨hF,rfl⟩;obtain rfl:=hF))
   rw[l.out];exact⟨rfl,a.but,by show B7 _ _ _;unfold B7 GO;simp⟩
  have I:Hid ((if(o-(c.toNat-48))/10<q then Except.error (10,(p:Int))else Cd s.bs s.lim o (first.toNat==48) g (p+1) (q*10+(c.toNat-48)))=R):=by
   have e:=j.out;rw[Aq (show¬(first.toNat==48)=true by simp;omega)]at e;exact e
  clear j m;by_cases O:(o-(c.toNat-48))/10<q
  ·have l:Hid (R=.error (10,(p:Int))):=by
    show _=_;rw[<-I.out,As O]
   go_wp2_with(first
    |(go_at_call 226;refine(w _ a.src).mono ?_;clear i;rintro e v ⟨rfl,f,d⟩;obtain⟨a,i⟩:=CK a f d;clear f d;have n:=λ(u:Int)=>Fd v b {s with pos:=p+1} u a.src)
    |(go_at_call 227;refine(n _).mono ?_;clear n i;rintro e H ⟨hF,rfl⟩;obtain rfl:=hF))
   rw[l.out];exact⟨rfl,a.but,rfl⟩
  have l:Hid (Cd s.bs s.lim o (first.toNat==48) g (p+1) (q*10+(c.toNat-48))=R):=by
   show _=_;rw[<-I.out,Aq O]
  go_wp2_with(first
   |(go_at_call 226;refine(w _ a.src).mono ?_;clear i;rintro e v ⟨rfl,f,d⟩;obtain⟨a,i⟩:=CK a f d;clear f d;have n:=λ(u:Int)=>Fd v b {s with pos:=p+1} u a.src)
   |(go_at_call 227;refine(n _).mono ?_;clear n i;rintro e H ⟨hF,rfl⟩;obtain rfl:=hF))
  go_roundg g
  case measure=>omega
  case rel=>exact⟨p+1,q*10+(c.toNat-48),by go_num,by show _=_;have:=N.out;omega,aa,by omega,a,l⟩
theorem Nj{lim:Int}{most:Nat}{z:Bool}:∀{g p num:Nat} {x q:Nat},num<=most->9<=most->Cd bs lim most z g p num=.ok (x,q)->x<=most
 |0,p,num,x,q,hn,_,h=>by
  unfold Cd at h;cases h;exact hn
 |g+1,p,num,x,q,hn,hm,h=>by
  unfold Cd at h;split at h
  ·cases h;exact hn
  split at h
  ·cases h
  split at h
  ·next hd =>
   split at h
   ·cases h
   split at h
   ·cases h
   next hov =>
   have a:=By hd;exact Nj (by omega) hm h
  split at h
  ·cases h
  cases h;exact hn
def Ci(s:AQ)(first:UInt8):A6 Int :=
 if first.toNat=45 then
  match s.bs[s.pos]? with
  |none=>.error (9,s.pos)
  |some c=>if(s.pos:Int)=s.lim then .error (8,s.pos)else if Cm c=true then
    (match Cd s.bs s.lim 9223372036854775808 (c.toNat==48) (s.bs.length+1-(s.pos+1)) (s.pos+1) (c.toNat-48)with
    |.ok (x,p)=>.ok (-(x:Int),p)
    |.error e=>.error e)
   else .error (9,s.pos)
 else match Cd s.bs s.lim 9223372036854775807 (first.toNat==48) (s.bs.length+1-s.pos) s.pos (first.toNat-48)with
  |.ok (x,p)=>.ok ((x:Int),p)
  |.error e=>.error e
theorem br(x:Nat)(h:x<=9223372036854775808):wrap64 (IntKind.u64.wrap (-(x:Int))) = -(x:Int):=by
 by_cases b:x=0
 ·subst b;have a:IntKind.u64.wrap (-((0:Nat):Int))=0:=by
   unfold IntKind.wrap;simp[IntKind.bits,IntKind.signed]
  rw[a];unfold wrap64;omega
 have a:IntKind.u64.wrap (-(x:Int))=18446744073709551616-x:=by
  unfold IntKind.wrap;simp[IntKind.bits,IntKind.signed];omega
 rw[a];unfold wrap64
 first|omega|(unfold IntKind.wrap;simp[IntKind.bits,IntKind.signed];omega)|(split<;>omega)
theorem bt(W:Al)(b:Nat)(s:AQ)(first:UInt8)(h:Az W b s)(H:first.toNat=45\/Cm first=true):An Ao 235 #[Ac #[A9 (Aj ⟨b,0,Ak⟩)],A7 Ai first.toNat] W (DD W b s (λz:Int=>A7 Ah z) (Ci s first)):=by
 have g:=Ap (Eu h);obtain⟨R,u⟩:∃R,Hid (Ci s first=R):=⟨_,show _=_ from rfl⟩
 rw[u.out];have w:=g.cell;by_cases K:(first.toNat:Int)=45
 ·have a:=u.out;unfold Ci at a;rw[As (by omega)]at a;rcases Ji h with j|j|⟨c,j⟩
  ·have f:Hid (R=.error (9,(s.pos:Int))):=by
    show _=_;rw[DI (by have:s.pos=s.bs.length:=j;omega)]at a;exact a.symm
   have l:=K6 _ b s g.src j;go_enter func235,ntmps235
   go_wp2_with(first
    |(go_at_call 226;refine l.mono ?_;rintro e o ⟨hF,d⟩;obtain rfl:=hF))
   rw[f.out];exact⟨rfl,g.but.trans (AE.of_below d),rfl⟩
  ·have f:Hid (R=.error (8,(s.pos:Int))):=by
    show _=_;rw[AY j.1]at a;simp only[]at a;rw[As j.2]at a;exact a.symm
   have l:=K7 _ b s g.src j;go_enter func235,ntmps235
   go_wp2_with(first
    |(go_at_call 226;refine l.mono ?_;rintro e o ⟨hF,d⟩;obtain rfl:=hF))
   rw[f.out];exact⟨rfl,g.but.trans (AE.of_below d),rfl⟩
  rw[j.1]at a;simp only[]at a;rw[Aq j.2]at a;have l:=E6 _ b s c g.src j;have L:=j.lt;have I:=h.len;unfold maxLen at I;cases n:decide (48<=(c.toNat:Int)/\(c.toNat:Int)<=57)
  ·have f:Hid (R=.error (9,(s.pos:Int))):=by
    show _=_;rw[Aq (by unfold Cm;rw[n];simp)]at a;exact a.symm
   go_enter func235,ntmps235
   go_wp2_with(first
    |(go_at_call 226;refine l.mono ?_;rintro e o ⟨rfl,k,d⟩;have p:=Ap (g.step k d);have i:=p;have w:=i.cell)
    |(go_at_call 234;refine(K8 c _).mono ?_;rintro e C ⟨rfl,rfl⟩;rw[n])
    |(go_at_call 227;refine(Fd _ b s.next _ i.src).mono ?_;rintro e M ⟨hF,rfl⟩;obtain rfl:=hF))
   rw[f.out];exact⟨rfl,i.but,by show B7 _ _ _;unfold B7 GO AQ.next;simp⟩
  have t:=By n;have F:=t.1;have G:=t.2;rw[As (by unfold Cm;exact n)]at a;have r:=λV (E:Az V b s.next)=>UX V b s.next c 9223372036854775808 E (.inr rfl) ⟨by omega,by omega⟩
  obtain⟨D,m⟩:∃D,Cd s.bs s.lim 9223372036854775808 (c.toNat==48) (s.bs.length+1-(s.pos+1)) (s.pos+1) (c.toNat-48)=D:=⟨_,rfl⟩
  have A:∀V,Az V b s.next->An Ao 245 #[Ac #[A9 (Aj ⟨b,0,Ak⟩)],A7 Ai c.toNat,A7 .u64 9223372036854775808] V (DD V b s.next (λx:Nat=>A7 .u64 x) D):=by rw[<-m];exact r
  rw[m]at a;rcases D with⟨v,y⟩|⟨x,q⟩
  ·have f:Hid (R=.error (v,y)):=a.symm;go_enter func235,ntmps235
   go_wp2_with(first
    |(go_at_call 226;refine l.mono ?_;rintro e o ⟨rfl,k,d⟩;have p:=Ap (g.step k d);have i:=p;have w:=i.cell)
    |(go_at_call 234;refine(K8 c _).mono ?_;rintro e C ⟨rfl,rfl⟩;rw[n])
    |(go_at_call 245;refine(A _ i.src).mono ?_;rintro e J ⟨d,hF⟩;obtain rfl:=hF))
   rw[f.out];exact⟨rfl,i.but.trans d,rfl⟩
  have f:Hid (R=.ok (-(x:Int),q)):=a.symm;have B:=Nj (by omega) (by omega) m;go_enter func235,ntmps235
  go_wp2_with(first
   |(go_at_call 226;refine l.mono ?_;rintro e o ⟨rfl,k,d⟩;have p:=Ap (g.step k d);have i:=p;have w:=i.cell)
   |(go_at_call 234;refine(K8 c _).mono ?_;rintro e C ⟨rfl,rfl⟩;rw[n])
   |(go_at_call 245;refine(A _ i.src).mono ?_;rintro e J ⟨d,rfl,k⟩))
  go_ret;rw[f.out];exact⟨i.but.trans d,congrArg (λz=>Ending.returned (Value.int Ah z)) (br x B),k⟩
 have t:=By (H.resolve_left (by omega));have F:=t.1;have G:=t.2;have r:=UX (W.alloc (Af #[A9 (Aj ⟨b,0,Ak⟩)] 207)) b s first 9223372036854775807 g.src (.inl rfl) ⟨by omega,by omega⟩
 have a:=u.out;unfold Ci at a;rw[Aq (by omega)]at a;obtain⟨D,m⟩:∃D,Cd s.bs s.lim 9223372036854775807 (first.toNat==48) (s.bs.length+1-s.pos) s.pos (first.toNat-48)=D:=⟨_,rfl⟩
 rw[m]at r a;rcases D with⟨v,y⟩|⟨x,q⟩
 ·have f:Hid (R=.error (v,y)):=a.symm;go_enter func235,ntmps235
  go_wp2_with(first
   |(go_at_call 245;refine r.mono ?_;rintro e o ⟨d,hF⟩;obtain rfl:=hF))
  rw[f.out];exact⟨rfl,g.but.trans d,rfl⟩
 have f:Hid (R=.ok ((x:Int),q)):=a.symm;have B:=Nj (by omega) (by omega) m;go_enter func235,ntmps235
 go_wp2_with(first
  |(go_at_call 245;refine r.mono ?_;rintro e o ⟨d,rfl,k⟩))
 go_ret;rw[f.out];exact⟨g.but.trans d,rfl,k⟩
def IF(c:UInt8):Bool:=c.toNat==32||(c.toNat==9||(c.toNat==10||c.toNat==13))
def Bk(bs:A2)(lim:Int):Nat->Nat->A6 Unit
 |0,p=>.ok ((),p)
 |g+1,p=>match bs[p]? with
  |none=>.ok ((),p)
  |some c=>if(p:Int)=lim then .error (8,p)else if IF c=true then Bk bs lim g (p+1)else .ok ((),p)
theorem K9(W:Al)(b:Nat)(s:AQ)(h:Az W b s):An Ao 229 #[Ac #[A9 (Aj ⟨b,0,Ak⟩)]] W (DD W b s (λ_:Unit=>.tuple #[]) (Bk s.bs s.lim (s.bs.length+1-s.pos) s.pos)):=by
 have B:=Ap (Eu h);have N:=h.le;obtain⟨R,j⟩:∃R,Hid (Bk s.bs s.lim (s.bs.length+1-s.pos) s.pos=R):=⟨_,show _=_ from rfl⟩
 rw[j.out];clear h;go_enter func229,ntmps229;go_wp2;generalize W.alloc (Af #[A9 (Aj ⟨b,0,Ak⟩)] 207)=W0 at *
 go_loopg[2] (s.bs.length+1-s.pos) (λg _ wr=>∃p:Nat,Hid (p+g=s.bs.length+1)/\p<=s.bs.length/\Hid (Hq W b W.heap.size {s with pos:=p} wr)/\Hid (Bk s.bs s.lim g p=R))
 case atStart=>exact⟨s.pos,by show _=_;omega,N,B,j⟩
 case round =>
  clear B j;obtain⟨p,G,P,a,j⟩:=hrel;have i:=a.cell;obtain⟨g,rfl⟩:∃g,gk=g+1:=⟨gk-1,by have:=G.out;omega⟩
  rcases Ji a.src with k|k|⟨c,k⟩
  ·have m:Hid (R=.ok ((),p)):=by
    show _=_;rw[<-j.out,Bk,DI (by have:p=s.bs.length:=k;omega)]
   have l:=λ(x:Int) (V:Al) (n:Az V b {s with pos:=p})=>OW x n k;clear k j;have o:True:=trivial;have q:True:=trivial;have r:True:=trivial
   go_wp2_with(first
    |(go_at_call 236;clear o;refine(l 32 _ a.src).mono ?_;clear i;rintro e A ⟨rfl,f,d⟩;obtain⟨a,i⟩:=CK a f d;clear f d)
    |(go_at_call 236;clear q;refine(l 9 _ a.src).mono ?_;clear i;rintro e H ⟨rfl,f,d⟩;obtain⟨a,i⟩:=CK a f d;clear f d)
    |(go_at_call 236;clear r;refine(l 10 _ a.src).mono ?_;clear i;rintro e I ⟨rfl,f,d⟩;obtain⟨a,i⟩:=CK a f d;clear f d)
    |(go_at_call 236;refine(l 13 _ a.src).mono ?_;clear i;rintro e J ⟨rfl,f,d⟩;obtain⟨a,i⟩:=CK a f d;clear f d))
   go_end0;rw[m.out];exact⟨a.but,rfl,a.src⟩
  ·have m:Hid (R=.error (8,(p:Int))):=by
    show _=_;have L:(p:Int)=s.lim:=k.2;have M:p<s.bs.length:=k.1;rw[<-j.out,Bk,AY M];simp[L]
   have D:=Rj wr b {s with pos:=p} 32 a.src k;clear k j
   go_wp2_with(first
    |(go_at_call 236;refine D.mono ?_;clear D i;rintro e A ⟨rfl,d⟩))
   rw[m.out];exact⟨rfl,a.but.trans (AE.of_below d),rfl⟩
  have E:s.bs[p]?=Aj c:=k.1;have F:¬(p:Int)=s.lim:=k.2;have l:=λ(x:Int) (V:Al) (n:Az V b {s with pos:=p})=>LX x n k;have K:∀V,Az V b {s with pos:=p}->An Ao 226 #[A9 (Aj ⟨b,0,Ak⟩)] V λe C=>e=Ag (A7 Ai c.toNat)/\Az C b {s with pos:=p+1}/\AE b V C:=λV n=>E6 V b {s with pos:=p} c n k;have O:p<s.bs.length:=k.lt;rw[Bk,E]at j;simp only[]at j;rw[Aq F]at j;clear k E F;have o:True:=trivial;have q:True:=trivial;have r:True:=trivial;by_cases z:c.toNat=32\/c.toNat=9\/c.toNat=10\/c.toNat=13
  ·have m:Hid (Bk s.bs s.lim g (p+1)=R):=by
    show _=_;rw[<-j.out,As (by unfold IF;simpa using z)]
   clear j;rcases z with y|y|y|y
   all_goals
    first|have v:((c.toNat:Int)==32)=true:=(by simp;omega)|have v:=AI (c:=c) 32 (by omega)
    first|have w:((c.toNat:Int)==9)=true:=(by simp;omega)|have w:=AI (c:=c) 9 (by omega)
    first|have t:((c.toNat:Int)==10)=true:=(by simp;omega)|have t:=AI (c:=c) 10 (by omega)
    first|have u:((c.toNat:Int)==13)=true:=(by simp;omega)|have u:=AI (c:=c) 13 (by omega)
    clear y
    go_wp2_with(first
     |(go_at_call 236;clear o;refine(l 32 _ a.src).mono ?_;clear i;rintro e A ⟨rfl,f,d⟩;rw[v];obtain⟨a,i⟩:=CK a f d;clear f d)
     |(go_at_call 236;clear q;refine(l 9 _ a.src).mono ?_;clear i;rintro e H ⟨rfl,f,d⟩;rw[w];obtain⟨a,i⟩:=CK a f d;clear f d)
     |(go_at_call 236;clear r;refine(l 10 _ a.src).mono ?_;clear i;rintro e I ⟨rfl,f,d⟩;rw[t];obtain⟨a,i⟩:=CK a f d;clear f d)
     |(go_at_call 236;refine(l 13 _ a.src).mono ?_;clear i;rintro e J ⟨rfl,f,d⟩;rw[u];obtain⟨a,i⟩:=CK a f d;clear f d)
     |(go_at_call 226;refine(K _ a.src).mono ?_;clear i;rintro e Q ⟨rfl,f,d⟩;obtain⟨a,i⟩:=CK a f d;clear f d))
    go_roundg g
    case measure=>omega
    case rel=>exact⟨p+1,by show _=_;have:=G.out;omega,O,a,m⟩
  have m:Hid (R=.ok ((),p)):=by
   show _=_;rw[<-j.out,Aq (by unfold IF;simpa using z)]
  clear j;have v:=AI (c:=c) 32 (by omega);have w:=AI (c:=c) 9 (by omega);have t:=AI (c:=c) 10 (by omega);have u:=AI (c:=c) 13 (by omega);clear z
  go_wp2_with(first
   |(go_at_call 236;clear o;refine(l 32 _ a.src).mono ?_;clear i;rintro e A ⟨rfl,f,d⟩;rw[v];obtain⟨a,i⟩:=CK a f d;clear f d)
   |(go_at_call 236;clear q;refine(l 9 _ a.src).mono ?_;clear i;rintro e H ⟨rfl,f,d⟩;rw[w];obtain⟨a,i⟩:=CK a f d;clear f d)
   |(go_at_call 236;clear r;refine(l 10 _ a.src).mono ?_;clear i;rintro e I ⟨rfl,f,d⟩;rw[t];obtain⟨a,i⟩:=CK a f d;clear f d)
   |(go_at_call 236;refine(l 13 _ a.src).mono ?_;clear i;rintro e J ⟨rfl,f,d⟩;rw[u];obtain⟨a,i⟩:=CK a f d;clear f d))
  go_end0;rw[m.out];exact⟨a.but,rfl,a.src⟩
def G2(s:AQ):A6 Unit :=
 match s.bs[s.pos]? with
 |none=>.ok ((),s.pos)
 |some _=>if(s.pos:Int)=s.lim then .error (8,s.pos)else .error (9,s.pos)
theorem bu(W:Al)(b:Nat)(s:AQ)(h:Az W b s):An Ao 222 #[A9 (Aj ⟨b,0,Ak⟩)] W (DD W b s (λ_:Unit=>.tuple #[]) (G2 s)):=by
 obtain⟨R,i⟩:∃R,Hid (G2 s=R):=⟨_,show _=_ from rfl⟩
 rw[i.out];have d:=i.out;unfold G2 at d;rcases Ji h with a|a|⟨c,a⟩
 ·have g:Hid (R=.ok ((),s.pos)):=by
   show _=_;rw[DI (by have:s.pos=s.bs.length:=a;omega)]at d;exact d.symm
  have f:=OT W b s h a;have j:=Ap h;clear d i h a;go_enter func222,ntmps222
  go_wp2_with(first
   |(go_at_call 225;refine f.mono ?_;clear f;rintro e m ⟨rfl,n,rfl⟩))
  go_end0;rw[g.out];exact⟨AE.of_below (DN W n),rfl,j.drewN n⟩
 ·have g:Hid (R=.error (8,(s.pos:Int))):=by
   show _=_;rw[AY a.1]at d;simp only[]at d;rw[As a.2]at d;exact d.symm
  have f:=OU W b s h a.1 a.2;clear d i h a;go_enter func222,ntmps222
  go_wp2_with(first
   |(go_at_call 225;refine f.mono ?_;clear f;rintro e m ⟨hF,n,rfl⟩;obtain rfl:=hF))
  rw[g.out];exact⟨rfl,AE.of_below (DN W n),rfl⟩
 have g:Hid (R=.error (9,(s.pos:Int))):=by
  show _=_;rw[a.1]at d;simp only[]at d;rw[Aq a.2]at d;exact d.symm
 have f:=OV W b s h a.lt a.2;have r:=λV (t:Az V b s)=>E6 V b s c t a;have j:=Ap h;have v:=a.lt;have u:=h.len;unfold maxLen at u;clear d i h a;go_enter func222,ntmps222
 go_wp2_with(first
  |(go_at_call 225;refine f.mono ?_;clear f;rintro e m ⟨rfl,n,rfl⟩;have p:=Ap (j.drewN n))
  |(go_at_call 226;refine(r _ p).mono ?_;rintro e w ⟨rfl,l,k⟩;have q:=Ap l;have o:=Ap k;clear l k)
  |(go_at_call 227;refine(Fd _ b s.next _ q).mono ?_;rintro e x ⟨hF,rfl⟩;obtain rfl:=hF))
 rw[g.out];exact⟨rfl,(AE.of_below (DN W n)).trans o,by show B7 _ _ _;unfold B7 GO AQ.next;simp⟩
def Nk(z:Int):Value:=Ae 254 (A7 Ah z)
theorem bw(W:Al)(b:Nat)(s:AQ)(c:UInt8)(h:Az W b s)(v:E5 s c)(m:c.toNat=45\/Cm c=true):An Ao 228 #[Ac #[A9 (Aj ⟨b,0,Ak⟩)]] W (DD W b s Nk (Ci s.next c)):=by
 have k:=Ap (Eu h);have i:=k.cell;have l:=E6 _ b s c k.src v;have u:=λV (G:Az V b s.next)=>bt V b s.next c G m
 obtain⟨R,p⟩:∃R,Hid (Ci s.next c=R):=⟨_,show _=_ from rfl⟩
 rw[p.out];have g:∀V,Az V b s.next->An Ao 235 #[Ac #[A9 (Aj ⟨b,0,Ak⟩)],A7 Ai c.toNat] V (DD V b s.next (λz:Int=>A7 Ah z) R):=by rw[<-p.out];exact u
 have H:(c.toNat:Int)=45\/(48<=(c.toNat:Int)/\(c.toNat:Int)<=57):=by
  rcases m with m|m
  ·left;omega
  right;exact By m
 have x:¬(c.toNat:Int)=110:=by omega
 have y:¬(c.toNat:Int)=116:=by omega
 have A:¬(c.toNat:Int)=102:=by omega
 have B:¬(c.toNat:Int)=34:=by omega
 have C:¬(c.toNat:Int)=91:=by omega
 have D:¬(c.toNat:Int)=123:=by omega
 clear u p m v h;have K:=Dq.2 x;have L:=Dq.2 y;have M:=Dq.2 A;have N:=Dq.2 B;have O:=Dq.2 C;have P:=Dq.2 D;clear x y A B C D;rcases H with n|n
 ·have E:=Je.2 n;clear n;rcases hR2:R with⟨F,I⟩|⟨z,q⟩
  ·have o:=Ap hR2;rw[hR2]at g;clear hR2;go_enter func228,ntmps228
   go_wp2_with(first
    |(go_at_call 226;refine l.mono ?_;clear l i;rintro e r ⟨rfl,f,a⟩;have j:=Ap (k.step f a);clear k f a;have d:=j;clear j;have i:=d.cell)
    |(go_at_call 235;refine(g _ d.src).mono ?_;clear g i;rintro e t ⟨a,hF⟩;obtain rfl:=hF))
   exact⟨rfl,d.but.trans a,rfl⟩
  have o:=Ap hR2;rw[hR2]at g;clear hR2;go_enter func228,ntmps228
  go_wp2_with(first
   |(go_at_call 226;refine l.mono ?_;clear l i;rintro e r ⟨rfl,f,a⟩;have j:=Ap (k.step f a);clear k f a;have d:=j;clear j;have i:=d.cell)
   |(go_at_call 235;refine(g _ d.src).mono ?_;clear g i;rintro e t ⟨a,rfl,f⟩))
  go_ret;exact⟨d.but.trans a,rfl,f⟩
 have w:=Bs n;have E:((c.toNat:Int)==45)=false:=Dq.2 (by omega);clear n;rcases hR2:R with⟨F,I⟩|⟨z,q⟩
 ·have o:=Ap hR2;rw[hR2]at g;clear hR2;go_enter func228,ntmps228
  go_wp2_with(first
   |(go_at_call 226;refine l.mono ?_;clear l i;rintro e r ⟨rfl,f,a⟩;have j:=Ap (k.step f a);clear k f a;have d:=j;clear j;have i:=d.cell)
   |(go_at_call 234;refine(K8 c _).mono ?_;rintro e J ⟨rfl,rfl⟩;rw[w])
   |(go_at_call 235;refine(g _ d.src).mono ?_;clear g i;rintro e t ⟨a,hF⟩;obtain rfl:=hF))
  exact⟨rfl,d.but.trans a,rfl⟩
 have o:=Ap hR2;rw[hR2]at g;clear hR2;go_enter func228,ntmps228
 go_wp2_with(first
  |(go_at_call 226;refine l.mono ?_;clear l i;rintro e r ⟨rfl,f,a⟩;have j:=Ap (k.step f a);clear k f a;have d:=j;clear j;have i:=d.cell)
  |(go_at_call 234;refine(K8 c _).mono ?_;rintro e J ⟨rfl,rfl⟩;rw[w])
  |(go_at_call 235;refine(g _ d.src).mono ?_;clear g i;rintro e t ⟨a,rfl,f⟩))
 go_ret;exact⟨d.but.trans a,rfl,f⟩
structure Dv(W:World)(ia:A5)(bs:A2):Prop where
 at_:∀i (h:i<bs.length),∃g off,ia=some ⟨g,off,none⟩/\g<W.heap.size/\W.cell? ⟨g,off+i,none⟩=some (.int .u8 (bs[i]'h).toNat)
 len:bs.length<=maxLen
theorem Dv.below{ia:A5}(h:Dv W ia bs)(b:A1 W W'):Dv W' ia bs :=
 ⟨λi e=>by
  obtain⟨g,off,c,a,d⟩:=h.at_ i e;exact⟨g,off,c,Br a b.size,(b.cell (p:=⟨g,off+i,Ak⟩) a).trans d⟩,h.len⟩
theorem bx{ia:A5}{cap:Nat}{d l:Int}(h:Dv W ia bs)(f:A1 W W')(m:W.heap.size<=b)(k:W'.heap[b]?=Aj (Af (AQ.arr ⟨ia,bs,cap,d,l,0,0⟩) 205)):Az W' b ⟨ia,bs,cap,d,l,0,0⟩ :=
 ⟨k,λi j=>by
  obtain⟨g,off,a,c,e⟩:=h.at_ i j;exact⟨g,off,a,by omega,(f.cell (p:=⟨g,off+i,Ak⟩) c).trans e⟩,h.len,Cy _⟩
theorem bz(W:Al)(a:A5)(bs:A2)(c:Nat)(d l:Int)(h:Dv W a bs):An Ao 81 #[A7 Ah 1,Ac #[A7 Ah d,A7 Ah l],A8 a bs.length c] W λe f =>
   ∃b,e=Ag (Ae 207 (Ac #[A9 (Aj ⟨b,0,Ak⟩)]))/\Az f b ⟨a,bs,c,d,l,0,0⟩/\W.heap.size<=b/\A1 W f:=by
 have j:=Ap h;go_enter func81,ntmps81;go_wp2;go_ret;have g:A1 W ((W.alloc (Af #[A7 Ah d,A7 Ah l] 79)).alloc (Af #[A8 a bs.length c,A7 Ah d,A7 Ah l,A7 Ah 0,A7 Ah 0] 205)):=(AH).alloc (by simp) _;have i:=Ay (W.alloc (Af #[A7 Ah d,A7 Ah l] 79)) (Af #[A8 a bs.length c,A7 Ah d,A7 Ah l,A7 Ah 0,A7 Ah 0] 205);rw[AM]at i;exact⟨W.heap.size+1,rfl,bx j g (by omega) i,by omega,g⟩
theorem Ka{V V':Al}(h:A1 W V)(a:AE b V V')(d:W.heap.size<=b):A1 W V' :=
 ⟨a.os.trans h.os,a.tape.trans h.tape,a.output.trans h.output,AW h.size a.size,λk c=>(a.block k (by have:=h.size;omega) (by omega)).trans (h.block k c)⟩
theorem OX{α:Type}{P:Program}{o:Oper}{K:Act->Al->Prop}{x:Result α}{y:α}{k:α->Al->Result Next}(h:x=.ok y w)(b:o.upon P a K Q (k y w)):o.upon P a K Q (x.andThen k):=by rw[h];exact b
structure Em(lo hi:Nat)(W W':World):Prop where
 size:W.heap.size<=W'.heap.size
 same:∀k,lo<=k->k<hi->W'.heap[k]?=W.heap[k]?
theorem Em.refl(lo hi:Nat)(W:Al):Em lo hi W W:=⟨AB _,λ_ _ _=>rfl⟩
theorem Em.trans(h:Em lo hi A B)(k:Em lo hi B C):Em lo hi A C :=
 ⟨AW h.size k.size,λi a b=>(k.same i a b).trans (h.same i a b)⟩
theorem Em.put(W:Al)(r:Nat)(o:Obj)(h:hi<=r):Em lo hi W (W.putObj r o) :=
 ⟨by simp,λk _ a=>World.putObj_heap_other (by omega)⟩
theorem Em.below(h:Below hi W W'):Em lo hi W W':=⟨h.size,λk _ a=>h.block k a⟩
def Pt{β:Type}(st:Nat)(I:β->Al->Prop):Prop:=∀s W W',I s W->W.grownBy W' (Aj st)->I s W'
def WS{β:Type}(B:Nat)(I:β->Al->Prop):Prop:=∀s W k (o o':Obj),I s W->B<=k->W.heap[k]?=Aj o->o.isCells=false->I s (W.putObj k o')
def WT{α:Type}(F:Fence)(n:Nat)(P:Program)(g:Nat)(lb:A4)(encs:α->A4)(lo hi st:Nat)(S Sp:List α->Prop)(w:Al):Prop :=
 ∀(l:Nat) (J Jx:List α->Al->Prop) (W:Al),A1 w W->Pt st J->Pt st Jx ->
  (∀pre x W1,J pre W1->YieldAt F (n-1) P l (encs x) W1 λe W' =>
   (e=Ag (Ad true)/\J (pre++[x]) W'/\Em lo hi W1 W')\/(e=Ag (Ad false)/\Jx (pre++[x]) W')) ->
  J [] W ->
  CallsIn F n P g (#[.func (.yield l) #[] #[]]++lb) W λe W'=>(∃v,e=Ag v)/\((∃xs,S xs/\J xs W')\/(∃pre,Sp pre/\Jx pre W'))
def jd{α:Type}(lo hi:Nat)(I:List α->Al->Prop)(Ix:Code->List α->Al->Prop)(xs:List α)(W:Al)(e:Exit)(_:Act)(W':Al):Prop :=
 match e with
 |.normal=>KeepsOthers W W'/\Em lo hi W W'/\I xs W'
 |.ret=>KeepsOthers W W'/\Ix .ret xs W'
 |.exit id=>KeepsOthers W W'/\Ix (.exit id) xs W'
 |_=>False
variable{F:Fence} {n:Nat} {P:Program}
theorem WU{α:Type}{g:Operand}{ps:Array Tmp}{assign body:Code}(ak:F.round=Ak)(h1:1<=n){gf:Nat}{lb:A4}(hg:a.eval g=.func (.func gf) #[] lb)(ab:F.fn gf)(eg:∀args w,(callFunc gf args).run P w=.ok (.enter gf args) w){encs:α->A4}{st:Nat}(aq:st<w.heap.size)(ap:hi<=w.heap.size){S Sp:List α->Prop}{w0:Al}(al:WT F (n-1) P gf lb encs lo hi st S Sp w0)(U:A1 w0 w)(aj:∀x,(encs x).size=ps.size)(I:List α->Al->Prop)(z:Code->List α->Al->Prop)(T:Pt st I)(ac:∀c,Pt st (z c))(J:WS w.heap.size I)(L:∀c,WS w.heap.size (z c))(h0:I [] w)(O:α->Act)(ae:∀(l:Nat) (x:α) (W:Al) (K:Act->Al->Prop),K (O x) W ->
   assign.wpIn (F.inRound l) (n-1-1) P (Exit.then K (λ_ _ _=>False)) {tmps:=(ps.zip (encs x)).foldl (λao (p,v)=>ao.setIfInBounds p v) a.tmps,defers:=[]} W)(af:∀(l:Nat) (pre:List α) (x:α) (W:Al),I pre W->w.heap.size<W.heap.size->body.wpIn (F.inRound l) (n-1-1) P (jd lo hi I z (pre++[x]) W) (O x) W)(ag:∀(D:Nat) (H:List α) (W:Al),w.heap.size<=D->S H->I H W->W.heap[D]?=Aj (.deferred (Aj []))->Q .normal {a with defers:={target:=.collected D,args:=#[]}::a.defers} W)(am:∀(D:Nat) (c:Code) (pre:List α) (W:Al),w.heap.size<=D->Sp pre->z c pre W->W.heap[D]?=Aj (.deferred (Aj []))->c.wpIn F n P Q {a with defers:={target:=.collected D,args:=#[]}::a.defers} W):(Code.rangeFunc g ps assign body).wpIn F n P Q a w:=by
 refine wpIn_rangeFunc λfn ah=>?_;rw[ak];generalize hD:w.heap.size=D at *;obtain⟨b,u⟩:∃b:LoopState->Option Code->Loop,b=λs p=>{state:=s,pending:=p,fn,tmps:=a.tmps,params:=ps,assign,body,defers:=D}:=⟨_,rfl⟩
 have M:=run_enterLoop_outer (P:=P) (w:=w) fn a.tmps ps assign body;rw[hD]at M;have aa:(w.alloc (.deferred (Aj []))).alloc (.loop {state:=.ready,pending:=Ak,fn,tmps:=a.tmps,params:=ps,assign,body,defers:=D})=(w.alloc (.deferred (Aj []))).alloc (.loop (b .ready Ak)):=by rw[u]
 rw[aa]at M;have R:Below D w ((w.alloc (.deferred (Aj []))).alloc (.loop (b .ready Ak))):=by
  rw[<-hD];exact((AT _ w).alloc (AB _) _).alloc (by simp) _
 have l1:((w.alloc (.deferred (Aj []))).alloc (.loop (b .ready Ak))).heap[D+1]?=Aj (.loop (b .ready Ak)):=by
  have:=World.alloc_heap_new (w.alloc (.deferred (Aj []))) (.loop (b .ready Ak));rwa[AM,hD]at this
 have d1:((w.alloc (.deferred (Aj []))).alloc (.loop (b .ready Ak))).heap[D]?=Aj (.deferred (Aj [])):=by
  have:=World.alloc_heap_new w (.deferred (Aj []));rw[hD]at this;exact(AL _ _ _ (by simp;omega)).trans this
 have i1:I [] ((w.alloc (.deferred (Aj []))).alloc (.loop (b .ready Ak))):=by
  refine T _ w _ h0 ⟨rfl,rfl,rfl,by simp;omega,λk m _=>?_⟩;exact R.block k (by omega)
 generalize(w.alloc (.deferred (Aj []))).alloc (.loop (b .ready Ak))=W1 at *;refine⟨D+1,[{target:=.collected D,args:=#[]}],W1,{target:=.fn (.func gf) lb,args:=#[.func (.yield (D+1)) #[] #[]]},W1,gf,#[.func (.yield (D+1)) #[] #[]]++lb,W1,M,?_,?_,?_,λ_=>h1,?_⟩
 ·simp only[resolve,hg];simp[go_sem]
 ·intro f' V;simp[Target.leads]at V;subst V;exact ab
 ·simp[invoke,go_sem,eg]
 have keep:∀{A B:Al} {k:Nat} {o:Obj},D<=k->A.grownBy B (Aj st)->A.heap[k]?=Aj o->B.heap[k]?=Aj o:=by
  intro A B k o m q X;exact(q.block k (At X) (by simp;omega)).trans X
 refine(al (D+1) (λpre W=>I pre W/\W.heap[D+1]?=Aj (.loop (b .ready Ak))/\W.heap[D]?=Aj (.deferred (Aj [])))
  (λpre W=>∃c,z c pre W/\W.heap[D+1]?=Aj (.loop (b .done (Aj c)))/\W.heap[D]?=Aj (.deferred (Aj [])))
  W1 (U.trans (R.mono (by have:=U.size;omega))) (λs A B h q=>⟨T s A B h.1 q,keep (by omega) q h.2.1,keep (AB _) q h.2.2⟩)
  (λs A B h q=>by
   obtain⟨c,hc,f,y⟩:=h;exact⟨c,ac c s A B hc q,keep (by omega) q f,keep (AB _) q y⟩) ?_ ⟨i1,l1,d1⟩).mono ?_
 ·rintro pre x W ⟨E,f,y⟩;have ai:D+1<W.heap.size:=At f;have Y:=run_yield (P:=P) (args:=encs x) f (by rw[u];exact aj x);rw[u]at Y;refine⟨fn,_,assign,body,Y,roundIn_of_wpIn ah (ae _ x W _ ⟨_,run_beginRound f (by rw[u]),?_⟩)⟩;generalize hWb:W.putObj (D+1) (.loop {b .ready Ak with state:=.busy})=Wb;have Z:Wb.heap[D+1]?=Aj (.loop {b .ready Ak with state:=.busy}):=by rw[<-hWb];exact World.putObj_heap_same ai
  have t:Wb.heap[D]?=Aj (.deferred (Aj [])):=by rw[<-hWb];exact(World.putObj_heap_other (by omega)).trans y
  have an:I pre Wb:=by rw[<-hWb];exact J pre W (D+1) _ _ E (by omega) f rfl
  have kW:Em lo hi W Wb:=by rw[<-hWb];exact Em.put W (D+1) _ (by omega)
  refine wpIn_mono (af _ pre x Wb an (by have:=At Z;omega)) ?_;have fin:∀(i:Option Code) (d:Al),KeepsOthers Wb d ->
    (Instr.endRound (D+1) i).run P d=.ok (Ad i.isNone) (d.putObj (D+1) (.loop (b (if i.isNone then .ready else .done) i)))/\d.heap[D+1]?=Aj (.loop {b .ready Ak with state:=.busy}) /\
    (d.putObj (D+1) (.loop (b (if i.isNone then .ready else .done) i))).heap[D+1]?=Aj (.loop (b (if i.isNone then .ready else .done) i)) /\
    (d.putObj (D+1) (.loop (b (if i.isNone then .ready else .done) i))).heap[D]?=Aj (.deferred (Aj [])):=by
   intro i d m;have r:=m.same _ _ Z rfl;refine⟨?_,r,World.putObj_heap_same (At r),(World.putObj_heap_other (by omega)).trans (m.same _ _ t rfl)⟩;have:=run_endRound (P:=P) i r;rw[u]at this ⊢;exact this
  intro e a3 d hp
  match e,hp with
  |.normal,⟨m,hr,hi3⟩ =>
   obtain⟨j,r,G,C⟩:=fin Ak d m;exact⟨_,_,j,.inl ⟨rfl,⟨J _ d (D+1) _ _ hi3 (by omega) r rfl,G,C⟩,(kW.trans hr).trans (Em.put d (D+1) _ (by omega))⟩⟩
  |.ret,⟨m,hi3⟩ =>
   obtain⟨j,r,G,C⟩:=fin (Aj .ret) d m;exact⟨_,_,j,.inr ⟨rfl,.ret,L _ _ d (D+1) _ _ hi3 (by omega) r rfl,G,C⟩⟩
  |.exit id,⟨m,hi3⟩ =>
   obtain⟨j,r,G,C⟩:=fin (Aj (.exit id)) d m;exact⟨_,_,j,.inr ⟨rfl,.exit id,L _ _ d (D+1) _ _ hi3 (by omega) r rfl,G,C⟩⟩
 rintro e N ⟨⟨v,rfl⟩,h⟩;rcases h with⟨H,hS,E,f,y⟩|⟨pre,ad,c,E,f,y⟩
 ·have j:=run_endLoop (P:=P) f (by rw[u];simp);rw[u]at j;exact⟨Ak,_,j,ag D H _ (AB _) hS (J _ N (D+1) _ _ E (by omega) f rfl) ((World.putObj_heap_other (by omega)).trans y)⟩
 have j:=run_endLoop (P:=P) f (by rw[u];simp);rw[u]at j;exact⟨Aj c,_,j,am D c pre _ (AB _) ad (L c _ N (D+1) _ _ E (by omega) f rfl) ((World.putObj_heap_other (by omega)).trans y)⟩
end
end Go.Proofs.YtoegnhgofkhbnaaGreatDoor
