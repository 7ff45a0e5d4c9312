import Derived.Test.YtoegnhgofkhbnaaGreatDoorHq19
import Derived.Test.YtoegnhgofkhbnaaGreatDoorHq20
set_option maxRecDepth 100000
set_option maxHeartbeats 8000000
set_option linter.all false
namespace Go.Proofs.YtoegnhgofkhbnaaGreatDoor
open Go.Proofs.Tryz
open Go.Value renaming int->A7,slice->A8,pointer->A9,string->Aa,tuple->Ab,bool->Ad,iface->Ae
open Go.Obj renaming cells->Af
open Go.Ending renaming returned->Ag
open Go.IntKind renaming i64->Ah,u8->Ai
open Option renaming some->Aj,none->Ak
open Go renaming World->Al,Value->Am,Calls->An
open Go.Proofs.Tryz renaming prog->Ao
variable{N base k num p:Nat}{V V' W:Al}{v v':Am}{bs cur:A2}{l lim z:Int}{m:Bool}{R:A6 Nat}
section
open Go.RowKit
def Nz(k:Nat)(W:Al)(r:Except (Int×Int) (DataW Unit))(e:Ending)(W':Al):Prop :=
 A1 W W'/\match r with
 |.ok d=>∃t y,e=Ag (Ab #[Ae t y,A7 Ah 0,A7 Ah 0])/\AJ k W' (λj=>W.heap.size<=j/\j<W'.heap.size) (Ae t y) d
 |.error (en,pl)=>e=Ag (Ab #[.nilIface,A7 Ah en,A7 Ah pl])
theorem gT(k:Nat)(W:Al)(v:A4)(r:Except (Int×Int) (DataW Unit))(D:An Ao 50 v ((W.alloc (Af #[A7 Ah 0] 32)).alloc (Af #[A7 Ah 0] 3)) (IP k ((W.alloc (Af #[A7 Ah 0] 32)).alloc (Af #[A7 Ah 0] 3)) r)):An Ao 49 #[.func (.func 50) #[] v] W (Nz k W r):=by
 have T:∀(x:Fn) (first u:A4) (w:Al),(Instr.makeFunc x first u).run Ao w=.ok (.func x first u) w:=λ_ _ _ _=>rfl;have B:A1 W ((W.alloc (Af #[A7 Ah 0] 32)).alloc (Af #[A7 Ah 0] 3)):=(AH).alloc (by simp) _;have K:=Boxed.new W 32 (A7 Ah 0);have z:=Boxed.new (W.alloc (Af #[A7 Ah 0] 32)) 3 (A7 Ah 0);have L:=K.alloc (Af #[A7 Ah 0] 3);rw[AM]at z;have h:=Ap B;have l:=Ap L;have m:=Ap z
 go_enter_defers func49,ntmps49
 go_wp2_with fail
 refine D.mono ?_;rcases r with⟨E,M⟩|d
 ·rintro e a ⟨b,hF⟩;obtain rfl:=hF;have q1:Boxed a W.heap.size 32 (A7 Ah 0):=(b.block _ l.lt).trans l;have g:Boxed a (W.heap.size+1) 3 (A7 Ah 0):=(b.block _ m.lt).trans m;have p:=h.trans (b.mono h.size);have n:=Ap q1;have o:=Ap g;have i:=Ap p;go_wp2;refine leaves_cons (f:=80) (args:=#[A9 (Aj ⟨W.heap.size,0,Ak⟩),A9 (Aj ⟨W.heap.size+1,0,Ak⟩)]) (by simp) (by simp[go_sem]) ?_;refine(gM W.heap.size (W.heap.size+1) E M 0 0 a n.cell o.cell n.frozen o.frozen (by omega)).mono ?_;rintro e P Q ⟨rfl,rfl,s,c2,C⟩;have q:=i.trans (C _ (AB _) (by omega) i.size);simp[Leaves,settle,results,results49,go_sem,s,c2,Nz,q]
 rintro e a ⟨b,J⟩;obtain⟨t,y,rfl,H⟩:=(show∃t y,e=Ag (Ae t y)/\AJ k a (λj=>((W.alloc (Af #[A7 Ah 0] 32)).alloc (Af #[A7 Ah 0] 3)).heap.size<=j/\j<a.heap.size) (Ae t y) d from J)
 have A:Hid (AJ k a (λj=>W.heap.size+2<=j/\j<a.heap.size) (Ae t y) d):=H.same (λj c=>⟨by have:=c.1;simp only[AM,A1]at this;omega,c.2⟩) (λ_ _=>rfl);have q1:Boxed a W.heap.size 32 (A7 Ah 0):=(b.block _ l.lt).trans l;have g:Boxed a (W.heap.size+1) 3 (A7 Ah 0):=(b.block _ m.lt).trans m;have p:=h.trans (b.mono h.size);have n:=Ap q1;have o:=Ap g;have i:=Ap p;have s:=q1.cell;have f1:=q1.frozen;have c2:=g.cell;have R:=g.frozen;go_wp2;have F:=grownBy_setCell' a W.heap.size (A7 Ah 0);have G:=grownBy_setCell' (a.setCell ⟨W.heap.size,0,Ak⟩ (A7 Ah 0)) (W.heap.size+1) (A7 Ah 0);have N:=((n.set (A7 Ah 0)).kept G (by intro e;injection e with e;omega)).cell;have O:=(Boxed.set (A7 Ah 0) (o.kept F (by intro e;injection e with e;omega))).cell;have q:A1 W ((a.setCell ⟨W.heap.size,0,Ak⟩ (A7 Ah 0)).setCell ⟨W.heap.size+1,0,Ak⟩ (A7 Ah 0)) :=
  i.trans ⟨rfl,rfl,rfl,by simp[World.setCell],λk S=>(BV _ _ _ _ (by simp;omega)).trans (BV a _ _ _ (by simp;omega))⟩
 have I:AJ k ((a.setCell ⟨W.heap.size,0,Ak⟩ (A7 Ah 0)).setCell ⟨W.heap.size+1,0,Ak⟩ (A7 Ah 0)) (λj=>W.heap.size<=j/\j<((a.setCell ⟨W.heap.size,0,Ak⟩ (A7 Ah 0)).setCell ⟨W.heap.size+1,0,Ak⟩ (A7 Ah 0)).heap.size) (Ae t y) d:=A.same (λj c=>⟨by omega,by simp[World.setCell];exact c.2⟩) (λj c=>(BV _ _ _ _ (by simp;omega)).trans (BV a _ _ _ (by simp;omega)));generalize(a.setCell ⟨W.heap.size,0,Ak⟩ (A7 Ah 0)).setCell ⟨W.heap.size+1,0,Ak⟩ (A7 Ah 0)=V at *;refine leaves_cons (f:=80) (args:=#[A9 (Aj ⟨W.heap.size,0,Ak⟩),A9 (Aj ⟨W.heap.size+1,0,Ak⟩)]) (by simp) (by simp[go_sem]) ?_;refine(gL ⟨W.heap.size,0,Ak⟩ ⟨W.heap.size+1,0,Ak⟩ V).mono ?_;rintro e P Q ⟨rfl,rfl,rfl⟩;simp[Leaves,settle,results,results49,go_sem,N,O,Nz,q];exact⟨t,y,⟨rfl,rfl⟩,I⟩
end
section
open Go.RowKit Go.Lib
def DG(T:A3->A2)(e:Lit×DataW Unit):A2:=(CW (B1 e.1)++[58])++T e.2
structure Hy(base:Nat)(W:World)(N:Nat)(cs:A4)(v:Value)(cur:A2)(V:World):Prop where
 own:Av V base v cur
 below:Below base W V
 row:V.heap[N]?=some (.cells cs 222)
theorem Hy.app{cs:A4}{o:Obj}{b:UInt8}(h:Hy base W N cs v cur V)(f:V'.ownsRow base 5 1 v' (cur.length+1) (cur.map B0++[B0 b]))(d:(V.alloc o).grownBy V' v.ownBlock):Hy base W N cs v' (cur++[b]) V':=by
 have a:=G3 ((AT base V).alloc h.own.2.1 _) (h.own.1.alloc _) d (by have:=h.own.2.1;simp;omega);refine⟨⟨by rw[AC,Eg];exact f,AW h.own.2.1 a.size,?_⟩,h.below.trans a,?_⟩
 ·rcases f.2 with⟨e,_⟩|⟨g,i,c,e,_⟩
  ·exact⟨Ak,0,0,e⟩
  exact⟨_,_,_,e⟩
 exact((Pa V o).trans (Pb (h.own.1.alloc o) d)) N cs _ _ h.row (by decide)
theorem Hy.said{cs:A4}{l:A2}(h:Hy base W N cs v cur V)(c:Av V' base v' (cur++l))(a:Below base V V')(b:If V V'):Hy base W N cs v' (cur++l) V' :=
 ⟨c,h.below.trans a,b N cs _ _ h.row (by decide)⟩
theorem Yb(h:Av W base v bs)(d:0<bs.length):∃g a,v=A8 (Aj ⟨g,0,Ak⟩) bs.length a:=by
 rcases h.1.2 with⟨_,b⟩|⟨g,a,c,b,_⟩
 ·omega
 exact⟨g,a,b⟩
theorem SO(l:A2):0<(CW l).length:=by simp[CW]
theorem mY(T:A3->A2)(W:Al)(f:Nat)(v:Am)(q:A5)(an:Nat)(F:Nat->Prop)(hF:∀k,F k->k<f)(bs:A2)(b:List (Lit×DataW Unit))(xs:List Am)(hl:bs.length+(C9 (DG T) b).length+2<=999999999)(hn:b.length<=999999999)(o:C7 W 222 2 F (A8 q b.length an) b.length xs)(ax:∀(al:Nat) (key:Lit) (d:A3),b[al]?=Aj (key,d)->∃l ap y,key=.string l/\xs[2*al]?=Aj (Aa ⟨l.toArray⟩)/\xs[2*al+1]?=Aj (Ae ap y)/\PR W f (Ae ap y) (T d))(h:Av W f v bs):An Ao 140 #[v,A8 q b.length an] W λe W'=>∃I,e=Ag I/\Av W' f I (((bs++[123])++C9 (DG T) b)++[125])/\Below f W W':=by
 obtain⟨V,P,R,S,U⟩:=BH Tryz.infoU8;obtain⟨a5,be,a6,rfl⟩:=h.2.2;have K:=Ap h;have HU:=Ap o;have HI:=Ap ax;go_enter func140,ntmps140
 go_wp2_with(first
  |(at_builtin;refine Bz _ rfl _ _ 49 rfl f 5 V (A7 Ai 0) 1 1 underlying49 P R S U rfl (by decide) _ _ _ rfl (K.1.alloc _) ⟨W.heap.size,0,Ak⟩ 1 1 [A7 Ai 123] rfl rfl (Bf _ _ _) (λu o=>by simp at o;subst o;rfl) (by unfold maxLen;omega) (by omega) (by simp;have:=K.2.1;omega) ?_;intro I w2 p B j;obtain⟨av,au,rfl⟩:=ownsRow_succ p;have am:=Ap (G3 ((AT _ _).alloc K.2.1 _) (K.1.alloc _) B (by simp;have:=K.2.1;omega));have aq:Hid (Av w2 f (A8 (Aj ⟨av,0,Ak⟩) _ au) (bs++[123])):=⟨Jj p rfl,AW K.2.1 am.size,_,_,_,rfl⟩))
 go_loopg[0,12] b.length (λg y z wr=>∃(k:Nat) (c:A5) (t n:Nat),y=A8 c t n/\z=A7 Ah k/\Hid (k+g=b.length)/\Hid (Av wr f (A8 c t n) ((bs++[123])++C9 (DG T) (b.take k)))/\Hid (Below f W wr))
 case atStart=>exact⟨0,_,_,_,rfl,rfl,by show _=_;omega,by simpa[C9]using aq,am⟩
 case round =>
  obtain⟨k,c,t,n,rfl,rfl,Q,s,a⟩:=hrel;have a0:((bs++[123])++C9 (DG T) (b.take k)).length<=999999998:=by
   have:=PQ (DG T) b k;simp only[AC,Bq,CF];omega
  obtain⟨m,J⟩:∃m,Hid ((bs++[123])++C9 (DG T) (b.take k)=m):=⟨_,show _=_ from rfl⟩
  rw[J.out]at s a0
  cases gk with
  |zero =>
   have a1:¬(k:Int)<b.length:=by have:=Q.out;omega
   have H:Hid (b.take k=b):=by show _=_;exact FJ (by have:=Q.out;omega)
   go_wp2_with(first
    |(at_builtin;refine Bz _ rfl _ _ 49 rfl f 5 V (A7 Ai 0) 1 1 underlying49 P R S U rfl (by decide) _ _ _ rfl (s.1.alloc _) ⟨wr.heap.size,0,Ak⟩ 1 1 [A7 Ai 125] rfl rfl (Bf _ _ _) (λu o=>by simp at o;subst o;rfl) (by unfold maxLen;omega) (by omega) (by simp;have:=s.2.1;omega) ?_;intro I w4 p B j;obtain⟨af,ad,rfl⟩:=ownsRow_succ p;have i:=Ap (G3 ((AT _ _).alloc s.2.1 _) (s.1.alloc _) B (by simp;have:=s.2.1;omega));have ar:Hid (Av w4 f (A8 (Aj ⟨af,0,Ak⟩) _ ad) (m++[125])):=⟨Jj p rfl,AW s.2.1 i.size,_,_,_,rfl⟩))
   go_ret;have he:m++[125]=((bs++[123])++C9 (DG T) b)++[125]:=by rw[<-J.out,H.out]
   have h4:=ar.out;rw[he]at h4
   first|exact⟨_,rfl,h4,a.trans i⟩|exact⟨_,rfl,by simpa using h4,a.trans i⟩
  |succ g =>
   have az:k<b.length:=by have:=Q.out;omega
   have a1:(k:Int)<b.length:=by omega
   have HR:=HU.same (V':=wr) (G:=F) (λ_ h=>h) (λao hj=>a.block ao (hF ao hj));obtain⟨q0,rfl⟩:∃q0,q=Aj ⟨q0,0,Ak⟩:=by
    rcases HR.2 with⟨_,e⟩|⟨g,a8,m,e,_⟩
    ·omega
    injection e with e1 e2 e3;exact⟨g,e1⟩
   obtain⟨⟨key,d⟩,hd⟩:∃d,b[k]?=Aj d:=⟨b[k],AY az⟩
   obtain⟨l,C,D,rfl,a2,a4,hI⟩:=HI.out k key d hd;have a9:wr.cell? ⟨q0,k*2,Ak⟩=Aj (Aa ⟨l.toArray⟩):=by
    have:=HR.cell (2*k) _ a2;have e:(⟨q0,0,Ak⟩:Addr).add (2*k)=⟨q0,k*2,Ak⟩:=by by_cases h:2*k=0<;>simp only[Addr.add,h,Df,Gk k 2,K3,LP]
    rwa[e]at this
   have ba:wr.cell? ⟨q0,k*2+1,Ak⟩=Aj (Ae C D):=by
    have:=HR.cell (2*k+1) _ a4;have e:(⟨q0,0,Ak⟩:Addr).add (2*k+1)=⟨q0,k*2+1,Ak⟩:=by simp[Addr.add,Gk]
    rwa[e]at this
   have L:Hid (Hy f W wr.heap.size #[Aa ⟨l.toArray⟩,Ae C D] (A8 c t n) m (wr.alloc (Af #[Aa ⟨l.toArray⟩,Ae C D] 222))):=⟨⟨s.1.alloc _,by have:=s.2.1;simp;omega,_,_,_,rfl⟩,a.trans ((AT f wr).alloc s.2.1 _),Ay _ _⟩
   have HJ:=Ap hI;have ak:=PQ (DG T) b (k+1);have bb:(DG T (.string l,d)).length=(CW l).length+1+(T d).length:=by simp[DG,B1];omega
   by_cases ay:k=0
   ·subst ay;have H:=Ap (Y9 (DG T) b (.string l,d) hd);have hL:m.length+(CW l).length+1+(T d).length+1<=999999999:=by
     rw[H.out]at ak;rw[<-J.out];simp only[AC,Bq,CF,QR,C9];omega
    have HE:Hid (((m++CW l)++[58])++T d=(bs++[123])++C9 (DG T) (b.take (0+1))):=by
     show _=_;rw[H.out,<-J.out];simp[DG,B1,C9]
    have O:=SN _ f _ ⟨l.toArray⟩ m (by show _+(CW l).length<=_;omega) L.own;have e9:CW (⟨l.toArray⟩:ByteArray).data.toList=CW l:=rfl;rw[e9]at O
    go_wp2_with(first
     |(go_at_call 138;refine O.mono ?_;rintro e Y ⟨v5,rfl,h5,ah,aj⟩;obtain⟨r,E⟩:∃z,Hid (m++CW l=z):=⟨_,show _=_ from rfl⟩;have w:Hid (0<r.length/\r.length+1+(T d).length+1<=999999999):=(by rw[<-E.out];have:=SO l;simp only[AC];exact⟨by omega,by omega⟩);have x:Hid (Hy f W wr.heap.size #[Aa ⟨l.toArray⟩,Ae C D] v5 r Y):=(by rw[<-E.out];exact L.said h5 ah aj);obtain⟨g5,c5,rfl⟩:=Yb x.own w.1)
     |(at_builtin;refine Bz _ rfl _ _ 49 rfl f 5 V (A7 Ai 0) 1 1 underlying49 P R S U rfl (by decide) _ _ _ rfl (x.own.1.alloc _) ⟨Y.heap.size,0,Ak⟩ 1 1 [A7 Ai 58] rfl rfl (Bf _ _ _) (λu o=>by simp at o;subst o;rfl) (by have:=w.2;unfold maxLen;omega) (by have:=w.2;omega) (by have:=x.own.2.1;simp only[AM,A1]at this ⊢;omega) ?_;intro I Z p B j;obtain⟨ag,ae,rfl⟩:=ownsRow_succ p;have A:Hid (Hy f W wr.heap.size #[Aa ⟨l.toArray⟩,Ae C D] (A8 (Aj ⟨ag,0,Ak⟩) (r.length+1) ae) (r++[58]) Z):=x.app p B;have aw:=Ar A.row 1)
     |(go_at_call 111;refine(HJ Z _ _ A.below A.own (by have:=w.2;simp only[AC,Bq,CF];omega)).mono ?_;rintro e w7 ⟨v7,rfl,h7,ai⟩;obtain⟨o7,b7,M,X,N,rfl⟩:=h7;have ab:Hid (Av w7 f (A8 M X N) ((r++[58])++T d)):=⟨o7,b7,_,_,_,rfl⟩;have aa:=Ap (A.below.trans ai)))
    go_roundg g
    case measure=>omega
    case rel=>exact⟨1,M,X,N,rfl,by go_num,by show _=_;have:=Q.out;omega,by have h:=ab.out;rw[<-E.out,HE.out]at h;exact h,aa⟩
   have H:=Ap (Ya (DG T) b k (by omega) (.string l,d) hd);have bd:(0:Int)<(k:Int):=by omega
   have hL:m.length+1+(CW l).length+1+(T d).length+1<=999999999:=by
    rw[H.out]at ak;rw[<-J.out];simp only[AC,Bq,CF]at ak ⊢;omega
   have HE:Hid ((((m++[44])++CW l)++[58])++T d=(bs++[123])++C9 (DG T) (b.take (k+1))):=by
    show _=_;rw[H.out,<-J.out];simp[DG,B1]
   go_wp2_with(first
    |(at_builtin;refine Bz _ rfl _ _ 49 rfl f 5 V (A7 Ai 0) 1 1 underlying49 P R S U rfl (by decide) _ _ _ rfl (L.own.1.alloc _) ⟨wr.heap.size+1,0,Ak⟩ 1 1 [A7 Ai 44] rfl rfl (by have h:=Bf (wr.alloc (Af #[Aa ⟨l.toArray⟩,Ae C D] 222)) #[A7 Ai 44] 5;rw[AM]at h;exact h) (λu o=>by simp at o;subst o;rfl) (by unfold maxLen;omega) (by omega) (by have:=L.own.2.1;simp only[AM,A1]at this ⊢;omega) ?_;intro I w4 p B j;obtain⟨af,ad,rfl⟩:=ownsRow_succ p;have ac:Hid (Hy f W wr.heap.size #[Aa ⟨l.toArray⟩,Ae C D] (A8 (Aj ⟨af,0,Ak⟩) (m.length+1) ad) (m++[44]) w4):=L.app p B;have bc:=Ar ac.row 0;have O:=SN _ f _ ⟨l.toArray⟩ (m++[44]) (by show _+(CW l).length<=_;simp only[AC,Bq,CF];omega) ac.own;have e9:CW (⟨l.toArray⟩:ByteArray).data.toList=CW l:=rfl;rw[e9]at O)
    |(go_at_call 138;refine O.mono ?_;rintro e Y ⟨v5,rfl,h5,ah,aj⟩;obtain⟨r,E⟩:∃z,Hid ((m++[44])++CW l=z):=⟨_,show _=_ from rfl⟩;have w:Hid (0<r.length/\r.length+1+(T d).length+1<=999999999):=(by rw[<-E.out];have:=SO l;simp only[AC,Bq,CF];exact⟨by omega,by omega⟩);have x:Hid (Hy f W wr.heap.size #[Aa ⟨l.toArray⟩,Ae C D] v5 r Y):=(by rw[<-E.out];exact ac.said h5 ah aj);obtain⟨g5,c5,rfl⟩:=Yb x.own w.1)
    |(at_builtin;refine Bz _ rfl _ _ 49 rfl f 5 V (A7 Ai 0) 1 1 underlying49 P R S U rfl (by decide) _ _ _ rfl (x.own.1.alloc _) ⟨Y.heap.size,0,Ak⟩ 1 1 [A7 Ai 58] rfl rfl (Bf _ _ _) (λu o=>by simp at o;subst o;rfl) (by have:=w.2;unfold maxLen;omega) (by have:=w.2;omega) (by have:=x.own.2.1;simp only[AM,A1]at this ⊢;omega) ?_;intro I Z p B j;obtain⟨ag,ae,rfl⟩:=ownsRow_succ p;have A:Hid (Hy f W wr.heap.size #[Aa ⟨l.toArray⟩,Ae C D] (A8 (Aj ⟨ag,0,Ak⟩) (r.length+1) ae) (r++[58]) Z):=x.app p B;have aw:=Ar A.row 1)
    |(go_at_call 111;refine(HJ Z _ _ A.below A.own (by have:=w.2;simp only[AC,Bq,CF];omega)).mono ?_;rintro e w7 ⟨v7,rfl,h7,ai⟩;obtain⟨o7,b7,M,X,N,rfl⟩:=h7;have ab:Hid (Av w7 f (A8 M X N) ((r++[58])++T d)):=⟨o7,b7,_,_,_,rfl⟩;have aa:=Ap (A.below.trans ai)))
   go_roundg g
   case measure=>omega
   case rel=>exact⟨k+1,M,X,N,rfl,by go_num,by show _=_;have:=Q.out;omega,by have h:=ab.out;rw[<-E.out,HE.out]at h;exact h,aa⟩
def Cq:Nat->A3->A2
 |0,_=>[]
 |k+1,d=>match d with
  |.lit (.bool b)=>bif b then[116,114,117,101]else[102,97,108,115,101]
  |.lit (.int Ah z)=>Lib.itoa z
  |.lit (.string l)=>CW l
  |.agg ds=>([91]++C9 (Cq k) ds)++[93]
  |.map es=>([123]++C9 (DG (Cq k)) es)++[125]
  |_=>[110,117,108,108]
theorem mZ(W:Al)(g:Nat)(v:Am)(b:A5)(f d:Nat)(bs:A2)(x:bs.length<=999999999)(h:Av W g v bs):An Ao 111 #[v,Ae 216 (A8 b f d)] W λe k=>∃j,e=Ag j/\Av k g j (bs++[110,117,108,108])/\Below g W k:=by
 obtain⟨u,p,r,s,t⟩:=BH Tryz.infoU8;obtain⟨a,n,c,rfl⟩:=h.2.2;have i:=Ap h;have z:=Nq b f d;have A:=Nr b f d;have B:=Ns b f d;have C:∀w:Al,(Instr.typeAssert (Ae 216 (A8 b f d)) 89 218 true).run Ao w=.ok (Ab #[A8 Ak 0 0,Ad false]) w:=λw=>by kernel_rfl
 have D:∀w:Al,(Instr.typeAssert (Ae 216 (A8 b f d)) 89 220 true).run Ao w=.ok (Ab #[A8 Ak 0 0,Ad false]) w:=λw=>by kernel_rfl
 have l:(⟨([110,117,108,108]:A2).toArray⟩:ByteArray).size=4:=rfl;go_enter func111,ntmps111
 go_wp2_with(first
  |(at_builtin;refine wpList_append_own_string _ rfl _ _ 49 9 rfl g 5 u underlying49 underlying9 p r s t _ _ _ rfl i.1 ⟨[110,117,108,108].toArray⟩ rfl (by rw[l];unfold maxLen;omega) (by rw[l];omega) i.2.1 ?_;intro j E q o y;have m:=Ap (IG i q o)))
 go_ret;exact⟨_,rfl,m⟩
theorem n8(W:Al)(b:Nat)(v:Am)(bs:A2)(z:Int)(o : -9223372036854775808<=z)(p:z<=9223372036854775807)(m:bs.length<=999999999)(h:Av W b v bs)(q:Hu b W):An Ao 111 #[v,Ae 254 (A7 Ah z)] W λe d=>∃f,e=Ag f/\Av d b f (bs++Lib.itoa z)/\Below b W d:=by
 have g:=gP W b v bs z o p m h q;obtain⟨a,n,c,rfl⟩:=h.2.2;have u:=No z;have w:=Np z;go_enter func111,ntmps111
 go_wp2_with(first
  |(go_at_call 137;refine g.mono ?_;rintro e y ⟨x,rfl,i,l⟩;obtain⟨j,k,r,t,s,rfl⟩:=i))
 go_ret;exact⟨_,rfl,⟨j,k,_,_,_,rfl⟩,l⟩
theorem n9(W:Al)(b:Nat)(v:Am)(bs l:A2)(p:bs.length+(CW l).length<=999999999)(h:Av W b v bs):An Ao 111 #[v,Ae 214 (Aa ⟨l.toArray⟩)] W λe d=>∃g,e=Ag g/\Av d b g (bs++CW l)/\Below b W d:=by
 have f:=SN W b v ⟨l.toArray⟩ bs p h;have i:CW (⟨l.toArray⟩:ByteArray).data.toList=CW l:=rfl;rw[i]at f;obtain⟨a,n,c,rfl⟩:=h.2.2;have t:=Rt ⟨l.toArray⟩;have u:=Ru ⟨l.toArray⟩;have w:=Rw ⟨l.toArray⟩;go_enter func111,ntmps111
 go_wp2_with(first
  |(go_at_call 138;refine f.mono ?_;rintro e y ⟨x,rfl,j,o,_⟩;obtain⟨k,m,q,s,r,rfl⟩:=j))
 go_ret;exact⟨_,rfl,⟨k,m,_,_,_,rfl⟩,o⟩
theorem na(W:Al)(g:Nat)(v:Am)(q:A5)(m b:Nat)(h:A2)(p:∃a n c,v=A8 a n c)(i:An Ao 139 #[v,A8 q m b] W λe d=>∃f,e=Ag f/\Av d g f h/\Below g W d):An Ao 111 #[v,Ae 218 (A8 q m b)] W λe d=>∃f,e=Ag f/\Av d g f h/\Below g W d:=by
 obtain⟨a,n,c,rfl⟩:=p;have u:=Rx q m b;have w:=Ry q m b;have x:=Rz q m b;have y:=RA q m b;go_enter func111,ntmps111
 go_wp2_with(first
  |(go_at_call 139;refine i.mono ?_;rintro e A ⟨z,rfl,j,o⟩;obtain⟨k,l,r,t,s,rfl⟩:=j))
 go_ret;exact⟨_,rfl,⟨k,l,_,_,_,rfl⟩,o⟩
theorem nc(W:Al)(g:Nat)(v:Am)(q:A5)(m b:Nat)(h:A2)(p:∃a n c,v=A8 a n c)(i:An Ao 140 #[v,A8 q m b] W λe d=>∃f,e=Ag f/\Av d g f h/\Below g W d):An Ao 111 #[v,Ae 220 (A8 q m b)] W λe d=>∃f,e=Ag f/\Av d g f h/\Below g W d:=by
 obtain⟨a,n,c,rfl⟩:=p;have u:=RB q m b;have w:=RC q m b;have x:=RD q m b;have y:=RE q m b;have z:=RF q m b;go_enter func111,ntmps111
 go_wp2_with(first
  |(go_at_call 140;refine i.mono ?_;rintro e B ⟨A,rfl,j,o⟩;obtain⟨k,l,r,t,s,rfl⟩:=j))
 go_ret;exact⟨_,rfl,⟨k,l,_,_,_,rfl⟩,o⟩
end
section
open Go.RowKit
def GC(m:Bool)(r:A6 Nat):A6 Int:=match r with
 |.ok (x,p)=>.ok (if m=true then -(x:Int)else(x:Int),p)
 |.error e=>.error e
def Gf(bs:A2)(lim:Int)(r:A6 Int)(e:Ending):Prop:=∃r',Ep bs lim r r'/\(∀z q,r'=.ok (z,q)->AS bs lim q /\ -9223372036854775808<=z/\z<=9223372036854775807)/\Z4 r' e
theorem TK{f:Int×Int}(h:R=.error f):Gf bs lim (GC m R) (Ag (Ab #[.agg AR,A7 Ah 0,.agg (Aw f)])):=⟨.error f,.inl (by rw[h];rfl),(λz q e=>by cases e),rfl⟩
theorem Z9(h:R=.ok (num,k))(hi:AS bs lim k)(c:z=if m=true then -(num:Int)else(num:Int))(a : -9223372036854775808<=z)(b:z<=9223372036854775807):Gf bs lim (GC m R) (Ag (Ab #[.agg (Ax 3 z ⟨#[]⟩ AK AK),A7 Ah k,.agg (Aw (0,0))])) :=
 ⟨.ok (z,k),.inl (by rw[h,c];rfl),(λd q e=>by injection e with e;injection e with e1 e2;subst e1;subst e2;exact⟨hi,a,b⟩),rfl⟩
theorem qi(h:R=.error (8,(k:Int)))(d:(k:Int)=lim)(c:k<bs.length)(a : -9223372036854775808<=z)(b:z<=9223372036854775807):Gf bs lim (GC m R) (Ag (Ab #[.agg (Ax 3 z ⟨#[]⟩ AK AK),A7 Ah k,.agg (Aw (0,0))])) :=
 ⟨.ok (z,k),.inr ⟨k,by rw[h];rfl,d,c,_,rfl⟩,(λf q e=>by injection e with e;injection e with e1 e2;subst e1;subst e2;exact⟨⟨by omega,by omega⟩,a,b⟩),rfl⟩
theorem Qh(h:Bo bs l p=false):Ee bs l p=false:=by
 unfold Bo at h;unfold Ee
 cases a:bs[p]? with
 |none=>rfl
 |some c =>
  simp only[];rw[Bs (B9 a),Gj]at h;rw[h];rfl
theorem qj(bs:A2)(lim:Int)(a:Nat)(z:Bool)(k num:Nat)(d:k<=bs.length):Cd bs lim a z (bs.length+1-k) k num=match bs[k]? with
  |none=>.ok (num,k)
  |some c=>if(k:Int)=lim then .error (8,(k:Int))else
   if Cm c=true then(if z=true then .error (9,(k:Int))else if(a-(c.toNat-48))/10<num then .error (10,(k:Int))else Cd bs lim a z (bs.length+1-(k+1)) (k+1) (num*10+(c.toNat-48)))
   else if c.toNat=46\/c.toNat=101\/c.toNat=69 then .error (10,(k:Int))else .ok (num,k):=by
 obtain⟨g,b⟩:∃g,bs.length+1-k=g+1:=⟨bs.length-k,by omega⟩
 rw[b,Cd,show bs.length+1-(k+1)=g by omega];cases bs[k]? <;> rfl
theorem Za{c:UInt8}(b:Lm bs l lim)(hi:AS bs lim p)(h:bs[p]?=Aj c)(f:¬(p:Int)=lim):Ee bs l p=Cm c:=by
 have a:=B9 h;have d:=b p a;have e:=hi.2;unfold Ee;rw[h];simp only[];rw[Bs (p:=(p:Int)<l) (by omega),Gj]
theorem qk(W:Al)(bs:A2)(fm d l:Int)(i:Nat)(c:UInt8)(f:bs[i]?=Aj c)(r:c.toNat=45)(v:bs.length<=281474976710656)(x:Int×Int)(o:Ee bs l (i+1)=false)(p:BM bs l (i+1) 9=x):An Ao 91 #[.agg (AF bs fm d l),A7 Ah i] W λe a=>Z4 (.error x) e/\A1 W a:=by
 have w:=B9 f;have y:=D6 bs i c f;have u:((c.toNat:Int)==45)=true:=by rw[r];rfl
 have n:∀V,An Ao 120 #[.agg #[Aa ⟨bs.toArray⟩,A7 Ah fm,A7 Ah d,A7 Ah l],A7 Ah ((i:Int)+1)] V λe a=>e=Ag (Ad false)/\A1 V a:=λV=>by
  have:=YR V bs fm d l (i+1);rw[o]at this;exact this
 have m:∀V,An Ao 37 #[.agg #[Aa ⟨bs.toArray⟩,A7 Ah fm,A7 Ah d,A7 Ah l],A7 Ah ((i:Int)+1),A7 Ah 9] V λe a=>e=Ag (.agg (Aw x))/\A1 V a:=λV=>by
  have:=Lk V bs fm d l (i+1) 9;rw[p]at this;exact this
 have s:=Kv W bs fm d l;clear f r o p;unfold AF;go_enter func91,ntmps91
 go_wp2_with(first
  |(go_at_call 120;refine BN (n _) s.next (λ_ h=>h.box) ?_;clear n;intro z t g j c2 k)
  |(go_at_call 37;refine BN (m _) t.next (λ_ h=>h.box) ?_;clear m g j c2 k;intro A b g j c2 k)
  |((with_reducible refine O9 4 23 rfl rfl (W.heap.size+1) (AR) ?_ ?_ ?_ ?_ ?_);exact rfl;exact rfl;exact b.th;exact thg)
  |((with_reducible refine Dd 6 26 rfl rfl (W.heap.size+2) (x) ?_ ?_ ?_ ?_);exact rfl;exact rfl;exact EI b Bb _))
 have q:=Dy b Bb (AR) (x);refine Dz results91 q _ rfl rfl rfl rfl ⟨?_,q.2.2⟩;rfl
def ql(bs:A2)(l lim:Int)(m:Bool)(B f k num:Nat)(ch:UInt8)(R:A6 Nat):Prop :=
 (Ee bs l k=false/\Bo bs l k=false/\(∀z:Int,z=(if m=true then -(num:Int)else(num:Int)) -> -9223372036854775808<=z->z<=9223372036854775807->Gf bs lim (GC m R) (Ag (Ab #[.agg (Ax 3 z ⟨#[]⟩ AK AK),A7 Ah k,.agg (Aw (0,0))]))))\/(Ee bs l k=false/\Bo bs l k=true/\∃cc,bs[k]?=Aj cc/\((cc.toNat:Int)==46)=false/\((cc.toNat:Int)==101)=false/\((cc.toNat:Int)==69)=false/\(∀z:Int,z=(if m=true then -(num:Int)else(num:Int)) -> -9223372036854775808<=z->z<=9223372036854775807->Gf bs lim (GC m R) (Ag (Ab #[.agg (Ax 3 z ⟨#[]⟩ AK AK),A7 Ah k,.agg (Aw (0,0))]))))\/(Ee bs l k=false/\Bo bs l k=true/\∃cc,bs[k]?=Aj cc/\((cc.toNat:Int)==46)=true/\BM bs l k 10=(10,(k:Int))/\Gf bs lim (GC m R) (Ag (Ab #[.agg AR,A7 Ah 0,.agg (Aw (10,(k:Int)))])))\/(Ee bs l k=false/\Bo bs l k=true/\∃cc,bs[k]?=Aj cc/\((cc.toNat:Int)==46)=false/\((cc.toNat:Int)==101)=true/\BM bs l k 10=(10,(k:Int))/\Gf bs lim (GC m R) (Ag (Ab #[.agg AR,A7 Ah 0,.agg (Aw (10,(k:Int)))])))\/(Ee bs l k=false/\Bo bs l k=true/\∃cc,bs[k]?=Aj cc/\((cc.toNat:Int)==46)=false/\((cc.toNat:Int)==101)=false/\((cc.toNat:Int)==69)=true/\BM bs l k 10=(10,(k:Int))/\Gf bs lim (GC m R) (Ag (Ab #[.agg AR,A7 Ah 0,.agg (Aw (10,(k:Int)))])))\/(Ee bs l k=true/\∃cc,bs[k]?=Aj cc/\48<=(cc.toNat:Int)/\(cc.toNat:Int)<=57/\(f:Int)<(k:Int)/\((ch.toNat:Int)==48)=true/\BM bs l k 9=(9,(k:Int))/\Gf bs lim (GC m R) (Ag (Ab #[.agg AR,A7 Ah 0,.agg (Aw (9,(k:Int)))])))\/(Ee bs l k=true/\∃cc,bs[k]?=Aj cc/\48<=(cc.toNat:Int)/\(cc.toNat:Int)<=57/\(f:Int)<(k:Int)/\((ch.toNat:Int)==48)=false /\ -(num:Int)<(-9223372036854775808+((cc.toNat:Int)-48)).tdiv 10/\BM bs l k 10=(10,(k:Int))/\Gf bs lim (GC m R) (Ag (Ab #[.agg AR,A7 Ah 0,.agg (Aw (10,(k:Int)))])))\/(Ee bs l k=true/\∃cc,bs[k]?=Aj cc/\48<=(cc.toNat:Int)/\(cc.toNat:Int)<=57/\(f:Int)<(k:Int)/\((ch.toNat:Int)==48)=false/\¬-(num:Int)<(-9223372036854775808+((cc.toNat:Int)-48)).tdiv 10/\m=false/\(-(num:Int)*10-((cc.toNat:Int)-48) == -9223372036854775808)=true /\ -9223372036854775808 <= -(num:Int)*10 /\ -9223372036854775808 <= -(num:Int)*10-((cc.toNat:Int)-48)/\BM bs l k 10=(10,(k:Int))/\Gf bs lim (GC m R) (Ag (Ab #[.agg AR,A7 Ah 0,.agg (Aw (10,(k:Int)))])))\/(Ee bs l k=true/\∃cc,bs[k]?=Aj cc/\48<=(cc.toNat:Int)/\(cc.toNat:Int)<=57/\decide ((f:Int)<(k:Int))=false/\(k:Int)<=(f:Int)/\¬-(num:Int)<(-9223372036854775808+((cc.toNat:Int)-48)).tdiv 10 /\ -9223372036854775808 <= -(num:Int)*10 /\ -9223372036854775808 <= -(num:Int)*10-((cc.toNat:Int)-48)/\(m=false->(-(num:Int)*10-((cc.toNat:Int)-48) == -9223372036854775808)=false)/\num*10+(cc.toNat-48)<=B/\AS bs lim (k+1)/\Cd bs lim B (ch.toNat==48) (bs.length+1-(k+1)) (k+1) (num*10+(cc.toNat-48))=R)\/(Ee bs l k=true/\∃cc,bs[k]?=Aj cc/\48<=(cc.toNat:Int)/\(cc.toNat:Int)<=57/\(f:Int)<(k:Int)/\((ch.toNat:Int)==48)=false/\¬-(num:Int)<(-9223372036854775808+((cc.toNat:Int)-48)).tdiv 10 /\ -9223372036854775808 <= -(num:Int)*10 /\ -9223372036854775808 <= -(num:Int)*10-((cc.toNat:Int)-48)/\(m=false->(-(num:Int)*10-((cc.toNat:Int)-48) == -9223372036854775808)=false)/\num*10+(cc.toNat-48)<=B/\AS bs lim (k+1)/\Cd bs lim B (ch.toNat==48) (bs.length+1-(k+1)) (k+1) (num*10+(cc.toNat-48))=R)
theorem qm{B f:Nat}{ch:UInt8}(y:(m=true/\B=9223372036854775808)\/(m=false/\B=9223372036854775807))(S:num<=B)(u:Lm bs l lim)(hi:AS bs lim k)(J:bs[f]?=Aj ch)(K:Cm ch=true)(M:¬(f:Int)=lim)(Q:f<=k)(I:Cd bs lim B (ch.toNat==48) (bs.length+1-(f+1)) (f+1) (ch.toNat-48)=R)(N:(k=f/\num=0)\/(f<k/\Cd bs lim B (ch.toNat==48) (bs.length+1-k) k num=R)):ql bs l lim m B f k num ch R:=by
 have w:k=f->bs[k]?=Aj ch:=λh=>by rw[h];exact J
 have j:¬k=f->R=_:=λh=>by
  rcases N with a|a
  ·omega
  exact a.2.symm.trans (qj bs lim B (ch.toNat==48) k num hi.1)
 cases c:bs[k]? with
 |none =>
  have g:=j λh=>by rw[w h]at c;cases c
  rw[c]at g;exact .inl ⟨Qh (Ir c),Ir c,λz h a o=>Z9 g hi h a o⟩
 |some b =>
  rw[c]at j;simp only[]at j;by_cases i:(k:Int)=lim
  ·have g:=j λh=>M (by rw[<-h];exact i);rw[As i]at g;exact .inl ⟨Qh (Hz u c i),Hz u c i,λz h a o=>qi g i (B9 c) a o⟩
  have n:=Za u hi c i;have q:=λe=>Hc u hi c i e;have v:=JN u hi c i;rw[Aq i]at j;cases d:Cm b
  ·have g:=j λh=>by
    have a:=w h;rw[c]at a;injection a with a;rw[a,K]at d;cases d
   rw[Aq (by rw[d];decide)]at g;by_cases D:b.toNat=46\/b.toNat=101\/b.toNat=69
   ·rw[As D]at g;have r:=TK (bs:=bs) (lim:=lim) (m:=m) g;by_cases P:b.toNat=46
    ·exact .inr (.inr (.inl ⟨n.trans d,v,b,c,by simp;omega,q 10,r⟩))
    by_cases O:b.toNat=101
    ·exact .inr (.inr (.inr (.inl ⟨n.trans d,v,b,c,by simp;omega,by simp;omega,q 10,r⟩)))
    exact .inr (.inr (.inr (.inr (.inl ⟨n.trans d,v,b,c,by simp;omega,by simp;omega,by simp;omega,q 10,r⟩))))
   rw[Aq D]at g;exact .inr (.inl ⟨n.trans d,v,b,c,by simp;omega,by simp;omega,by simp;omega,λz h a o=>Z9 g hi h a o⟩)
  rw[As d]at j;obtain⟨s,t⟩:=By (by unfold Cm at d;exact d);have x:=qb num (b.toNat-48) (by omega);rw[show((b.toNat-48:Nat):Int)=(b.toNat:Int)-48 by omega]at x;by_cases H:f<k/\ch.toNat=48
  ·have a:=j (by omega);rw[As (by simp[H.2])]at a;exact .inr (.inr (.inr (.inr (.inr (.inl ⟨n.trans d,b,c,s,t,by omega,by simp;omega,q 9,TK a⟩)))))
  have G:f<k->¬(ch.toNat==48)=true:=λh a=>H ⟨h,by simpa using a⟩;by_cases F:(B-(b.toNat-48))/10<num
  ·have L:f<k:=by omega
   have a:=j (by omega);rw[Aq (G L),As F]at a;have r:=TK (bs:=bs) (lim:=lim) (m:=m) a;by_cases p : -(num:Int)<(-9223372036854775808+((b.toNat:Int)-48)).tdiv 10
   ·exact .inr (.inr (.inr (.inr (.inr (.inr (.inl ⟨n.trans d,b,c,s,t,by omega,by simp;omega,p,q 10,r⟩))))))
   have o:¬(9223372036854775808-(b.toNat-48))/10<num:=λh=>p (x.2 h);exact .inr (.inr (.inr (.inr (.inr (.inr (.inr (.inl ⟨n.trans d,b,c,s,t,by omega,by simp;omega,p,y.elim (λh=>by omega) (λh=>h.1),by simp;omega,by omega,by omega,q 10,r⟩)))))))
  have o:¬(9223372036854775808-(b.toNat-48))/10<num:=by omega
  have p:¬-(num:Int)<(-9223372036854775808+((b.toNat:Int)-48)).tdiv 10:=λh=>o (x.1 h);have C:Cd bs lim B (ch.toNat==48) (bs.length+1-(k+1)) (k+1) (num*10+(b.toNat-48))=R:=by
   by_cases h:k=f
   ·have a:=w h;rw[c]at a;injection a with a;rw[show num=0 by omega,a,h,Nat.zero_mul,Df];exact I
   have a:=j h;rw[Aq (G (by omega)),Aq F]at a;exact a.symm
  have A:m=false->(-(num:Int)*10-((b.toNat:Int)-48) == -9223372036854775808)=false:=λh=>y.elim (λa=>by rw[h]at a;cases a.1) (λa=>by simp;omega);have E:=DZ hi c i;by_cases h:f<k
  ·exact .inr (.inr (.inr (.inr (.inr (.inr (.inr (.inr (.inr (⟨n.trans d,b,c,s,t,by omega,by simp;omega,p,by omega,by omega,A,by omega,E,C⟩)))))))))
  exact .inr (.inr (.inr (.inr (.inr (.inr (.inr (.inr (.inl ⟨n.trans d,b,c,s,t,by simp;omega,by omega,p,by omega,by omega,A,by omega,E,C⟩))))))))
theorem Zb(W:Al)(bs:A2)(fm d l lim:Int)(i f B:Nat)(m:Bool)(c t:UInt8)(S:bs[i]?=Aj c)(v:(m=true/\c.toNat=45/\f=i+1/\B=9223372036854775808)\/(m=false/\¬c.toNat=45/\f=i/\B=9223372036854775807))(z:bs[f]?=Aj t)(T:Cm t=true)(X:¬(f:Int)=lim)(Y:Lm bs l lim)(hi:AS bs lim f)(hb:bs.length<=281474976710656):An Ao 91 #[.agg (AF bs fm d l),A7 Ah i] W λe y=>Gf bs lim (GC m (Cd bs lim B (t.toNat==48) (bs.length+1-(f+1)) (f+1) (t.toNat-48))) e/\A1 W y:=by
 obtain⟨R,J⟩:∃R,Hid (Cd bs lim B (t.toNat==48) (bs.length+1-(f+1)) (f+1) (t.toNat-48)=R):=⟨_,show _=_ from rfl⟩
 rw[J.out];have aw:=B9 S;have ar:=B9 z;have ao:=D6 bs i c S;have ax:=λV=>D6 bs f t z V;have w:=Ap hi;have ab:=Ap (λk num A hn hi h=>qm (k:=k) (num:=num) (m:=m) (v.imp (λh=>⟨h.1,h.2.2.2⟩) (λh=>⟨h.1,h.2.2.2⟩)) hn Y hi z T X A J h);have K:∀V (k:Nat),An Ao 120 #[.agg #[Aa ⟨bs.toArray⟩,A7 Ah fm,A7 Ah d,A7 Ah l],A7 Ah k] V λe y=>e=Ag (Ad (Ee bs l k))/\A1 V y:=λV k=>YR V bs fm d l k;have cH:=MB bs fm d l;have cB:=MC bs fm d l;have ad:∀V,An Ao 120 #[.agg #[Aa ⟨bs.toArray⟩,A7 Ah fm,A7 Ah d,A7 Ah l],A7 Ah (f:Int)] V λe y=>e=Ag (Ad true)/\A1 V y:=λV=>by
  have:=K V f;rw[Za Y hi z X,T]at this;exact this
 have x:=Kv W bs fm d l;clear S z T X Y hi J;unfold AF;rcases v with⟨rfl,v,U,Q⟩|⟨rfl,v,U,Q⟩
 have ak:((c.toNat:Int)==45)=true:=(by rw[v];rfl);rotate_left
 have ak:=AI (c:=c) 45 (by omega);rotate_left
 all_goals
  have HB:=Ap Q;have aa:=Ap (show _=(f:Int)from(congrArg Nat.cast U).symm);clear v U Q;go_enter func91,ntmps91
  go_wp2_with fail
  first
   |rw[show(i:Int)+1=(f:Int)from aa.out]
   |rw[show(i:Int)=(f:Int)from aa.out]
  refine EG (ad _) x.next ?_
  clear ad;intro w2 am o;obtain⟨q,r,c2,s⟩:=BF o.box
  go_wp2_with fail
  clear q r c2 s am x
  go_loopg[1,9] (bs.length+1-f) (λaj zi zn wr=>∃k num:Nat,zi=A7 Ah k/\zn=A7 Ah (-(num:Int))/\Hid (bs.length+1<=k+aj)/\Hid (f<=k)/\Hid (num<=B)/\Hid (FG W (AF bs fm d l) wr)/\Hid (AS bs lim k)/\Hid ((k=f/\num=0)\/(f<k/\Cd bs lim B (t.toNat==48) (bs.length+1-k) k num=R)))
  case atStart=>exact⟨f,0,rfl,rfl,by show _<=_;omega,AB _,Cy _,o,w,.inl ⟨rfl,rfl⟩⟩
  case round =>
   clear o w;obtain⟨k,num,rfl,rfl,hg,A,ah,x,w,HP⟩:=hrel;have a0:=w.1;have a1:=ah.out;have aq:=HB.out;obtain⟨q,r,c2,s⟩:=BF x.box;have L:=λV=>K V k;have M:=λV=>cH V k;rcases ab.out k num A.out ah.out w HP with⟨j,C,p⟩|⟨j,C,n,b,O,ae,al,p⟩|⟨j,C,n,b,O,u,p⟩|⟨j,C,n,b,O,ae,u,p⟩|⟨j,C,n,b,O,ae,al,u,p⟩|⟨j,n,b,F,G,Z,g,u,p⟩|⟨j,n,b,F,G,Z,g,P,u,p⟩|⟨j,n,b,F,G,Z,g,P,ap,H,af,ag,u,p⟩|⟨j,n,b,F,G,au,av,P,af,ag,H,D,E,I⟩|⟨j,n,b,F,G,Z,g,P,af,ag,H,D,E,I⟩
   all_goals
    rw[j]at L
    try rw[C]at M
    try(have ay:=D6 bs k n b;have az:=B9 b)
    try(have ac:=O4 fm d u)
    try have HV:=Ap p
    try have ai:=Ap I
    try have E:=Ap E
    try have D:=Ap D
    try have H:=H rfl
    try clear p
    try clear I b
    clear K cH cB HP ao j ab
    try cases ap
   all_goals
    go_wp2_with(first
     |(go_at_call 120;refine BN (L _) x.next (λ_ h=>h.box) ?_;clear L q r c2 s;intro w2 o q r c2 s;have a:=o)
     |(go_at_call 57;refine BN (M _) o.next (λ_ h=>h.box) ?_;clear M q r c2 s a;intro w3 a q r c2 s;have o:=a)
     |(go_at_call 37;refine BN (ac _) o.next (λ_ h=>h.box) ?_;clear ac q r c2 s a;intro w4 a q r c2 s)
     |((with_reducible refine O9 4 _ rfl rfl (W.heap.size+1) (AR) ?_ ?_ ?_ ?_ ?_);exact rfl;exact rfl;exact a.th;exact thg)
     |((with_reducible refine O9 4 _ rfl rfl (W.heap.size+1) (Ax 3 (-(num:Int)) ⟨#[]⟩ AK AK) ?_ ?_ ?_ ?_ ?_);exact rfl;exact rfl;exact a.th;exact thg)
     |((with_reducible refine O9 4 _ rfl rfl (W.heap.size+1) (Ax 3 (num:Int) ⟨#[]⟩ AK AK) ?_ ?_ ?_ ?_ ?_);exact rfl;exact rfl;exact a.th;exact thg)
     |((with_reducible refine Dd 6 _ rfl rfl (W.heap.size+2) (0,0) ?_ ?_ ?_ ?_);exact rfl;exact rfl;exact EI a Bb _)
     |((with_reducible refine Dd 6 _ rfl rfl (W.heap.size+2) (9,(k:Int)) ?_ ?_ ?_ ?_);exact rfl;exact rfl;exact EI a Bb _)
     |((with_reducible refine Dd 6 _ rfl rfl (W.heap.size+2) (10,(k:Int)) ?_ ?_ ?_ ?_);exact rfl;exact rfl;exact EI a Bb _))
    try exact Dz results91 (Dy a Bb _ _) _ rfl rfl rfl rfl ⟨HV,(Dy a Bb _ _).2.2⟩
    try exact Dz results91 (Dy a Bb _ _) _ rfl rfl rfl rfl ⟨HV _ rfl (by omega) (by omega),(Dy a Bb _ _).2.2⟩
   all_goals
    obtain⟨N,an⟩:∃N,gk=N+1:=⟨gk-1,by have:=hg.out;omega⟩
    subst an;go_roundg N
    case measure=>omega
    case rel=>exact⟨k+1,num*10+(n.toNat-48),by go_num,congrArg (Value.int Ah) (by omega),by show _<=_;have:=hg.out;omega,by show _<=_;have:=A.out;omega,D,o,E,.inr ⟨by have:=A.out;omega,ai⟩⟩
end
section
open Go.RowKit Go.Lib
theorem qr(W:Al)(c:UInt8)(h:0<=(c.toNat:Int))(i:(c.toNat:Int)<=127):An Ao 151 #[A7 Ai c.toNat] W λe a=>e=Ag (Ab #[A7 Ai 0,A7 Ai 0,A7 Ah 1])/\a=W:=by
 have b:=AI (c:=c) 224 (by omega);have d:=AI (c:=c) 237 (by omega);have f:=AI (c:=c) 240 (by omega);have g:=AI (c:=c) 244 (by omega);go_enter func151,ntmps151;go_wp2;refine Bd (Gl results151 _ _ _) rfl ⟨rfl,rfl⟩
theorem qs(W:Al)(c:UInt8)(h:128<=(c.toNat:Int))(i:(c.toNat:Int)<=193):An Ao 151 #[A7 Ai c.toNat] W λe a=>e=Ag (Ab #[A7 Ai 0,A7 Ai 0,A7 Ah 0])/\a=W:=by
 have b:=AI (c:=c) 224 (by omega);have d:=AI (c:=c) 237 (by omega);have f:=AI (c:=c) 240 (by omega);have g:=AI (c:=c) 244 (by omega);go_enter func151,ntmps151;go_wp2;refine Bd (Gl results151 _ _ _) rfl ⟨rfl,rfl⟩
theorem qt(W:Al)(c:UInt8)(h:194<=(c.toNat:Int))(i:(c.toNat:Int)<=223):An Ao 151 #[A7 Ai c.toNat] W λe a=>e=Ag (Ab #[A7 Ai 128,A7 Ai 191,A7 Ah 2])/\a=W:=by
 have b:=AI (c:=c) 224 (by omega);have d:=AI (c:=c) 237 (by omega);have f:=AI (c:=c) 240 (by omega);have g:=AI (c:=c) 244 (by omega);go_enter func151,ntmps151;go_wp2;refine Bd (Gl results151 _ _ _) rfl ⟨rfl,rfl⟩
theorem qu(W:Al)(c:UInt8)(h:224<=(c.toNat:Int))(i:(c.toNat:Int)<=224):An Ao 151 #[A7 Ai c.toNat] W λe a=>e=Ag (Ab #[A7 Ai 160,A7 Ai 191,A7 Ah 3])/\a=W:=by
 have b:((c.toNat:Int)==224)=true:=by simp;omega
 have d:=AI (c:=c) 237 (by omega);have f:=AI (c:=c) 240 (by omega);have g:=AI (c:=c) 244 (by omega);go_enter func151,ntmps151;go_wp2;refine Bd (Gl results151 _ _ _) rfl ⟨rfl,rfl⟩
theorem qv(W:Al)(c:UInt8)(h:225<=(c.toNat:Int))(i:(c.toNat:Int)<=236):An Ao 151 #[A7 Ai c.toNat] W λe a=>e=Ag (Ab #[A7 Ai 128,A7 Ai 191,A7 Ah 3])/\a=W:=by
 have b:=AI (c:=c) 224 (by omega);have d:=AI (c:=c) 237 (by omega);have f:=AI (c:=c) 240 (by omega);have g:=AI (c:=c) 244 (by omega);go_enter func151,ntmps151;go_wp2;refine Bd (Gl results151 _ _ _) rfl ⟨rfl,rfl⟩
theorem qw(W:Al)(c:UInt8)(h:237<=(c.toNat:Int))(i:(c.toNat:Int)<=237):An Ao 151 #[A7 Ai c.toNat] W λe a=>e=Ag (Ab #[A7 Ai 128,A7 Ai 159,A7 Ah 3])/\a=W:=by
 have b:=AI (c:=c) 224 (by omega);have d:((c.toNat:Int)==237)=true:=by simp;omega
 have f:=AI (c:=c) 240 (by omega);have g:=AI (c:=c) 244 (by omega);go_enter func151,ntmps151;go_wp2;refine Bd (Gl results151 _ _ _) rfl ⟨rfl,rfl⟩
theorem qx(W:Al)(c:UInt8)(h:238<=(c.toNat:Int))(i:(c.toNat:Int)<=239):An Ao 151 #[A7 Ai c.toNat] W λe a=>e=Ag (Ab #[A7 Ai 128,A7 Ai 191,A7 Ah 3])/\a=W:=by
 have b:=AI (c:=c) 224 (by omega);have d:=AI (c:=c) 237 (by omega);have f:=AI (c:=c) 240 (by omega);have g:=AI (c:=c) 244 (by omega);go_enter func151,ntmps151;go_wp2;refine Bd (Gl results151 _ _ _) rfl ⟨rfl,rfl⟩
theorem qy(W:Al)(c:UInt8)(h:240<=(c.toNat:Int))(i:(c.toNat:Int)<=240):An Ao 151 #[A7 Ai c.toNat] W λe a=>e=Ag (Ab #[A7 Ai 144,A7 Ai 191,A7 Ah 4])/\a=W:=by
 have b:=AI (c:=c) 224 (by omega);have d:=AI (c:=c) 237 (by omega);have f:((c.toNat:Int)==240)=true:=by simp;omega
 have g:=AI (c:=c) 244 (by omega);go_enter func151,ntmps151;go_wp2;refine Bd (Gl results151 _ _ _) rfl ⟨rfl,rfl⟩
theorem qz(W:Al)(c:UInt8)(h:241<=(c.toNat:Int))(i:(c.toNat:Int)<=243):An Ao 151 #[A7 Ai c.toNat] W λe a=>e=Ag (Ab #[A7 Ai 128,A7 Ai 191,A7 Ah 4])/\a=W:=by
 have b:=AI (c:=c) 224 (by omega);have d:=AI (c:=c) 237 (by omega);have f:=AI (c:=c) 240 (by omega);have g:=AI (c:=c) 244 (by omega);go_enter func151,ntmps151;go_wp2;refine Bd (Gl results151 _ _ _) rfl ⟨rfl,rfl⟩
theorem qA(W:Al)(c:UInt8)(h:244<=(c.toNat:Int))(i:(c.toNat:Int)<=244):An Ao 151 #[A7 Ai c.toNat] W λe a=>e=Ag (Ab #[A7 Ai 128,A7 Ai 143,A7 Ah 4])/\a=W:=by
 have b:=AI (c:=c) 224 (by omega);have d:=AI (c:=c) 237 (by omega);have f:=AI (c:=c) 240 (by omega);have g:((c.toNat:Int)==244)=true:=by simp;omega
 go_enter func151,ntmps151;go_wp2;refine Bd (Gl results151 _ _ _) rfl ⟨rfl,rfl⟩
theorem qB(W:Al)(c:UInt8)(h:245<=(c.toNat:Int))(i:(c.toNat:Int)<=255):An Ao 151 #[A7 Ai c.toNat] W λe a=>e=Ag (Ab #[A7 Ai 0,A7 Ai 0,A7 Ah 0])/\a=W:=by
 have b:=AI (c:=c) 224 (by omega);have d:=AI (c:=c) 237 (by omega);have f:=AI (c:=c) 240 (by omega);have g:=AI (c:=c) 244 (by omega);go_enter func151,ntmps151;go_wp2;refine Bd (Gl results151 _ _ _) rfl ⟨rfl,rfl⟩
theorem qC(W:Al)(c:UInt8):An Ao 151 #[A7 Ai c.toNat] W λe a=>e=Ag (Ab #[A7 Ai (CJ c),A7 Ai (CR c),A7 Ah (Bm c)])/\a=W:=by
 have h:=c.toNat_lt;by_cases b:c.toNat<=127
 ·have:=qr W c (by omega) (by omega);rw[show CJ c=0 by unfold CJ;repeat(first|rw[As (by omega)]|rw[Aq (by omega)]),show CR c=0 by unfold CR;repeat(first|rw[As (by omega)]|rw[Aq (by omega)]),show Bm c=1 by unfold Bm;repeat(first|rw[As (by omega)]|rw[Aq (by omega)])];exact this
 by_cases d:c.toNat<=193
 ·have:=qs W c (by omega) (by omega);rw[show CJ c=0 by unfold CJ;repeat(first|rw[As (by omega)]|rw[Aq (by omega)]),show CR c=0 by unfold CR;repeat(first|rw[As (by omega)]|rw[Aq (by omega)]),show Bm c=0 by unfold Bm;repeat(first|rw[As (by omega)]|rw[Aq (by omega)])];exact this
 by_cases f:c.toNat<=223
 ·have:=qt W c (by omega) (by omega);rw[show CJ c=128 by unfold CJ;repeat(first|rw[As (by omega)]|rw[Aq (by omega)]),show CR c=191 by unfold CR;repeat(first|rw[As (by omega)]|rw[Aq (by omega)]),show Bm c=2 by unfold Bm;repeat(first|rw[As (by omega)]|rw[Aq (by omega)])];exact this
 by_cases g:c.toNat<=224
 ·have:=qu W c (by omega) (by omega);rw[show CJ c=160 by unfold CJ;repeat(first|rw[As (by omega)]|rw[Aq (by omega)]),show CR c=191 by unfold CR;repeat(first|rw[As (by omega)]|rw[Aq (by omega)]),show Bm c=3 by unfold Bm;repeat(first|rw[As (by omega)]|rw[Aq (by omega)])];exact this
 by_cases i:c.toNat<=236
 ·have:=qv W c (by omega) (by omega);rw[show CJ c=128 by unfold CJ;repeat(first|rw[As (by omega)]|rw[Aq (by omega)]),show CR c=191 by unfold CR;repeat(first|rw[As (by omega)]|rw[Aq (by omega)]),show Bm c=3 by unfold Bm;repeat(first|rw[As (by omega)]|rw[Aq (by omega)])];exact this
 by_cases j:c.toNat<=237
 ·have:=qw W c (by omega) (by omega);rw[show CJ c=128 by unfold CJ;repeat(first|rw[As (by omega)]|rw[Aq (by omega)]),show CR c=159 by unfold CR;repeat(first|rw[As (by omega)]|rw[Aq (by omega)]),show Bm c=3 by unfold Bm;repeat(first|rw[As (by omega)]|rw[Aq (by omega)])];exact this
 by_cases k:c.toNat<=239
 ·have:=qx W c (by omega) (by omega);rw[show CJ c=128 by unfold CJ;repeat(first|rw[As (by omega)]|rw[Aq (by omega)]),show CR c=191 by unfold CR;repeat(first|rw[As (by omega)]|rw[Aq (by omega)]),show Bm c=3 by unfold Bm;repeat(first|rw[As (by omega)]|rw[Aq (by omega)])];exact this
 by_cases l:c.toNat<=240
 ·have:=qy W c (by omega) (by omega);rw[show CJ c=144 by unfold CJ;repeat(first|rw[As (by omega)]|rw[Aq (by omega)]),show CR c=191 by unfold CR;repeat(first|rw[As (by omega)]|rw[Aq (by omega)]),show Bm c=4 by unfold Bm;repeat(first|rw[As (by omega)]|rw[Aq (by omega)])];exact this
 by_cases m:c.toNat<=243
 ·have:=qz W c (by omega) (by omega);rw[show CJ c=128 by unfold CJ;repeat(first|rw[As (by omega)]|rw[Aq (by omega)]),show CR c=191 by unfold CR;repeat(first|rw[As (by omega)]|rw[Aq (by omega)]),show Bm c=4 by unfold Bm;repeat(first|rw[As (by omega)]|rw[Aq (by omega)])];exact this
 by_cases n:c.toNat<=244
 ·have:=qA W c (by omega) (by omega);rw[show CJ c=128 by unfold CJ;repeat(first|rw[As (by omega)]|rw[Aq (by omega)]),show CR c=143 by unfold CR;repeat(first|rw[As (by omega)]|rw[Aq (by omega)]),show Bm c=4 by unfold Bm;repeat(first|rw[As (by omega)]|rw[Aq (by omega)])];exact this
 have:=qB W c (by omega) (by omega);rw[show CJ c=0 by unfold CJ;repeat(first|rw[As (by omega)]|rw[Aq (by omega)]),show CR c=0 by unfold CR;repeat(first|rw[As (by omega)]|rw[Aq (by omega)]),show Bm c=0 by unfold Bm;repeat(first|rw[As (by omega)]|rw[Aq (by omega)])];exact this
theorem qD(c:UInt8):CJ c<=255/\CR c<=255/\Bm c<=4:=by
 refine⟨?_,?_,(O1 c).2.2.2⟩
 ·unfold CJ
  repeat' split
  all_goals omega
 unfold CR
 repeat' split
 all_goals omega
def qE(r:Nat×Bool):Am:=Ab #[A7 Ah r.1,Ad r.2]
theorem qF(W:Al)(bs:A2)(p n:Nat)(i:UInt8)(G:bs[p]?=Aj i)(hb:bs.length<=281474976710656)(hn:n<=bs.length):An Ao 118 #[Aa ⟨bs.toArray⟩,A7 Ah p,A7 Ah n] W λe M=>e=Ag (qE (My bs n p i))/\M=W:=by
 obtain⟨R,c⟩:∃R,Hid (My bs n p i=R):=⟨_,show _=_ from rfl⟩
 rw[c.out];have ac:=B9 G;have T:=λV=>D6 bs p i G V;obtain⟨P,Q,S⟩:=qD i;have w:=qC W i;have a:=c.out;unfold My at a;clear G c;obtain⟨s,D⟩:∃s,s=CJ i:=⟨_,rfl⟩
 obtain⟨v,y⟩:∃v,v=CR i:=⟨_,rfl⟩
 obtain⟨m,C⟩:∃m,m=Bm i:=⟨_,rfl⟩
 rw[<-D,<-y,<-C]at w;rw[<-C]at a S;rw[<-D]at P;rw[<-y]at Q;have L:=Ap D;have J:=Ap y;have K:=Ap C;clear D y C;by_cases B:m=0
 ·rw[As B]at a;have f:=Ap a.symm;have H:((m:Int)==0)=true:=by rw[B];rfl
  clear a B;go_enter func118,ntmps118
  go_wp2_with(first
   |(go_at_call 151;refine w.mono ?_;clear w;rintro e I ⟨rfl,rfl⟩))
  go_ret2
  rw[f.out];exact⟨rfl,rfl⟩
 rw[Aq B]at a;have H:((m:Int)==0)=false:=by simp;omega
 have c:=Ap a;clear a;go_enter func118,ntmps118
 go_wp2_with(first
  |(go_at_call 151;refine w.mono ?_;clear w;rintro e I ⟨rfl,rfl⟩))
 clear H T
 go_loopg[11] (m-1) (λg aa wr=>wr=I/\∃j:Nat,aa=A7 Ah j/\Hid (j+g=m)/\Hid (1<=j)/\Hid (J3 bs n p i g j=R))
 case atStart=>exact⟨rfl,1,rfl,by show _=_;omega,AB _,c⟩
 case round =>
  clear c;obtain⟨rfl,j,rfl,l,X,c⟩:=hrel;have a:=c.out
  cases gk with
  |zero =>
   rw[J3]at a;have f:Hid (R=(m,true)):=by show _=_;rw[<-a,K.out]
   have Y:¬(j:Int)<(m:Int):=by have:=l.out;omega
   clear a c l;go_wp2
   go_ret2
   rw[f.out];exact⟨rfl,rfl⟩
  |succ g =>
   rw[J3]at a;have Y:(j:Int)<(m:Int):=by have:=l.out;omega
   by_cases q:n<=p+j
   ·rw[As q]at a;have f:=Ap a.symm;have Z:(n:Int)<=(p:Int)+(j:Int):=by omega
    clear a c l q;go_wp2
    go_ret2
    rw[f.out];exact⟨rfl,rfl⟩
   rw[Aq q]at a;have Z:¬(n:Int)<=(p:Int)+(j:Int):=by omega
   have z:p+j<bs.length:=by omega
   obtain⟨b,u⟩:∃b,b=bs[p+j]:=⟨_,rfl⟩
   have r:bs[p+j]?=Aj b:=by rw[u];exact AY z
   have U:=λV=>D6 bs (p+j) b r V;rw[show((p+j:Nat):Int)=(p:Int)+(j:Int) by omega]at U;rw[r]at a;simp only[]at a;have ab:=b.toNat_lt;by_cases k:j=1
   ·have d:=Ts i b;rw[<-L.out,<-J.out]at d;have N:((j:Int)==1)=true:=by rw[k];rfl
    have O:decide (1<(j:Int))=false:=by rw[k];rfl
    rw[k]at a;by_cases o:b.toNat<s
    ·rw[As (d.2 (.inl o))]at a;have f:Hid (R=(j,false)):=by show _=_;rw[<-a,k]
     have x:(b.toNat:Int)<(s:Int):=by omega
     clear a c l k d u r q o;go_wp2
     go_ret2
     rw[f.out];exact⟨rfl,rfl⟩
    by_cases t:v<b.toNat
    ·rw[As (d.2 (.inr t))]at a;have f:Hid (R=(j,false)):=by show _=_;rw[<-a,k]
     have x:decide ((b.toNat:Int)<(s:Int))=false:=by simp;omega
     have F:(v:Int)<(b.toNat:Int):=by omega
     have q1:s<=b.toNat:=by omega
     clear a c l k d u r q o t;go_wp2
     go_ret2
     rw[f.out];exact⟨rfl,rfl⟩
    rw[Aq (λh=>by have:=d.1 h;omega)]at a;have E:Hid (J3 bs n p i g (j+1)=R):=by show _=_;rw[k];exact a
    have x:decide ((b.toNat:Int)<(s:Int))=false:=by simp;omega
    have F:decide ((v:Int)<(b.toNat:Int))=false:=by simp;omega
    have q1:s<=b.toNat:=by omega
    have q2:b.toNat<=v:=by omega
    clear a c k d u r q o t;go_wp2;go_roundg g
    case measure=>omega
    case rel=>exact⟨rfl,j+1,by go_num,by show _=_;have:=l.out;omega,by show _<=_;omega,E⟩
   have A:1<j:=by have:=X.out;omega
   have d:=O2 i b j A;have N:((j:Int)==1)=false:=by simp;omega
   have O:1<(j:Int):=by omega
   by_cases o:b.toNat<128
   ·rw[As (d.2 (.inl o))]at a;have f:=Ap a.symm;have x:(b.toNat:Int)<128:=by omega
    clear a c l k d u r q o A;go_wp2
    go_ret2
    rw[f.out];exact⟨rfl,rfl⟩
   by_cases t:191<b.toNat
   ·rw[As (d.2 (.inr t))]at a;have f:=Ap a.symm;have x:decide ((b.toNat:Int)<128)=false:=by simp;omega
    have F:191<(b.toNat:Int):=by omega
    clear a c l k d u r q o t A;go_wp2
    go_ret2
    rw[f.out];exact⟨rfl,rfl⟩
   rw[Aq (λh=>by have:=d.1 h;omega)]at a;have E:=Ap a;have x:decide ((b.toNat:Int)<128)=false:=by simp;omega
   have F:decide (191<(b.toNat:Int))=false:=by simp;omega
   clear a c k d u r q o t A;go_wp2;go_roundg g
   case measure=>omega
   case rel=>exact⟨rfl,j+1,by go_num,by show _=_;have:=l.out;omega,by show _<=_;omega,E⟩
end
end Go.Proofs.YtoegnhgofkhbnaaGreatDoor
