import Derived.Laws.CopyRow
import Derived.Laws.MakeOwn
import Derived.Shelf.Unicode.DecodeSlow
import Derived.Test.YtnlnjkggkbbdhaaGreatDoorTq05
set_option maxRecDepth 100000
set_option maxHeartbeats 8000000
set_option linter.all false
namespace Go.Proofs.YtnlnjkggkbbdhaaGreatDoor
open Go.Proofs.Tryz
open Go.Value renaming int->I,slice->G
open Option renaming some->U,none->Y
open Go.IntKind renaming i64->K
open Go renaming World->O
open Go.Obj renaming cells->E
open Go.Proofs.Tryz renaming prog->X
open Go.Value renaming int->A6,slice->A7,tuple->Aa,agg->Ab,bool->Ac,iface->Ad
open Go.Ending renaming returned->Af
open Go.IntKind renaming i64->Ag,u8->Ah
open Go renaming World->Ak,Value->Al,Calls->Am
variable{V W W' w w':O}{P:Program}{ops:Array Oper}{o:Oper}{a:Act}{Q:Exit->Act->O->Prop}{b0 hi i lo sz x:Nat}{F:Nat->Prop}
section
open Go.RowKit
def qIO(L:List (Int×Int)):List Al:=L.flatMap λe=>[A6 Ag e.1,A6 Ag e.2]
def X1:∀(L:List (Int×Int)) (i:Nat) (h:i<L.length),(qIO L)[i*2]?=U (I K L[i].1)/\(qIO L)[i*2+1]?=U (I K L[i].2)
 |[],i,h=>keT
 |e::L,0,_=>⟨rfl,rfl⟩
 |e::L,i+1,h=>by
  have a:=X1 L i B3;have b:(i+1)*2=i*2+2:=J
  have c:(i+1)*2+1=i*2+1+2:=J
  constructor
  ·show([Value.int K e.1,I K e.2]++qIO L)[(i+1)*2]?=_;rw[b,Ez Az];simpa using a.1
  show([Value.int K e.1,I K e.2]++qIO L)[(i+1)*2+1]?=_;rw[c,Ez Az];simpa using a.2
def fA(A B:List (Int×Int)):qIO (A++B)=qIO A++qIO B:=by simp[qIO]
def MA(b off j:Nat):(⟨b,off,Y⟩:Addr).add j=⟨b,off+j,Y⟩:=by unfold Addr.add;split<;>simp_all
structure BX where
 labels:Int
 L:List (Int×Int)
 ea:A4
 ecap:Nat
 dflt:Int
 pol:ByteArray
 clr:Int
 key:Int
 inn:Int
 out:Int
 depth:Int
 bytes:Int
 B:List Int
 ba:A4
 bcap:Nat
def BX.arr(c:BX):A3:=#[A6 Ag c.labels,A7 c.ea c.L.length c.ecap,A6 Ag c.dflt,.string c.pol,A6 Ag c.clr,A6 Ag c.key,A6 Ag c.inn,A6 Ag c.out,A6 Ag c.depth,A6 Ag c.bytes,A7 c.ba c.B.length c.bcap]
def BX.size(c:BX):c.arr.size=11:=rfl
def BX.one(c:BX):c.arr.all (·.oneCell')=true:=by simp[BX.arr,Value.oneCell']
structure FF(w:World)(c:BX):Prop where
 edges:FR w c.ea c.L
 ints:IN w c.ba c.B
 en:c.ea=none->c.L.length=0/\c.ecap=0
 bn:c.ba=none->c.B.length=0/\c.bcap=0
 eb:(c.L.length+8)*16<=281474976710656
 bb:(c.B.length+8)*8<=281474976710656
def FF.below{c:BX}(h:FF w c)(hb:A0 w w'):FF w' c:=⟨h.edges.below hb,h.ints.below hb,h.en,h.bn,h.eb,h.bb⟩
structure Iq(w:World):Prop where
 signs:∃t fr,w.heap[2]?=some (.cells #[.string ⟨#[42]⟩,.int .i64 0,.string ⟨#[42,42]⟩,.int .i64 1,.string ⟨#[91,93]⟩,.int .i64 2] t fr)
 tabs:Lib.Utf8Tabs 4 5 w
 mlen:∃m,w.cell? ⟨3,0,none⟩=some (.int .i64 m)
def Iq.below(h:Iq w)(hb:A0 w w'):Iq w':=by
 obtain⟨t,c,a⟩:=h.signs;obtain⟨m,b⟩:=h.mlen;exact⟨⟨t,c,(hb.block _ (BC a)).trans a⟩,Utf8Tabs_below h.tabs hb,⟨m,(hb.cell (p:=⟨_,0,Y⟩) (G8 b)).trans b⟩⟩
def fB(f:Nat)(E N:BX->Int):Prop:=∀(c:BX) (w:Ak),FF w c->Iq w->Am prog f #[.agg c.arr] w λe w'=>e=Af (Aa #[A6 Ag (E c),A6 Ag (N c)])/\A0 w w'
end
section
open Go.RowKit Go.Lib
def Xh  : ∀w:O,(Instr.typeAssert (Ad 195 (Ab #[])) 56 206 true).run X w=.ok (Aa #[Ac false,Ac false]) w:=λw=>M
def Xi  : ∀w:O,(Instr.typeAssert (Ad 195 (Ab #[])) 56 208 true).run X w=.ok (Aa #[I K 0,Ac false]) w:=λw=>M
def Xj  : ∀w:O,(Instr.typeAssert (Ad 195 (Ab #[])) 56 210 true).run X w=.ok (Aa #[.string ByteArray.empty,Ac false]) w:=λw=>M
def Xk  : ∀w:O,(Instr.typeAssert (Ad 195 (Ab #[])) 56 151 true).run X w=.ok (Aa #[G Y 0 0,Ac false]) w:=λw=>M
def Xl  : ∀w:O,(Instr.typeAssert (Ad 195 (Ab #[])) 56 153 true).run X w=.ok (Aa #[G Y 0 0,Ac false]) w:=λw=>M
def Xm  : ∀w:O,(Instr.typeAssert (Ad 195 (Ab #[])) 56 155 true).run X w=.ok (Aa #[G Y 0 0,Ac false]) w:=λw=>M
def QG(b:Bool):∀w:O,(Instr.typeAssert (Ad 206 (Ac b)) 56 206 true).run X w=.ok (Aa #[Ac b,Ac true]) w:=λw=>M
def Tp(s:ByteArray):∀w:O,(Instr.typeAssert (Ad 210 (.string s)) 56 206 true).run X w=.ok (Aa #[Ac false,Ac false]) w:=λw=>M
def Tq(s:ByteArray):∀w:O,(Instr.typeAssert (Ad 210 (.string s)) 56 208 true).run X w=.ok (Aa #[I K 0,Ac false]) w:=λw=>M
def Ts(s:ByteArray):∀w:O,(Instr.typeAssert (Ad 210 (.string s)) 56 210 true).run X w=.ok (Aa #[.string s,Ac true]) w:=λw=>M
def QH(a:A4)(n c:Nat):∀w:O,(Instr.typeAssert (Ad 151 (G a n c)) 56 206 true).run X w=.ok (Aa #[Ac false,Ac false]) w:=λw=>M
def QI(a:A4)(n c:Nat):∀w:O,(Instr.typeAssert (Ad 151 (G a n c)) 56 208 true).run X w=.ok (Aa #[I K 0,Ac false]) w:=λw=>M
def QJ(a:A4)(n c:Nat):∀w:O,(Instr.typeAssert (Ad 151 (G a n c)) 56 210 true).run X w=.ok (Aa #[.string ByteArray.empty,Ac false]) w:=λw=>M
def QK(a:A4)(n c:Nat):∀w:O,(Instr.typeAssert (Ad 151 (G a n c)) 56 151 true).run X w=.ok (Aa #[G a n c,Ac true]) w:=λw=>M
def Tt(a:A4)(n c:Nat):∀w:O,(Instr.typeAssert (Ad 153 (G a n c)) 56 206 true).run X w=.ok (Aa #[Ac false,Ac false]) w:=λw=>M
def Tu(a:A4)(n c:Nat):∀w:O,(Instr.typeAssert (Ad 153 (G a n c)) 56 208 true).run X w=.ok (Aa #[I K 0,Ac false]) w:=λw=>M
def Tv(a:A4)(n c:Nat):∀w:O,(Instr.typeAssert (Ad 153 (G a n c)) 56 210 true).run X w=.ok (Aa #[.string ByteArray.empty,Ac false]) w:=λw=>M
def Xn(a:A4)(n c:Nat):∀w:O,(Instr.typeAssert (Ad 153 (G a n c)) 56 151 true).run X w=.ok (Aa #[G Y 0 0,Ac false]) w:=λw=>M
def Tw(a:A4)(n c:Nat):∀w:O,(Instr.typeAssert (Ad 153 (G a n c)) 56 153 true).run X w=.ok (Aa #[G a n c,Ac true]) w:=λw=>M
def Xo(a:A4)(n c:Nat):∀w:O,(Instr.typeAssert (Ad 155 (G a n c)) 56 206 true).run X w=.ok (Aa #[Ac false,Ac false]) w:=λw=>M
def Xp(a:A4)(n c:Nat):∀w:O,(Instr.typeAssert (Ad 155 (G a n c)) 56 208 true).run X w=.ok (Aa #[I K 0,Ac false]) w:=λw=>M
def Xq(a:A4)(n c:Nat):∀w:O,(Instr.typeAssert (Ad 155 (G a n c)) 56 210 true).run X w=.ok (Aa #[.string ByteArray.empty,Ac false]) w:=λw=>M
def Xr(a:A4)(n c:Nat):∀w:O,(Instr.typeAssert (Ad 155 (G a n c)) 56 151 true).run X w=.ok (Aa #[G Y 0 0,Ac false]) w:=λw=>M
def Xs(a:A4)(n c:Nat):∀w:O,(Instr.typeAssert (Ad 155 (G a n c)) 56 153 true).run X w=.ok (Aa #[G Y 0 0,Ac false]) w:=λw=>M
def Xt(a:A4)(n c:Nat):∀w:O,(Instr.typeAssert (Ad 155 (G a n c)) 56 155 true).run X w=.ok (Aa #[G a n c,Ac true]) w:=λw=>M
def i7(W:O)(b:Nat)(v:Al)(bs:A1)(s:bs.length<=999999999)(h:BG W b v bs):Am X 65 #[v,Ad 195 (Ab #[])] W λe g=>∃d,e=Af d/\BG g b d (bs++[192])/\Below b W g:=by
 obtain⟨j,i,a,n,c,rfl⟩:=h;have p:Hid (BG W b (G a n c) bs):=⟨j,i,a,n,c,Z⟩
 have f:=T j;have u:=Xh;have w:=Xi;have x:=Xj;have y:=Xk;have z:=Xl;have A:=Xm;go_enter func65,ntmps65
 go_wp2_with(first
  |(at_builtin;refine Dh 192 f ?_;intro d l k o t;have m:Hid (BG l b d (bs++[192])/\Below b W l):=DD i f Z k o;obtain⟨r,q,rfl⟩:=ownsRow_succ k))
 go_ret;exact⟨_,Z,m⟩
def i9(W:O)(b:Nat)(v:Al)(bs:A1)(s:bs.length<=999999999)(h:BG W b v bs):Am X 65 #[v,Ad 206 (Ac true)] W λe g=>∃d,e=Af d/\BG g b d (bs++[195])/\Below b W g:=by
 obtain⟨j,i,a,n,c,rfl⟩:=h;have p:Hid (BG W b (G a n c) bs):=⟨j,i,a,n,c,Z⟩
 have f:=T j;have u:=QG true;go_enter func65,ntmps65
 go_wp2_with(first
  |(at_builtin;refine Dh 195 f ?_;intro d l k o t;have m:Hid (BG l b d (bs++[195])/\Below b W l):=DD i f Z k o;obtain⟨r,q,rfl⟩:=ownsRow_succ k))
 go_ret;exact⟨_,Z,m⟩
def ib(W:O)(b:Nat)(v:Al)(bs:A1)(s:bs.length<=999999999)(h:BG W b v bs):Am X 65 #[v,Ad 206 (Ac false)] W λe g=>∃d,e=Af d/\BG g b d (bs++[194])/\Below b W g:=by
 obtain⟨j,i,a,n,c,rfl⟩:=h;have p:Hid (BG W b (G a n c) bs):=⟨j,i,a,n,c,Z⟩
 have f:=T j;have u:=QG false;go_enter func65,ntmps65
 go_wp2_with(first
  |(at_builtin;refine Dh 194 f ?_;intro d l k o t;have m:Hid (BG l b d (bs++[194])/\Below b W l):=DD i f Z k o;obtain⟨r,q,rfl⟩:=ownsRow_succ k))
 go_ret;exact⟨_,Z,m⟩
def ic(W:O)(b:Nat)(v:Al)(bs:A1)(l:A1)(q:bs.length<=999999999)(r:l.length<=999999999)(h:BG W b v bs):Am X 65 #[v,Ad 210 (.string ⟨l.toArray⟩)] W λe d=>∃g,e=Af g/\BG d b g (bs++(CY l.length++l))/\Below b W d:=by
 obtain⟨f,p,a,n,c,rfl⟩:=h;have i:Hid (BG W b (G a n c) bs):=⟨f,p,a,n,c,Z⟩
 have s:=T f;have x:=Tp ⟨l.toArray⟩;have y:=Tq ⟨l.toArray⟩;have z:=Ts ⟨l.toArray⟩;go_enter func65,ntmps65
 go_wp2_with(first
  |(go_at_call 102;refine(gN _ b _ bs l q r i).mono ?_;rintro e B ⟨A,rfl,j,o⟩;obtain⟨k,m,t,w,u,rfl⟩:=j))
 go_ret;exact⟨_,Z,⟨k,m,_,_,_,Z⟩,o⟩
def ie(W:O)(b:Nat)(v:Al)(bs:A1)(p:bs.length<=999999999)(h:BG W b v bs):Am X 64 #[v,Ad 195 (Ab #[])] W λe d=>∃g,e=Af g/\BG d b g (bs++BW 7 22)/\Below b W d:=by
 obtain⟨f,o,a,n,c,rfl⟩:=h;have i:Hid (BG W b (G a n c) bs):=⟨f,o,a,n,c,Z⟩
 have q:=T f;have u:=Xh;have w:=Xi;have x:=Xj;have y:=Xk;have z:=Xl;have A:=Xm;go_enter func64,ntmps64
 go_wp2_with(first
  |(go_at_call 98;refine(KZ _ b _ bs 7 22 J J p i).mono ?_;rintro e C ⟨B,rfl,j,m⟩;obtain⟨k,l,r,t,s,rfl⟩:=j))
 go_ret;exact⟨_,Z,⟨k,l,_,_,_,Z⟩,m⟩
def ig(W:O)(b:Nat)(v:Al)(bs:A1)(p:bs.length<=999999999)(h:BG W b v bs):Am X 64 #[v,Ad 206 (Ac true)] W λe d=>∃g,e=Af g/\BG d b g (bs++BW 7 21)/\Below b W d:=by
 obtain⟨f,o,a,n,c,rfl⟩:=h;have i:Hid (BG W b (G a n c) bs):=⟨f,o,a,n,c,Z⟩
 have q:=T f;have u:=QG true;go_enter func64,ntmps64
 go_wp2_with(first
  |(go_at_call 98;refine(KZ _ b _ bs 7 21 J J p i).mono ?_;rintro e x ⟨w,rfl,j,m⟩;obtain⟨k,l,r,t,s,rfl⟩:=j))
 go_ret;exact⟨_,Z,⟨k,l,_,_,_,Z⟩,m⟩
def ii(W:O)(b:Nat)(v:Al)(bs:A1)(p:bs.length<=999999999)(h:BG W b v bs):Am X 64 #[v,Ad 206 (Ac false)] W λe d=>∃g,e=Af g/\BG d b g (bs++BW 7 20)/\Below b W d:=by
 obtain⟨f,o,a,n,c,rfl⟩:=h;have i:Hid (BG W b (G a n c) bs):=⟨f,o,a,n,c,Z⟩
 have q:=T f;have u:=QG false;go_enter func64,ntmps64
 go_wp2_with(first
  |(go_at_call 98;refine(KZ _ b _ bs 7 20 J J p i).mono ?_;rintro e x ⟨w,rfl,j,m⟩;obtain⟨k,l,r,t,s,rfl⟩:=j))
 go_ret;exact⟨_,Z,⟨k,l,_,_,_,Z⟩,m⟩
def ij(W:O)(b:Nat)(v:Al)(bs:A1)(l:A1)(q:bs.length<=999999999)(r:l.length<=999999999)(h:BG W b v bs):Am X 64 #[v,Ad 210 (.string ⟨l.toArray⟩)] W λe d=>∃g,e=Af g/\BG d b g (bs++(BW 3 l.length++l))/\Below b W d:=by
 obtain⟨f,p,a,n,c,rfl⟩:=h;have i:Hid (BG W b (G a n c) bs):=⟨f,p,a,n,c,Z⟩
 have s:=T f;have x:=Tp ⟨l.toArray⟩;have y:=Tq ⟨l.toArray⟩;have z:=Ts ⟨l.toArray⟩;go_enter func64,ntmps64
 go_wp2_with(first
  |(go_at_call 99;refine(gL _ b _ bs l q r i).mono ?_;rintro e B ⟨A,rfl,j,o⟩;obtain⟨k,m,t,w,u,rfl⟩:=j))
 go_ret;exact⟨_,Z,⟨k,m,_,_,_,Z⟩,o⟩
def Xu(w:O)(t a b e:TypeId)(c:P.underlying t=U (.slice e))(d:P.underlying a=U (.slice e))(s:Al)(x:Al):(Builtin.append_ #[t,a] b #[s,x]).run P w=(Builtin.append_ #[t,t] b #[s,x]).run P w:=by
 cases s<;>simp[Builtin.append_,Ql c,Ql d]
def Xv(w:O){rest:List Oper}(N:o.guard=Y)(s x:Operand)(t p:TypeId)(V:o.op=.call {callee:=.builtin .append,args:=#[s,x],argTypes:=#[t,p]})(f:Nat)(e:TypeId)(i:TypeInfo)(z:Al)(size l:Nat)(r:P.underlying t=U (.slice e))(ac:P.underlying p=U (.slice e))(hi:P.info? e=U i)(hz:i.zero=U z)(aa:i.size=size)(H:i.bytes=l)(ae:z.cells.size=size)(ab:0<size)(v:Al)(n:Nat)(xs:List Al)(hs:a.eval s=v)(W:w.ownsRow f e size v n xs)(k:Addr)(m c:Nat)(b:List Al)(hx:a.eval x=G (U k) m c)(R:b.length=m*size)(S:∀j u,b[j]?=U u->w.cell? (k.add j)=U u)(y:∀u∈b,u.oneCell'=true)(C:n+m<=maxLen)(L:(n+m)*l<=140737488355328)(F:f<=w.heap.size)(h:∀g d,d.ownsRow f e size g (n+m) (xs++b)->w.grownBy d v.ownBlock->wpList P ops Q rest (a.put o.dst g) d):wpList P ops Q (o::rest) a w:=by
 refine ST N λaf D=>?_;obtain⟨g,d,q,A,B,_⟩:=OF (P:=P) w f t o.type e i z size l r hi hz aa H ae ab v n xs W k m c b R S y C L F;rw[<-Xu w t p o.type e r ac]at q;unfold Oper.wp execOp;simp only[V,resolve,invoke,builtin,Ei,Fq,EA,Nl,EU,Je,hs,hx,q];exact D _ _ (h g d A B)
def Xw{rest:List Oper}(j:o.guard=Y)(s x:Operand)(t b:TypeId)(k:o.op=.call {callee:=.builtin .append,args:=#[s,x],argTypes:=#[t,b]})(c:Nat)(e:TypeId)(i:TypeInfo)(size:Nat)(f:P.underlying t=U (.slice e))(p:P.underlying b=U (.slice e))(hi:P.info? e=U i)(v:Al)(n:Nat)(xs:List Al)(m:a.eval s=v)(l:w.ownsRow c e size v n xs)(q:a.eval x=G Y 0 0)(h:wpList P ops Q rest (a.put o.dst v) w):wpList P ops Q (o::rest) a w:=by
 refine ST j λr g=>?_;have d:=Wo (P:=P) (w:=w) c t o.type e i size f hi v n xs l;rw[<-Xu w t b o.type e f p]at d;unfold Oper.wp execOp;simp only[k,resolve,invoke,builtin,Ei,Fq,EA,Nl,EU,Je,m,q,d];exact g _ _ h
def Dj.cell{t:TypeId}{size n:Nat}{g cap:Nat}{xs:List Al}(h:Dj V t size F (G (U ⟨g,0,Y⟩) n cap) n xs):∀j u,xs[j]?=U u->V.cell? ((⟨g,0,Y⟩:Addr).add j)=U u:=by
 obtain⟨p,b⟩:=h;rcases b with⟨e,_⟩|⟨k,f,i,e,hF,d,l,m,o,c⟩
 ·simp at e
 injection e with e1 e2 e3;injection e1 with e1;injection e1 with e1;subst e1;intro j u a;have e:(⟨g,0,Y⟩:Addr).add j=⟨g,j,Y⟩:=AX
 rw[e,F7 _ _ _ _ _ _ d];rw[<-c,OA]at a;split at a
 ·simpa using a
 simp at a
def Xx{base:Nat}{v v':Al}{bs l:A1}(h:BG W base v bs)(c:W'.ownsRow base 5 1 v' (bs.length+l.length) (bs.map Cg++l.map Cg))(d:W.grownBy W' v.ownBlock):BG W' base v' (bs++l)/\Below base W W':=by
 obtain⟨f,b,_⟩:=h;have a:=Jl (C5 base W) f d b;refine⟨⟨by rw[BK,G9];exact c,C7 b a.size,?_⟩,a⟩;rcases c.2 with⟨e,_⟩|⟨g,i,j,e,_⟩
 ·exact⟨Y,0,0,e⟩
 exact⟨_,_,_,e⟩
def Xy(x k:Nat):(BY x k).length=k:=by induction k with|zero=>rfl|succ k a=>rw[BY,Cu,a]
def ik(s x:Nat):(BW s x).length<=9:=by
 unfold BW
 repeat' split
 all_goals simp[Xy]
def io(x:Nat):(Fc x).length<=9:=by
 unfold Fc
 repeat' split
 all_goals simp[Xy]
def ip(W:O)(d:Nat)(v u:Al)(F:Nat->Prop)(hF:∀k,F k->k<d)(bs l:A1)(S:bs.length<=999999999)(an:l.length<=999999999)(r:Dj W 5 1 F u l.length (l.map Cg))(h:BG W d v bs):Am X 64 #[v,Ad 151 u] W λe j=>∃i,e=Af i/\BG j d i (bs++(BW 2 l.length++l))/\Below d W j:=by
 obtain⟨H,C,ab,ac,ad⟩:=DZ Tryz.infoU8;obtain⟨b,P,a,n,c,rfl⟩:=h;have L:Hid (BG W d (A7 a n c) bs):=⟨b,P,a,n,c,Z⟩
 have w:Am X 98 #[A7 a n c,I Ah 2,I .u64 l.length] W λe j=>∃i,e=Af i/\BG j d i (bs++BW 2 l.length)/\Below d W j:=KZ W d (A7 a n c) bs 2 l.length Ay J S L;have Q:(BW 2 l.length).length<=9:=ik _ _;rcases r.2 with⟨rfl,D⟩|⟨g,o,aj,rfl,ak,al,am⟩
 ·have V:=J9 D;rw[D]at w Q;rw[V];have ae:=QH Y 0 0;have af:=QI Y 0 0;have ag:=QJ Y 0 0;have ah:=QK Y 0 0;go_enter func64,ntmps64
  go_wp2_with(first
   |(go_at_call 98;refine w.mono ?_;rintro e B ⟨v2,rfl,x,y⟩;obtain⟨A,t,m,p,c2,rfl⟩:=x;have f:Hid (BG B d (A7 m p c2) (bs++BW 2 0)):=⟨A,t,_,_,_,Z⟩;have q:=T y)
   |(at_builtin;refine Xw Z _ _ 38 151 Z d 5 H 1 underlying38 underlying151 C (A7 m p c2) _ _ Z f.1 Z ?_))
  go_ret;rw[IK];exact⟨_,Z,f,q⟩
 have N:=T r;have ae:=QH (U ⟨g,0,Y⟩) l.length o;have af:=QI (U ⟨g,0,Y⟩) l.length o;have ag:=QJ (U ⟨g,0,Y⟩) l.length o;have ah:=QK (U ⟨g,0,Y⟩) l.length o;go_enter func64,ntmps64
 go_wp2_with(first
  |(go_at_call 98;refine w.mono ?_;rintro e B ⟨v2,rfl,x,y⟩;obtain⟨A,t,m,p,c2,rfl⟩:=x;have f:Hid (BG B d (A7 m p c2) (bs++BW 2 l.length)):=⟨A,t,_,_,_,Z⟩;have q:=T y)
  |(at_builtin;refine Xv _ rfl _ _ 38 151 rfl d 5 H (I Ah 0) 1 1 underlying38 underlying151 C ab ac ad rfl Ay (A7 m p c2) _ _ rfl f.1 ⟨g,0,Y⟩ l.length o (l.map Cg) rfl Az (N.same (G:=F) (λk z=>z) (λk z=>q.block k (hF k z))).cell (λu r=>by obtain⟨ai,_,rfl⟩:=List.mem_map.mp r;rfl) (by rw[BK];unfold maxLen;omega) Bx f.2.1 ?_;intro i w5 aa R;have s:=T (Xx f aa R)))
 go_ret;rw[CN]at s;exact⟨_,Z,s.1,q.trans s.2⟩
def iq(W:O)(d:Nat)(v u:Al)(F:Nat->Prop)(hF:∀k,F k->k<d)(bs l:A1)(S:bs.length<=999999999)(an:l.length<=999999999)(p:Dj W 5 1 F u l.length (l.map Cg))(h:BG W d v bs):Am X 65 #[v,Ad 151 u] W λe B=>∃z,e=Af z/\BG B d z (bs++(Fc l.length++l))/\Below d W B:=by
 obtain⟨H,C,ab,ac,ad⟩:=DZ Tryz.infoU8;obtain⟨b,P,a,n,c,rfl⟩:=h;have L:Hid (BG W d (A7 a n c) bs):=⟨b,P,a,n,c,Z⟩
 have s:=gV W d (A7 a n c) bs l.length J S L;have Q:(Fc l.length).length<=9:=io _;rcases p.2 with⟨rfl,D⟩|⟨g,j,aj,rfl,ak,al,am⟩
 ·have V:=J9 D;rw[D]at s Q;rw[V];have ae:=QH Y 0 0;have af:=QI Y 0 0;have ag:=QJ Y 0 0;have ah:=QK Y 0 0;go_enter func65,ntmps65
  go_wp2_with(first
   |(go_at_call 103;refine s.mono ?_;rintro e A ⟨v2,rfl,t,w⟩;obtain⟨y,r,i,m,c2,rfl⟩:=t;have f:Hid (BG A d (A7 i m c2) (bs++Fc 0)):=⟨y,r,_,_,_,Z⟩;have o:=T w)
   |(at_builtin;refine Xw Z _ _ 38 151 Z d 5 H 1 underlying38 underlying151 C (A7 i m c2) _ _ Z f.1 Z ?_))
  go_ret;rw[IK];exact⟨_,Z,f,o⟩
 have N:=T p;have ae:=QH (U ⟨g,0,Y⟩) l.length j;have af:=QI (U ⟨g,0,Y⟩) l.length j;have ag:=QJ (U ⟨g,0,Y⟩) l.length j;have ah:=QK (U ⟨g,0,Y⟩) l.length j;go_enter func65,ntmps65
 go_wp2_with(first
  |(go_at_call 103;refine s.mono ?_;rintro e A ⟨v2,rfl,t,w⟩;obtain⟨y,r,i,m,c2,rfl⟩:=t;have f:Hid (BG A d (A7 i m c2) (bs++Fc l.length)):=⟨y,r,_,_,_,Z⟩;have o:=T w)
  |(at_builtin;refine Xv _ rfl _ _ 38 151 rfl d 5 H (I Ah 0) 1 1 underlying38 underlying151 C ab ac ad rfl Ay (A7 i m c2) _ _ rfl f.1 ⟨g,0,Y⟩ l.length j (l.map Cg) rfl Az (N.same (G:=F) (λk x=>x) (λk x=>o.block k (hF k x))).cell (λu p=>by obtain⟨ai,_,rfl⟩:=List.mem_map.mp p;rfl) (by rw[BK];unfold maxLen;omega) Bx f.2.1 ?_;intro z w5 aa R;have q:=T (Xx f aa R)))
 go_ret;rw[CN]at q;exact⟨_,Z,q.1,o.trans q.2⟩
def QL(W:Ak)(base:Nat)(x:Al)(ys:A1):Prop:=∀(V:Ak) (v:Al) (bs:A1),Below base W V->BG V base v bs->bs.length+ys.length<=999999999->Am prog 64 #[v,x] V λe W'=>∃v',e=Af v'/\BG W' base v' (bs++ys)/\Below base V W'
def ir(T:A2->A1)(W:O)(b:Nat)(v u:Al)(F:Nat->Prop)(hF:∀k,F k->k<b)(bs:A1)(ds:List (DataW Unit))(xs:List Al)(hl:bs.length+((BW 4 ds.length)++ds.flatMap T).length<=999999999)(hn:ds.length<=999999999)(V:Dj W 56 1 F u ds.length xs)(aj:∀(i:Nat) (x:Al) (d:A2),xs[i]?=U x->ds[i]?=U d->QL W b x (T d))(ai:∀(i:Nat) (x:Al),xs[i]?=U x->∃an y,x=Ad an y)(h:BG W b v bs):Am X 64 #[v,Ad 153 u] W λe l=>∃m,e=Af m/\BG l b m (bs++(BW 4 ds.length++ds.flatMap T))/\Below b W l:=by
 have al:bs.length<=999999999:=J
 obtain⟨ho,hb,a,n,c,rfl⟩:=h;have ae:Hid (BG W b (A7 a n c) bs):=⟨ho,hb,a,n,c,Z⟩
 have cH:Am X 98 #[A7 a n c,I Ah 4,I .u64 ds.length] W λe l=>∃m,e=Af m/\BG l b m (bs++BW 4 ds.length)/\Below b W l:=KZ W b (A7 a n c) bs 4 ds.length Ay J al ae;obtain⟨q,f,rfl⟩:∃q f,u=A7 q ds.length f:=by
  rcases V.2 with⟨e,Q⟩|⟨g,f,af,e,_⟩
  ·exact⟨Y,0,by rw[e,Q]⟩
  exact⟨_,_,e⟩
 have HU:=By V;have HI:=By aj;have HL:=By hl;have HF:=By ai;have ar:=Tt q ds.length f;have au:=Tu q ds.length f;have av:=Tv q ds.length f;have aw:=Xn q ds.length f;have ax:=Tw q ds.length f;go_enter func64,ntmps64
 go_wp2_with(first
  |(go_at_call 98;refine cH.mono ?_;rintro e w2 ⟨v2,rfl,r,ag⟩;obtain⟨o2,b2,L,t,c2,rfl⟩:=r;have ac:Hid (BG w2 b (A7 L t c2) (bs++BW 4 ds.length)):=⟨o2,b2,_,_,_,Z⟩;have aa:=By ag))
 go_loopg[0,64,11] ds.length (λg y ao x wr=>∃(k:Nat) (A:A4) (D B:Nat),y=A7 A D B/\ao=I K k/\Hid (k+g=ds.length)/\Hid (BG wr b (A7 A D B) ((bs++BW 4 ds.length)++(ds.take k).flatMap T))/\Hid (Below b W wr))
 case atStart=>exact⟨0,L,t,c2,rfl,rfl,AD,kfz,aa⟩
 case round =>
  obtain⟨k,A,D,B,rfl,rfl,s,H,o⟩:=hrel
  cases gk with
  |zero =>
   have am:¬(k:Int)<ds.length:=Ao s.out
   have p:Hid (ds.take k=ds):=by show _=_;exact II (Ao s.out)
   go_wp2;go_ret;have R:=H.out;rw[p.out,CN]at R;exact⟨_,Z,R,o⟩
  |succ g =>
   have ak:k<ds.length:=Ao s.out
   have am:(k:Int)<ds.length:=J
   have w:=HU.same (V':=wr) (G:=F) (λ_ h=>h) (λj hj=>o.block j (hF j hj));obtain⟨q0,rfl⟩:∃q0,q=U ⟨q0,0,Y⟩:=by
    rcases w.2 with⟨_,e⟩|⟨g,ap,af,e,_⟩
    ·omega
    injection e with e1 Q e3;exact⟨g,e1⟩
   have aq:xs.length=ds.length:=Ao w.1
   obtain⟨x,C⟩:∃x,xs[k]?=U x:=⟨xs[k],C6 J⟩
   obtain⟨d,S⟩:∃d,ds[k]?=U d:=⟨ds[k],C6 ak⟩
   obtain⟨tx,yx,rfl⟩:=HF.out k x C;have hc:wr.cell? ⟨q0,k,Y⟩=U (Ad tx yx):=by
    have:=w.cell k _ C;have e:(⟨q0,0,Y⟩:Addr).add k=⟨q0,k,Y⟩:=Bh
    rwa[e]at this
   have p:Hid ((ds.take (k+1)).flatMap T=(ds.take k).flatMap T++T d):=by
    show _=_;rw[JH,S];simp
   have HB:Hid (((bs++BW 4 ds.length)++(ds.take k).flatMap T).length+(T d).length<=999999999):=by
    show _<=_;have h1:=HL.out;have r:(ds.flatMap T).length=((ds.take (k+1)).flatMap T).length+((ds.drop (k+1)).flatMap T).length:=by
     rw[<-BK,<-LD,Kb]
    rw[p.out]at r;simp only[BK]at h1 r ⊢;omega
   have cI:=HI.out k _ d C S wr _ _ o H HB
   go_wp2_with(first
    |(go_at_call 64;refine cI.mono ?_;rintro e w4 ⟨v4,rfl,h4,ah⟩;obtain⟨o4,b4,N,z,P,rfl⟩:=h4;have ad:Hid (BG w4 b (A7 N z P) (((bs++BW 4 ds.length)++(ds.take k).flatMap T)++T d)):=⟨o4,b4,_,_,_,Z⟩;have ab:=By (o.trans ah)))
   go_roundg g
   case measure=>omega
   case rel=>exact⟨k+1,N,z,P,rfl,AE,Ap s.out,by show BG _ _ _ _;rw[p.out,<-CN];exact ad,ab⟩
def QM(W:Ak)(base:Nat)(x:Al)(ys:A1):Prop:=∀(V:Ak) (v:Al) (bs:A1),Below base W V->BG V base v bs->bs.length+ys.length<=999999999->Am prog 65 #[v,x] V λe W'=>∃v',e=Af v'/\BG W' base v' (bs++ys)/\Below base V W'
def iu(T:A2->A1)(W:O)(b:Nat)(v u:Al)(F:Nat->Prop)(hF:∀k,F k->k<b)(bs:A1)(ds:List (DataW Unit))(xs:List Al)(hl:bs.length+((Fd ds.length)++ds.flatMap T).length<=999999999)(hn:ds.length<=999999999)(S:Dj W 56 1 F u ds.length xs)(aj:∀(i:Nat) (x:Al) (d:A2),xs[i]?=U x->ds[i]?=U d->QM W b x (T d))(ai:∀(i:Nat) (x:Al),xs[i]?=U x->∃an y,x=Ad an y)(h:BG W b v bs):Am X 65 #[v,Ad 153 u] W λe D=>∃z,e=Af z/\BG D b z (bs++(Fd ds.length++ds.flatMap T))/\Below b W D:=by
 have al:bs.length<=999999999:=J
 obtain⟨ho,hb,a,n,c,rfl⟩:=h;have ae:Hid (BG W b (A7 a n c) bs):=⟨ho,hb,a,n,c,Z⟩
 have cH:=gW W b (A7 a n c) bs ds.length J al ae;obtain⟨q,f,rfl⟩:∃q f,u=A7 q ds.length f:=by
  rcases S.2 with⟨e,P⟩|⟨g,f,af,e,_⟩
  ·exact⟨Y,0,by rw[e,P]⟩
  exact⟨_,_,e⟩
 have HU:=By S;have HI:=By aj;have HL:=By hl;have HF:=By ai;have ar:=Tt q ds.length f;have au:=Tu q ds.length f;have av:=Tv q ds.length f;have aw:=Xn q ds.length f;have ax:=Tw q ds.length f;go_enter func65,ntmps65
 go_wp2_with(first
  |(go_at_call 104;refine cH.mono ?_;rintro e w2 ⟨v2,rfl,o,ag⟩;obtain⟨o2,b2,H,V,c2,rfl⟩:=o;have ac:Hid (BG w2 b (A7 H V c2) (bs++Fd ds.length)):=⟨o2,b2,_,_,_,Z⟩;have aa:=By ag))
 go_loopg[0,64,11] ds.length (λg y ao x wr=>∃(k:Nat) (s:A4) (B w:Nat),y=A7 s B w/\ao=I K k/\Hid (k+g=ds.length)/\Hid (BG wr b (A7 s B w) ((bs++Fd ds.length)++(ds.take k).flatMap T))/\Hid (Below b W wr))
 case atStart=>exact⟨0,H,V,c2,rfl,rfl,AD,kfz,aa⟩
 case round =>
  obtain⟨k,s,B,w,rfl,rfl,p,C,l⟩:=hrel
  cases gk with
  |zero =>
   have am:¬(k:Int)<ds.length:=Ao p.out
   have m:Hid (ds.take k=ds):=by show _=_;exact II (Ao p.out)
   go_wp2;go_ret;have Q:=C.out;rw[m.out,CN]at Q;exact⟨_,Z,Q,l⟩
  |succ g =>
   have ak:k<ds.length:=Ao p.out
   have am:(k:Int)<ds.length:=J
   have r:=HU.same (V':=wr) (G:=F) (λ_ h=>h) (λj hj=>l.block j (hF j hj));obtain⟨q0,rfl⟩:∃q0,q=U ⟨q0,0,Y⟩:=by
    rcases r.2 with⟨_,e⟩|⟨g,ap,af,e,_⟩
    ·omega
    injection e with e1 P e3;exact⟨g,e1⟩
   have aq:xs.length=ds.length:=Ao r.1
   obtain⟨x,A⟩:∃x,xs[k]?=U x:=⟨xs[k],C6 J⟩
   obtain⟨d,R⟩:∃d,ds[k]?=U d:=⟨ds[k],C6 ak⟩
   obtain⟨tx,yx,rfl⟩:=HF.out k x A;have hc:wr.cell? ⟨q0,k,Y⟩=U (Ad tx yx):=by
    have:=r.cell k _ A;have e:(⟨q0,0,Y⟩:Addr).add k=⟨q0,k,Y⟩:=Bh
    rwa[e]at this
   have m:Hid ((ds.take (k+1)).flatMap T=(ds.take k).flatMap T++T d):=by
    show _=_;rw[JH,R];simp
   have HB:Hid (((bs++Fd ds.length)++(ds.take k).flatMap T).length+(T d).length<=999999999):=by
    show _<=_;have h1:=HL.out;have o:(ds.flatMap T).length=((ds.take (k+1)).flatMap T).length+((ds.drop (k+1)).flatMap T).length:=by
     rw[<-BK,<-LD,Kb]
    rw[m.out]at o;simp only[BK]at h1 o ⊢;omega
   have cI:=HI.out k _ d A R wr _ _ l C HB
   go_wp2_with(first
    |(go_at_call 65;refine cI.mono ?_;rintro e w4 ⟨v4,rfl,h4,ah⟩;obtain⟨o4,b4,L,t,N,rfl⟩:=h4;have ad:Hid (BG w4 b (A7 L t N) (((bs++Fd ds.length)++(ds.take k).flatMap T)++T d)):=⟨o4,b4,_,_,_,Z⟩;have ab:=By (l.trans ah)))
   go_roundg g
   case measure=>omega
   case rel=>exact⟨k+1,L,t,N,rfl,AE,Ap p.out,by show BG _ _ _ _;rw[m.out,<-CN];exact ad,ab⟩
def Jn:Nat->A2->Bool
 |0,_=>false
 |k+1,d=>match d with
  |.ptr (.lit (.string _))=>true
  |.agg ds=>ds.any (Jn k)
  |.map es=>es.any λe=>Jn k e.2
  |_=>false
def iv(s:ByteArray):∀w:O,(Instr.typeAssert (Ad 210 (.string s)) 56 151 true).run X w=.ok (Aa #[G Y 0 0,Ac false]) w:=λw=>M
def iw(s:ByteArray):∀w:O,(Instr.typeAssert (Ad 210 (.string s)) 56 153 true).run X w=.ok (Aa #[G Y 0 0,Ac false]) w:=λw=>M
def iy(s:ByteArray):∀w:O,(Instr.typeAssert (Ad 210 (.string s)) 56 155 true).run X w=.ok (Aa #[G Y 0 0,Ac false]) w:=λw=>M
def iz(a:A4)(n c:Nat):∀w:O,(Instr.typeAssert (Ad 153 (G a n c)) 56 151 true).run X w=.ok (Aa #[G Y 0 0,Ac false]) w:=λw=>M
def Xz(a:A4)(n c:Nat):∀w:O,(Instr.typeAssert (Ad 153 (G a n c)) 56 153 true).run X w=.ok (Aa #[G a n c,Ac true]) w:=λw=>M
def iA(W:O)(s:ByteArray):Am X 38 #[Ad 210 (.string s)] W λe a=>e=Af (Ac false)/\A0 W a:=by
 have b:=iv s;have c:=iw s;have d:=iy s;go_enter func38,ntmps38;go_wp2;go_ret;exact⟨Z,C5 _ _⟩
def iB{α:Type}(T:α->Bool)(l:List α)(k:Nat)(d:α)(a:l[k]?=U d):(l.take (k+1)).any T=((l.take k).any T||T d):=by
 rw[JH,a];simp
def iC{α:Type}(T:α->Bool)(l:List α)(k:Nat)(d:α)(a:l[k]?=U d)(h:T d=true):l.any T=true:=JI.2 ⟨d,Oz a,h⟩
def iD(W:Ak)(x:Al)(r:Bool):Prop:=∀V,A0 W V->Am prog 38 #[x] V λe W'=>e=Af (Ac r)/\A0 V W'
def XA{A:O}(a:A0 A V)(b:A0 V W'):A0 A W':=a.trans (b.mono a.size)
def iE(T:A2->Bool)(W:O)(u:Al)(F:Nat->Prop)(hF:∀k,F k->k<W.heap.size)(ds:List (DataW Unit))(xs:List Al)(C:Dj W 56 1 F u ds.length xs)(y:∀(i:Nat) (x:Al) (d:A2),xs[i]?=U x->ds[i]?=U d->iD W x (T d))(t:∀(i:Nat) (x:Al),xs[i]?=U x->∃ab ac,x=Ad ab ac):Am X 38 #[Ad 153 u] W λe R=>e=Af (Ac (ds.any T))/\A0 W R:=by
 obtain⟨q,b,rfl,hn⟩:∃q b,u=A7 q ds.length b/\ds.length<=maxLen:=by
  rcases C.2 with⟨e,s⟩|⟨g,b,S,e,_,_,V,e5,_⟩
  ·exact⟨Y,0,by rw[e,s],by rw[s];decide⟩
  exact⟨_,_,e,C7 V e5⟩
 unfold maxLen at hn;have P:=By C;have H:=By y;have D:=By t;obtain⟨r,p⟩:∃r,Hid (ds.any T=r):=⟨_,show _=_ from rfl⟩
 rw[p.out];have ag:=iz q ds.length b;have ah:=Xz q ds.length b;go_enter func38,ntmps38;go_wp2
 go_loopg[19,6] ds.length (λg ad x wr=>∃(k:Nat),ad=I K k/\Hid (k+g=ds.length)/\Hid ((ds.take k).any T=false)/\Hid (A0 W wr))
 case atStart=>exact⟨0,rfl,AD,ke1,C5 _ _⟩
 case round =>
  obtain⟨k,rfl,l,B,a⟩:=hrel
  cases gk with
  |zero =>
   have aa:¬(k:Int)<ds.length:=Ao l.out
   have N:Hid (r=false):=by
    show _=_;rw[<-p.out];have h:=B.out;rwa[II (Ao l.out)]at h
   go_wp2;go_ret;rw[N.out];exact⟨Z,a⟩
  |succ g =>
   have z:k<ds.length:=Ao l.out
   have aa:(k:Int)<ds.length:=J
   have o:=P.same (V':=wr) (G:=F) (λ_ h=>h) (λj hj=>a.block j (hF j hj));obtain⟨q0,rfl⟩:∃q0,q=U ⟨q0,0,Y⟩:=by
    rcases o.2 with⟨_,e⟩|⟨g,ae,S,e,_⟩
    ·omega
    injection e with e1 s e3;exact⟨g,e1⟩
   have af:xs.length=ds.length:=Ao o.1
   obtain⟨x,A⟩:∃x,xs[k]?=U x:=⟨xs[k],C6 J⟩
   obtain⟨d,w⟩:∃d,ds[k]?=U d:=⟨ds[k],C6 z⟩
   obtain⟨tx,yx,rfl⟩:=D.out k x A;have hc:wr.cell? ⟨q0,k,Y⟩=U (Ad tx yx):=by
    have:=o.cell k _ A;have e:(⟨q0,0,Y⟩:Addr).add k=⟨q0,k,Y⟩:=Bh
    rwa[e]at this
   have c:=H.out k _ d A w wr a;have L:=By (iB T ds k d w);have Q:=By (iC T ds k d w);cases f:T d
   ·rw[f]at c;have n:=By f
    go_wp2_with(first
     |(go_at_call 38;refine c.mono ?_;rintro e w4 ⟨rfl,v⟩;have m:=By (XA a v)))
    go_roundg g
    case measure=>omega
    case rel=>exact⟨k+1,AE,Ap l.out,by show _=_;rw[L.out,B.out,n.out];rfl,m⟩
   rw[f]at c;have n:Hid (r=true):=by show _=_;rw[<-p.out];exact Q f
   go_wp2_with(first
    |(go_at_call 38;refine c.mono ?_;rintro e w4 ⟨rfl,v⟩;have m:=By (XA a v)))
   go_ret;rw[n.out];exact⟨Z,m⟩
def BQ.iface:∀{k:Nat} {v:Al} {d:A2},BQ k V F v d->∃t y,v=Ad t y
 |0,_,_,h=>h.elim
 |k+1,v,d,h=>by
  unfold BQ at h;split at h
  ·exact⟨_,_,h⟩
  ·exact⟨_,_,h⟩
  ·exact⟨_,_,h.1⟩
  ·exact⟨_,_,h⟩
  ·obtain⟨u,e,_⟩:=h;exact⟨_,_,e⟩
  ·obtain⟨u,a,e,_⟩:=h;exact⟨_,_,e⟩
  ·obtain⟨u,a,e,_⟩:=h;exact⟨_,_,e⟩
  exact h.elim
end
section
open Go.RowKit
def QN(W:O):BG W W.heap.size (G Y 0 0) []:=by
 refine⟨?_,BM _,Y,0,0,Z⟩;exact FQ ..
end
section
open Go.RowKit Go.Lib
def U8(W:Ak):Prop:=Utf8Tabs 4 5 W
def U8.below(h:U8 W)(hb:A0 W V):U8 V:=by
 refine⟨λc b=>?_,λi a=>⟨?_,?_⟩⟩
 ·have:=h.1 c b;exact(hb.cell (p:=⟨_,c,Y⟩) (G8 this)).trans this
 ·have:=(h.2 i a).1;exact(hb.cell (p:=⟨_,_,Y⟩) (G8 this)).trans this
 have:=(h.2 i a).2;exact(hb.cell (p:=⟨_,_,Y⟩) (G8 this)).trans this
def XH:∀v:Fin 256,bits .and Ah (v.val:Int) 7=((v.val%8:Nat):Int):=Ay
structure Fe(b0 x sz i lo hi:Nat):Prop where
 fx:firstT b0=x
 fsz:bits .and .u8 (x:Int) 7=(sz:Int)
 fi:x/16=i
 flt:i<16
 fxb:x<256
 flo:accLo i=lo
 fhi:accHi i=hi
def Fe.szlt(h:Fe b0 x sz i lo hi):sz<8:=by
 have a:=XH ⟨x,h.fxb⟩;have b:=h.fsz;rw[a]at b;omega
def iQ(a x:Nat)(h:firstT a=x)(b:x<256):Fe a x (x%8) (x/16) (accLo (x/16)) (accHi (x/16)):=by
 refine⟨h,?_,Z,J,b,Z,Z⟩;exact XH ⟨x,b⟩
def OZ(W:O)(g off n f:Nat)(b x a i lo hi:Nat)(c:Fe b x a i lo hi)(hb:b<256)(q:1<=n)(r:a<=n)(p:n<=4)(m:W.cell? ⟨g,off,Y⟩=U (I Ah b))(j:U8 W):Am X 247 #[G (U ⟨g,off,Y⟩) n f] W λe d=>e=Af (Ac true)/\d=W:=by
 have h:=j.1 b hb;rw[c.fx]at h;have o:=c.fsz;have s:wrap64 (a:Int)=a:=At c.szlt
 have k:((n:Int)==0)=false:=Ax
 have l:decide (a<=n)=true:=Ax
 go_enter func247,ntmps247;go_wp2;go_ret;exact⟨Z,Z⟩
def Hc(a:Fe b0 x sz i lo hi)(d:U8 W):W.cell? ⟨5,i*2,Y⟩=U (I Ah lo)/\W.cell? ⟨5,i*2+1,Y⟩=U (I Ah hi):=by
 obtain⟨b,c⟩:=d.2 i a.flt;rw[a.flo]at b;rw[a.fhi]at c;rw[JJ i 2];exact⟨b,c⟩
def iR(W:O)(g off k:Nat)(c x b i lo hi:Nat)(a:Fe c x b i lo hi)(hb:c<256)(r:1<b)(o:W.cell? ⟨g,off,Y⟩=U (I Ah c))(d:U8 W):Am X 247 #[G (U ⟨g,off,Y⟩) 1 k] W λe f=>e=Af (Ac false)/\A0 W f:=by
 have l:=d.1 c hb;rw[a.fx]at l;have p:=a.fsz;have s:wrap64 (b:Int)=b:=AK
 obtain⟨h,j⟩:=Hc a d;have q:x/16<16:=AP
 rw[<-a.fi]at h j;have m:decide (b<=1)=false:=Ax
 have n:¬b<=1:=J
 go_enter func247,ntmps247;go_wp2
 go_quiet (fail)
 go_wp2;go_ret;exact⟨Z,(BN).trans ((F9 _ nq).mono Az)⟩
def iS(W:O)(g off m:Nat)(c d x b i lo hi:Nat)(a:Fe c x b i lo hi)(hb:c<256)(w:2<b)(t:W.cell? ⟨g,off,Y⟩=U (I Ah c))(f:W.cell? ⟨g,off+1,Y⟩=U (I Ah d))(h:U8 W)(o:d<lo):Am X 247 #[G (U ⟨g,off,Y⟩) 2 m] W λe j=>e=Af (Ac true)/\A0 W j:=by
 have n:=h.1 c hb;rw[a.fx]at n;have u:=a.fsz;have y:wrap64 (b:Int)=b:=AK
 obtain⟨k,l⟩:=Hc a h;have v:x/16<16:=AP
 rw[<-a.fi]at k l;have r:decide (b<=2)=false:=Ax
 have s:¬b<=2:=J
 have p:=(Df W ⟨g,off+1,Y⟩ (E #[I Ah lo,I Ah hi] 291) kfj).trans f;have c2:=BB (BI W (E #[I Ah lo,I Ah hi] 291)) 0;have q:=BB (BI W (E #[I Ah lo,I Ah hi] 291)) 1;have q1:decide (d<lo)=true:=keG
 go_enter func247,ntmps247;go_wp2
 go_quiet (fail)
 go_wp2;go_ret;exact⟨Z,(BN).trans ((F9 _ nq).mono Az)⟩
def iT(W:O)(g off m:Nat)(d c x b i lo hi:Nat)(a:Fe d x b i lo hi)(hb:d<256)(y:2<b)(u:W.cell? ⟨g,off,Y⟩=U (I Ah d))(f:W.cell? ⟨g,off+1,Y⟩=U (I Ah c))(h:U8 W)(o:¬c<lo)(p:hi<c):Am X 247 #[G (U ⟨g,off,Y⟩) 2 m] W λe j=>e=Af (Ac true)/\A0 W j:=by
 have n:=h.1 d hb;rw[a.fx]at n;have v:=a.fsz;have z:wrap64 (b:Int)=b:=AK
 obtain⟨k,l⟩:=Hc a h;have w:x/16<16:=AP
 rw[<-a.fi]at k l;have s:decide (b<=2)=false:=Ax
 have t:¬b<=2:=J
 have q:=(Df W ⟨g,off+1,Y⟩ (E #[I Ah lo,I Ah hi] 291) kfj).trans f;have c2:=BB (BI W (E #[I Ah lo,I Ah hi] 291)) 0;have r:=BB (BI W (E #[I Ah lo,I Ah hi] 291)) 1;have q1:decide (c<lo)=false:=keG
 have A:decide (hi<c)=true:=keH
 go_enter func247,ntmps247;go_wp2
 go_quiet (fail)
 go_wp2;go_ret;exact⟨Z,(BN).trans ((F9 _ nq).mono Az)⟩
def iU(W:O)(g off m:Nat)(d c x b i lo hi:Nat)(a:Fe d x b i lo hi)(hb:d<256)(y:2<b)(u:W.cell? ⟨g,off,Y⟩=U (I Ah d))(f:W.cell? ⟨g,off+1,Y⟩=U (I Ah c))(h:U8 W)(o:¬c<lo)(p:¬hi<c):Am X 247 #[G (U ⟨g,off,Y⟩) 2 m] W λe j=>e=Af (Ac false)/\A0 W j:=by
 have n:=h.1 d hb;rw[a.fx]at n;have v:=a.fsz;have z:wrap64 (b:Int)=b:=AK
 obtain⟨k,l⟩:=Hc a h;have w:x/16<16:=AP
 rw[<-a.fi]at k l;have s:decide (b<=2)=false:=Ax
 have t:¬b<=2:=J
 have q:=(Df W ⟨g,off+1,Y⟩ (E #[I Ah lo,I Ah hi] 291) kfj).trans f;have c2:=BB (BI W (E #[I Ah lo,I Ah hi] 291)) 0;have r:=BB (BI W (E #[I Ah lo,I Ah hi] 291)) 1;have q1:decide (c<lo)=false:=keG
 have A:decide (hi<c)=false:=keH
 go_enter func247,ntmps247;go_wp2
 go_quiet (fail)
 go_wp2;go_ret;exact⟨Z,(BN).trans ((F9 _ nq).mono Az)⟩
def iV(W:O)(g off p:Nat)(d c f x b i lo hi:Nat)(a:Fe d x b i lo hi)(hb:d<256)(D:3<b)(A:W.cell? ⟨g,off,Y⟩=U (I Ah d))(j:W.cell? ⟨g,off+1,Y⟩=U (I Ah c))(k:W.cell? ⟨g,off+2,Y⟩=U (I Ah f))(l:U8 W)(r:¬c<lo)(s:¬hi<c)(t:f<128):Am X 247 #[G (U ⟨g,off,Y⟩) 3 p] W λe m=>e=Af (Ac true)/\A0 W m:=by
 have q:=l.1 d hb;rw[a.fx]at q;have B:=a.fsz;have F:wrap64 (b:Int)=b:=AK
 obtain⟨n,o⟩:=Hc a l;have C:x/16<16:=AP
 rw[<-a.fi]at n o;have y:decide (b<=3)=false:=Ax
 have z:¬b<=3:=J
 have h:Hid (A0 W (W.alloc (E #[I Ah lo,I Ah hi] 291))):=BN;have u:=(Df W ⟨g,off+1,Y⟩ (E #[I Ah lo,I Ah hi] 291) keC).trans j;have v:=(Df W ⟨g,off+2,Y⟩ (E #[I Ah lo,I Ah hi] 291) B0).trans k;have c2:=BB (BI W (E #[I Ah lo,I Ah hi] 291)) 0;have w:=BB (BI W (E #[I Ah lo,I Ah hi] 291)) 1;have q1:decide (c<lo)=false:=B4
 have H:decide (hi<c)=false:=ke2
 have L:decide ((f:Int)<128)=true:=Ax
 have N:decide (f<128)=true:=Bm
 go_enter func247,ntmps247;go_wp2
 go_quiet (fail)
 go_wp2;go_ret;exact⟨Z,h.trans ((F9 _ nq).mono h.size)⟩
def iW(W:O)(g off p:Nat)(f d a x c i lo hi:Nat)(b:Fe f x c i lo hi)(hb:f<256)(F:3<c)(B:W.cell? ⟨g,off,Y⟩=U (I Ah f))(j:W.cell? ⟨g,off+1,Y⟩=U (I Ah d))(k:W.cell? ⟨g,off+2,Y⟩=U (I Ah a))(l:U8 W)(r:¬d<lo)(s:¬hi<d)(t:¬a<128)(u:191<a):Am X 247 #[G (U ⟨g,off,Y⟩) 3 p] W λe m=>e=Af (Ac true)/\A0 W m:=by
 have q:=l.1 f hb;rw[b.fx]at q;have C:=b.fsz;have H:wrap64 (c:Int)=c:=B8
 obtain⟨n,o⟩:=Hc b l;have D:x/16<16:=keF
 rw[<-b.fi]at n o;have z:decide (c<=3)=false:=Ax
 have A:¬c<=3:=J
 have h:Hid (A0 W (W.alloc (E #[I Ah lo,I Ah hi] 291))):=BN;have v:=(Df W ⟨g,off+1,Y⟩ (E #[I Ah lo,I Ah hi] 291) keC).trans j;have w:=(Df W ⟨g,off+2,Y⟩ (E #[I Ah lo,I Ah hi] 291) B0).trans k;have c2:=BB (BI W (E #[I Ah lo,I Ah hi] 291)) 0;have y:=BB (BI W (E #[I Ah lo,I Ah hi] 291)) 1;have q1:decide (d<lo)=false:=B4
 have L:decide (hi<d)=false:=ke2
 have P:decide (a<128)=false:=Bm
 have R:decide (191<a)=true:=kfk
 have N:decide ((a:Int)<128)=false:=Ax
 have Q:decide ((191:Int)<a)=true:=Ax
 go_enter func247,ntmps247;go_wp2
 go_quiet (fail)
 go_wp2;go_ret;exact⟨Z,h.trans ((F9 _ nq).mono h.size)⟩
def iX(W:O)(g off p:Nat)(f d a x c i lo hi:Nat)(b:Fe f x c i lo hi)(hb:f<256)(F:3<c)(B:W.cell? ⟨g,off,Y⟩=U (I Ah f))(j:W.cell? ⟨g,off+1,Y⟩=U (I Ah d))(k:W.cell? ⟨g,off+2,Y⟩=U (I Ah a))(l:U8 W)(r:¬d<lo)(s:¬hi<d)(t:¬a<128)(u:¬191<a):Am X 247 #[G (U ⟨g,off,Y⟩) 3 p] W λe m=>e=Af (Ac false)/\A0 W m:=by
 have q:=l.1 f hb;rw[b.fx]at q;have C:=b.fsz;have H:wrap64 (c:Int)=c:=B8
 obtain⟨n,o⟩:=Hc b l;have D:x/16<16:=keF
 rw[<-b.fi]at n o;have z:decide (c<=3)=false:=Ax
 have A:¬c<=3:=J
 have h:Hid (A0 W (W.alloc (E #[I Ah lo,I Ah hi] 291))):=BN;have v:=(Df W ⟨g,off+1,Y⟩ (E #[I Ah lo,I Ah hi] 291) keC).trans j;have w:=(Df W ⟨g,off+2,Y⟩ (E #[I Ah lo,I Ah hi] 291) B0).trans k;have c2:=BB (BI W (E #[I Ah lo,I Ah hi] 291)) 0;have y:=BB (BI W (E #[I Ah lo,I Ah hi] 291)) 1;have q1:decide (d<lo)=false:=B4
 have L:decide (hi<d)=false:=ke2
 have P:decide (a<128)=false:=Bm
 have R:decide (191<a)=false:=kfk
 have N:decide ((a:Int)<128)=false:=Ax
 have Q:decide ((191:Int)<a)=false:=Ax
 go_enter func247,ntmps247;go_wp2
 go_quiet (fail)
 go_wp2;go_ret;exact⟨Z,h.trans ((F9 _ nq).mono h.size)⟩
def QO(W:O)(g off l n:Nat)(c x b i lo hi:Nat)(a:Fe c x b i lo hi)(hb:c<256)(A:x<240)(u:W.cell? ⟨g,off,Y⟩=U (I Ah c))(d:U8 W)(y:1<=n)(o:n<b):Am X 255 #[G (U ⟨g,off,Y⟩) n l] W λe h=>e=Af (Aa #[I .i32 65533,I K 1])/\A0 W h:=by
 have m:=d.1 c hb;rw[a.fx]at m;have v:=a.fsz;have z:wrap64 (b:Int)=b:=AK
 obtain⟨j,k⟩:=Hc a d;have w:x/16<16:=AP
 rw[<-a.fi]at j k;have B:decide (240<=(x:Int))=false:=Ax
 have C:decide (240<=x)=false:=Ax
 have f:Hid (A0 W (W.alloc (E #[I Ah lo,I Ah hi] 291))):=BN;have c2:=BB (BI W (E #[I Ah lo,I Ah hi] 291)) 0;have p:=BB (BI W (E #[I Ah lo,I Ah hi] 291)) 1;have q:decide ((n:Int)<1)=false:=Ax
 have r:decide (n<1)=false:=Ax
 have s:decide (n<b)=true:=keG
 have t:decide ((n:Int)<(b:Int))=true:=Ax
 go_enter func255,ntmps255;go_wp2
 go_ret2
 exact⟨Z,f⟩
def iY(W:O)(g off n:Nat)(b d x c i lo hi:Nat)(a:Fe b x c i lo hi)(hb:b<256)(y:x<240)(t:W.cell? ⟨g,off,Y⟩=U (I Ah b))(f:W.cell? ⟨g,off+1,Y⟩=U (I Ah d))(h:U8 W)(q:c=2)(p:d<lo):Am X 255 #[G (U ⟨g,off,Y⟩) 2 n] W λe k=>e=Af (Aa #[I .i32 65533,I K 1])/\A0 W k:=by
 have o:=h.1 b hb;rw[a.fx]at o;have u:=a.fsz;have w:wrap64 (c:Int)=c:=AK
 obtain⟨l,m⟩:=Hc a h;have v:x/16<16:=AP
 rw[<-a.fi]at l m;have z:decide (240<=(x:Int))=false:=Ax
 have A:decide (240<=x)=false:=Ax
 have j:Hid (A0 W (W.alloc (E #[I Ah lo,I Ah hi] 291))):=BN;have r:=(Df W ⟨g,off+1,Y⟩ (E #[I Ah lo,I Ah hi] 291) kfj).trans f;have c2:=BB (BI W (E #[I Ah lo,I Ah hi] 291)) 0;have s:=BB (BI W (E #[I Ah lo,I Ah hi] 291)) 1;have q1:decide (d<lo)=true:=keH
 subst q;go_enter func255,ntmps255;go_wp2
 go_ret2
 exact⟨Z,j⟩
def iZ(W:O)(g off n:Nat)(c b x d i lo hi:Nat)(a:Fe c x d i lo hi)(hb:c<256)(z:x<240)(u:W.cell? ⟨g,off,Y⟩=U (I Ah c))(f:W.cell? ⟨g,off+1,Y⟩=U (I Ah b))(h:U8 W)(r:d=2)(p:¬b<lo)(q:hi<b):Am X 255 #[G (U ⟨g,off,Y⟩) 2 n] W λe k=>e=Af (Aa #[I .i32 65533,I K 1])/\A0 W k:=by
 have o:=h.1 c hb;rw[a.fx]at o;have v:=a.fsz;have y:wrap64 (d:Int)=d:=AK
 obtain⟨l,m⟩:=Hc a h;have w:x/16<16:=AP
 rw[<-a.fi]at l m;have B:decide (240<=(x:Int))=false:=Ax
 have C:decide (240<=x)=false:=Ax
 have j:Hid (A0 W (W.alloc (E #[I Ah lo,I Ah hi] 291))):=BN;have s:=(Df W ⟨g,off+1,Y⟩ (E #[I Ah lo,I Ah hi] 291) kfj).trans f;have c2:=BB (BI W (E #[I Ah lo,I Ah hi] 291)) 0;have t:=BB (BI W (E #[I Ah lo,I Ah hi] 291)) 1;have q1:decide (b<lo)=false:=keH
 have A:decide (hi<b)=true:=by simpa using q
 subst r;go_enter func255,ntmps255;go_wp2
 go_ret2
 exact⟨Z,j⟩
def j2(W:O)(g off n:Nat)(c b x d i lo hi:Nat)(a:Fe c x d i lo hi)(hb:c<256)(A:x<240)(v:W.cell? ⟨g,off,Y⟩=U (I Ah c))(f:W.cell? ⟨g,off+1,Y⟩=U (I Ah b))(h:U8 W)(s:d=2)(q:¬b<lo)(r:¬hi<b):Am X 255 #[G (U ⟨g,off,Y⟩) 2 n] W λe k=>(∃o,e=Af (Aa #[I .i32 o,I K 2]))/\A0 W k:=by
 have p:=h.1 c hb;rw[a.fx]at p;have w:=a.fsz;have z:wrap64 (d:Int)=d:=AK
 obtain⟨l,m⟩:=Hc a h;have y:x/16<16:=AP
 rw[<-a.fi]at l m;have C:decide (240<=(x:Int))=false:=Ax
 have D:decide (240<=x)=false:=Ax
 have j:Hid (A0 W (W.alloc (E #[I Ah lo,I Ah hi] 291))):=BN;have t:=(Df W ⟨g,off+1,Y⟩ (E #[I Ah lo,I Ah hi] 291) kfj).trans f;have c2:=BB (BI W (E #[I Ah lo,I Ah hi] 291)) 0;have u:=BB (BI W (E #[I Ah lo,I Ah hi] 291)) 1;have q1:decide (b<lo)=false:=by simpa using q
 have B:decide (hi<b)=false:=B4
 subst s;go_enter func255,ntmps255;go_wp2
 go_ret2
 exact⟨⟨_,Z⟩,j⟩
def j3(W:O)(g off p:Nat)(c b d x f i lo hi:Nat)(a:Fe c x f i lo hi)(hb:c<256)(D:x<240)(y:W.cell? ⟨g,off,Y⟩=U (I Ah c))(h:W.cell? ⟨g,off+1,Y⟩=U (I Ah b))(j:W.cell? ⟨g,off+2,Y⟩=U (I Ah d))(k:U8 W)(t:f=3)(r:¬b<lo)(s:¬hi<b)(B:d<128):Am X 255 #[G (U ⟨g,off,Y⟩) 3 p] W λe m=>e=Af (Aa #[I .i32 65533,I K 1])/\A0 W m:=by
 have q:=k.1 c hb;rw[a.fx]at q;have z:=a.fsz;have C:wrap64 (f:Int)=f:=AK
 obtain⟨n,o⟩:=Hc a k;have A:x/16<16:=AP
 rw[<-a.fi]at n o;have N:decide (240<=(x:Int))=false:=Ax
 have P:decide (240<=x)=false:=Ax
 have l:Hid (A0 W (W.alloc (E #[I Ah lo,I Ah hi] 291))):=BN;have u:=(Df W ⟨g,off+1,Y⟩ (E #[I Ah lo,I Ah hi] 291) kfn).trans h;have v:=(Df W ⟨g,off+2,Y⟩ (E #[I Ah lo,I Ah hi] 291) keC).trans j;have c2:=BB (BI W (E #[I Ah lo,I Ah hi] 291)) 0;have w:=BB (BI W (E #[I Ah lo,I Ah hi] 291)) 1;have q1:decide (b<lo)=false:=B4
 have F:decide (hi<b)=false:=ke2
 subst t;have L:decide (d<128)=true:=Ax
 have H:decide ((d:Int)<128)=true:=Ax
 go_enter func255,ntmps255;go_wp2
 go_ret2
 exact⟨Z,l⟩
def j4(W:O)(g off p:Nat)(d c b x f i lo hi:Nat)(a:Fe d x f i lo hi)(hb:d<256)(D:x<240)(y:W.cell? ⟨g,off,Y⟩=U (I Ah d))(h:W.cell? ⟨g,off+1,Y⟩=U (I Ah c))(j:W.cell? ⟨g,off+2,Y⟩=U (I Ah b))(k:U8 W)(t:f=3)(r:¬c<lo)(s:¬hi<c)(B:191<b):Am X 255 #[G (U ⟨g,off,Y⟩) 3 p] W λe m=>e=Af (Aa #[I .i32 65533,I K 1])/\A0 W m:=by
 have q:=k.1 d hb;rw[a.fx]at q;have z:=a.fsz;have C:wrap64 (f:Int)=f:=AK
 obtain⟨n,o⟩:=Hc a k;have A:x/16<16:=AP
 rw[<-a.fi]at n o;have Q:decide (240<=(x:Int))=false:=Ax
 have R:decide (240<=x)=false:=Ax
 have l:Hid (A0 W (W.alloc (E #[I Ah lo,I Ah hi] 291))):=BN;have u:=(Df W ⟨g,off+1,Y⟩ (E #[I Ah lo,I Ah hi] 291) kfn).trans h;have v:=(Df W ⟨g,off+2,Y⟩ (E #[I Ah lo,I Ah hi] 291) keC).trans j;have c2:=BB (BI W (E #[I Ah lo,I Ah hi] 291)) 0;have w:=BB (BI W (E #[I Ah lo,I Ah hi] 291)) 1;have q1:decide (c<lo)=false:=B4
 have F:decide (hi<c)=false:=ke2
 subst t;have L:decide (b<128)=false:=Ax
 have H:decide ((b:Int)<128)=false:=Ax
 have P:decide (191<b)=true:=Ax
 have N:decide ((191:Int)<b)=true:=Ax
 go_enter func255,ntmps255;go_wp2
 go_ret2
 exact⟨Z,l⟩
def j5(W:O)(g off p:Nat)(d c a x f i lo hi:Nat)(b:Fe d x f i lo hi)(hb:d<256)(H:x<240)(z:W.cell? ⟨g,off,Y⟩=U (I Ah d))(h:W.cell? ⟨g,off+1,Y⟩=U (I Ah c))(j:W.cell? ⟨g,off+2,Y⟩=U (I Ah a))(k:U8 W)(u:f=3)(s:¬c<lo)(t:¬hi<c)(C:128<=a)(D:a<=191):Am X 255 #[G (U ⟨g,off,Y⟩) 3 p] W λe m=>(∃q,e=Af (Aa #[I .i32 q,I K 3]))/\A0 W m:=by
 have r:=k.1 d hb;rw[b.fx]at r;have A:=b.fsz;have F:wrap64 (f:Int)=f:=B8
 obtain⟨n,o⟩:=Hc b k;have B:x/16<16:=keF
 rw[<-b.fi]at n o;have S:decide (240<=(x:Int))=false:=Ax
 have V:decide (240<=x)=false:=Ax
 have l:Hid (A0 W (W.alloc (E #[I Ah lo,I Ah hi] 291))):=BN;have v:=(Df W ⟨g,off+1,Y⟩ (E #[I Ah lo,I Ah hi] 291) kfn).trans h;have w:=(Df W ⟨g,off+2,Y⟩ (E #[I Ah lo,I Ah hi] 291) keC).trans j;have c2:=BB (BI W (E #[I Ah lo,I Ah hi] 291)) 0;have y:=BB (BI W (E #[I Ah lo,I Ah hi] 291)) 1;have q1:decide (c<lo)=false:=ke2
 have L:decide (hi<c)=false:=Bm
 subst u;have P:decide (a<128)=false:=Ax
 have N:decide ((a:Int)<128)=false:=Ax
 have R:decide (191<a)=false:=Ax
 have Q:decide ((191:Int)<a)=false:=Ax
 go_enter func255,ntmps255;go_wp2
 go_ret2
 exact⟨⟨_,Z⟩,l⟩
def j6(W:O)(g off r:Nat)(d c a f x h i lo hi:Nat)(b:Fe d x h i lo hi)(hb:d<256)(P:x<240)(B:W.cell? ⟨g,off,Y⟩=U (I Ah d))(j:W.cell? ⟨g,off+1,Y⟩=U (I Ah c))(k:W.cell? ⟨g,off+2,Y⟩=U (I Ah a))(l:W.cell? ⟨g,off+3,Y⟩=U (I Ah f))(m:U8 W)(v:h=4)(t:¬c<lo)(u:¬hi<c)(H:128<=a)(L:a<=191)(F:f<128):Am X 255 #[G (U ⟨g,off,Y⟩) 4 r] W λe o=>e=Af (Aa #[I .i32 65533,I K 1])/\A0 W o:=by
 have s:=m.1 d hb;rw[b.fx]at s;have C:=b.fsz;have N:wrap64 (h:Int)=h:=B8
 obtain⟨p,q⟩:=Hc b m;have D:x/16<16:=keF
 rw[<-b.fi]at p q;have x1:decide (240<=(x:Int))=false:=Ax
 have x2:decide (240<=x)=false:=Ax
 have n:Hid (A0 W (W.alloc (E #[I Ah lo,I Ah hi] 291))):=BN;have w:=(Df W ⟨g,off+1,Y⟩ (E #[I Ah lo,I Ah hi] 291) keC).trans j;have y:=(Df W ⟨g,off+2,Y⟩ (E #[I Ah lo,I Ah hi] 291) B0).trans k;have z:=(Df W ⟨g,off+3,Y⟩ (E #[I Ah lo,I Ah hi] 291) (by rw[l];rfl)).trans l;have c2:=BB (BI W (E #[I Ah lo,I Ah hi] 291)) 0;have A:=BB (BI W (E #[I Ah lo,I Ah hi] 291)) 1;have q1:decide (c<lo)=false:=Bm
 have Q:decide (hi<c)=false:=kfk
 subst v;have S:decide (a<128)=false:=Ax
 have R:decide ((a:Int)<128)=false:=Ax
 have aa:decide (191<a)=false:=Ax
 have V:decide ((191:Int)<a)=false:=Ax
 have ac:decide (f<128)=true:=Ax
 have ab:decide ((f:Int)<128)=true:=Ax
 go_enter func255,ntmps255;go_wp2
 go_ret2
 exact⟨Z,n⟩
def j7(W:O)(g off r:Nat)(f d a c x h i lo hi:Nat)(b:Fe f x h i lo hi)(hb:f<256)(P:x<240)(B:W.cell? ⟨g,off,Y⟩=U (I Ah f))(j:W.cell? ⟨g,off+1,Y⟩=U (I Ah d))(k:W.cell? ⟨g,off+2,Y⟩=U (I Ah a))(l:W.cell? ⟨g,off+3,Y⟩=U (I Ah c))(m:U8 W)(v:h=4)(t:¬d<lo)(u:¬hi<d)(H:128<=a)(L:a<=191)(F:191<c):Am X 255 #[G (U ⟨g,off,Y⟩) 4 r] W λe o=>e=Af (Aa #[I .i32 65533,I K 1])/\A0 W o:=by
 have s:=m.1 f hb;rw[b.fx]at s;have C:=b.fsz;have N:wrap64 (h:Int)=h:=B8
 obtain⟨p,q⟩:=Hc b m;have D:x/16<16:=keF
 rw[<-b.fi]at p q;have x1:decide (240<=(x:Int))=false:=Ax
 have x2:decide (240<=x)=false:=Ax
 have n:Hid (A0 W (W.alloc (E #[I Ah lo,I Ah hi] 291))):=BN;have w:=(Df W ⟨g,off+1,Y⟩ (E #[I Ah lo,I Ah hi] 291) keC).trans j;have y:=(Df W ⟨g,off+2,Y⟩ (E #[I Ah lo,I Ah hi] 291) B0).trans k;have z:=(Df W ⟨g,off+3,Y⟩ (E #[I Ah lo,I Ah hi] 291) (by rw[l];rfl)).trans l;have c2:=BB (BI W (E #[I Ah lo,I Ah hi] 291)) 0;have A:=BB (BI W (E #[I Ah lo,I Ah hi] 291)) 1;have q1:decide (d<lo)=false:=Bm
 have Q:decide (hi<d)=false:=kfk
 subst v;have S:decide (a<128)=false:=Ax
 have R:decide ((a:Int)<128)=false:=Ax
 have aa:decide (191<a)=false:=Ax
 have V:decide ((191:Int)<a)=false:=Ax
 have ac:decide (c<128)=false:=Ax
 have ab:decide ((c:Int)<128)=false:=Ax
 have ae:decide (191<c)=true:=Ax
 have ad:decide ((191:Int)<c)=true:=Ax
 go_enter func255,ntmps255;go_wp2
 go_ret2
 exact⟨Z,n⟩
def j8(W:O)(g off r:Nat)(f d a b x h i lo hi:Nat)(c:Fe f x h i lo hi)(hb:f<256)(R:x<240)(C:W.cell? ⟨g,off,Y⟩=U (I Ah f))(j:W.cell? ⟨g,off+1,Y⟩=U (I Ah d))(k:W.cell? ⟨g,off+2,Y⟩=U (I Ah a))(l:W.cell? ⟨g,off+3,Y⟩=U (I Ah b))(m:U8 W)(w:h=4)(u:¬d<lo)(v:¬hi<d)(H:128<=a)(L:a<=191)(N:128<=b)(P:b<=191):Am X 255 #[G (U ⟨g,off,Y⟩) 4 r] W λe o=>(∃s,e=Af (Aa #[I .i32 s,I K 4]))/\A0 W o:=by
 have t:=m.1 f hb;rw[c.fx]at t;have D:=c.fsz;have Q:wrap64 (h:Int)=h:=At c.szlt
 obtain⟨p,q⟩:=Hc c m;have F:x/16<16:=by rw[c.fi];exact c.flt
 rw[<-c.fi]at p q;have x1:decide (240<=(x:Int))=false:=Ax
 have x2:decide (240<=x)=false:=Ax
 have n:Hid (A0 W (W.alloc (E #[I Ah lo,I Ah hi] 291))):=BN;have y:=(Df W ⟨g,off+1,Y⟩ (E #[I Ah lo,I Ah hi] 291) keC).trans j;have z:=(Df W ⟨g,off+2,Y⟩ (E #[I Ah lo,I Ah hi] 291) B0).trans k;have A:=(Df W ⟨g,off+3,Y⟩ (E #[I Ah lo,I Ah hi] 291) (by rw[l];rfl)).trans l;have c2:=BB (BI W (E #[I Ah lo,I Ah hi] 291)) 0;have B:=BB (BI W (E #[I Ah lo,I Ah hi] 291)) 1;have q1:decide (d<lo)=false:=kfk
 have S:decide (hi<d)=false:=by simpa using v
 subst w;have aa:decide (a<128)=false:=Ax
 have V:decide ((a:Int)<128)=false:=Ax
 have ac:decide (191<a)=false:=Ax
 have ab:decide ((191:Int)<a)=false:=Ax
 have ae:decide (b<128)=false:=Ax
 have ad:decide ((b:Int)<128)=false:=Ax
 have ag:decide (191<b)=false:=Ax
 have af:decide ((191:Int)<b)=false:=Ax
 go_enter func255,ntmps255;go_wp2
 go_ret2
 exact⟨⟨_,Z⟩,n⟩
def j9(W:O)(g off f n:Nat)(a:Nat)(k:firstT a=241)(hb:a<256)(p:1<=n)(o:W.cell? ⟨g,off,Y⟩=U (I Ah a))(j:U8 W):Am X 255 #[G (U ⟨g,off,Y⟩) n f] W λe d=>e=Af (Aa #[I .i32 65533,I K 1])/\d=W:=by
 have h:=j.1 a hb;rw[k]at h;have i:=Utf8W.drop_byte ⟨a,hb⟩;have b:Hid (bits .or .i32 (bits .andNot .i32 (a:Int) (-1)) (bits .and .i32 65533 (-1))=65533):=i;have l:decide ((n:Int)<1)=false:=Ax
 have m:decide (n<1)=false:=Ax
 have c:Hid (wrap32 517543559168/2147483648 = -1):=by
  show _=_;unfold wrap32;decide
 go_enter func255,ntmps255;go_wp2
 go_ret2
 refine⟨?_,Z⟩;show Ending.returned (Aa #[I .i32 (bits .or .i32 (bits .andNot .i32 (a:Int) (wrap32 517543559168/2147483648)) (bits .and .i32 65533 (wrap32 517543559168/2147483648))),I K 1])=_;rw[c.out,b.out]
def ja(W:O)(g off c n:Nat)(a:Nat)(hb:a<128)(k:1<=n)(j:W.cell? ⟨g,off,Y⟩=U (I Ah a)):Am X 248 #[G (U ⟨g,off,Y⟩) n c] W λe b=>e=Af (Aa #[I .i32 a,I K 1])/\b=W:=by
 have d:decide (0<n)=true:=Ax
 have f:decide (0<(n:Int))=true:=Ax
 have h:decide ((a:Int)<128)=true:=Ax
 have i:decide (a<128)=true:=by simpa using hb
 go_enter func248,ntmps248;go_wp2;refine wp_loop_rounds 1 ?_;rw[rounds_succ];go_wp2
 go_ret2
 exact⟨Z,Z⟩
def XI(W:O)(g off f n:Nat)(c:Nat)(hb:128<=c)(p:1<=n)(o:W.cell? ⟨g,off,Y⟩=U (I Ah c))(R:Int->Int->O->Prop)(h:Am X 255 #[G (U ⟨g,off,Y⟩) n f] W λe d=>∃a b,e=Af (Aa #[I .i32 a,I K b])/\R a b d):Am X 248 #[G (U ⟨g,off,Y⟩) n f] W λe d=>∃a b,e=Af (Aa #[I .i32 a,I K b])/\R a b d:=by
 have j:decide (0<n)=true:=Ax
 have k:decide (0<(n:Int))=true:=Ax
 have l:decide ((c:Int)<128)=false:=Ax
 have m:decide (c<128)=false:=Ax
 go_enter func248,ntmps248;go_wp2;refine wp_loop_rounds 1 ?_;rw[rounds_succ]
 go_wp2_with(first
  |(go_at_call 255;refine h.mono ?_;rintro e q ⟨a,b,rfl,i⟩))
 go_ret2
 exact⟨a,b,Z,i⟩
end
section
open Go.RowKit Go.Shelf
def mM(s:ByteArray)(w:O)(d:s.size<=1000000):Am X 149 #[.string s] w λe c=>e=Af (.string s)/\A0 w c:=by
 have a:=Tryz.stringslite_Clone s w J;go_enter func149,ntmps149
 go_wp2_with(first
  |(go_at_call 167;refine a.mono ?_;clear a;rintro e f ⟨rfl,b⟩))
 go_ret;exact⟨Z,b⟩
end
end Go.Proofs.YtnlnjkggkbbdhaaGreatDoor
