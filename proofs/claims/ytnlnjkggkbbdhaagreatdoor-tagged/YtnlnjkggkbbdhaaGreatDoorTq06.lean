import Derived.Test.YtnlnjkggkbbdhaaGreatDoorTq05
set_option maxRecDepth 100000
set_option maxHeartbeats 8000000
set_option linter.all false
namespace Go.Proofs.YtnlnjkggkbbdhaaGreatDoor
open Go.Proofs.Tryz
open Go.Value renaming int->I,slice->G
open Option renaming some->U,none->Y
open Go.IntKind renaming i64->K
open Go renaming World->O
open Go.Obj renaming cells->E
open Go.Proofs.Tryz renaming prog->X
open Go.Ending renaming returned->Af
open Go renaming Value->Al,Calls->Am
variable{a b base h i j k n p x:Nat}{e:Int×Int}{W W':O}{c:UInt8}{bs:A1}{L:List (Int×Int)}{m:Nat->Nat->Bool}{d l lim:Int}{S:Nat->Bool}
section
open Go.RowKit Go.Lib
def Fb(W:World)(base e:Nat)(v:Al)(bs:A1):Prop:=BG W base v bs/\v.ownBlock≠some e/\e<W.heap.size
def Ft(base e:Nat)(W W':World):Prop:=Below base W W'/\W'.heap[e]?=W.heap[e]?
def Ft.trans{e:Nat}{A B C:O}(h:Ft base e A B)(k:Ft base e B C):Ft base e A C:=⟨h.1.trans k.1,k.2.trans h.2⟩
def JO{e:Nat}{a:A4}{c:Nat}{b:UInt8}{u v':Al}(h:Fb W base e (G a n c) bs)(p:Cg b=u)(m:W'.ownsRow base 5 1 v' (bs.length+1) (bs.map Cg++[u]))(f:(W.alloc (Obj.cells #[u] 5)).grownBy W' (Value.slice a n c).ownBlock)(d:v'.ownBlock=(Value.slice a n c).ownBlock\/v'.ownBlock=U (W.alloc (Obj.cells #[u] 5)).heap.size):Fb W' base e v' (bs++[b])/\Ft base e W W':=by
 obtain⟨⟨l,j,_⟩,i,k⟩:=h;have g:=DD j l p m f;have o:=f.size;simp at o;refine⟨⟨g.1,?_,J⟩,g.2,?_⟩
 ·rcases d with d|d
  ·rw[d];exact i
  rw[d];simp;omega
 rw[f.block e Ax (λx=>i x.symm)];exact((C5 W.heap.size W).alloc (BM _) _).block e k
def ND{W2:O}{e:Nat}{ys zs:A1}{b:UInt8}{v' v2:Al}(h:Fb W' base e v' (bs++[b])/\Ft base e W W')(a:Fb W2 base e v2 ((bs++[b])++ys))(c:Ft base e W' W2)(k:b::ys=zs):Fb W2 base e v2 (bs++zs)/\Ft base e W W2:=by
 subst k;refine⟨?_,h.2.trans c⟩;rw[CN]at a;exact a
def NF(W:O)(d e:Nat)(v:Al)(bs:A1)(x w:Nat)(_hx:x<18446744073709551616)(S:w<=8)(Q:bs.length<=1000000000)(h:Fb W d e v bs):Am X 132 #[v,I .u64 x,I K w] W λr o=>∃i,r=Af i/\Fb o d e i (bs++BY x w)/\Ft d e W o:=by
 obtain⟨F,A,B,C,D⟩:=DZ Tryz.infoU8;obtain⟨a,n,c,rfl⟩:=h.1.2.2;have b:=T h;go_enter func132,ntmps132;go_wp2
 go_loopg[0,7] w (λg y z wr=>∃(f:A1) (a n c:_),y=G a n c/\z=I K ((g:Int)-1)/\g<=w/\f.length<=1000000000+(w-g)/\Hid (Fb wr d e (G a n c) f)/\Hid (Ft d e W wr)/\Hid (f++BY x g=bs++BY x w))
 case atStart=>exact⟨bs,a,n,c,rfl,AE,BM _,J,b,⟨C5 _ _,rfl⟩,rfl⟩
 case round =>
  obtain⟨f,a,n,c,rfl,rfl,P,V,b,j,l⟩:=hrel;have N:=b.1.2.1
  cases gk with
  |zero =>
   go_wp2;go_ret;have k:f=bs++BY x w:=by have:=l.out;simpa[BY]using this
   subst k;exact⟨_,Z,b,j⟩
  |succ k =>
   go_wp2_with(first
    |(at_builtin;refine JD _ Z _ _ 38 Z d 5 F (I .u8 0) 1 1 underlying38 A B C D Z Ay _ _ _ Z (b.1.1.alloc _) ⟨wr.heap.size,0,Y⟩ 1 1 [I .u8 ((x:Int)/2^(8*k)%256)] Z Z (EE _ _ _) (λu q=>by simp at q;subst q;rfl) AC J Ax ?_;intro i w5 p t R s;have m:=T (JO b (Xf x k) p t s);obtain⟨L,H,rfl⟩:=ownsRow_succ p))
   go_roundg k
   case measure=>omega
   case rel =>
    refine⟨f++[UInt8.ofNat (x/2^(8*k)%256)],_,_,_,Z,AE,J,by rw[BK];simp;omega,m.1,j.trans m.2,?_⟩;show _=_;have:=l.out;rw[BY]at this;rw[CN];exact this
def gO:∀x:Fin 24,bits .or .u8 96 (x.val:Int)=((96+x.val:Nat):Int):=Ay
def gP(W:O)(b e:Nat)(v:Al)(bs:A1)(x:Nat)(hx:x<4294967296)(hl:bs.length<=999999999)(h:Fb W b e v bs):Am X 133 #[v,I .u64 x] W λr L=>∃j,r=Af j/\Fb L b e j (bs++CY x)/\Ft b e W L:=by
 obtain⟨B,w,y,z,A⟩:=DZ Tryz.infoU8;have hb:=h.1.2.1;obtain⟨n,ab,aa,rfl⟩:=h.1.2.2;have k:=T h;by_cases s:x<32
 ·have p:Hid (CY x=[UInt8.ofNat (160+x)]):=by show _=_;unfold CY;rw[BA s]
  have Q:=Xg ⟨x,s⟩;simp only[]at Q;have a:Hid (Cg (UInt8.ofNat (160+x))=I .u8 (bits .or .u8 160 (x:Int))):=by show _=_;rw[Q,IS _ J]
  have c:Hid (Cg (UInt8.ofNat (160+x))=I .u8 (160+(x:Int))):=B5
  go_enter func133,ntmps133
  go_wp2_with(first
   |(at_builtin;refine JD _ Z _ _ 38 Z b 5 B (I .u8 0) 1 1 underlying38 w y z A Z Ay _ _ _ Z (k.1.1.alloc _) ⟨W.heap.size,0,Y⟩ 1 1 [I .u8 (bits .or .u8 160 (x:Int))] Z Z (EE _ _ _) (λu f=>AR) AC J Ax ?_;intro j g d m F l;have i:=T (JO k a d m l);obtain⟨D,C,rfl⟩:=ownsRow_succ d)
   |(at_builtin;refine JD _ Z _ _ 38 Z b 5 B (I .u8 0) 1 1 underlying38 w y z A Z Ay _ _ _ Z (k.1.1.alloc _) ⟨W.heap.size,0,Y⟩ 1 1 [I .u8 (160+(x:Int))] Z Z (EE _ _ _) (λu f=>AR) AC J Ax ?_;intro j g d m F l;have i:Hid (Fb g b e j (bs++[UInt8.ofNat (160+x)])/\Ft b e W g):=JO k c d m l;obtain⟨D,C,rfl⟩:=ownsRow_succ d))
  go_ret;rw[p.out];exact⟨_,Z,i⟩
 by_cases H:x<=255
 ·have p:Hid (CY x=217::BY x 1):=by show _=_;unfold CY;rw[Bz s];rw[BA H]
  go_enter func133,ntmps133
  go_wp2_with(first
   |(at_builtin;refine JD _ Z _ _ 38 Z b 5 B (I .u8 0) 1 1 underlying38 w y z A Z Ay _ _ _ Z (k.1.1.alloc _) ⟨W.heap.size,0,Y⟩ 1 1 [I .u8 217] Z Z (EE _ _ _) (λu f=>AR) AC J Ax ?_;intro j g d m F l;have i:Hid (Fb g b e j (bs++[217])/\Ft b e W g):=JO k Z d m l;obtain⟨D,C,rfl⟩:=ownsRow_succ d)
   |(go_at_call 132;refine(NF _ b e _ _ x 1 J J Ax i.1).mono ?_;rintro r V ⟨S,rfl,o,t⟩;obtain⟨N,R,P,rfl⟩:=o.1.2.2;have q:=T (ND i o t (p.out.symm))))
  go_ret;exact⟨_,Z,q⟩
 by_cases c2:x<=65535
 ·have p:Hid (CY x=218::BY x 2):=by show _=_;unfold CY;rw[Bz s];rw[Bz H];rw[BA c2]
  go_enter func133,ntmps133
  go_wp2_with(first
   |(at_builtin;refine JD _ Z _ _ 38 Z b 5 B (I .u8 0) 1 1 underlying38 w y z A Z Ay _ _ _ Z (k.1.1.alloc _) ⟨W.heap.size,0,Y⟩ 1 1 [I .u8 218] Z Z (EE _ _ _) (λu f=>AR) AC J Ax ?_;intro j g d m F l;have i:Hid (Fb g b e j (bs++[218])/\Ft b e W g):=JO k Z d m l;obtain⟨D,C,rfl⟩:=ownsRow_succ d)
   |(go_at_call 132;refine(NF _ b e _ _ x 2 J J Ax i.1).mono ?_;rintro r V ⟨S,rfl,o,t⟩;obtain⟨N,R,P,rfl⟩:=o.1.2.2;have q:=T (ND i o t (p.out.symm))))
  go_ret;exact⟨_,Z,q⟩
 have p:Hid (CY x=219::BY x 4):=by show _=_;unfold CY;rw[Bz s];rw[Bz H];rw[Bz c2]
 go_enter func133,ntmps133
 go_wp2_with(first
  |(at_builtin;refine JD _ Z _ _ 38 Z b 5 B (I .u8 0) 1 1 underlying38 w y z A Z Ay _ _ _ Z (k.1.1.alloc _) ⟨W.heap.size,0,Y⟩ 1 1 [I .u8 219] Z Z (EE _ _ _) (λu f=>AR) AC J Ax ?_;intro j g d m F l;have i:Hid (Fb g b e j (bs++[219])/\Ft b e W g):=JO k Z d m l;obtain⟨D,C,rfl⟩:=ownsRow_succ d)
  |(go_at_call 132;refine(NF _ b e _ _ x 4 J J Ax i.1).mono ?_;rintro r V ⟨S,rfl,o,t⟩;obtain⟨N,R,P,rfl⟩:=o.1.2.2;have q:=T (ND i o t (p.out.symm))))
 go_ret;exact⟨_,Z,q⟩
def gQ(W:O)(b e:Nat)(v:Al)(bs:A1)(x:Nat)(hx:x<4294967296)(hl:bs.length<=999999999)(h:Fb W b e v bs):Am X 98 #[v,I .u8 3,I .u64 x] W λr L=>∃j,r=Af j/\Fb L b e j (bs++BW 3 x)/\Ft b e W L:=by
 obtain⟨B,w,y,z,A⟩:=DZ Tryz.infoU8;have hb:=h.1.2.1;obtain⟨n,ab,aa,rfl⟩:=h.1.2.2;have k:=T h;by_cases s:x<24
 ·have p:Hid (BW 3 x=[UInt8.ofNat (96+x)]):=by show _=_;unfold BW;rw[BA s]
  have Q:=gO ⟨x,s⟩;simp only[]at Q;have a:Hid (Cg (UInt8.ofNat (96+x))=I .u8 (bits .or .u8 96 (x:Int))):=by show _=_;rw[Q,IS _ J]
  have c:Hid (Cg (UInt8.ofNat (96+x))=I .u8 (96+(x:Int))):=B5
  go_enter func98,ntmps98
  go_wp2_with(first
   |(at_builtin;refine JD _ Z _ _ 38 Z b 5 B (I .u8 0) 1 1 underlying38 w y z A Z Ay _ _ _ Z (k.1.1.alloc _) ⟨W.heap.size,0,Y⟩ 1 1 [I .u8 (bits .or .u8 96 (x:Int))] Z Z (EE _ _ _) (λu f=>AR) AC J Ax ?_;intro j g d m F l;have i:=T (JO k a d m l);obtain⟨D,C,rfl⟩:=ownsRow_succ d)
   |(at_builtin;refine JD _ Z _ _ 38 Z b 5 B (I .u8 0) 1 1 underlying38 w y z A Z Ay _ _ _ Z (k.1.1.alloc _) ⟨W.heap.size,0,Y⟩ 1 1 [I .u8 (96+(x:Int))] Z Z (EE _ _ _) (λu f=>AR) AC J Ax ?_;intro j g d m F l;have i:Hid (Fb g b e j (bs++[UInt8.ofNat (96+x)])/\Ft b e W g):=JO k c d m l;obtain⟨D,C,rfl⟩:=ownsRow_succ d))
  go_ret;rw[p.out];exact⟨_,Z,i⟩
 by_cases H:x<=255
 ·have p:Hid (BW 3 x=120::BY x 1):=by show _=_;unfold BW;rw[Bz s];rw[BA H];rfl
  go_enter func98,ntmps98
  go_wp2_with(first
   |(at_builtin;refine JD _ Z _ _ 38 Z b 5 B (I .u8 0) 1 1 underlying38 w y z A Z Ay _ _ _ Z (k.1.1.alloc _) ⟨W.heap.size,0,Y⟩ 1 1 [I .u8 120] Z Z (EE _ _ _) (λu f=>AR) AC J Ax ?_;intro j g d m F l;have i:Hid (Fb g b e j (bs++[120])/\Ft b e W g):=JO k Z d m l;obtain⟨D,C,rfl⟩:=ownsRow_succ d)
   |(go_at_call 132;refine(NF _ b e _ _ x 1 J J Ax i.1).mono ?_;rintro r V ⟨S,rfl,o,t⟩;obtain⟨N,R,P,rfl⟩:=o.1.2.2;have q:=T (ND i o t (p.out.symm))))
  go_ret;exact⟨_,Z,q⟩
 by_cases c2:x<=65535
 ·have p:Hid (BW 3 x=121::BY x 2):=by show _=_;unfold BW;rw[Bz s];rw[Bz H];rw[BA c2];rfl
  go_enter func98,ntmps98
  go_wp2_with(first
   |(at_builtin;refine JD _ Z _ _ 38 Z b 5 B (I .u8 0) 1 1 underlying38 w y z A Z Ay _ _ _ Z (k.1.1.alloc _) ⟨W.heap.size,0,Y⟩ 1 1 [I .u8 121] Z Z (EE _ _ _) (λu f=>AR) AC J Ax ?_;intro j g d m F l;have i:Hid (Fb g b e j (bs++[121])/\Ft b e W g):=JO k Z d m l;obtain⟨D,C,rfl⟩:=ownsRow_succ d)
   |(go_at_call 132;refine(NF _ b e _ _ x 2 J J Ax i.1).mono ?_;rintro r V ⟨S,rfl,o,t⟩;obtain⟨N,R,P,rfl⟩:=o.1.2.2;have q:=T (ND i o t (p.out.symm))))
  go_ret;exact⟨_,Z,q⟩
 have p:Hid (BW 3 x=122::BY x 4):=by show _=_;unfold BW;rw[Bz s];rw[Bz H];rw[Bz c2];rw[BA J];rfl
 go_enter func98,ntmps98
 go_wp2_with(first
  |(at_builtin;refine JD _ Z _ _ 38 Z b 5 B (I .u8 0) 1 1 underlying38 w y z A Z Ay _ _ _ Z (k.1.1.alloc _) ⟨W.heap.size,0,Y⟩ 1 1 [I .u8 122] Z Z (EE _ _ _) (λu f=>AR) AC J Ax ?_;intro j g d m F l;have i:Hid (Fb g b e j (bs++[122])/\Ft b e W g):=JO k Z d m l;obtain⟨D,C,rfl⟩:=ownsRow_succ d)
  |(go_at_call 132;refine(NF _ b e _ _ x 4 J J Ax i.1).mono ?_;rintro r V ⟨S,rfl,o,t⟩;obtain⟨N,R,P,rfl⟩:=o.1.2.2;have q:=T (ND i o t (p.out.symm))))
 go_ret;exact⟨_,Z,q⟩
def gR(W:O)(b e:Nat)(v:Al)(bs l:A1)(z:bs.length<=999999999)(P:l.length<=999999999)(h:Fb W b e v bs):Am X 99 #[v,.string ⟨l.toArray⟩] W λr j=>∃g,r=Af g/\BG j b g (bs++(BW 3 l.length++l))/\Ft b e W j:=by
 obtain⟨F,y,B,C,D⟩:=DZ Tryz.infoU8;have t:=gQ W b e v bs l.length J z h;have N:(BW 3 l.length).length<=9:=by
  unfold BW;have w:∀x k,(BY x k).length=k:=λx k=>keM
  repeat' split
  all_goals simp[w]
 have p:(⟨l.toArray⟩:ByteArray).size=l.length:=Hm ..;obtain⟨a,n,c,rfl⟩:=h.1.2.2;go_enter func99,ntmps99
 go_wp2_with(first
  |(go_at_call 98;refine t.mono ?_;rintro r q ⟨S,rfl,m,u⟩;obtain⟨L,R,c2,rfl⟩:=m.1.2.2;have d:=T m;have s:=T u)
  |(at_builtin;refine wpList_append_own_string _ Z _ _ 38 9 Z b 5 F underlying38 underlying9 y B C D _ _ _ Z d.1.1 ⟨l.toArray⟩ Z (by rw[p,BK];unfold maxLen;omega) (by rw[p,BK];omega) d.1.2.1 ?_;intro g i A o Q;have f:Hid ((BG i b g ((bs++BW 3 l.length)++l)/\Below b q i)/\i.heap[e]?=q.heap[e]?):=⟨NC d.1 A o,o.block e d.2.2 (λx=>d.2.1 x.symm)⟩))
 go_ret;rw[CN]at f;exact⟨_,Z,f.1.1,s.trans ⟨f.1.2,f.2⟩⟩
def gS(W:O)(b e:Nat)(v:Al)(bs l:A1)(z:bs.length<=999999999)(P:l.length<=999999999)(h:Fb W b e v bs):Am X 102 #[v,.string ⟨l.toArray⟩] W λr j=>∃g,r=Af g/\BG j b g (bs++(CY l.length++l))/\Ft b e W j:=by
 obtain⟨F,y,B,C,D⟩:=DZ Tryz.infoU8;have t:=gP W b e v bs l.length J z h;have N:(CY l.length).length<=9:=by
  unfold CY;have w:∀x k,(BY x k).length=k:=λx k=>keM
  repeat' split
  all_goals simp[w]
 have p:(⟨l.toArray⟩:ByteArray).size=l.length:=Hm ..;obtain⟨a,n,c,rfl⟩:=h.1.2.2;go_enter func102,ntmps102
 go_wp2_with(first
  |(go_at_call 133;refine t.mono ?_;rintro r q ⟨S,rfl,m,u⟩;obtain⟨L,R,c2,rfl⟩:=m.1.2.2;have d:=T m;have s:=T u)
  |(at_builtin;refine wpList_append_own_string _ Z _ _ 38 9 Z b 5 F underlying38 underlying9 y B C D _ _ _ Z d.1.1 ⟨l.toArray⟩ Z (by rw[p,BK];unfold maxLen;omega) (by rw[p,BK];omega) d.1.2.1 ?_;intro g i A o Q;have f:Hid ((BG i b g ((bs++CY l.length)++l)/\Below b q i)/\i.heap[e]?=q.heap[e]?):=⟨NC d.1 A o,o.block e d.2.2 (λx=>d.2.1 x.symm)⟩))
 go_ret;rw[CN]at f;exact⟨_,Z,f.1.1,s.trans ⟨f.1.2,f.2⟩⟩
end
section
open Go.RowKit Go.Deep
def FW(L:List (Int×Int))(a b:Nat):Prop:=∀S:Nat->Prop,S a->(∀e,e∈L->S e.1.toNat->S e.2.toNat)->S b
def FW.refl(L:List (Int×Int))(a:Nat):FW L a a:=λ_ h _=>h
def FW.trans{c:Nat}(h:FW L a b)(k:FW L b c):FW L a c:=λS e d=>k S (h S e d) d
def FW.edge(h:e∈L):FW L e.1.toNat e.2.toNat:=λ_ a b=>b e h a
def nG(h:m i j=true):Ji m e i j=true:=by
 unfold Ji Gw;split<;>simp_all
def nH(m:Nat->Nat->Bool)(e:Int×Int):Ji m e e.1.toNat e.2.toNat=true:=by simp[Ji,Gw]
def Zu(L:List (Int×Int)):∀(m:Nat->Nat->Bool) (i j:Nat),m i j=true->L.foldl Ji m i j=true:=by
 induction L with
 |nil=>intro m i j h;exact h
 |cons e L a=>intro m i j h;exact a _ i j (nG h)
def nI(L:List (Int×Int)):∀(m:Nat->Nat->Bool) (e:Int×Int),e∈L->L.foldl Ji m e.1.toNat e.2.toNat=true:=by
 induction L with
 |nil=>intro m e h;cases h
 |cons x L a =>
  intro m e h
  cases Ho.1 h with
  |inl h=>subst h;exact Zu L _ _ _ (nH m e)
  |inr h=>exact a _ e h
def nJ(P:Nat->Nat->Prop)(L:List (Int×Int)):∀(m:Nat->Nat->Bool),(∀i j,m i j=true->P i j)->(∀e,e∈L->P e.1.toNat e.2.toNat)->∀i j,L.foldl Ji m i j=true->P i j:=by
 induction L with
 |nil=>intro m h _;exact h
 |cons x L f =>
  intro m h b;refine f (Ji m x) (λi j a=>?_) (λe d=>b e (I2 _ d));unfold Ji Gw at a;split at a
  ·rename_i c
   obtain⟨rfl,rfl⟩:=c;exact b x (Hl ..)
  exact h i j a
def nK(h:Io n L i j=true):FW L i j :=
 nJ (FW L) L (JM n) (λi j b=>by have:=CD b;rw[this.1];exact FW.refl _ _) (λ_ a=>FW.edge a) i j h
def Rr{l:Nat}(H:fst n k m l h i j=true):m i j=true\/(m i k=true/\m k j=true):=by
 unfold fst at H;simp only[Mq,Dw]at H;rcases H with H|⟨_,H⟩
 ·exact .inl H
 exact .inr H
def Zv{l:Nat}(H:m i j=true):fst n k m l h i j=true:=by
 unfold fst;rw[H];rfl
def Rs(hi:i<n)(c:j<n)(a:m i k=true)(b:m k j=true):fst n k m n 0 i j=true:=by
 unfold fst;rw[a,b,CH J];simp
def nL:∀(k i j:Nat),Gc n k (Io n L) i j=true->FW L i j:=by
 intro k
 induction k with
 |zero=>intro i j h;exact nK h
 |succ k a =>
  intro i j h;rcases Rr h with h|⟨b,c⟩
  ·exact a i j h
  exact(a i k b).trans (a k j c)
def Zw(h:m i j=true):∀k,Gc n k m i j=true:=by
 intro k
 induction k with
 |zero=>exact h
 |succ k a=>exact Zv a
def nM:∀(k:Nat),k<=n->∀c i j,c<k->i<n->j<n->Gc n k m i c=true->Gc n k m c j=true->Gc n k m i j=true:=by
 intro k
 induction k with
 |zero=>intro _ c i j h;omega
 |succ k g =>
  intro v c i j t d f b a;have g:=g J;have q:∀x,Gc n (k+1) m x k=Gc n k m x k:=λx=>WU n k (Gc n k m) n 0 x;have s:∀x,Gc n (k+1) m k x=Gc n k m k x:=λx=>WV n k (Gc n k m) n 0 x;by_cases e:c=k
  ·subst e;rw[q]at b;rw[s]at a;exact Rs d f b a
  have o:c<k:=J
  have u:c<n:=J
  have p:k<n:=J
  rcases Rr b with b|⟨b,r⟩
  ·rcases Rr a with a|⟨a,l⟩
   ·exact Zv (g c i j o d f b a)
   exact Rs d f (g c i k o d p b a) l
  rcases Rr a with a|⟨a,l⟩
  ·exact Rs d f b (g c k j o p f r a)
  exact Rs d f b l
def Un(c:Ek n L=true)(d:e∈L):e.1.toNat<n/\e.2.toNat<n:=by
 have:=E8.1 c e d;unfold FE at this;simp only[Dw]at this;obtain⟨⟨a,b⟩,_⟩:=this;have f:=CD a;have g:=CD b;omega
def nN(d:Ek n L=true)(f:a<n)(hb:b<n):CU n L a b=true↔FW L a b:=by
 constructor
 ·exact nL n a b
 intro h;have:=h (λx=>x<n->CU n L a x=true) (λ_=>Zw (Zu L _ _ _ (CH ⟨Z,f⟩)) n)
  (λe c g i=>nM n (BM _) e.1.toNat a e.2.toNat (Un d c).1 f i (g (Un d c).1) (Zw (nI L _ e c) n))
 exact this hb
def nO(h:S x=true):GV S k x=true:=by unfold GV;split<;>simp_all
def Zx(h:S x=true):Kf S e x=true:=by
 unfold Kf;split
 ·exact nO h
 exact h
def Rt(L:List (Int×Int)):∀{S:Nat->Bool} {x:Nat},S x=true->EL L S x=true:=by
 unfold EL
 induction L with
 |nil=>intro S x h;exact h
 |cons e L a=>intro S x h;exact a (Zx h)
def nP(L:List (Int×Int)):∀{S:Nat->Bool} {e:Int×Int},e∈L->S e.1.toNat=true->EL L S e.2.toNat=true:=by
 induction L with
 |nil=>intro S e h;cases h
 |cons x L b =>
  intro S e h a
  cases Ho.1 h with
  |inl h =>
   subst h;refine Rt L (S:=Kf S e) ?_;unfold Kf;rw[BA a];simp[GV]
  |inr h=>exact b (S:=Kf S x) h (Zx a)
def Zy(P:Nat->Prop)(L:List (Int×Int)):∀{S:Nat->Bool},(∀x,S x=true->P x)->(∀e,e∈L->P e.1.toNat->P e.2.toNat)->∀x,EL L S x=true->P x:=by
 induction L with
 |nil=>intro S h _;exact h
 |cons e L g =>
  intro S h b;refine g (S:=Kf S e) (λx a=>?_) (λd f=>b d (I2 _ f));unfold Kf at a;split at a
  ·rename_i hs
   unfold GV at a;split at a
   ·rename_i c;subst c;exact b e (Hl ..) (h _ hs)
   exact h x a
  exact h x a
def O1(L:List (Int×Int))(S:Nat->Bool):Prop:=∀e,e∈L->S e.1.toNat=true->S e.2.toNat=true
def Zz(h:O1 L S):EL L S=S:=by
 funext x;cases a:S x
 ·cases b:EL L S x
  ·rfl
  have:=Zy (λx=>S x=true) L (S:=S) (λ_ h=>h) h x b;rw[a]at this;cases this
 exact Rt L a
def Ru(n:Nat)(S:Nat->Bool):Nat:=((List.range n).filter S).length
def nQ(n:Nat)(S:Nat->Bool):Ru n S<=n:=by
 have:=List.length_filter_le S (List.range n);simpa[Ru]using this
def nR{T:Nat->Bool}(f:∀x,S x=true->T x=true):∀(l:List Nat) (y:Nat),y∈l->S y=false->T y=true->(l.filter S).length<(l.filter T).length:=by
 have g:∀l:List Nat,(l.filter S).length<=(l.filter T).length:=by
  intro l
  induction l with
  |nil=>simp
  |cons x l c =>
   cases a:S x
   ·rw[Sv (by simp[a])];exact C7 c (by rw[WL];split<;>simp)
   rw[Ow a,Ow (f x a)];simp only[Cu];omega
 intro l
 induction l with
 |nil=>intro y b;cases b
 |cons x l c =>
  intro y b d e
  cases Ho.1 b with
  |inl h =>
   subst h;rw[Sv (by simp[d]),Ow e];have:=g l;simp only[Cu];omega
  |inr h =>
   have:=c y h d e;cases a:S x
   ·rw[Sv (by simp[a])];exact CA this (by rw[WL];split<;>simp)
   rw[Ow a,Ow (f x a)];simp only[Cu];omega
def nS(g:Ek n L=true)(i:a<n):∀k,O1 L (DM L k (Dt a))\/k+1<=Ru n (DM L k (Dt a)):=by
 intro k
 induction k with
 |zero =>
  right;have:0<((List.range n).filter (Dt a)).length:=List.length_pos_of_mem (a:=a) (List.mem_filter.2 ⟨CV.2 i,by simp[Dt,GV]⟩);exact this
 |succ k m =>
  rcases m with h|h
  ·left;show O1 L (EL L (DM L k (Dt a)));rw[Zz h];exact h
  by_cases f:O1 L (DM L k (Dt a))
  ·left;show O1 L (EL L (DM L k (Dt a)));rw[Zz f];exact f
  right;have:∃e,e∈L/\DM L k (Dt a) e.1.toNat=true/\DM L k (Dt a) e.2.toNat=false:=by
   apply Sr;intro j;refine f (λe b c=>?_);cases d:DM L k (Dt a) e.2.toNat
   ·exact absurd ⟨e,b,c,d⟩ j
   rfl
  obtain⟨e,b,c,d⟩:=this;have o:=nR (S:=DM L k (Dt a)) (T:=EL L (DM L k (Dt a))) (λx l=>Rt L l) (List.range n) e.2.toNat (CV.2 (Un g b).2) d (nP L b c);show k+1+1<=((List.range n).filter (EL L (DM L k (Dt a)))).length;unfold Ru at h;omega
def nT:∀k x,DM L k (Dt a) x=true->FW L a x:=by
 intro k
 induction k with
 |zero =>
  intro x h;have h:Dt a x=true:=h;unfold Dt GV at h;split at h
  ·rename_i c;subst c;exact FW.refl _ _
  cases h
 |succ k f =>
  intro x h;exact Zy (λx=>FW L a x) L (S:=DM L k (Dt a)) f (λe d b=>b.trans (FW.edge d)) x h
def nU(h:S x=true):∀k,DM L k S x=true:=by
 intro k
 induction k with
 |zero=>exact h
 |succ k a=>exact Rt L a
def ZA(c:Ek n L=true)(d:a<n):Cb n L a b=true↔FW L a b:=by
 constructor
 ·exact nT n b
 intro h;have e:O1 L (DM L n (Dt a)):=by
  rcases nS c d n with h|h
  ·exact h
  have:=nQ n (DM L n (Dt a));omega
 exact h (λx=>DM L n (Dt a) x=true) (nU (by simp[Dt,GV]) n) e
def nV(c:Ek n L=true)(d:a<n)(hb:b<n):CU n L a b=Cb n L a b:=by
 rw[OD,nN c d hb,ZA c d]
def nW(b:Ek n L=true)(c:a<n):Cb n L a a=true:=(ZA b c).2 (FW.refl _ _)
def o9(c:Int)(L:List (Int×Int))(a:A4)(b:Nat)(i:L.length<=maxLen)(w:O)(g:FR w a L)(h:E9 c L=false):Am X 81 #[I K c,G a L.length b] w λe f=>e=Af (.tuple #[.agg C2,.bool false])/\A0 w f:=by
 by_cases d:1<=c/\c<=6/\L.length<=30
 ·obtain⟨n,rfl⟩:=Nh (show 0<=c by omega);have k:Ek n L=false:=by
   unfold E9 at h;rw[CH d,GS]at h;exact h
  refine(WZ n J J L a b d.2.2 w g).mono ?_;rintro e f ⟨rfl,j⟩;exact⟨by rw[Qx k],j⟩
 exact fg c L a b i w d
def oa(c:Int)(L:List (Int×Int))(a:A4)(b:Nat)(w:O)(g:FR w a L)(h:E9 c L=true):Am X 81 #[I K c,G a L.length b] w λe d=>e=Af (.tuple #[.agg (Cp c.toNat (CU c.toNat L)),.bool true])/\A0 w d:=by
 unfold E9 at h;rw[Dw]at h;have j:=CD h.1;obtain⟨n,rfl⟩:=Nh (show 0<=c by omega);refine(WZ n J J L a b j.2.2 w g).mono ?_;rintro e d ⟨rfl,i⟩;have f:Ek n L=true:=by have:=h.2;rwa[I3]at this
 exact⟨by rw[WY f,I3],i⟩
def Em(c:Int)(L:List (Int×Int))(d k:Int):Int :=
 if E9 c L&&CE c.toNat d&&CE c.toNat k then(if Gx c.toNat (CU c.toNat L)then 2 else if Hs c.toNat (CU c.toNat L)then 0 else 3)else 1
def Ie(c:Int)(L:List (Int×Int))(d k:Int):A3:=if Em c L d k=0 then Cp c.toNat (CU c.toNat L)else C2
def If(c:Int)(L:List (Int×Int))(d k:Int):Al:=.tuple #[.agg (Ie c L d k),.int .i64 (Em c L d k)]
def Uq{c:Int}{k:Int}(h:(E9 c L&&CE c.toNat d&&CE c.toNat k)=false):If c L d k=.tuple #[.agg C2,I K 1]:=by
 have e:Em c L d k=1:=by unfold Em;rw[h];rfl
 unfold If Ie;rw[e];rfl
def od{c:Int}{k:Int}(h:(E9 c L&&CE c.toNat d&&CE c.toNat k)=true)(a:Gx c.toNat (CU c.toNat L)=true):If c L d k=.tuple #[.agg C2,I K 2]:=by
 have e:Em c L d k=2:=by unfold Em;rw[h,a];rfl
 unfold If Ie;rw[e];rfl
def oe{c:Int}{k:Int}(h:(E9 c L&&CE c.toNat d&&CE c.toNat k)=true)(a:Gx c.toNat (CU c.toNat L)=false)(b:Hs c.toNat (CU c.toNat L)=false):If c L d k=.tuple #[.agg C2,I K 3]:=by
 have e:Em c L d k=3:=by unfold Em;rw[h,a,b];rfl
 unfold If Ie;rw[e];rfl
def og{c:Int}{k:Int}(h:(E9 c L&&CE c.toNat d&&CE c.toNat k)=true)(a:Gx c.toNat (CU c.toNat L)=false)(b:Hs c.toNat (CU c.toNat L)=true):If c L d k=.tuple #[.agg (Cp c.toNat (CU c.toNat L)),I K 0]:=by
 have e:Em c L d k=0:=by unfold Em;rw[h,a,b];rfl
 unfold If Ie;rw[e];rfl
structure Pp(w:World)(N:Nat)(arr A:A3)(W:World):Prop where
 below:A0 w W
 box:W.heap[w.heap.size]?=some (.cells arr 25)
 res:W.heap[w.heap.size+1]?=some (.cells C2 84)
 own:W.heap[N]?=some (.cells A 84)
 lo:w.heap.size+1<N
def Pp.step{w:O}{N:Nat}{arr A:A3}(h:Pp w N arr A W)(hb:A0 W W'):Pp w N arr A W':=by
 have a:=BC h.own;have:=h.lo;exact⟨h.below.trans (hb.mono h.below.size),(hb.block _ J).trans h.box,(hb.block _ J).trans h.res,(hb.block _ a).trans h.own,h.lo⟩
def ZI(w a:O)(arr A:A3)(hb:Below (w.heap.size+1+1) ((w.alloc (E arr 25)).alloc (E C2 84)) a):Pp w a.heap.size arr A (a.alloc (E A 84)):=by
 have b:=hb.size;simp only[BU,A0]at b;refine⟨(((BN).alloc Az _).trans (hb.mono J)).alloc J _,?_,?_,BI _ _,J⟩
 ·rw[BT _ _ _ J,hb.block _ J,BT _ _ _ Az];exact BI _ _
 rw[BT _ _ _ J,hb.block _ J];have:=BI (w.alloc (E arr 25)) (E C2 84);rwa[BU]at this
def oh(arr:Array Value)(c:Int)(L:List (Int×Int))(r:Option Addr)(A:Nat)(d k:Int)(f0:arr[0]?=some (.int .i64 c))(f1:arr[1]?=some (.slice r L.length A))(f2:arr[2]?=some (.int .i64 d))(u:arr[4]?=some (.int .i64 k))(P:L.length<=maxLen)(w:World)(N:FR w r L):Calls prog 51 #[.agg arr] w λe w'=>e=.returned (If c L d k)/\Below w.heap.size w w':=by
 have F:Hid (FR ((w.alloc (.cells arr 25)).alloc (.cells C2 84)) r L):=N.below ((BN).alloc Az _);have R:=T P;clear N P;cases i:E9 c L
 ·have j:Hid (If c L d k=.tuple #[.agg C2,.int .i64 1]):=Uq (by rw[i];rfl);have o:=o9 c L r A R.out _ F.out i;clear i;go_enter func51,ntmps51
  go_wp2_with(first
   |(refine I9 Z Z _ Z (w.heap.size+1) ?hN ?_;case hN=>(simp only[BU,A0];done))
   |(go_at_call 81;refine o.mono ?_;clear o;rintro e h ⟨rfl,B⟩;have b:=T (ZI w h arr C2 kfc))
   |(refine I9 Z Z _ Z h.heap.size Z ?_)
   |(refine Gb Z 84 _ Z _ Z _ [] ?hl Mx ?_;case hl=>simp)
   |(refine Co Z 84 _ _ Z h.heap.size C2 Z Z 84 C2 (BI h _) (CW (Cr _ _)) Z (Hr _ _) ?_;rw[FP])
   |(refine Co Z 84 _ _ Z (w.heap.size+1) C2 Z Z 84 C2 b.out.res (CW (Cr _ _)) Z (Hr _ _) ?_))
  refine Cc (Ht results51 _ _ (w.heap.size+1) 84 C2 (0,0) _ Z (Ca _ _ C2 _ _ _ b.out.res) underlying84 Z (CW (Cr _ _)) (.int .i64 1) Z) Z ⟨by rw[j.out],CF b.out.below J _⟩
 have o:=oa c L r A _ F.out i;have H:=T i;have aa:1<=c/\c<=6:=by
  unfold E9 at i;rw[Dw]at i;have:=CD i.1;omega
 clear i;obtain⟨n,rfl⟩:=Nh (show 0<=c by omega);have Q:n<=6:=J
 rw[I3]at o;have b:Hid (∀x,CE ((n:Int)).toNat x=CE n x):=λx=>by rw[I3]
 have S:Hid (CU ((n:Int)).toNat L=CU n L):=kft
 have s:Hid (Gx ((n:Int)).toNat (CU ((n:Int)).toNat L)=Gx n (CU n L)):=kft
 have y:Hid (Hs ((n:Int)).toNat (CU ((n:Int)).toNat L)=Hs n (CU n L)):=kft
 have D:Hid (Cp ((n:Int)).toNat (CU ((n:Int)).toNat L)=Cp n (CU n L)):=kft
 generalize CU n L=M at *;have hW:(CE n d=false/\Hid (If n L d k=.tuple #[.agg C2,.int .i64 1]))\/(CE n d=true/\CE n k=false/\Hid (If n L d k=.tuple #[.agg C2,.int .i64 1]))\/(CE n d=true/\CE n k=true/\Gx n M=true/\Hid (If n L d k=.tuple #[.agg C2,.int .i64 2]))\/(CE n d=true/\CE n k=true/\Gx n M=false/\Hs n M=false/\Hid (If n L d k=.tuple #[.agg C2,.int .i64 3]))\/(CE n d=true/\CE n k=true/\Gx n M=false/\Hs n M=true/\Hid (If n L d k=.tuple #[.agg (Cp n M),.int .i64 0])):=by
  cases m:CE n d
  ·exact .inl ⟨Z,Uq (by rw[b.out,b.out,m];simp)⟩
  cases q:CE n k
  ·exact .inr (.inl ⟨Z,Z,Uq (by rw[b.out,b.out,q];simp)⟩)
  have z:(E9 n L&&CE ((n:Int)).toNat d&&CE ((n:Int)).toNat k)=true:=by rw[b.out,b.out,m,q,H.out];rfl
  cases p:Gx n M
  ·cases v:Hs n M
   ·exact .inr (.inr (.inr (.inl ⟨Z,Z,Z,Z,oe z (s.out.trans p) (y.out.trans v)⟩)))
   exact .inr (.inr (.inr (.inr ⟨Z,Z,Z,Z,(og z (s.out.trans p) (y.out.trans v)).trans (by rw[D.out])⟩)))
  exact .inr (.inr (.inl ⟨Z,Z,Z,od z (s.out.trans p)⟩))
 clear b S s y D H;have t:True:=trivial;have V:=t;have W:=t;have T4:=t;rcases hW with⟨m,j⟩|⟨m,q,j⟩|⟨m,q,p,j⟩|⟨m,q,p,v,j⟩|⟨m,q,p,v,j⟩
 all_goals
  go_enter func51,ntmps51
  go_wp2_with(first
   |(refine I9 Z Z _ Z (w.heap.size+1) ?hN ?_;case hN=>(simp only[BU,A0];done))
   |(go_at_call 81;refine o.mono ?_;clear o;rintro e h ⟨rfl,B⟩;have a:Hid (Pp w h.heap.size arr (Cp n M) (h.alloc (.cells (Cp n M) 84))):=ZI w h arr _ kfc;have l:=(BB a.out.box 2).trans f2)
   |(refine I9 Z Z _ Z h.heap.size Z ?_)
   |(refine Co Z 84 _ _ Z h.heap.size (Cp n M) Z Z 84 C2 (BI h _) (CW (Cr _ _)) Bf (Hr _ _) ?_;rw[FP])
   |(refine C8 Z 84 _ Z _ Z _ _ _ _ a.out.own underlying84 Z (CW (Cr _ _)) ?_)
   |(refine DL 84 _ Z Z _ Z _ _ _ _ a.out.own underlying84 Z (CW (Cr _ _)) ?_)
   |(refine Gb Z 84 _ Z _ Z _ [] ?hl Mx ?_;case hl=>simp)
   |(go_at_call 82;clear t;refine(Nv _ n (GU n M).count d _).mono ?_;rintro e C ⟨rfl,g⟩;have f:=a.out.step g;clear a l;have a:=T f;clear f g;have l:=(BB a.out.box 4).trans u)
   |(go_at_call 82;clear V;refine(Nv _ n (GU n M).count k _).mono ?_;rintro e C ⟨rfl,g⟩;have f:=a.out.step g;clear a l;have a:=T f;clear f g;have l:=(BB a.out.box 4).trans u)
   |(go_at_call 83;clear W;refine(eO _ n M (GU n M) Q _).mono ?_;rintro e C ⟨rfl,g⟩;have f:=a.out.step g;clear a l;have a:=T f;clear f g;have l:=(BB a.out.box 4).trans u)
   |(go_at_call 84;clear T4;refine(eX _ n M (GU n M) Q _).mono ?_;rintro e C ⟨rfl,g⟩;have f:=a.out.step g;clear a l;have a:=T f;clear f g;have l:=(BB a.out.box 4).trans u)
   |(refine Co Z 84 _ _ Z (w.heap.size+1) C2 Z Z 84 C2 a.out.res (CW (Cr _ _)) Z (Hr _ _) ?_)
   |(refine Co Z 84 _ _ Z (w.heap.size+1) (Cp n M) Z Z 84 C2 a.out.res (CW (Cr _ _)) Bf (Hr _ _) ?_))
  first
  |refine Cc (Ht results51 _ _ (w.heap.size+1) 84 C2 (0,0) _ Z (Ca _ _ C2 _ _ _ a.out.res) underlying84 Z (CW (Cr _ _)) (.int .i64 _) Z) Z ⟨by rw[j.out],CF a.out.below J _⟩
  |refine Cc (Ht results51 _ _ (w.heap.size+1) 84 (Cp n M) (0,0) _ Z (Ca _ _ C2 _ _ _ a.out.res) underlying84 Z (CW (Cr _ _)) (.int .i64 0) Z) Z ⟨by rw[j.out],CF a.out.below J _⟩
end
section
open Go.RowKit
def Lm(bs:A1)(l lim:Int):Prop:=∀p:Nat,p<bs.length->((p:Int)<l↔(p:Int)<lim)
def C1(bs:A1)(lim:Int)(p:Nat):Prop:=p<=bs.length/\(p:Int)<=lim
def K2(h:bs[p]?=Y):Cy bs l p=false:=by
 unfold Cy;rw[CO (Ao (LC.1 h))];rfl
def Lu(b:p<=bs.length)(h:bs[p]?=Y)(e:Int):CS bs l p e=(9,(p:Int)):=by
 have:=LC.1 h;unfold CS;rw[Bz (λa=>J),BA J,show bs.length=p by omega]
def Jw(b:Lm bs l lim)(h:bs[p]?=U c)(e:(p:Int)=lim):Cy bs l p=false:=by
 have a:=Cf h;have d:=b p a;unfold Cy;rw[CO (p:=(p:Int)<l) J,Qm]
def IC(b:Lm bs l lim)(h:bs[p]?=U c)(f:(p:Int)=lim)(e:Int):CS bs l p e=(8,(p:Int)):=by
 have a:=Cf h;have d:=b p a;unfold CS;rw[BA J]
def Lv(b:Lm bs l lim)(hi:C1 bs lim p)(h:bs[p]?=U c)(f:¬(p:Int)=lim):Cy bs l p=true:=by
 have a:=Cf h;have d:=b p a;have e:=hi.2;unfold Cy;rw[CH a,CH (p:=(p:Int)<l) J];rfl
def J4(b:Lm bs l lim)(hi:C1 bs lim p)(h:bs[p]?=U c)(g:¬(p:Int)=lim)(e:Int):CS bs l p e=(e,(p:Int)):=by
 have a:=Cf h;have d:=b p a;have f:=hi.2;unfold CS;rw[Bz J,Bz J]
def Fp(hi:C1 bs lim p)(h:bs[p]?=U c)(d:¬(p:Int)=lim):C1 bs lim (p+1):=by
 have a:=Cf h;have b:=hi.2;exact⟨J,J⟩
def FL{α:Type}(bs:A1)(lim:Int)(r r':A5 α):Prop:=r=r'\/∃q:Nat,r=.error (8,(q:Int))/\(q:Int)=lim/\q<bs.length/\∃x,r'=.ok (x,q)
def KI(n:Lm bs l lim):∀(g p:Nat),C1 bs lim p->(∃q,Cd bs lim g p=.ok ((),q)/\DR bs l g p=q/\C1 bs lim q/\p<=q/\(bs.length+1<=p+g->∀f,Cd bs lim f q=.ok ((),q)))\/(∃q:Nat,Cd bs lim g p=.error (8,(q:Int))/\DR bs l g p=q/\(q:Int)=lim/\q<bs.length)
 |0,p,hi=>.inl ⟨p,rfl,rfl,hi,BM _,λh=>absurd h (Ao hi.1)⟩
 |g+1,p,hi=>by
  rw[Cd,DR]
  cases i:bs[p]? with
  |none =>
   refine .inl ⟨p,Z,Z,hi,BM _,λ_ f=>?_⟩
   cases f with
   |zero=>rfl
   |succ f=>rw[Cd,i]
  |some c =>
   simp only[];by_cases j:(p:Int)=lim
   ·rw[BA j];have m:=Cf i;rw[Bz (show¬(p:Int)<l by have:=n p m;omega)];exact .inr ⟨p,Z,Z,j,m⟩
   rw[Bz j];have m:=Cf i;rw[BA (show(p:Int)<l by have:=n p m;have:=hi.2;omega)];by_cases k:GW c=true
   ·rw[BA k,BA k];rcases KI n g (p+1) (Fp hi i j)with⟨q,a,b,c,d,e⟩|h
    ·exact .inl ⟨q,a,b,c,J,λo=>e J⟩
    exact .inr h
   rw[Bz k,Bz k];refine .inl ⟨p,Z,Z,hi,BM _,λ_ f=>?_⟩
   cases f with
   |zero=>rfl
   |succ f =>
    rw[Cd,i];simp only[];rw[Bz j,Bz k]
end
end Go.Proofs.YtnlnjkggkbbdhaaGreatDoor
