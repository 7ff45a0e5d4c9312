import Derived.Lib.AppendStr
import Derived.Test.YtnlnjkggkbbdhaaGreatDoorShelf
import Derived.Laws.Runes
import Derived.Laws.RangeAny
import Derived.Test.YtnlnjkggkbbdhaaGreatDoorTq03
import Derived.Test.YtnlnjkggkbbdhaaGreatDoorTq04
set_option maxRecDepth 100000
set_option maxHeartbeats 8000000
set_option linter.all false
namespace Go.Proofs.YtnlnjkggkbbdhaaGreatDoor
open Go.Proofs.Tryz
open Go.Value renaming int->I,slice->G
open Option renaming some->U,none->Y
open Go.IntKind renaming i64->K
open Go renaming World->O
open Go.Obj renaming cells->E
open Go.Proofs.Tryz renaming prog->X
open Go.Value renaming int->A6,slice->A7,pointer->A8,string->A9,tuple->Aa,bool->Ac,iface->Ad
open Go.Ending renaming returned->Af
open Go renaming World->Ak,Value->Al,Calls->Am
variable{V V' W W' w:O}{b base n p:Nat}{fv v v':Al}{acc bs l:A1}{s:BO}{F:Nat->Prop}{Q:Exit->Act->O->Prop}{a:Act}{P:Program}{ps:List ByteArray}
section
open Go.RowKit Go.Lib
def gK(l:A1):strCells ⟨l.toArray⟩=l.map Cg:=by
 unfold strCells;simp[Cg]
def NC(h:BG W base v bs)(a:W'.ownsRow base 5 1 v' (bs.length+(⟨l.toArray⟩:ByteArray).size) (bs.map Cg++strCells ⟨l.toArray⟩))(d:W.grownBy W' v.ownBlock):BG W' base v' (bs++l)/\Below base W W':=by
 obtain⟨f,c,_⟩:=h;have b:=Jl (C5 base W) f d c;have i:(⟨l.toArray⟩:ByteArray).size=l.length:=Hm ..;rw[i,gK]at a;refine⟨⟨by rw[BK,G9];exact a,C7 c b.size,?_⟩,b⟩;rcases a.2 with⟨e,_⟩|⟨g,j,k,e,_⟩
 ·exact⟨Y,0,0,e⟩
 exact⟨_,_,_,e⟩
def gL(W:O)(b:Nat)(v:Al)(bs l:A1)(y:bs.length<=999999999)(Q:l.length<=999999999)(h:BG W b v bs):Am X 99 #[v,A9 ⟨l.toArray⟩] W λe f=>∃d,e=Af d/\BG f b d (bs++(BW 3 l.length++l))/\Below b W f:=by
 obtain⟨D,w,A,B,C⟩:=DZ Tryz.infoU8;have q:Am X 98 #[v,I .u8 3,I .u64 l.length] W λe f=>∃d,e=Af d/\BG f b d (bs++BW 3 l.length)/\Below b W f:=KZ W b v bs 3 l.length Ay J y h;have P:(BW 3 l.length).length<=9:=by
  unfold BW;have t:∀x k,(BY x k).length=k:=λx k=>keL
  repeat' split
  all_goals simp[t]
 have j:(⟨l.toArray⟩:ByteArray).size=l.length:=Hm ..;obtain⟨_,_,a,n,c,rfl⟩:=h;go_enter func99,ntmps99
 go_wp2_with(first
  |(go_at_call 98;refine q.mono ?_;rintro e N ⟨S,rfl,r,s⟩;obtain⟨L,p,o,H,c2,rfl⟩:=r;have i:Hid (BG N b (G o H c2) (bs++BW 3 l.length)):=⟨L,p,_,_,_,Z⟩;have m:=T s)
  |(at_builtin;refine wpList_append_own_string _ Z _ _ 38 9 Z b 5 D underlying38 underlying9 w A B C _ _ _ Z i.1 ⟨l.toArray⟩ Z (by rw[j,BK];unfold maxLen;omega) (by rw[j,BK];omega) i.2.1 ?_;intro d V z u R;have g:=T (NC i z u)))
 go_ret;rw[CN]at g;exact⟨_,Z,g.1,m.trans g.2⟩
def CY(x:Nat):A1:=if x<32 then[UInt8.ofNat (160+x)]else if x<=255 then 217::BY x 1 else if x<=65535 then 218::BY x 2 else 219::BY x 4
def Xg:∀x:Fin 32,bits .or .u8 160 (x.val:Int)=((160+x.val:Nat):Int):=Ay
def gM(W:O)(b:Nat)(v:Al)(bs:A1)(x:Nat)(S:x<4294967296)(R:bs.length<=999999999)(h:BG W b v bs):Am X 133 #[v,I .u64 x] W λe D=>∃i,e=Af i/\BG D b i (bs++CY x)/\Below b W D:=by
 obtain⟨Q,w,a,n,c,rfl⟩:=h;have j:=T Q;by_cases p:x<32
 ·have l:Hid (CY x=[UInt8.ofNat (160+x)]):=by show _=_;unfold CY;rw[BA p]
  have F:=Xg ⟨x,p⟩;simp only[]at F;have N:Hid (Cg (UInt8.ofNat (160+x))=I .u8 (bits .or .u8 160 (x:Int))):=by show _=_;rw[F,IS _ J]
  have P:Hid (Cg (UInt8.ofNat (160+x))=I .u8 (160+(x:Int))):=B5
  go_enter func133,ntmps133
  go_wp2_with(first
   |(at_builtin;refine Dh (bits .or .u8 160 (x:Int)) j ?_;intro i f d k B;have g:=T (DD w j N d k);obtain⟨A,z,rfl⟩:=ownsRow_succ d)
   |(at_builtin;refine Dh (160+(x:Int)) j ?_;intro i f d k B;have g:Hid (BG f b i (bs++[UInt8.ofNat (160+x)])/\Below b W f):=DD w j P d k;obtain⟨A,z,rfl⟩:=ownsRow_succ d))
  go_ret;rw[l.out];exact⟨_,Z,g⟩
 by_cases C:x<=255
 ·have l:Hid (CY x=217::BY x 1):=by show _=_;unfold CY;rw[Bz p];rw[BA C]
  go_enter func133,ntmps133
  go_wp2_with(first
   |(at_builtin;refine Dh 217 j ?_;intro i f d k B;have g:Hid (BG f b i (bs++[217])/\Below b W f):=DD w j Z d k;obtain⟨A,z,rfl⟩:=ownsRow_succ d)
   |(go_at_call 132;refine(Gf _ b _ _ x 1 J J Ax g.1).mono ?_;rintro e L ⟨H,rfl,r,u⟩;obtain⟨s,t,o,y,q,rfl⟩:=r;have m:=T (Fs g ⟨s,t,o,y,q,Z⟩ u (l.out.symm))))
  go_ret;exact⟨_,Z,m⟩
 by_cases c2:x<=65535
 ·have l:Hid (CY x=218::BY x 2):=by show _=_;unfold CY;rw[Bz p];rw[Bz C];rw[BA c2]
  go_enter func133,ntmps133
  go_wp2_with(first
   |(at_builtin;refine Dh 218 j ?_;intro i f d k B;have g:Hid (BG f b i (bs++[218])/\Below b W f):=DD w j Z d k;obtain⟨A,z,rfl⟩:=ownsRow_succ d)
   |(go_at_call 132;refine(Gf _ b _ _ x 2 J J Ax g.1).mono ?_;rintro e L ⟨H,rfl,r,u⟩;obtain⟨s,t,o,y,q,rfl⟩:=r;have m:=T (Fs g ⟨s,t,o,y,q,Z⟩ u (l.out.symm))))
  go_ret;exact⟨_,Z,m⟩
 have l:Hid (CY x=219::BY x 4):=by show _=_;unfold CY;rw[Bz p];rw[Bz C];rw[Bz c2]
 go_enter func133,ntmps133
 go_wp2_with(first
  |(at_builtin;refine Dh 219 j ?_;intro i f d k B;have g:Hid (BG f b i (bs++[219])/\Below b W f):=DD w j Z d k;obtain⟨A,z,rfl⟩:=ownsRow_succ d)
  |(go_at_call 132;refine(Gf _ b _ _ x 4 J J Ax g.1).mono ?_;rintro e L ⟨H,rfl,r,u⟩;obtain⟨s,t,o,y,q,rfl⟩:=r;have m:=T (Fs g ⟨s,t,o,y,q,Z⟩ u (l.out.symm))))
 go_ret;exact⟨_,Z,m⟩
def gN(W:O)(b:Nat)(v:Al)(bs l:A1)(y:bs.length<=999999999)(Q:l.length<=999999999)(h:BG W b v bs):Am X 102 #[v,A9 ⟨l.toArray⟩] W λe i=>∃g,e=Af g/\BG i b g (bs++(CY l.length++l))/\Below b W i:=by
 obtain⟨D,w,A,B,C⟩:=DZ Tryz.infoU8;have q:=gM W b v bs l.length J y h;have P:(CY l.length).length<=9:=by
  unfold CY;have t:∀x k,(BY x k).length=k:=λx k=>keL
  repeat' split
  all_goals simp[t]
 have j:(⟨l.toArray⟩:ByteArray).size=l.length:=Hm ..;obtain⟨_,_,a,n,c,rfl⟩:=h;go_enter func102,ntmps102
 go_wp2_with(first
  |(go_at_call 133;refine q.mono ?_;rintro e N ⟨S,rfl,r,s⟩;obtain⟨L,p,o,H,c2,rfl⟩:=r;have f:Hid (BG N b (G o H c2) (bs++CY l.length)):=⟨L,p,_,_,_,Z⟩;have m:=T s)
  |(at_builtin;refine wpList_append_own_string _ Z _ _ 38 9 Z b 5 D underlying38 underlying9 w A B C _ _ _ Z f.1 ⟨l.toArray⟩ Z (by rw[j,BK];unfold maxLen;omega) (by rw[j,BK];omega) f.2.1 ?_;intro g V z u R;have d:=T (NC f z u)))
 go_ret;rw[CN]at d;exact⟨_,Z,d.1,m.trans d.2⟩
def Fc(x:Nat):A1:=if x<=255 then 196::BY x 1 else if x<=65535 then 197::BY x 2 else 198::BY x 4
def Fd(x:Nat):A1:=if x<16 then[UInt8.ofNat (144+x)]else if x<=65535 then 220::BY x 2 else 221::BY x 4
def EY(x:Nat):A1:=if x<16 then[UInt8.ofNat (128+x)]else if x<=65535 then 222::BY x 2 else 223::BY x 4
def gT:∀x:Fin 16,bits .or .u8 144 (x.val:Int)=((144+x.val:Nat):Int):=Ay
def gU:∀x:Fin 16,bits .or .u8 128 (x.val:Int)=((128+x.val:Nat):Int):=Ay
def gV(W:O)(b:Nat)(v:Al)(bs:A1)(x:Nat)(N:x<4294967296)(L:bs.length<=999999999)(h:BG W b v bs):Am X 103 #[v,I .u64 x] W λe z=>∃g,e=Af g/\BG z b g (bs++Fc x)/\Below b W z:=by
 obtain⟨H,y,a,n,c,rfl⟩:=h;have j:=T H;by_cases w:x<=255
 ·have t:Hid (Fc x=196::BY x 1):=by show _=_;unfold Fc;rw[BA w]
  go_enter func103,ntmps103
  go_wp2_with(first
   |(at_builtin;refine Dh 196 j ?_;intro g i f s C;have d:Hid (BG i b g (bs++[196])/\Below b W i):=DD y j Z f s;obtain⟨B,A,rfl⟩:=ownsRow_succ f)
   |(go_at_call 132;refine(Gf _ b _ _ x 1 J J Ax d.1).mono ?_;rintro e F ⟨D,rfl,o,r⟩;obtain⟨p,q,l,u,m,rfl⟩:=o;have k:=T (Fs d ⟨p,q,l,u,m,Z⟩ r (t.out.symm))))
  go_ret;exact⟨_,Z,k⟩
 by_cases c2:x<=65535
 ·have t:Hid (Fc x=197::BY x 2):=by show _=_;unfold Fc;rw[Bz w];rw[BA c2]
  go_enter func103,ntmps103
  go_wp2_with(first
   |(at_builtin;refine Dh 197 j ?_;intro g i f s C;have d:Hid (BG i b g (bs++[197])/\Below b W i):=DD y j Z f s;obtain⟨B,A,rfl⟩:=ownsRow_succ f)
   |(go_at_call 132;refine(Gf _ b _ _ x 2 J J Ax d.1).mono ?_;rintro e F ⟨D,rfl,o,r⟩;obtain⟨p,q,l,u,m,rfl⟩:=o;have k:=T (Fs d ⟨p,q,l,u,m,Z⟩ r (t.out.symm))))
  go_ret;exact⟨_,Z,k⟩
 have t:Hid (Fc x=198::BY x 4):=by show _=_;unfold Fc;rw[Bz w];rw[Bz c2]
 go_enter func103,ntmps103
 go_wp2_with(first
  |(at_builtin;refine Dh 198 j ?_;intro g i f s C;have d:Hid (BG i b g (bs++[198])/\Below b W i):=DD y j Z f s;obtain⟨B,A,rfl⟩:=ownsRow_succ f)
  |(go_at_call 132;refine(Gf _ b _ _ x 4 J J Ax d.1).mono ?_;rintro e F ⟨D,rfl,o,r⟩;obtain⟨p,q,l,u,m,rfl⟩:=o;have k:=T (Fs d ⟨p,q,l,u,m,Z⟩ r (t.out.symm))))
 go_ret;exact⟨_,Z,k⟩
def gW(W:O)(b:Nat)(v:Al)(bs:A1)(x:Nat)(R:x<4294967296)(Q:bs.length<=999999999)(h:BG W b v bs):Am X 104 #[v,I .u8 144,I .u8 220,I .u64 x] W λe C=>∃f,e=Af f/\BG C b f (bs++Fd x)/\Below b W C:=by
 obtain⟨L,o,a,n,c,rfl⟩:=h;have j:=T L;by_cases m:x<16
 ·have l:Hid (Fd x=[UInt8.ofNat (144+x)]):=by show _=_;unfold Fd;rw[BA m]
  have D:=gT ⟨x,m⟩;simp only[]at D;have F:Hid (Cg (UInt8.ofNat (144+x))=I .u8 (bits .or .u8 144 (x:Int))):=by show _=_;rw[D,IS _ J]
  have H:Hid (Cg (UInt8.ofNat (144+x))=I .u8 (144+(x:Int))):=B5
  go_enter func104,ntmps104
  go_wp2_with(first
   |(at_builtin;refine Dh (bits .or .u8 144 (x:Int)) j ?_;intro f g d k A;have i:=T (DD o j F d k);obtain⟨t,s,rfl⟩:=ownsRow_succ d)
   |(at_builtin;refine Dh (144+(x:Int)) j ?_;intro f g d k A;have i:Hid (BG g b f (bs++[UInt8.ofNat (144+x)])/\Below b W g):=DD o j H d k;obtain⟨t,s,rfl⟩:=ownsRow_succ d))
  go_ret;rw[l.out];exact⟨_,Z,i⟩
 by_cases c2:x<=65535
 ·have l:Hid (Fd x=220::BY x 2):=by show _=_;unfold Fd;rw[Bz m];rw[BA c2]
  go_enter func104,ntmps104
  go_wp2_with(first
   |(at_builtin;refine Dh 220 j ?_;intro f g d k A;have i:Hid (BG g b f (bs++[220])/\Below b W g):=DD o j Z d k;obtain⟨t,s,rfl⟩:=ownsRow_succ d)
   |(go_at_call 132;refine(Gf _ b _ _ x 2 J J Ax i.1).mono ?_;rintro e P ⟨N,rfl,u,z⟩;obtain⟨w,y,q,B,r,rfl⟩:=u;have p:=T (Fs i ⟨w,y,q,B,r,Z⟩ z (l.out.symm))))
  go_ret;exact⟨_,Z,p⟩
 have l:Hid (Fd x=221::BY x 4):=by show _=_;unfold Fd;rw[Bz m];rw[Bz c2]
 go_enter func104,ntmps104
 go_wp2_with(first
  |(at_builtin;refine Dh 221 j ?_;intro f g d k A;have i:Hid (BG g b f (bs++[221])/\Below b W g):=DD o j Z d k;obtain⟨t,s,rfl⟩:=ownsRow_succ d)
  |(go_at_call 132;refine(Gf _ b _ _ x 4 J J Ax i.1).mono ?_;rintro e P ⟨N,rfl,u,z⟩;obtain⟨w,y,q,B,r,rfl⟩:=u;have p:=T (Fs i ⟨w,y,q,B,r,Z⟩ z (l.out.symm))))
 go_ret;exact⟨_,Z,p⟩
def gX(W:O)(b:Nat)(v:Al)(bs:A1)(x:Nat)(R:x<4294967296)(Q:bs.length<=999999999)(h:BG W b v bs):Am X 104 #[v,I .u8 128,I .u8 222,I .u64 x] W λe C=>∃f,e=Af f/\BG C b f (bs++EY x)/\Below b W C:=by
 obtain⟨L,o,a,n,c,rfl⟩:=h;have j:=T L;by_cases m:x<16
 ·have l:Hid (EY x=[UInt8.ofNat (128+x)]):=by show _=_;unfold EY;rw[BA m]
  have D:=gU ⟨x,m⟩;simp only[]at D;have F:Hid (Cg (UInt8.ofNat (128+x))=I .u8 (bits .or .u8 128 (x:Int))):=by show _=_;rw[D,IS _ J]
  have H:Hid (Cg (UInt8.ofNat (128+x))=I .u8 (128+(x:Int))):=B5
  go_enter func104,ntmps104
  go_wp2_with(first
   |(at_builtin;refine Dh (bits .or .u8 128 (x:Int)) j ?_;intro f g d k A;have i:Hid (BG g b f (bs++[UInt8.ofNat (128+x)])/\Below b W g):=DD o j F d k;obtain⟨t,s,rfl⟩:=ownsRow_succ d)
   |(at_builtin;refine Dh (128+(x:Int)) j ?_;intro f g d k A;have i:=T (DD o j H d k);obtain⟨t,s,rfl⟩:=ownsRow_succ d))
  go_ret;rw[l.out];exact⟨_,Z,i⟩
 by_cases c2:x<=65535
 ·have l:Hid (EY x=222::BY x 2):=by show _=_;unfold EY;rw[Bz m];rw[BA c2]
  go_enter func104,ntmps104
  go_wp2_with(first
   |(at_builtin;refine Dh 222 j ?_;intro f g d k A;have i:Hid (BG g b f (bs++[222])/\Below b W g):=DD o j Z d k;obtain⟨t,s,rfl⟩:=ownsRow_succ d)
   |(go_at_call 132;refine(Gf _ b _ _ x 2 J J Ax i.1).mono ?_;rintro e P ⟨N,rfl,u,z⟩;obtain⟨w,y,q,B,r,rfl⟩:=u;have p:=T (Fs i ⟨w,y,q,B,r,Z⟩ z (l.out.symm))))
  go_ret;exact⟨_,Z,p⟩
 have l:Hid (EY x=223::BY x 4):=by show _=_;unfold EY;rw[Bz m];rw[Bz c2]
 go_enter func104,ntmps104
 go_wp2_with(first
  |(at_builtin;refine Dh 223 j ?_;intro f g d k A;have i:Hid (BG g b f (bs++[223])/\Below b W g):=DD o j Z d k;obtain⟨t,s,rfl⟩:=ownsRow_succ d)
  |(go_at_call 132;refine(Gf _ b _ _ x 4 J J Ax i.1).mono ?_;rintro e P ⟨N,rfl,u,z⟩;obtain⟨w,y,q,B,r,rfl⟩:=u;have p:=T (Fs i ⟨w,y,q,B,r,Z⟩ z (l.out.symm))))
 go_ret;exact⟨_,Z,p⟩
end
section
open Go.RowKit
def EZ(bs:A1)(lim:Int):Nat->Nat->A1->A5 A1
 |0,p,acc=>.ok (acc,p)
 |k+1,p,acc=>match bs[p]? with
  |none=>.error (9,p)
  |some c=>if(p:Int)=lim then .error (8,p)else EZ bs lim k (p+1) (acc++[c])
def NH{α:Type}(W:Ak)(b:Nat)(s:BO)(val:Ak->Al->α->Prop)(r:A5 α)(e:Ending)(W':Ak):Prop :=
 BF b W W'/\match r with
 |.ok (x,p)=>(∃v,e=Af v/\val W' v x)/\BD W' b {s with pos:=p}
 |.error (en,pl)=>C0 en pl e/\∃p,BD W' b {s with pos:=p}
structure L0(W:World)(b:Nat)(fv:Value)(s:BO)(p:Nat)(v:Value)(acc:A1)(V:World):Prop where
 src:BD V b {s with pos:=p}
 but:BF b W V
 box:V.heap[W.heap.size]?=some (.cells #[.pointer (some ⟨b,0,none⟩),fv] 150)
 own:BG V (W.heap.size+1) v acc
def gY(h:BG W base v bs)(c:BF b W W')(o:b<base):BG W' base v bs:=by
 obtain⟨⟨j,a⟩,k,l⟩:=h;refine⟨⟨j,?_⟩,C7 k c.size,l⟩;rcases a with a|⟨g,f,i,e,n,d,m⟩
 ·exact .inl a
 exact .inr ⟨g,f,i,e,n,(c.block g (BC d) J).trans d,m⟩
def L0.take{q:Nat}(h:L0 W b fv s p v acc V)(hb:b<W.heap.size)(c:BD V' b {s with pos:=q})(a:BF b V V'):L0 W b fv s q v acc V' :=
 ⟨c,h.but.trans a,(a.block _ (BC h.box) J).trans h.box,gY h.own a J⟩
def L0.grow{acc':A1}(h:L0 W b fv s p v acc V)(d:BD W b s)(a:Below (W.heap.size+1) V V')(f:BG V' (W.heap.size+1) v' acc'):L0 W b fv s p v' acc' V' :=
 ⟨d.same rfl rfl h.src (λk c=>a.block k J),⟨a.os.trans h.but.os,a.tape.trans h.but.tape,a.output.trans h.but.output,C7 h.but.size a.size,λk c e=>(a.block k J).trans (h.but.block k c e)⟩,(a.block _ J).trans h.box,f⟩
def gZ(a:Al)(h:BD W b s):L0 W b a s s.pos (G Y 0 0) [] (W.alloc (E #[A8 (U ⟨b,0,Y⟩),a] 150)):=by
 have c:A0 W (W.alloc (E #[A8 (U ⟨b,0,Y⟩),a] 150)):=BN;refine⟨h.below c,BF.of_below c,BI W _,FQ _ _ _ _,?_,Y,0,0,Z⟩;simp
def hH(W:O)(b:Nat)(s:BO)(f n:Nat)(hn:n<18446744073709551616)(h:BD W b s)(an:s.bs.length<=200000000):Am X 260 #[.agg #[A8 (U ⟨b,0,Y⟩),.func (.func f) #[] #[]],I .u64 n] W (NH W b s (λV ah ag=>BG V (W.heap.size+1) ah ag) (EZ s.bs s.lim n s.pos [])):=by
 obtain⟨i0,hi,ad,ae,af⟩:=DZ Tryz.infoU8;have H:Hid (L0 W b (.func (.func f) #[] #[]) s s.pos (G Y 0 0) [] (W.alloc (E #[A8 (U ⟨b,0,Y⟩),.func (.func f) #[] #[]] 150))):=gZ _ h;have l:=T h;have y:=BC h.row;have ac:=h.le;obtain⟨R,j⟩:∃R,Hid (EZ s.bs s.lim n s.pos []=R):=⟨_,show _=_ from rfl⟩
 rw[j.out];clear h;go_enter func260,ntmps260;go_wp2;generalize W.alloc (E #[A8 (U ⟨b,0,Y⟩),.func (.func f) #[] #[]] 150)=W0 at *
 go_loopg[5,7] n (λg ai aj wr=>∃(k p:Nat) (a:A4) (m c:Nat) (o:A1),ai=G a m c/\aj=I .u64 k/\Hid (k+g=n)/\Hid (p<=s.bs.length)/\Hid (o.length<=p)/\Hid (L0 W b (.func (.func f) #[] #[]) s p (G a m c) o wr)/\Hid (EZ s.bs s.lim g p o=R))
 case atStart=>exact⟨0,s.pos,Y,0,0,[],rfl,rfl,AD,ac,kfy,H,j⟩
 case round =>
  clear H j;obtain⟨k,p,a,m,c0,o,rfl,rfl,x,hp,N,d,j⟩:=hrel;have kb:=BB d.box 0
  cases gk with
  |zero =>
   have hk:k=n:=Ao x.out
   subst hk;have t:Hid (R=.ok (o,p)):=j.symm;clear j x;go_wp2;go_ret;rw[t.out];exact⟨d.but,⟨_,Z,d.own⟩,d.src⟩
  |succ g =>
   have am:k<n:=Ao x.out
   have e1:decide ((k:Int)<(n:Int))=true:=Ax
   have e2:decide (k<n)=true:=Ax
   rcases Is d.src with i|i|⟨c,i⟩
   ·have t:Hid (R=.error (9,(p:Int))):=by
     show _=_;rw[<-j.out,EZ,Dz (by have:p=s.bs.length:=i;omega)]
    have r:=IQ _ b {s with pos:=p} d.src i;clear j i
    go_wp2_with(first
     |(go_at_call 226;refine r.mono ?_;clear r;rintro e B ⟨hF,q⟩;obtain rfl:=hF))
    rw[t.out];exact⟨Z,d.but.trans (BF.of_below q),Z,_,d.src.below q⟩
   ·have t:Hid (R=.error (8,(p:Int))):=by
     show _=_;have h2:(p:Int)=s.lim:=i.2;have h3:p<s.bs.length:=i.1;rw[<-j.out,EZ,C6 h3];simp only[];rw[BA h2]
    have r:=IR _ b {s with pos:=p} d.src i;clear j i
    go_wp2_with(first
     |(go_at_call 226;refine r.mono ?_;rintro e B ⟨hF,q⟩;obtain rfl:=hF))
    rw[t.out];exact⟨Z,d.but.trans (BF.of_below q),Z,_,d.src.below q⟩
   have z:s.bs[p]?=U c:=i.1;have aa:¬(p:Int)=s.lim:=i.2;have u:Hid (p<s.bs.length):=i.lt;have A:=j.out;rw[EZ,z]at A;simp only[]at A;rw[Bz aa]at A;have S:=T A;have r:Am X 226 #[A8 (U ⟨b,0,Y⟩)] wr λe L=>e=Af (I .u8 c.toNat)/\BD L b {s with pos:=p+1}/\BF b wr L:=Ep _ b {s with pos:=p} c d.src i;have al:o.length<=999999999:=Aq N.out hp.out
   go_wp2_with(first
    |(go_at_call 226;refine r.mono ?_;rintro e B ⟨rfl,hS,q⟩;have C:=T (d.take y hS q);have F:=T C.own.1;have w:=T C.own.2.1)
    |(at_builtin;refine JG _ Z _ _ 151 Z (W.heap.size+1) 5 i0 (I .u8 0) 1 1 underlying151 hi ad ae af Z Ay _ _ _ Z (F.alloc _) ⟨B.heap.size,0,Y⟩ 1 1 [I .u8 c.toNat] Z Z (EE _ _ _) (λap Q=>by simp at Q;subst Q;rfl) AC J (Ar w.out) ?_;intro v' w5 P ab ao;obtain⟨g5,ak,rfl⟩:=ownsRow_succ P;have D:=T (Jl ((C5 _ B).alloc w _) (F.alloc _) ab (Ar w.out));have v:=T (C.grow l D ⟨LP P Z,C7 w D.size,_,_,_,Z⟩)))
   go_roundg g
   case measure=>omega
   case rel=>exact⟨k+1,p+1,_,_,_,o++[c],rfl,AE,Ap x.out,u,by show _<=_;rw[BK];have:=N.out;simp;omega,v,S⟩
def Dj(V:Ak)(t:TypeId)(size:Nat)(F:Nat->Prop)(v:Al)(n:Nat)(xs:List Al):Prop :=
 xs.length=n*size/\((v=A7 none 0 0/\n=0)\/∃g cap cur,v=A7 (some ⟨g,0,none⟩) n cap/\F g/\V.heap[g]?=some (.cells cur t (0,0))/\n<=cap/\cap<=maxLen/\cur.size=cap*size/\cur.toList.take (n*size)=xs)
def BQ:Nat->Ak->(Nat->Prop)->Al->A2->Prop
 |0,_,_,_,_=>False
 |k+1,V,F,v,d=>match d with
  |.nil=>v=Ad 195 (.agg #[])
  |.lit (.bool b)=>v=Ad 206 (Ac b)
  |.lit (.int .i64 z)=>v=Ad 208 (A6 .i64 z) /\ -9223372036854775808<=z/\z<=9223372036854775807
  |.lit (.string l)=>v=Ad 210 (A9 ⟨l.toArray⟩)
  |.ptr (.lit (.string l))=>∃u,v=Ad 151 u/\Dj V 5 1 F u l.length (l.map Cg)
  |.agg ds=>∃u xs,v=Ad 153 u/\Dj V 56 1 F u ds.length xs/\∀(i:Nat) (x:Al) (d:A2),xs[i]?=some x->ds[i]?=some d->BQ k V F x d
  |.map es=>∃u xs,v=Ad 155 u/\Dj V 157 2 F u es.length xs/\∀(i:Nat) (key:Lit) (d:A2),es[i]?=some (key,d)->∃l x,key=.string l/\xs[2*i]?=some (A9 ⟨l.toArray⟩)/\xs[2*i+1]?=some x/\BQ k V F x d
  |_=>False
def Dj.same{t:TypeId}{size:Nat}{G:Nat->Prop}{xs:List Al}(h:Dj V t size F v n xs)(j:∀k,F k->G k)(m:∀k,F k->V'.heap[k]?=V.heap[k]?):Dj V' t size G v n xs:=by
 obtain⟨f,a⟩:=h;refine⟨f,?_⟩;rcases a with a|⟨g,c,d,e,b,l,i⟩
 ·exact .inl a
 exact .inr ⟨g,c,d,e,j g b,(m g b).trans l,i⟩
def BQ.same{G:Nat->Prop}(a:∀k,F k->G k)(b:∀k,F k->V'.heap[k]?=V.heap[k]?):∀{k:Nat} {v:Al} {d:A2},BQ k V F v d->BQ k V' G v d
 |0,_,_,h=>h
 |k+1,v,d,h=>by
  unfold BQ at h ⊢;split at h
  ·exact h
  ·exact h
  ·exact h
  ·exact h
  ·obtain⟨u,e,c⟩:=h;exact⟨u,e,c.same a b⟩
  ·obtain⟨u,j,e,c,g⟩:=h;exact⟨u,j,e,c.same a b,λi x d f q=>BQ.same a b (g i x d f q)⟩
  ·obtain⟨u,j,e,c,g⟩:=h;refine⟨u,j,e,c.same a b,λi key d f=>?_⟩;obtain⟨l,x,m,n,o,p⟩:=g i key d f;exact⟨l,x,m,n,o,BQ.same a b p⟩
  exact h
def BQ.more:∀{k m:Nat} {v:Al} {d:A2},k<=m->BQ k V F v d->BQ m V F v d
 |0,_,_,_,_,h=>h.elim
 |k+1,0,_,_,hm,_=>absurd hm J
 |k+1,m+1,v,d,hm,h=>by
  unfold BQ at h ⊢;split at h
  ·exact h
  ·exact h
  ·exact h
  ·exact h
  ·exact h
  ·obtain⟨u,f,e,c,b⟩:=h;exact⟨u,f,e,c,λi x d a p=>BQ.more J (b i x d a p)⟩
  ·obtain⟨u,f,e,c,b⟩:=h;refine⟨u,f,e,c,λi key d a=>?_⟩;obtain⟨l,x,g,j,n,o⟩:=b i key d a;exact⟨l,x,g,j,n,BQ.more J o⟩
  exact h
end
section
open Go.RowKit Go.Shelf
def QR{K:Act->O->Prop}(h:Q .ret a w):Exit.then K Q .ret a w:=h
def TE(h:Q .ret a w):Exit.inBlock n Q .ret a w:=h
def NK(h:Q .ret a w):Exit.noGoto Q .ret a w:=h
def jh(s:ByteArray)(o:s.size=5)(b:∀i (h:i<s.size),(s[i]'h).toNat<128)(w:O):Am X 182 #[.string s,I .i32 65533] w λe k=>e=Af (I K (-1))/\A0 w k:=by
 have d:Hid (∀i (h:i<s.size),(s[i]'h).toNat<128):=b;clear b;go_enter func182,ntmps182;go_wp2
 go_loopg[5,6] 5 (λg _ _ l=>∃i:Nat,i+g=5/\l=w.iter s i)
 case atStart=>exact⟨0,J,rfl⟩
 case round =>
  obtain⟨i,n,rfl⟩:=hrel
  cases gk with
  |zero =>
   obtain rfl:i=5:=J
   have j:=λa=>run_next_end (P:=X) w s 5 a J;go_wp2;go_ret;exact⟨Z,BN⟩
  |succ g =>
   have c:i<s.size:=J
   have f:=d.out i J;have j:=λa=>run_next_ascii (P:=X) w s i a c f;have m:¬((s[i]'c).toNat:Int)=65533:=J
   go_wp2;go_roundg g
   case measure=>omega
   case rel=>exact⟨i+1,J,rfl⟩
def ji(s:ByteArray)(r:Int)(c:128<=r)(d:¬r=65533)(a:Lib.validRune r=false)(w:O):Am X 182 #[.string s,I .i32 r] w λe b=>e=Af (I K (-1))/\A0 w b:=by
 go_enter func182,ntmps182
 go_wp2_with(first|(go_at_call 199;refine(Tryz.utf8_ValidRune _ _).mono ?_;rintro e f ⟨rfl,rfl⟩;rw[a]))
 go_ret;exact⟨Z,C5 _ _⟩
def jj(s:ByteArray)(A:s.size=5)(o:∀i (h:i<s.size),(s[i]'h).toNat<128)(r:Int)(D:128<=r)(N:¬r=65533)(B:Lib.validRune r=true)(rs:ByteArray)(k:Nat)(P:Utf8.encode r=rs)(H:rs.size=k+1)(C:1<=k)(F:k<=3)(hb:128<=(rs[k]'(by omega)).toNat)(w:O):Am X 182 #[.string s,I .i32 r] w λe n=>e=Af (I K (-1))/\A0 w n:=by
 have v:k<s.size:=J
 have f:k<rs.size:=J
 have Q:=o k v;have L:¬((s[k]'v).toNat:Int)=((rs[k]'f).toNat:Int):=J
 have m:Hid (Lib.indexByte (s.extract (k+1) s.size).data.toList (rs[k]'f) = -1):=by
  show _=_;rw[<-Lib.firstIdx_eq];refine firstIdx_ascii s (k+1) s.size _ (λb y=>?_) hb;obtain⟨i,u,rfl⟩:=KO y;have z:i<s.size:=by rw[ES]at u;exact u
  exact o i z
 have p:(((rs[k]'f).toNat:Int)).toNat.toUInt8=rs[k]'f:=Az
 clear o;obtain rfl|rfl|rfl:k=1\/k=2\/k=3:=J
 all_goals
  rw[A]at m;go_enter func182,ntmps182
  go_wp2_with(first|(go_at_call 199;refine(Tryz.utf8_ValidRune _ _).mono ?_;rintro e q ⟨rfl,rfl⟩;rw[B]))
  go_step3;go_wp2
 ·have x:Lib.indexByte (List.take 3 (List.drop 2 s.data.toList)) (rs[1]'f)<0:=by
   have h:=m.out;rw[Q6,Q9,Q2]at h;have t:Lib.indexByte (List.take 3 (List.drop 2 s.data.toList)) (rs[1]'f) = -1:=h;omega
  go_loopg[9,10,11,12] 1 (λg a b c d l=>a=I K 1/\l=q)
  case atStart=>exact⟨rfl,rfl⟩
  case round =>
   obtain⟨rfl,rfl⟩:=hrel;go_wp2;go_step3;go_wp2
   go_region
   go_wp2
   go_region_with(first|(go_at_call 198;refine(Tryz.strings_IndexByte _ _ _).mono ?_;rintro e n ⟨rfl,j⟩;rw[j,p]))
   go_wp2
   all_goals repeat(first|refine QR ?_|refine TE ?_|refine NK ?_)
   all_goals go_ret
   all_goals exact⟨rfl,(C5 _ _).drew.drew⟩
 ·have x:Lib.indexByte (List.take 2 (List.drop 3 s.data.toList)) (rs[2]'f)<0:=by
   have h:=m.out;rw[Q6,Q9,Q2]at h;have t:Lib.indexByte (List.take 2 (List.drop 3 s.data.toList)) (rs[2]'f) = -1:=h;omega
  go_loopg[9,10,11,12] 1 (λg a b c d l=>a=I K 2/\l=q)
  case atStart=>exact⟨rfl,rfl⟩
  case round =>
   obtain⟨rfl,rfl⟩:=hrel;go_wp2;go_step3;go_wp2
   go_region
   go_wp2
   go_region_with(first|(go_at_call 198;refine(Tryz.strings_IndexByte _ _ _).mono ?_;rintro e n ⟨rfl,j⟩;rw[j,p]))
   go_wp2
   all_goals repeat(first|refine QR ?_|refine TE ?_|refine NK ?_)
   all_goals go_ret
   all_goals exact⟨rfl,(C5 _ _).drew.drew⟩
 have x:Lib.indexByte (List.take 1 (List.drop 4 s.data.toList)) (rs[3]'f)<0:=by
  have h:=m.out;rw[Q6,Q9,Q2]at h;have t:Lib.indexByte (List.take 1 (List.drop 4 s.data.toList)) (rs[3]'f) = -1:=h;omega
 go_loopg[9,10,11,12] 1 (λg a b c d l=>a=I K 3/\l=q)
 case atStart=>exact⟨rfl,rfl⟩
 case round =>
  obtain⟨rfl,rfl⟩:=hrel;go_wp2;go_step3;go_wp2
  go_region
  go_wp2
  go_region_with(first|(go_at_call 198;refine(Tryz.strings_IndexByte _ _ _).mono ?_;rintro e n ⟨rfl,j⟩;rw[j,p]))
  go_wp2
  all_goals repeat(first|refine QR ?_|refine TE ?_|refine NK ?_)
  all_goals go_ret
  all_goals exact⟨rfl,(C5 _ _).drew.drew⟩
def MF(r:Int):Bool:=r==42||(r==91||(r==93||(r==47||r==46)))
def jk:∀k:Nat,k<128->decide (0<=Lib.indexByte [42,91,93,47,46] k.toUInt8)=MF (k:Int):=Ay
def XO:∀i (h:i<(⟨#[42,91,93,47,46]⟩:ByteArray).size),((⟨#[42,91,93,47,46]⟩:ByteArray)[i]'h).toNat<128:=Ay
def jl(r:Int)(d:0<=r)(w:O):Am X 166 #[A9 ⟨#[42,91,93,47,46]⟩,I .i32 r] w λe a=>e=Af (Ac (MF r))/\A0 w a:=by
 by_cases h:r<128
 ·refine(Tryz.strings_ContainsRune_ascii _ r w d h).mono ?_;rintro e a ⟨rfl,rfl⟩;refine⟨?_,C5 _ _⟩;have:=jk r.toNat J;rw[LE d]at this;rw[<-this]
 have f:MF r=false:=by
  unfold MF;simp only[Sy,EJ];omega
 have g:Am X 182 #[A9 ⟨#[42,91,93,47,46]⟩,I .i32 r] w λe a=>e=Af (I K (-1))/\A0 w a:=by
  by_cases b:r=65533
  ·subst b;exact jh _ Z XO w
  cases c:Lib.validRune r
  ·exact ji _ r J b c w
  obtain⟨k,l,j⟩:=encode_facts r (by rw[validRune_eq];exact c) J;exact jj _ Z XO r J b c _ ((Utf8.encode r).size-1) Z J J J (j J) w
 rw[f];clear f h;generalize(⟨#[42,91,93,47,46]⟩:ByteArray)=s at *;go_enter func166,ntmps166
 go_wp2_with(first|(go_at_call 182;refine g.mono ?_;rintro e m ⟨rfl,i⟩))
 go_ret;exact⟨Z,i⟩
end
section
open Go.RowKit
def Y6(w:O)(B:Nat)(t k e:TypeId)(i:TypeInfo)(z:Al)(size r:Nat)(q:P.underlying t=U (.slice e))(hi:P.info? e=U i)(A:i.zero=U z)(V:i.size=size)(H:i.bytes=r)(v:Al)(n:Nat)(xs:List Al)(p:w.ownsRow B e size v n xs)(a:Addr)(m c:Nat)(b:List Al)(h:b.length=m*size)(o:∀j u,b[j]?=U u->w.cell? (a.add j)=U u)(C:∀u∈b,u.oneCell'=true)(R:0<m)(D:n+m<=maxLen)(x:(n+m)*r<=140737488355328){w':O}(d:(Builtin.append_ #[t,t] k #[v,G (U a) m c]).run P w=.ok v' w'):v'.ownBlock=v.ownBlock\/v'.ownBlock=U w.heap.size:=by
 subst V;subst H;have ac:n+m<=9223372036854775807:=by simp only[maxLen]at D;omega
 rcases p.2 with⟨rfl,rfl⟩|⟨g,l,s,rfl,W,Q,ab,aa,L,ad⟩
 ·have f:=run_append_nil (P:=P) w t k e i z q hi A a m c b h o R J (by have F:=x;simp only[DY]at F;omega);rw[f]at d;injection d with e1 e2;right;rw[<-e1];rfl
 by_cases y:n+m<=l
 ·have N:n*i.size+b.length<=s.size:=by rw[h,L,<-Nat.add_mul];exact Qa _ y
  have f:=run_append_room (P:=P) w t k e i q hi g n l s Q a m c b h o C y N;rw[f]at d;injection d with e1 e2;left;rw[<-e1];rfl
 have S:=p.cells (g:=g) Z;have f:=run_append_grow (P:=P) w t k e i z q hi A ⟨g,0,Y⟩ n l xs p.1 S a m c b h o J J (growslice_fits J x);rw[f]at d;injection d with e1 e2;right;rw[<-e1];rfl
def MH(w:O){ops:Array Oper}{rest:List Oper}{o:Oper}(aa:o.guard=Y)(s x:Operand)(t:TypeId)(ho:o.op=.call {callee:=.builtin .append,args:=#[s,x],argTypes:=#[t,t]})(f:Nat)(e:TypeId)(i:TypeInfo)(z:Al)(size l:Nat)(H:P.underlying t=U (.slice e))(hi:P.info? e=U i)(L:i.zero=U z)(F:i.size=size)(r:i.bytes=l)(ac:z.cells.size=size)(ab:0<size)(v:Al)(n:Nat)(xs:List Al)(hs:a.eval s=v)(C:w.ownsRow f e size v n xs)(k:Addr)(m c:Nat)(b:List Al)(hx:a.eval x=G (U k) m c)(A:b.length=m*size)(B:∀j u,b[j]?=U u->w.cell? (k.add j)=U u)(p:∀u∈b,u.oneCell'=true)(hm:0<m)(q:n+m<=maxLen)(y:(n+m)*l<=140737488355328)(W:f<=w.heap.size)(h:∀d g,g.ownsRow f e size d (n+m) (xs++b)->w.grownBy g v.ownBlock->(d.ownBlock=v.ownBlock\/d.ownBlock=U w.heap.size)->wpList P ops Q rest (a.put o.dst d) g):wpList P ops Q (o::rest) a w:=by
 refine ST aa λae V=>?_;obtain⟨d,g,D,N,R,_⟩:=OF (P:=P) w f t o.type e i z size l H hi L F r ac ab v n xs C k m c b A B p q y W;have S:=Y6 (P:=P) w f t o.type e i z size l H hi L F r v n xs C k m c b A B p hm q y D;unfold Oper.wp execOp;simp only[ho,resolve,invoke,builtin,Ei,Fq,EA,Nl,EU,Je,hs,hx,D];exact V _ _ (h d g N R S)
def TP(k n:Nat)(h:BD W b s):BD ((W.drewN n).setCell ⟨b,4,Y⟩ (I K k)) b {s with within:=k}/\BF b W ((W.drewN n).setCell ⟨b,4,Y⟩ (I K k)):=by
 have e:(W.drewN n).heap[b]?=U (E s.arr 145):=h.row;have d:∀q,q≠b->((W.drewN n).setCell ⟨b,4,Y⟩ (I K k)).heap[q]?=W.heap[q]?:=λq a=>CP (W.drewN n) _ _ _ AO;refine⟨⟨?_,λi l=>?_,h.len,h.le⟩,⟨Z,Z,Z,by simp[World.setCell,World.drewN,A0],λq _ a=>d q a⟩⟩
 ·rw[SG _ b 4 _ _ _ _ e,Ca _ _ _ _ _ _ e];rfl
 obtain⟨g,off,f,c,j⟩:=h.inp i l;exact⟨g,off,f,c,(Im (w:=W) (d g c)).trans j⟩
def TQ(W:O)(b:Nat)(s:BO)(h:BD W b s)(d:¬(s.within:Int)=s.depth)(i:s.within<=1000000):Am X 221 #[A8 (U ⟨b,0,Y⟩)] W λe c=>e=Af (Aa #[])/\BD c b {s with within:=s.within+1}/\BF b W c:=by
 have j:W.cell? ⟨b,1,Y⟩=U (I K s.depth):=BB h.row 1;have k:W.cell? ⟨b,4,Y⟩=U (I K s.within):=BB h.row 4;have g:=Dx W b 4 _ _ h.row;have a:Hid (∀n,BD ((W.drewN n).setCell ⟨b,4,Y⟩ (I K ((s.within:Int)+1))) b {s with within:=s.within+1}/\BF b W ((W.drewN n).setCell ⟨b,4,Y⟩ (I K ((s.within:Int)+1)))):=λn=>TP (s.within+1) n h;have f:((s.within:Int)==s.depth)=false:=keB
 go_enter func221,ntmps221;go_wp2
 go_quiet (fail)
 go_wp2;go_end0;exact⟨Z,(a nq).1,(a nq).2⟩
def Ye(W:O)(b:Nat)(s:BO)(h:BD W b s)(f:(s.within:Int)=s.depth):Am X 221 #[A8 (U ⟨b,0,Y⟩)] W λe a=>C0 11 ((s.pos:Int)-1) e/\BF b W a/\∃p,BD a b {s with pos:=p}:=by
 have i:W.cell? ⟨b,1,Y⟩=U (I K s.depth):=BB h.row 1;have j:W.cell? ⟨b,4,Y⟩=U (I K s.within):=BB h.row 4;have g:((s.within:Int)==s.depth)=true:=keP
 have d:=λn=>EX (W.drewN n) b s 11 (h.drewN n);have c:=T h;go_enter func221,ntmps221;go_wp2
 go_quiet (fail)
 go_wp2_with(first
  |(go_at_call 227;refine(d nq).mono ?_;rintro e k ⟨hF,rfl⟩;obtain rfl:=hF))
 exact⟨Z,Z,BF.of_below (F9 W nq),_,c.drewN nq⟩
def Yf(W:O)(b k:Nat)(s:BO)(h:BD W b s)(d:s.within=k+1)(i:s.within<=1000000):Am X 249 #[A8 (U ⟨b,0,Y⟩)] W λe c=>e=Af (Aa #[])/\BD c b {s with within:=k}/\BF b W c:=by
 have j:W.cell? ⟨b,4,Y⟩=U (I K ((k:Int)+1)):=by
  have:=BB h.row 4;rw[this];show U (Value.int K (s.within:Int))=_;rw[d];rfl
 have f:=Dx W b 4 _ _ h.row;have a:Hid (BD (W.setCell ⟨b,4,Y⟩ (I K k)) b {s with within:=k}/\BF b W (W.setCell ⟨b,4,Y⟩ (I K k))):=TP k 0 h;have g:k<=1000000:=J
 go_enter func249,ntmps249;go_wp2;go_end0;exact⟨Z,a.1,a.2⟩
def Db:A3:=#[A7 none 0 0,A6 .i64 0,A6 .i64 0]
def F4(a:A4)(n cap:Nat)(x y:Int):A3:=#[A7 a n cap,A6 .i64 x,A6 .i64 y]
def MS(a:A4)(n b:Nat)(x y:Int):(F4 a n b x y).all (·.oneCell')=true:=by simp[F4,Value.oneCell']
def Rg:Db.all (·.oneCell')=true:=MS Y 0 0 0 0
def Lg:(prog.info? 112).map (·.size)=U 3:=M
def LW(n:Nat):List A1->Bool
 |[a,b,c]=>Et a&&(Gh b n&&Ee ⟨c.toArray⟩ != 0)
 |_=>false
def CG(n:Nat)(l:A1):Bool:=LW n (Cn 32 l)
def Z3{q:List A1}(h:q.length≠3):LW n q=false:=by
 match q,h with
 |[],_=>rfl
 |[_],_=>rfl
 |[_,_],_=>rfl
 |_::_::_::_::_,_=>rfl
structure Rh(w:World)(arr:A3)(W:World):Prop where
 below:A0 w W
 box:W.heap[w.heap.size]?=some (.cells arr 25)
 res:W.heap[w.heap.size+1]?=some (.cells Db 112)
 lo:w.heap.size+1<W.heap.size
def Rh.step{arr:A3}(h:Rh w arr W)(hb:A0 W W'):Rh w arr W':=by
 have:=h.lo;exact⟨h.below.trans (hb.mono h.below.size),(hb.block _ J).trans h.box,(hb.block _ J).trans h.res,CA this hb.size⟩
def mD(w a:O)(arr:A3)(hb:Below (w.heap.size+1+1) ((w.alloc (E arr 25)).alloc (E Db 112)) a):Rh w arr a:=by
 have b:=hb.size;simp only[BU,A0]at b;refine⟨((BN).alloc Az _).trans (hb.mono J),?_,?_,J⟩
 ·rw[hb.block _ J,BT _ _ _ Az];exact BI _ _
 rw[hb.block _ J];have:=BI (w.alloc (E arr 25)) (E Db 112);rwa[BU]at this
def mE(h:ps.length=3):∃d e f,ps=[d,e,f]:=by
 match ps,h with
 |[a,b,c],_=>exact⟨a,b,c,rfl⟩
def Ri(p:ByteArray):(⟨p.data.toList.toArray⟩:ByteArray)=p:=by cases p;rfl
def mF(g:ps.map (·.data.toList)=Cn 32 l):(ps.length≠3/\CG n l=false)\/∃c a b,ps=[c,a,b]/\((a.size≠1/\CG n l=false)\/∃h:a.size=1,
   ((a[0].toNat:Int)<48/\CG n l=false)\/((57:Int)<a[0].toNat/\CG n l=false) \/
   ((48:Int)<=a[0].toNat/\(a[0].toNat:Int)<=57/\CG n l=(Et c.data.toList&&(Ee b != 0&&CE n ((a[0].toNat:Int)-48))))):=by
 by_cases f:ps.length=3
 ·right;obtain⟨c,a,b,rfl⟩:=mE f;refine⟨c,a,b,Z,?_⟩;have e:CG n l=(Et c.data.toList&&(Gh a.data.toList n&&Ee b != 0)):=by
   unfold CG;rw[<-g];simp only[EU,Je,LW,Ri]
  by_cases d:a.size=1
  ·right;refine⟨d,?_⟩;rw[XQ d]at e;by_cases i:(a[0].toNat:Int)<48
   ·left;refine⟨i,?_⟩;rw[e];simp only[Gh];rw[CO J];simp
   right;by_cases j:(57:Int)<a[0].toNat
   ·left;refine⟨j,?_⟩;rw[e];simp only[Gh];rw[CO J];simp
   right;refine⟨J,J,?_⟩;rw[e];simp only[Gh,CE];rw[CH (show 48<=a[0].toNat/\a[0].toNat<=57 by omega),GS,SP (Ee b != 0)];congr 2;rw[IJ];omega
  left;refine⟨d,?_⟩;rw[e,(XR (n:=n) (by rw[ES];exact d)).2];simp
 left;refine⟨f,?_⟩;unfold CG;exact Z3 (by rw[<-g,Eo];exact f)
def mG{g:Nat}{s:ByteArray}{w2:O}(q:s.size<=100000)(l:ps.map (·.data.toList)=Cn 32 s.data.toList)(e:∀j (p:j<ps.length),w2.cell? ⟨g,j,Y⟩=U (.string ps[j])):(¬(ps.length:Int)=3/\Hid (CG n s.data.toList=false)) \/
  (∃b a c,ps=[b,a,c]/\w2.cell? ⟨g,1,Y⟩=U (.string a)/\¬(a.size:Int)=1/\Hid (CG n s.data.toList=false)) \/
  (∃b a c,ps=[b,a,c]/\w2.cell? ⟨g,1,Y⟩=U (.string a)/\∃h:a.size=1,(a.size:Int)=1/\(a[0].toNat:Int)<48/\Hid (CG n s.data.toList=false)) \/
  (∃b a c,ps=[b,a,c]/\w2.cell? ⟨g,1,Y⟩=U (.string a)/\∃h:a.size=1,(a.size:Int)=1/\(48:Int)<=a[0].toNat/\(57:Int)<a[0].toNat/\Hid (CG n s.data.toList=false)) \/
  (∃b a c,ps=[b,a,c]/\w2.cell? ⟨g,0,Y⟩=U (.string b)/\w2.cell? ⟨g,1,Y⟩=U (.string a)/\w2.cell? ⟨g,2,Y⟩=U (.string c)/\∃h:a.size=1,(a.size:Int)=1/\(48:Int)<=a[0].toNat/\(a[0].toNat:Int)<=57/\Hid (b.size<=100000) /\
   Hid (CG n s.data.toList=(Et b.data.toList&&(Ee c != 0&&CE n ((a[0].toNat:Int)-48))))):=by
 rcases mF (n:=n) l with⟨m,d⟩|⟨b,a,c,rfl,⟨f,d⟩|⟨f,⟨i,d⟩|⟨k,d⟩|⟨i,k,d⟩⟩⟩
 ·exact Nu ⟨J,d⟩
 ·exact Jh (Nu ⟨b,a,c,Z,e 1 Az,J,d⟩)
 ·exact Jh (Jh (Nu ⟨b,a,c,Z,e 1 Az,f,J,i,d⟩))
 ·exact Jh (Jh (Jh (Nu ⟨b,a,c,Z,e 1 Az,f,J,J,k,d⟩)))
 refine Jh (Jh (Jh (Jh ⟨b,a,c,Z,e 0 Az,e 1 Az,e 2 Az,f,J,i,k,?_,d⟩)));show _<=_;have:=MR 32 s.data.toList b.data.toList (by rw[<-l];simp);have m:s.data.toList.length=s.size:=ES;have o:b.data.toList.length=b.size:=ES;omega
def mH(arr:A3)(n:Nat)(f0:arr[0]?=U (I K n))(ab:arr.size=11)(s:ByteArray)(w:O)(Q:s.size<=100000):Am X 44 #[.agg arr,.string s] w λe w' =>
   ∃a ac D ad ae,e=Af (Aa #[.agg (F4 a ac D ad ae),Ac (CG n s.data.toList)])/\A0 w w':=by
 have v:=T ab;have S:=T f0;have o:Hid ((prog.info? 112).map (·.size)=U Db.size):=Lg;go_enter func44,ntmps44;have T1:True:=trivial;have T2:True:=trivial
 go_wp2_with(first
  |(go_at_call 43;go_loud (refine(Uf s 32 32 rfl _ Q).mono ?_;rintro e w2 ⟨aj,ps,rfl,V,C,t⟩;obtain⟨g,D,rfl,hg,P,N⟩:=Re V (Rf t);have q:=T (mD w w2 arr (by simp only[BU,A0]at C;exact C));rcases mG (n:=n) Q t N with⟨af,d⟩|⟨l,c,b,rfl,r,A,d⟩|⟨l,c,b,rfl,r,H,A,L,d⟩|⟨l,c,b,rfl,r,H,A,L,x,d⟩|⟨l,c,b,rfl,ag,r,aa,H,A,L,x,W,d⟩;all_goals clear t N))
  |(refine Co Z 112 _ _ Z (w.heap.size+1) Db Z Z 112 Db q.res o Z Rg ?_))
 all_goals first
  |(refine Cc (Ht results44 _ _ (w.heap.size+1) 112 Db (0,0) _ Z (Ca _ _ Db _ _ _ q.res) underlying112 Z Lg (Ac false) Z) Z ⟨Y,0,0,0,0,Bc,CF q.below J _⟩)
  |skip
 refine(mA l _ W).mono ?_;rintro e w3 ⟨h,j,i,rfl,B⟩;have f:=T (q.step B);have ah:=(B.cell (p:=⟨g,1,Y⟩) P).trans r;have ai:=(B.cell (p:=⟨g,2,Y⟩) P).trans aa;cases z:Et l.data.toList
 ·have k:Hid (CG n s.data.toList=false):=by show _=_;rw[d.out,z];rfl
  go_wp2_with(first
   |(go_at_call 67;refine(TF b _).mono ?_;rintro e R ⟨rfl,rfl⟩)
   |(refine Co Z 112 _ _ Z (w.heap.size+1) (F4 h j i ((c[0].toNat:Int)-48) (Ee b)) Z Z 112 Db f.res o Z (MS _ _ _ _ _) ?_))
  refine Cc (Ht results44 _ _ (w.heap.size+1) 112 (F4 h j i ((c[0].toNat:Int)-48) (Ee b)) (0,0) _ Z (Ca _ _ Db _ _ _ f.res) underlying112 Z Lg (Ac false) Z) Z ⟨_,_,_,_,_,by rw[k.out],CF f.below J _⟩
 by_cases F:Ee b=0
 ·have k:Hid (CG n s.data.toList=false):=by show _=_;rw[d.out,z,F];rfl
  go_wp2_with(first
   |(go_at_call 67;refine(TF b _).mono ?_;rintro e R ⟨rfl,rfl⟩)
   |(refine Co Z 112 _ _ Z (w.heap.size+1) (F4 h j i ((c[0].toNat:Int)-48) 0) Z Z 112 Db f.res o Z (MS _ _ _ _ _) ?_))
  refine Cc (Ht results44 _ _ (w.heap.size+1) 112 (F4 h j i ((c[0].toNat:Int)-48) 0) (0,0) _ Z (Ca _ _ Db _ _ _ f.res) underlying112 Z Lg (Ac false) Z) Z ⟨_,_,_,_,_,by rw[k.out],CF f.below J _⟩
 have m:(Ee b != 0)=true:=by simp[F]
 have k:Hid (CG n s.data.toList=CE n ((c[0].toNat:Int)-48)):=by show _=_;rw[d.out,z,m];rfl
 go_wp2_with(first
  |(go_at_call 67;refine(TF b _).mono ?_;rintro e R ⟨rfl,rfl⟩)
  |(go_at_call 21;refine(Nx arr n S _ _).mono ?_;rintro e w5 ⟨rfl,y⟩;have u:=T (f.step y))
  |(refine DL 25 _ Z ?hw _ Z _ _ _ _ f.box underlying25 Z (El v) ?_;case hw=>simp[go_sem];done)
  |(refine Co Z 112 _ _ Z (w.heap.size+1) (F4 h j i ((c[0].toNat:Int)-48) (Ee b)) Z Z 112 Db u.res o Z (MS _ _ _ _ _) ?_))
 refine Cc (Ht results44 _ _ (w.heap.size+1) 112 (F4 h j i ((c[0].toNat:Int)-48) (Ee b)) (0,0) _ Z (Ca _ _ Db _ _ _ u.res) underlying112 Z Lg (Ac (CE n ((c[0].toNat:Int)-48))) Z) Z ⟨_,_,_,_,_,by rw[k.out],CF u.below J _⟩
def Zf(c:UInt8):∀l:A1,(Lib.index l [c] = -1/\Cn c l=[l])\/∃a r,l=a++c::r/\Lib.index l [c]=a.length/\Cn c l=a::Cn c r
 |[]=>Nu ⟨rfl,rfl⟩
 |x::r=>by
  by_cases e:x=c
  ·subst e;right;exact⟨[],r,Z,by simp[Lib.index],by simp[Cn]⟩
  have g:([c].isPrefixOf (x::r))=false:=by simp[List.isPrefixOf,Ne.symm e]
  have f:(x==c)=false:=by simp[e]
  rcases Zf c r with⟨b,d⟩|⟨a,q,b,d,h⟩
  ·left;refine⟨?_,?_⟩
   ·unfold Lib.index;rw[g,b];rfl
   unfold Cn;rw[f,d];rfl
  right;refine⟨x::a,q,by rw[b];rfl,?_,?_⟩
  ·unfold Lib.index;rw[g,d];have:((a.length:Int) == -1)=false:=by rw[EJ];omega
   rw[this];simp
  rw[Cn,f,h];rfl
def Lh(c:UInt8)(l:A1):(Lib.cut l [c]=(l,[],false)/\Cn c l=[l])\/∃a r,Lib.cut l [c]=(a,r,true)/\l=a++c::r/\Cn c l=a::Cn c r:=by
 rcases Zf c l with⟨b,d⟩|⟨a,r,b,d,e⟩
 ·left;refine⟨?_,d⟩;unfold Lib.cut;rw[b,Bz J]
 right;refine⟨a,r,?_,b,e⟩;unfold Lib.cut;rw[d,BA J];simp[b]
def Rm(n:Nat)(l:A1):Bool :=
 Et (Lib.cut l [32]).1&&(Gh (Lib.cut (Lib.cut l [32]).2.1 [32]).1 n&&Ee ⟨(Lib.cut (Lib.cut l [32]).2.1 [32]).2.1.toArray⟩ != 0)
def Uk(l:A1):Ee ⟨l.toArray⟩=if l==[100,114,111,112]then 1 else if l==[109,97,115,107]then 2 else if l==[116,97,103]then 3 else 0:=by
 unfold Ee;rw[Ga]
def Zg(a r:A1):Ee ⟨(a++32::r).toArray⟩=0:=by
 have b:(32:UInt8)∈a++32::r:=Az
 rw[Uk];generalize a++32::r=l at *;rw[Bz Bw,Bz Bw,Bz Bw]
def Zh(n:Nat)(l:A1):Rm n l=CG n l:=by
 unfold Rm CG;rcases Lh 32 l with⟨g,h⟩|⟨a,r,g,_,h⟩
 ·rw[g,h];rcases Lh 32 []with⟨c,f⟩|⟨a,r,_,c,_⟩
  ·simp[c,Gh,LW]
  simp at c
 rw[g,h];rcases Lh 32 r with⟨c,f⟩|⟨b,q,c,_,f⟩
 ·rw[c,f];have:Ee ⟨([]:A1).toArray⟩=0:=by rw[Uk];rfl
  simp[this,LW]
 rw[c,f];rcases Lh 32 q with⟨j,i⟩|⟨d,e,j,i,k⟩
 ·rw[i];rfl
 rw[k,Z3 (by have:=SA.2 (Uc 32 e);simp only[Cu];omega),i];simp[Zg]
def FA(bs:A1)(l:Int)(i:Nat):Bool:=match bs[i]? with
 |none=>false
 |some c=>decide ((i:Int)<l)&&Dm c
def bz(W:O)(bs:A1)(fm d l:Int)(i:Nat):Am X 138 #[M4 bs fm d l,I K i] W λe n=>e=Af (Ac (FA bs l i))/\A0 W n:=by
 obtain⟨R,q⟩:∃R,Hid (FA bs l i=R):=⟨_,show _=_ from rfl⟩
 rw[q.out];have f:=q.out;unfold FA at f;have k:Hid ((W.alloc (E #[A9 ⟨bs.toArray⟩,I K fm,I K d,I K l] 116)).heap[W.heap.size]?=U (E #[A9 ⟨bs.toArray⟩,I K fm,I K d,I K l] 116)):=BI _ _;have g:Hid (A0 W (W.alloc (E #[A9 ⟨bs.toArray⟩,I K fm,I K d,I K l] 116))):=BN;have j:Am X 68 #[.agg #[A9 ⟨bs.toArray⟩,I K fm,I K d,I K l],I K i] (W.alloc (E #[A9 ⟨bs.toArray⟩,I K fm,I K d,I K l] 116)) λe n=>e=Af (Ac (Cy bs l i))/\Below (W.alloc (E #[A9 ⟨bs.toArray⟩,I K fm,I K d,I K l] 116)).heap.size (W.alloc (E #[A9 ⟨bs.toArray⟩,I K fm,I K d,I K l] 116)) n:=RR _ bs fm d l i;have o:=BC k;unfold M4;have w:Cy bs l i=false->R=false:=λa=>by
  rw[<-f];unfold Cy at a
  cases m:bs[i]? with
  |none=>rfl
  |some c =>
   rw[CH (Cf m),GS]at a;simp only[];rw[a];rfl
 cases a:Cy bs l i
 ·have h:=T (w a);rw[a]at j;go_enter func138,ntmps138
  go_wp2_with(first
   |(go_at_call 68;refine j.mono ?_;rintro e p ⟨rfl,b⟩))
  go_ret;rw[h.out];exact⟨Z,g.trans (b.mono g.size)⟩
 rw[a]at j;unfold Cy at a;rw[Dw]at a;have v:=CD a.1;obtain⟨c,m⟩:∃c,bs[i]?=U c:=⟨bs[i],C6 v⟩
 rw[m]at f;simp only[]at f;rw[a.2,GS]at f;have x:=DI bs i c m;unfold Dm at f;by_cases s:(48:Int)<=(c.toNat:Int)
 ·by_cases t:(c.toNat:Int)<=57
  ·have h:Hid (R=true):=by show _=_;rw[<-f];exact CH ⟨s,t⟩
   go_enter func138,ntmps138
   go_wp2_with(first
    |(go_at_call 68;refine j.mono ?_;rintro e p ⟨rfl,b⟩;have r:=BB ((b.block _ o).trans k) 0))
   go_ret;rw[h.out];exact⟨Z,g.trans (b.mono g.size)⟩
  have h:Hid (R=false):=by show _=_;rw[<-f];exact CO (λa=>t a.2)
  go_enter func138,ntmps138
  go_wp2_with(first
   |(go_at_call 68;refine j.mono ?_;rintro e p ⟨rfl,b⟩;have r:=BB ((b.block _ o).trans k) 0))
  go_ret;rw[h.out];have u:decide ((c.toNat:Int)<=57)=false:=CO J;exact⟨by rw[u];rfl,g.trans (b.mono g.size)⟩
 have h:Hid (R=false):=by show _=_;rw[<-f];exact CO (λa=>s a.1)
 go_enter func138,ntmps138
 go_wp2_with(first
  |(go_at_call 68;refine j.mono ?_;rintro e p ⟨rfl,b⟩;have r:=BB ((b.block _ o).trans k) 0))
 go_ret;rw[h.out];exact⟨Z,g.trans (b.mono g.size)⟩
end
end Go.Proofs.YtnlnjkggkbbdhaaGreatDoor
