import Derived.Lib.RuneBytes
import Derived.Laws.IdiomStrings
import Derived.Test.YtoegnhgofkhbnaaGreatDoorHq10
import Derived.Test.YtoegnhgofkhbnaaGreatDoorHq05
set_option maxRecDepth 100000
set_option maxHeartbeats 8000000
set_option linter.all false
namespace Go.Proofs.YtoegnhgofkhbnaaGreatDoor
open Go.Proofs.Tryz
open Go.Value renaming int->A7,slice->A8,pointer->A9,string->Aa,tuple->Ab,agg->Ac,bool->Ad
open Go.Obj renaming cells->Af
open Go.Ending renaming returned->Ag
open Go.IntKind renaming i64->Ah,u8->Ai
open Option renaming some->Aj,none->Ak
open Go renaming World->Al,Value->Am,Calls->An
open Go.Proofs.Tryz renaming prog->Ao
variable{b b0 base c cap cap5 g j k n off p q wh:Nat}{V V' W W' w w5:Al}{a:A5}{u v:Am}{acc bs:A2}{lim r:Int}{s:AQ}
section
open Go.RowKit Go.Lib
theorem bX:∀x:Fin 24,bits .or Ai 96 (x.val:Int)=((96+x.val:Nat):Int):=by decide
theorem bY(W:Al)(b e:Nat)(v:Am)(bs:A2)(x:Nat)(R:x<4294967296)(Q:bs.length<=999999999)(h:DO W b e v bs):An Ao 167 #[v,A7 .u64 x] W λr G=>∃j,r=Ag j/\DO G b e j (bs++C6 x)/\E9 b e W G:=by
 obtain⟨B,w,y,z,A⟩:=BH Tryz.infoU8;have P:=h.1.2.1;obtain⟨a,n,c,rfl⟩:=h.1.2.2;have k:=Ap h;by_cases s:x<32
 ·have p:Hid (C6 x=[UInt8.ofNat (160+x)]):=by show _=_;unfold C6;rw[As s]
  have J:=Vc ⟨x,s⟩;simp only[]at J;have N:Hid (B0 (UInt8.ofNat (160+x))=A7 Ai (bits .or Ai 160 (x:Int))):=by show _=_;rw[J,GQ _ (by omega)]
  have O:Hid (B0 (UInt8.ofNat (160+x))=A7 Ai (160+(x:Int))):=by show _=_;rw[GQ _ (by omega)];simp
  go_enter func167,ntmps167
  go_wp2_with(first
   |(at_builtin;refine I5 _ rfl _ _ 49 rfl b 5 B (A7 Ai 0) 1 1 underlying49 w y z A rfl (by decide) _ _ _ rfl (k.1.1.alloc _) ⟨W.heap.size,0,Ak⟩ 1 1 [A7 Ai (bits .or Ai 160 (x:Int))] rfl rfl (Bf _ _ _) (λu f=>by simp at f;subst f;rfl) (by unfold maxLen;omega) (by omega) (by simp;omega) ?_;intro j g d m E l;have i:=Ap (Id k N d m l);obtain⟨D,C,rfl⟩:=ownsRow_succ d)
   |(at_builtin;refine I5 _ rfl _ _ 49 rfl b 5 B (A7 Ai 0) 1 1 underlying49 w y z A rfl (by decide) _ _ _ rfl (k.1.1.alloc _) ⟨W.heap.size,0,Ak⟩ 1 1 [A7 Ai (160+(x:Int))] rfl rfl (Bf _ _ _) (λu f=>by simp at f;subst f;rfl) (by unfold maxLen;omega) (by omega) (by simp;omega) ?_;intro j g d m E l;have i:Hid (DO g b e j (bs++[UInt8.ofNat (160+x)])/\E9 b e W g):=Id k O d m l;obtain⟨D,C,rfl⟩:=ownsRow_succ d))
  go_ret;rw[p.out];exact⟨_,rfl,i⟩
 by_cases F:x<=255
 ·have p:Hid (C6 x=217::AX x 1):=by show _=_;unfold C6;rw[Aq s];rw[As F]
  go_enter func167,ntmps167
  go_wp2_with(first
   |(at_builtin;refine I5 _ rfl _ _ 49 rfl b 5 B (A7 Ai 0) 1 1 underlying49 w y z A rfl (by decide) _ _ _ rfl (k.1.1.alloc _) ⟨W.heap.size,0,Ak⟩ 1 1 [A7 Ai 217] rfl rfl (Bf _ _ _) (λu f=>by simp at f;subst f;rfl) (by unfold maxLen;omega) (by omega) (by simp;omega) ?_;intro j g d m E l;have i:Hid (DO g b e j (bs++[217])/\E9 b e W g):=Id k rfl d m l;obtain⟨D,C,rfl⟩:=ownsRow_succ d)
   |(go_at_call 166;refine(LZ _ b e _ _ x 1 (by omega) (by omega) (by simp;omega) i.1).mono ?_;rintro r M ⟨L,rfl,o,t⟩;obtain⟨H,K,I,rfl⟩:=o.1.2.2;have q:=Ap (LY i o t (p.out.symm))))
  go_ret;exact⟨_,rfl,q⟩
 by_cases c2:x<=65535
 ·have p:Hid (C6 x=218::AX x 2):=by show _=_;unfold C6;rw[Aq s];rw[Aq F];rw[As c2]
  go_enter func167,ntmps167
  go_wp2_with(first
   |(at_builtin;refine I5 _ rfl _ _ 49 rfl b 5 B (A7 Ai 0) 1 1 underlying49 w y z A rfl (by decide) _ _ _ rfl (k.1.1.alloc _) ⟨W.heap.size,0,Ak⟩ 1 1 [A7 Ai 218] rfl rfl (Bf _ _ _) (λu f=>by simp at f;subst f;rfl) (by unfold maxLen;omega) (by omega) (by simp;omega) ?_;intro j g d m E l;have i:Hid (DO g b e j (bs++[218])/\E9 b e W g):=Id k rfl d m l;obtain⟨D,C,rfl⟩:=ownsRow_succ d)
   |(go_at_call 166;refine(LZ _ b e _ _ x 2 (by omega) (by omega) (by simp;omega) i.1).mono ?_;rintro r M ⟨L,rfl,o,t⟩;obtain⟨H,K,I,rfl⟩:=o.1.2.2;have q:=Ap (LY i o t (p.out.symm))))
  go_ret;exact⟨_,rfl,q⟩
 have p:Hid (C6 x=219::AX x 4):=by show _=_;unfold C6;rw[Aq s];rw[Aq F];rw[Aq c2]
 go_enter func167,ntmps167
 go_wp2_with(first
  |(at_builtin;refine I5 _ rfl _ _ 49 rfl b 5 B (A7 Ai 0) 1 1 underlying49 w y z A rfl (by decide) _ _ _ rfl (k.1.1.alloc _) ⟨W.heap.size,0,Ak⟩ 1 1 [A7 Ai 219] rfl rfl (Bf _ _ _) (λu f=>by simp at f;subst f;rfl) (by unfold maxLen;omega) (by omega) (by simp;omega) ?_;intro j g d m E l;have i:Hid (DO g b e j (bs++[219])/\E9 b e W g):=Id k rfl d m l;obtain⟨D,C,rfl⟩:=ownsRow_succ d)
  |(go_at_call 166;refine(LZ _ b e _ _ x 4 (by omega) (by omega) (by simp;omega) i.1).mono ?_;rintro r M ⟨L,rfl,o,t⟩;obtain⟨H,K,I,rfl⟩:=o.1.2.2;have q:=Ap (LY i o t (p.out.symm))))
 go_ret;exact⟨_,rfl,q⟩
theorem bZ(W:Al)(b e:Nat)(v:Am)(bs:A2)(x:Nat)(R:x<4294967296)(Q:bs.length<=999999999)(h:DO W b e v bs):An Ao 141 #[v,A7 Ai 3,A7 .u64 x] W λr G=>∃j,r=Ag j/\DO G b e j (bs++AO 3 x)/\E9 b e W G:=by
 obtain⟨B,w,y,z,A⟩:=BH Tryz.infoU8;have P:=h.1.2.1;obtain⟨a,n,c,rfl⟩:=h.1.2.2;have k:=Ap h;by_cases s:x<24
 ·have p:Hid (AO 3 x=[UInt8.ofNat (96+x)]):=by show _=_;unfold AO;rw[As s]
  have J:=bX ⟨x,s⟩;simp only[]at J;have N:Hid (B0 (UInt8.ofNat (96+x))=A7 Ai (bits .or Ai 96 (x:Int))):=by show _=_;rw[J,GQ _ (by omega)]
  have O:Hid (B0 (UInt8.ofNat (96+x))=A7 Ai (96+(x:Int))):=by show _=_;rw[GQ _ (by omega)];simp
  go_enter func141,ntmps141
  go_wp2_with(first
   |(at_builtin;refine I5 _ rfl _ _ 49 rfl b 5 B (A7 Ai 0) 1 1 underlying49 w y z A rfl (by decide) _ _ _ rfl (k.1.1.alloc _) ⟨W.heap.size,0,Ak⟩ 1 1 [A7 Ai (bits .or Ai 96 (x:Int))] rfl rfl (Bf _ _ _) (λu f=>by simp at f;subst f;rfl) (by unfold maxLen;omega) (by omega) (by simp;omega) ?_;intro j g d m E l;have i:=Ap (Id k N d m l);obtain⟨D,C,rfl⟩:=ownsRow_succ d)
   |(at_builtin;refine I5 _ rfl _ _ 49 rfl b 5 B (A7 Ai 0) 1 1 underlying49 w y z A rfl (by decide) _ _ _ rfl (k.1.1.alloc _) ⟨W.heap.size,0,Ak⟩ 1 1 [A7 Ai (96+(x:Int))] rfl rfl (Bf _ _ _) (λu f=>by simp at f;subst f;rfl) (by unfold maxLen;omega) (by omega) (by simp;omega) ?_;intro j g d m E l;have i:Hid (DO g b e j (bs++[UInt8.ofNat (96+x)])/\E9 b e W g):=Id k O d m l;obtain⟨D,C,rfl⟩:=ownsRow_succ d))
  go_ret;rw[p.out];exact⟨_,rfl,i⟩
 by_cases F:x<=255
 ·have p:Hid (AO 3 x=120::AX x 1):=by show _=_;unfold AO;rw[Aq s];rw[As F];rfl
  go_enter func141,ntmps141
  go_wp2_with(first
   |(at_builtin;refine I5 _ rfl _ _ 49 rfl b 5 B (A7 Ai 0) 1 1 underlying49 w y z A rfl (by decide) _ _ _ rfl (k.1.1.alloc _) ⟨W.heap.size,0,Ak⟩ 1 1 [A7 Ai 120] rfl rfl (Bf _ _ _) (λu f=>by simp at f;subst f;rfl) (by unfold maxLen;omega) (by omega) (by simp;omega) ?_;intro j g d m E l;have i:Hid (DO g b e j (bs++[120])/\E9 b e W g):=Id k rfl d m l;obtain⟨D,C,rfl⟩:=ownsRow_succ d)
   |(go_at_call 166;refine(LZ _ b e _ _ x 1 (by omega) (by omega) (by simp;omega) i.1).mono ?_;rintro r M ⟨L,rfl,o,t⟩;obtain⟨H,K,I,rfl⟩:=o.1.2.2;have q:=Ap (LY i o t (p.out.symm))))
  go_ret;exact⟨_,rfl,q⟩
 by_cases c2:x<=65535
 ·have p:Hid (AO 3 x=121::AX x 2):=by show _=_;unfold AO;rw[Aq s];rw[Aq F];rw[As c2];rfl
  go_enter func141,ntmps141
  go_wp2_with(first
   |(at_builtin;refine I5 _ rfl _ _ 49 rfl b 5 B (A7 Ai 0) 1 1 underlying49 w y z A rfl (by decide) _ _ _ rfl (k.1.1.alloc _) ⟨W.heap.size,0,Ak⟩ 1 1 [A7 Ai 121] rfl rfl (Bf _ _ _) (λu f=>by simp at f;subst f;rfl) (by unfold maxLen;omega) (by omega) (by simp;omega) ?_;intro j g d m E l;have i:Hid (DO g b e j (bs++[121])/\E9 b e W g):=Id k rfl d m l;obtain⟨D,C,rfl⟩:=ownsRow_succ d)
   |(go_at_call 166;refine(LZ _ b e _ _ x 2 (by omega) (by omega) (by simp;omega) i.1).mono ?_;rintro r M ⟨L,rfl,o,t⟩;obtain⟨H,K,I,rfl⟩:=o.1.2.2;have q:=Ap (LY i o t (p.out.symm))))
  go_ret;exact⟨_,rfl,q⟩
 have p:Hid (AO 3 x=122::AX x 4):=by show _=_;unfold AO;rw[Aq s];rw[Aq F];rw[Aq c2];rw[As (by omega)];rfl
 go_enter func141,ntmps141
 go_wp2_with(first
  |(at_builtin;refine I5 _ rfl _ _ 49 rfl b 5 B (A7 Ai 0) 1 1 underlying49 w y z A rfl (by decide) _ _ _ rfl (k.1.1.alloc _) ⟨W.heap.size,0,Ak⟩ 1 1 [A7 Ai 122] rfl rfl (Bf _ _ _) (λu f=>by simp at f;subst f;rfl) (by unfold maxLen;omega) (by omega) (by simp;omega) ?_;intro j g d m E l;have i:Hid (DO g b e j (bs++[122])/\E9 b e W g):=Id k rfl d m l;obtain⟨D,C,rfl⟩:=ownsRow_succ d)
  |(go_at_call 166;refine(LZ _ b e _ _ x 4 (by omega) (by omega) (by simp;omega) i.1).mono ?_;rintro r M ⟨L,rfl,o,t⟩;obtain⟨H,K,I,rfl⟩:=o.1.2.2;have q:=Ap (LY i o t (p.out.symm))))
 go_ret;exact⟨_,rfl,q⟩
theorem cd(W:Al)(b e:Nat)(v:Am)(bs l:A2)(z:bs.length<=999999999)(I:l.length<=999999999)(h:DO W b e v bs):An Ao 142 #[v,Aa ⟨l.toArray⟩] W λr j=>∃g,r=Ag g/\Av j b g (bs++(AO 3 l.length++l))/\E9 b e W j:=by
 obtain⟨E,y,B,C,D⟩:=BH Tryz.infoU8;have t:=bZ W b e v bs l.length (by omega) z h;have H:(AO 3 l.length).length<=9:=by
  unfold AO;have w:∀x k,(AX x k).length=k:=λx k=>by induction k with|zero=>rfl|succ k F=>rw[AX,Bq,F]
  repeat' split
  all_goals simp[w]
 have p:(⟨l.toArray⟩:ByteArray).size=l.length:=FY ..;obtain⟨a,n,c,rfl⟩:=h.1.2.2;go_enter func142,ntmps142
 go_wp2_with(first
  |(go_at_call 141;refine t.mono ?_;rintro r q ⟨L,rfl,m,u⟩;obtain⟨G,K,c2,rfl⟩:=m.1.2.2;have d:=Ap m;have s:=Ap u)
  |(at_builtin;refine wpList_append_own_string _ rfl _ _ 49 9 rfl b 5 E underlying49 underlying9 y B C D _ _ _ rfl d.1.1 ⟨l.toArray⟩ rfl (by rw[p,AC];unfold maxLen;omega) (by rw[p,AC];omega) d.1.2.1 ?_;intro g i A o J;have f:Hid ((Av i b g ((bs++AO 3 l.length)++l)/\Below b q i)/\i.heap[e]?=q.heap[e]?):=⟨IG d.1 A o,o.block e d.2.2 (λx=>d.2.1 x.symm)⟩))
 go_ret;rw[CE]at f;exact⟨_,rfl,f.1.1,s.trans ⟨f.1.2,f.2⟩⟩
theorem cg(W:Al)(b e:Nat)(v:Am)(bs l:A2)(z:bs.length<=999999999)(I:l.length<=999999999)(h:DO W b e v bs):An Ao 145 #[v,Aa ⟨l.toArray⟩] W λr j=>∃g,r=Ag g/\Av j b g (bs++(C6 l.length++l))/\E9 b e W j:=by
 obtain⟨E,y,B,C,D⟩:=BH Tryz.infoU8;have t:=bY W b e v bs l.length (by omega) z h;have H:(C6 l.length).length<=9:=by
  unfold C6;have w:∀x k,(AX x k).length=k:=λx k=>by induction k with|zero=>rfl|succ k F=>rw[AX,Bq,F]
  repeat' split
  all_goals simp[w]
 have p:(⟨l.toArray⟩:ByteArray).size=l.length:=FY ..;obtain⟨a,n,c,rfl⟩:=h.1.2.2;go_enter func145,ntmps145
 go_wp2_with(first
  |(go_at_call 167;refine t.mono ?_;rintro r q ⟨L,rfl,m,u⟩;obtain⟨G,K,c2,rfl⟩:=m.1.2.2;have d:=Ap m;have s:=Ap u)
  |(at_builtin;refine wpList_append_own_string _ rfl _ _ 49 9 rfl b 5 E underlying49 underlying9 y B C D _ _ _ rfl d.1.1 ⟨l.toArray⟩ rfl (by rw[p,AC];unfold maxLen;omega) (by rw[p,AC];omega) d.1.2.1 ?_;intro g i A o J;have f:Hid ((Av i b g ((bs++C6 l.length)++l)/\Below b q i)/\i.heap[e]?=q.heap[e]?):=⟨IG d.1 A o,o.block e d.2.2 (λx=>d.2.1 x.symm)⟩))
 go_ret;rw[CE]at f;exact⟨_,rfl,f.1.1,s.trans ⟨f.1.2,f.2⟩⟩
def CV(b:UInt8):Nat:=firstT b.toNat%8
def Jn(b:UInt8):Nat:=accLo (firstT b.toNat/16)
def Jo(b:UInt8):Nat:=accHi (firstT b.toNat/16)
def Kd:A2->Bool
 |[]=>true
 |[b0]=>decide (2<=CV b0)
 |[b0,b1]=>decide (3<=CV b0/\Jn b0<=b1.toNat/\b1.toNat<=Jo b0)
 |[b0,b1,b2]=>decide (4<=CV b0/\(Jn b0<=b1.toNat/\b1.toNat<=Jo b0)/\128<=b2.toNat/\b2.toNat<=191)
 |_=>false
def BC(l:A2)(b:UInt8):Nat:=match l with
 |[]=>if CV b=0 then 2 else if CV b=1 then 0 else 1
 |[b0]=>if b.toNat<Jn b0\/Jo b0<b.toNat then 0 else if CV b0=2 then 2 else 1
 |[b0,_]=>if b.toNat<128\/191<b.toNat then 0 else if CV b0=3 then 2 else 1
 |_=>if b.toNat<128\/191<b.toNat then 0 else 2
theorem VK(b:UInt8):(CV b=0/\firstT b.toNat=240/\b.toNat<128)\/(CV b=1/\firstT b.toNat=241/\128<=b.toNat)\/(2<=CV b/\CV b<=4/\firstT b.toNat<240/\128<=b.toNat):=by
 unfold CV;have f:=firstT_cases b.toNat;have c:b.toNat<128->firstT b.toNat=240:=λh=>by unfold firstT;rw[As h]
 have d:128<=b.toNat->firstT b.toNat≠240:=λh=>by
  unfold firstT;rw[Aq (by omega)]
  repeat' split
  all_goals decide
 by_cases a:b.toNat<128
 ·left;have:=c a;exact⟨by rw[this],this,a⟩
 have e:=d (by omega);rcases f with h|h|h|h|h|h|h|h|h
 ·exact absurd h e
 ·right;left;exact⟨by rw[h],h,by omega⟩
 all_goals(right;right;rw[h];exact⟨by decide,by decide,by decide,by omega⟩)
theorem P6{b:UInt8}(h:2<=CV b):CV b<=4/\firstT b.toNat<240/\128<=b.toNat:=by
 rcases VK b with a|a|a
 ·omega
 ·omega
 exact a.2
theorem P7(b:UInt8):DP b.toNat (firstT b.toNat) (CV b) (firstT b.toNat/16) (Jn b) (Jo b):=dX _ _ rfl (by
 rcases firstT_cases b.toNat with h|h|h|h|h|h|h|h|h<;>rw[h]<;>decide)
def Hr(V:Al)(g off n cap:Nat)(r:Bool):Prop:=An Ao 247 #[A8 (Aj ⟨g,off,Ak⟩) n cap] V λe W'=>e=Ag (Ad r)/\A1 V W'
def Ke(V:Al)(g off n cap:Nat)(bad:Bool):Prop:=An Ao 248 #[A8 (Aj ⟨g,off,Ak⟩) n cap] V λe W'=>∃ch sz,e=Ag (Ab #[A7 .i32 ch,A7 Ah sz])/\(ch==65533&&sz==1)=bad/\A1 V W'
theorem Nu(h:An Ao 247 #[A8 (Aj ⟨g,off,Ak⟩) n cap] V λe a=>e=Ag (Ad true)/\a=V):Hr V g off n cap true :=
 h.mono λ_ _ ⟨b,c⟩=>⟨b,c▸AT _ _⟩
theorem Ie(f:128<=b0)(j:1<=n)(c:V.cell? ⟨g,off,Ak⟩=Aj (A7 Ai b0))(h:An Ao 255 #[A8 (Aj ⟨g,off,Ak⟩) n cap] V λe a=>e=Ag (Ab #[A7 .i32 65533,A7 Ah 1])/\A1 V a):Ke V g off n cap true :=
 VJ V g off cap n b0 f j c (λb k a=>(b==65533&&k==1)=true/\A1 V a) (h.mono λ_ _ ⟨i,d⟩=>⟨65533,1,i,by decide,d⟩)
theorem eF(b:2<=k)(a:Int):(a==65533&&(k:Int)==1)=false:=by
 have:((k:Int)==1)=false:=by simp;omega
 rw[this,OI]
theorem RI(f:2<=k)(d:128<=b0)(i:1<=n)(c:V.cell? ⟨g,off,Ak⟩=Aj (A7 Ai b0))(h:An Ao 255 #[A8 (Aj ⟨g,off,Ak⟩) n cap] V λe b=>(∃a,e=Ag (Ab #[A7 .i32 a,A7 Ah k]))/\A1 V b):Ke V g off n cap false :=
 VJ V g off cap n b0 d i c (λa j b=>(a==65533&&j==1)=false/\A1 V b) (h.mono λ_ _ ⟨⟨a,he⟩,hB⟩=>⟨a,k,he,eF f a,hB⟩)
theorem eG(g off c:Nat)(l:A2)(b:UInt8)(t:Kd l=true)(V:Al)(q:∀i (hi:i<(l++[b]).length),V.cell? ⟨g,off+i,Ak⟩=Aj (A7 Ai ((l++[b])[i]'hi).toNat))(h:U8 V):(BC l b=1->Hr V g off (l.length+1) c false)/\(BC l b=0->Hr V g off (l.length+1) c true/\Ke V g off (l.length+1) c true)/\(BC l b=2->Hr V g off (l.length+1) c true/\Ke V g off (l.length+1) c false):=by
 match l,t with
 |[],_ =>
  have a:V.cell? ⟨g,off,Ak⟩=Aj (A7 Ai b.toNat):=q 0 (by simp);have f:=P7 b;have d:=b.toNat_lt;unfold BC;rcases VK b with⟨v,u,k⟩|⟨v,u,k⟩|⟨v,u,k,n⟩
  ·rw[As v];refine⟨by simp,by simp,λ_=>⟨Nu (Nt V g off 1 c _ _ _ _ _ _ f d (by decide) (by omega) (by decide) a h),?_⟩⟩;refine(eE V g off c 1 b.toNat k (by decide) a).mono λ_ _ ⟨z,D⟩=>⟨b.toNat,1,z,?_,D▸AT _ _⟩
   have:((b.toNat:Int)==65533)=false:=by simp;omega
   rw[this,QQ]
  ·rw[Aq (by omega),As v];refine⟨by simp,λ_=>⟨Nu (Nt V g off 1 c _ _ _ _ _ _ f d (by decide) (by omega) (by decide) a h),?_⟩,by simp⟩;exact Ie k (Fu _ _) a ((eD V g off c 1 _ u d (by decide) a h).mono λ_ _ ⟨z,D⟩=>⟨z,D▸AT _ _⟩)
  rw[Aq (by omega),Aq (by omega)];exact⟨λ_=>dY V g off c _ _ _ _ _ _ f d (by omega) a h,by simp,by simp⟩
 |[b0],t =>
  have a:V.cell? ⟨g,off,Ak⟩=Aj (A7 Ai b0.toNat):=q 0 (by simp);have m:V.cell? ⟨g,off+1,Ak⟩=Aj (A7 Ai b.toNat):=q 1 (by simp);have f:=P7 b0;have d:=b0.toNat_lt;have C:=By t;obtain⟨u,k,n⟩:=P6 C;have y:CV b0=2->Hr V g off 2 c true:=λe=>Nu (Nt V g off 2 c _ _ _ _ _ _ f d (by decide) (by omega) (by decide) a h);unfold BC;simp only[];by_cases q1:b.toNat<Jn b0
  ·rw[As (.inl q1)];refine⟨by simp,λ_=>?_,by simp⟩;by_cases j:CV b0=2
   ·exact⟨y j,Ie n (Fu _ _) a (eo V g off c _ _ _ _ _ _ _ f d k a m h j q1)⟩
   exact⟨dZ V g off c _ _ _ _ _ _ _ f d (by omega) a m h q1,Ie n (Fu _ _) a (P5 V g off c 2 _ _ _ _ _ _ f d k a h (by decide) (by omega))⟩
  by_cases o:Jo b0<b.toNat
  ·rw[As (.inr o)];refine⟨by simp,λ_=>?_,by simp⟩;by_cases j:CV b0=2
   ·exact⟨y j,Ie n (Fu _ _) a (ep V g off c _ _ _ _ _ _ _ f d k a m h j q1 o)⟩
   exact⟨ed V g off c _ _ _ _ _ _ _ f d (by omega) a m h q1 o,Ie n (Fu _ _) a (P5 V g off c 2 _ _ _ _ _ _ f d k a h (by decide) (by omega))⟩
  rw[Aq (by omega)];by_cases j:CV b0=2
  ·rw[As j];exact⟨by simp,by simp,λ_=>⟨y j,RI (by decide) n (Fu _ _) a (et V g off c _ _ _ _ _ _ _ f d k a m h j q1 o)⟩⟩
  rw[Aq j];exact⟨λ_=>ef V g off c _ _ _ _ _ _ _ f d (by omega) a m h q1 o,by simp,by simp⟩
 |[b0,b1],t =>
  have a:V.cell? ⟨g,off,Ak⟩=Aj (A7 Ai b0.toNat):=q 0 (by simp);have m:V.cell? ⟨g,off+1,Ak⟩=Aj (A7 Ai b1.toNat):=q 1 (by simp);have p:V.cell? ⟨g,off+2,Ak⟩=Aj (A7 Ai b.toNat):=q 2 (by simp);have f:=P7 b0;have d:=b0.toNat_lt;obtain⟨C,E,F⟩:=By t;obtain⟨u,k,n⟩:=P6 (b:=b0) (by omega);have r:¬b1.toNat<Jn b0:=by omega
  have s:¬Jo b0<b1.toNat:=by omega
  have y:CV b0=3->Hr V g off 3 c true:=λe=>Nu (Nt V g off 3 c _ _ _ _ _ _ f d (by decide) (by omega) (by decide) a h);unfold BC;simp only[];by_cases q1:b.toNat<128
  ·rw[As (.inl q1)];refine⟨by simp,λ_=>?_,by simp⟩;by_cases j:CV b0=3
   ·exact⟨y j,Ie n (Fu _ _) a (eu V g off c _ _ _ _ _ _ _ _ f d k a m p h j r s q1)⟩
   exact⟨eh V g off c _ _ _ _ _ _ _ _ f d (by omega) a m p h r s q1,Ie n (Fu _ _) a (P5 V g off c 3 _ _ _ _ _ _ f d k a h (by decide) (by omega))⟩
  by_cases o:191<b.toNat
  ·rw[As (.inr o)];refine⟨by simp,λ_=>?_,by simp⟩;by_cases j:CV b0=3
   ·exact⟨y j,Ie n (Fu _ _) a (ew V g off c _ _ _ _ _ _ _ _ f d k a m p h j r s o)⟩
   exact⟨ek V g off c _ _ _ _ _ _ _ _ f d (by omega) a m p h r s q1 o,Ie n (Fu _ _) a (P5 V g off c 3 _ _ _ _ _ _ f d k a h (by decide) (by omega))⟩
  rw[Aq (by omega)];by_cases j:CV b0=3
  ·rw[As j];exact⟨by simp,by simp,λ_=>⟨y j,RI (by decide) n (Fu _ _) a (ey V g off c _ _ _ _ _ _ _ _ f d k a m p h j r s (by omega) (by omega))⟩⟩
  rw[Aq j];exact⟨λ_=>em V g off c _ _ _ _ _ _ _ _ f d (by omega) a m p h r s q1 o,by simp,by simp⟩
 |[b0,b1,b2],t =>
  have a:V.cell? ⟨g,off,Ak⟩=Aj (A7 Ai b0.toNat):=q 0 (by simp);have m:V.cell? ⟨g,off+1,Ak⟩=Aj (A7 Ai b1.toNat):=q 1 (by simp);have p:V.cell? ⟨g,off+2,Ak⟩=Aj (A7 Ai b2.toNat):=q 2 (by simp);have x:V.cell? ⟨g,off+3,Ak⟩=Aj (A7 Ai b.toNat):=q 3 (by simp);have f:=P7 b0;have d:=b0.toNat_lt;obtain⟨C,⟨E,F⟩,A,B⟩:=By t;obtain⟨u,k,n⟩:=P6 (b:=b0) (by omega);have w:CV b0=4:=by omega
  have r:¬b1.toNat<Jn b0:=by omega
  have s:¬Jo b0<b1.toNat:=by omega
  have y:=Nu (Nt V g off 4 c _ _ _ _ _ _ f d (by decide) (by omega) (by decide) a h);unfold BC;simp only[];by_cases q1:b.toNat<128
  ·rw[As (.inl q1)];exact⟨by simp,λ_=>⟨y,Ie n (Fu _ _) a (eA V g off c _ _ _ _ _ _ _ _ _ f d k a m p x h w r s A B q1)⟩,by simp⟩
  by_cases o:191<b.toNat
  ·rw[As (.inr o)];exact⟨by simp,λ_=>⟨y,Ie n (Fu _ _) a (eB V g off c _ _ _ _ _ _ _ _ _ f d k a m p x h w r s A B o)⟩,by simp⟩
  rw[Aq (by omega)];exact⟨by simp,by simp,λ_=>⟨y,RI (by decide) n (Fu _ _) a (eC V g off c _ _ _ _ _ _ _ _ _ f d k a m p x h w r s A B (by omega) (by omega))⟩⟩
structure Ew(W:World)(p base:Nat)(bs:A2)(wh:Nat):Prop where
 row:∃v,W.heap[p]?=some (.cells #[v,.int .i64 wh] 340)/\Av W base v bs
 lt:p<base
 le:wh<=bs.length
structure Fh(p base:Nat)(W W':World):Prop where
 os:W'.os=W.os
 tape:W'.tape=W.tape
 output:W'.output=W.output
 size:W.heap.size<=W'.heap.size
 block:∀k,k<base->k≠p->W'.heap[k]?=W.heap[k]?
theorem Fh.refl(p a:Nat)(W:Al):Fh p a W W:=⟨rfl,rfl,rfl,AB _,λ_ _ _=>rfl⟩
theorem Fh.trans{a b c:Al}(h:Fh p base a b)(d:Fh p base b c):Fh p base a c :=
 ⟨d.os.trans h.os,d.tape.trans h.tape,d.output.trans h.output,AW h.size d.size,λk e f=>(d.block k e f).trans (h.block k e f)⟩
theorem Fh.of_below(h:A1 W W')(a:base<=W.heap.size):Fh p base W W' :=
 ⟨h.os,h.tape,h.output,h.size,λk b _=>h.block k (by omega)⟩
theorem RJ{a b:Am}{t:TypeId}(c:w.heap[g]?=Aj (Af #[a,b] t)):(w.setCell ⟨g,0,Ak⟩ v).heap[g]?=Aj (Af #[v,b] t)/\(w.setCell ⟨g,1,Ak⟩ v).heap[g]?=Aj (Af #[a,v] t):=by
 constructor
 ·rw[QI w g 0 _ _ _ v c,B4 _ _ _ _ _ _ c];rfl
 rw[QI w g 1 _ _ _ v c,B4 _ _ _ _ _ _ c];rfl
theorem VL:Fh p base w (w.setCell ⟨p,j,Ak⟩ v) :=
 ⟨rfl,rfl,rfl,by simp[World.setCell],λk _ a=>BV _ _ _ _ (by simpa using a)⟩
theorem RK(h:Av w base v bs)(n:p<base):Av (w.setCell ⟨p,j,Ak⟩ u) base v bs:=by
 obtain⟨⟨d,a⟩,f,i⟩:=h;refine⟨⟨d,?_⟩,by simpa[World.setCell]using f,i⟩;rcases a with a|⟨g,b,c,e,l,m,k⟩
 ·exact .inl a
 exact .inr ⟨g,b,c,e,l,(BV _ _ _ _ (by simp;omega)).trans m,k⟩
theorem Ew.same(h:Ew W p base bs wh)(d:∀k,k<W.heap.size->k=p\/base<=k->W'.heap[k]?=W.heap[k]?)(q:W.heap.size<=W'.heap.size):Ew W' p base bs wh:=by
 obtain⟨v,f,⟨l,a⟩,o,m⟩:=h.row;refine⟨⟨v,(d p (At f) (.inl rfl)).trans f,⟨l,?_⟩,by omega,m⟩,h.lt,h.le⟩;rcases a with a|⟨g,i,j,e,b,c,n⟩
 ·exact .inl a
 exact .inr ⟨g,i,j,e,b,(d g (At c) (.inr b)).trans c,n⟩
theorem Ew.below(h:Ew W p base bs wh)(a:A1 W W'):Ew W' p base bs wh:=h.same (λk b _=>a.block k b) a.size
theorem Ew.but(h:Ew W p base bs wh)(c:AE b W W')(e:b<base)(f:b≠p):Ew W' p base bs wh:=h.same (λk d a=>c.block k d (by rcases a with a|a<;>omega)) c.size
theorem eH(W:Al)(p k:Nat)(bs:A2)(b:Nat)(h:Ew W p k bs b):An Ao 237 #[A9 (Aj ⟨p,0,Ak⟩)] W λe j=>e=Ag (Ad (decide (b=bs.length)))/\A1 W j:=by
 obtain⟨v,f,⟨r,d⟩,_,a,n,c,rfl⟩:=h.row;have m:n=bs.length:=by
  rcases d with⟨d,l⟩|⟨g,o,q,e,_⟩
  ·cases d;exact l.symm
  cases e;rfl
 subst m;have s:=Ar f 0;have t:=Ar f 1;have i:Hid (((b:Int)==(bs.length:Int))=decide (b=bs.length)):=by
  show _=_;by_cases e:b=bs.length
  ·simp[e]
  simp[e];omega
 go_enter func237,ntmps237;go_wp2
 go_quiet (fail)
 go_wp2;go_ret;refine⟨?_,DN W nq⟩;show Ending.returned (Ad _)=_;rw[i.out]
theorem M3(h:Av W base (A8 (Aj ⟨g,0,Ak⟩) n cap) bs):(n=bs.length/\bs.length<=cap/\cap<=maxLen/\base<=g)/\∀j (a:j<bs.length),W.cell? ⟨g,j,Ak⟩=Aj (A7 Ai ((bs[j]'a).toNat:Int)):=by
 obtain⟨⟨r,b⟩,_,_⟩:=h;rcases b with⟨b,_⟩|⟨q,o,p,e,k,m,d,f,s,i⟩
 ·cases b
 cases e;refine⟨⟨rfl,d,f,k⟩,λj a=>?_⟩;rw[Ar m j,<-Iw];have c:=congrArg (λl=>l[j]?) i;simp only[OL]at c;rw[Iv a,GH,AY a]at c;exact c
theorem U8.keep(h:U8 W)(e:Fh p base W V)(j:7<p)(l:p<base):U8 V:=by
 have a:∀(g off:Nat) (v:Am),g<=7->W.cell? ⟨g,off,Ak⟩=Aj v->V.cell? ⟨g,off,Ak⟩=Aj v:=λg off v k f=>(GF (w:=W) (e.block g (by omega) (by omega))).trans f;exact⟨λc d=>a _ _ _ (by decide) (h.1 c d),λi b=>⟨a _ _ _ (by decide) (h.2 i b).1,a _ _ _ (by decide) (h.2 i b).2⟩⟩
theorem VM(h:Ew W p base bs wh):Ew (W.setCell ⟨p,1,Ak⟩ (A7 Ah bs.length)) p base bs bs.length:=by
 obtain⟨v,b,a⟩:=h.row;exact⟨⟨v,(RJ b).2,RK a h.lt⟩,h.lt,AB _⟩
structure RL(W:World)(p base g cap:Nat)(bs:A2)(wh:Nat)(V:World):Prop where
 keep:Fh p base W V
 gat:Ew V p base bs wh
 row:V.heap[p]?=some (.cells #[.slice (some ⟨g,0,none⟩) bs.length cap,.int .i64 wh] 340)
 cells:∀j (hj:j<bs.length),V.cell? ⟨g,j,none⟩=some (.int .u8 ((bs[j]'hj).toNat:Int))
 cap:bs.length<=cap/\cap<=maxLen
theorem eI{b:UInt8}(q:base<=W.heap.size)(e:p<base)(B:wh<=bs.length)(o:W.ownsRow base 5 1 (A8 a n c) bs.length (bs.map B0))(y:B0 b=u)(x:w5.ownsRow base 5 1 (A8 (Aj ⟨g,0,Ak⟩) (bs.length+1) cap5) (bs.length+1) (bs.map B0++[u]))(r:(W.alloc (Af #[u] 5)).grownBy w5 (Value.slice a n c).ownBlock)(l:w5.heap[p]?=Aj (Af #[A8 a n c,A7 Ah wh] 340)):RL W p base g cap5 (bs++[b]) wh (w5.setCell ⟨p,0,Ak⟩ (A8 (Aj ⟨g,0,Ak⟩) (bs.length+1) cap5)):=by
 have d:=G3 ((AT base W).alloc q _) (o.alloc _) r (by simp;omega);have f:Av w5 base (A8 (Aj ⟨g,0,Ak⟩) (bs.length+1) cap5) (bs++[b]):=⟨Jj x y,by have:=d.size;omega,_,_,_,rfl⟩
 obtain⟨⟨z,c2,m,A⟩,cs⟩:=M3 f;have h:=RK (p:=p) (j:=0) (u:=A8 (Aj ⟨g,0,Ak⟩) (bs.length+1) cap5) f e;have t:(bs++[b]).length=bs.length+1:=by simp
 have i:=(RJ (v:=A8 (Aj ⟨g,0,Ak⟩) (bs.length+1) cap5) l).1;refine⟨⟨d.os,d.tape,d.output,by simpa[World.setCell]using d.size,λk s w=>(BV _ _ _ _ (by simpa using w)).trans (d.block k s)⟩,⟨⟨_,i,h⟩,e,by omega⟩,by rw[t];exact i,(M3 h).2,⟨c2,m⟩⟩
theorem eJ(W:Al)(p t:Nat)(bs:A2)(d:Nat)(b:UInt8)(h:Ew W p t bs d)(hp:Kd (bs.drop d)=true)(ht:U8 W)(h7:7<p)(hl:bs.length<=999999999):An Ao 240 #[A9 (Aj ⟨p,0,Ak⟩),A7 Ai b.toNat] W λe Y=>e=Ag (Ad (BC (bs.drop d) b != 0))/\Fh p t W Y/\Ew Y p t (bs++[b]) (if BC (bs.drop d) b=2 then bs.length+1 else d):=by
 obtain⟨D,G⟩:∃D,Hid ((BC (bs.drop d) b != 0)=D):=⟨_,show _=_ from rfl⟩
 obtain⟨E,H⟩:∃E,Hid ((if BC (bs.drop d) b=2 then bs.length+1 else d)=E):=⟨_,show _=_ from rfl⟩
 rw[G.out,H.out];obtain⟨i0,J,ai,aj,ak⟩:=BH Tryz.infoU8;obtain⟨aw,hr,ho,a,am,al,an,rfl⟩:=h.row;have ac:=h.lt;have aa:=h.le;have hn:al=bs.length:=by
  rcases ho.2 with⟨w,h3⟩|⟨aq,ao,ap,e,_⟩
  ·cases w;exact h3.symm
  cases e;rfl
 subst hn;have M:=Ap ho;have N:=Ap hr;have HT:=Ap ht;have C:=Ar hr 0;go_enter func240,ntmps240
 go_wp2_with(first
  |(at_builtin;refine Bz _ rfl _ _ 49 rfl t 5 i0 (A7 Ai 0) 1 1 underlying49 J ai aj ak rfl (by decide) _ _ _ rfl (M.alloc _) ⟨W.heap.size,0,Ak⟩ 1 1 [A7 Ai b.toNat] rfl rfl (Bf _ _ _) (λav hu=>by simp at hu;subst hu;rfl) (by unfold maxLen;omega) (by omega) (by simp;omega) ?_;intro v' w5 ad v au;obtain⟨m,o,rfl⟩:=ownsRow_succ ad;have O:=Ap ((v.block p (by have:=At N;simp;omega) (λe=>by have:=E7 M e.symm;omega)).trans ((AL _ _ _ (At N)).trans N));have C:=Ar O 0;have f0:=Cx w5 p 0 _ _ O))
 have f:=Ap (eI a ac aa M rfl ad v O);generalize w5.setCell ⟨p,0,Ak⟩ (A8 (Aj ⟨m,0,Ak⟩) (bs.length+1) o)=V at *;have C:=Ar f.row 0;have k1:=Ar f.row 1;have f1:=Cx V p 1 _ _ f.row;have ab:(bs++[b]).length=bs.length+1:=by simp
 rw[ab]at C k1;have U:=f.cap;rw[ab]at U;have ar:=U.1;have af:=U.2;unfold maxLen at af;have ah:(bs.drop d).length+1=bs.length+1-d:=by rw[DK];omega
 have z:Hid (∀X,A1 V X->(BC (bs.drop d) b=1->Hr X m d (bs.length+1-d) (o-d) false)/\(BC (bs.drop d) b=0->Hr X m d (bs.length+1-d) (o-d) true/\Ke X m d (bs.length+1-d) (o-d) true)/\(BC (bs.drop d) b=2->Hr X m d (bs.length+1-d) (o-d) true/\Ke X m d (bs.length+1-d) (o-d) false)):=by
  show∀X,_;intro X x;have u:(bs++[b]).drop d=bs.drop d++[b]:=ML aa;have:=eG m d (o-d) (bs.drop d) b hp X (λi J=>by
   have n:d+i<(bs++[b]).length:=by
    rw[<-u,DK]at J;omega
   have c:=f.cells (d+i) n;have e:(bs.drop d++[b])[i]'J=(bs++[b])[d+i]'n:=by
    simp only[<-u,List.getElem_drop]
   rw[e];exact(x.cell (p:=⟨m,d+i,Ak⟩) (F8 c)).trans c) ((HT.keep f.keep h7 ac).below x)
  rw[ah]at this;exact this
 have ag:BC (bs.drop d) b=0\/BC (bs.drop d) b=1\/BC (bs.drop d) b=2:=by
  unfold BC
  repeat' split
  all_goals simp
 have L:=Ap (AW a f.keep.size)
 go_quiet (fail)
 have k:=Ap (DN V nq);rcases ag with I|R|w
 ·have r:Hid (D=false):=by show _=_;rw[<-G.out,I];rfl
  have s:Hid (E=d):=by show _=_;rw[<-H.out,I];rfl
  have l:=((z.out _ k).2.1 I).1;have A:=λX x=>((z.out X x).2.1 I).2;unfold Hr at l;unfold Ke at A
  go_wp2_with(first
   |(go_at_call 247;refine l.mono ?_;rintro e K ⟨rfl,B⟩;have j:=Ap (k.trans (B.mono k.size));have Q:=A K j)
   |(go_at_call 248;refine Q.mono ?_;rintro e w8 ⟨Z,sz,rfl,y,T⟩;have q:=Ap (j.trans (T.mono j.size));rw[Ch]at y;obtain⟨g,ae⟩:=y))
  go_ret;rw[r.out,s.out];exact⟨rfl,f.keep.trans (Fh.of_below q L),f.gat.below q⟩
 ·have r:Hid (D=true):=by show _=_;rw[<-G.out,R];rfl
  have s:Hid (E=d):=by show _=_;rw[<-H.out,R];rfl
  have l:=(z.out _ k).1 R;unfold Hr at l
  go_wp2_with(first
   |(go_at_call 247;refine l.mono ?_;rintro e K ⟨rfl,B⟩;have j:=Ap (k.trans (B.mono k.size))))
  go_ret;rw[r.out,s.out];exact⟨rfl,f.keep.trans (Fh.of_below j L),f.gat.below j⟩
 have r:Hid (D=true):=by show _=_;rw[<-G.out,w];rfl
 have s:Hid (E=bs.length+1):=by show _=_;rw[<-H.out,w];rfl
 have l:=((z.out _ k).2.2 w).1;have A:=λX x=>((z.out X x).2.2 w).2;unfold Hr at l;unfold Ke at A
 go_wp2_with(first
  |(go_at_call 247;refine l.mono ?_;rintro e K ⟨rfl,B⟩;have j:=Ap (k.trans (B.mono k.size));have Q:=A K j))
 refine Q.mono ?_;rintro e w8 ⟨Z,sz,rfl,y,T⟩;have q:=Ap (j.trans (T.mono j.size));have P:=Ap ((q.block p (At f.row)).trans f.row);have F:Hid (Fh p t W (w8.setCell ⟨p,1,Ak⟩ (A7 Ah ((bs.length:Int)+1)))/\Ew (w8.setCell ⟨p,1,Ak⟩ (A7 Ah ((bs.length:Int)+1))) p t (bs++[b]) (bs.length+1)):=by
  have S:=VM (f.gat.below q);rw[show(bs++[b]).length=bs.length+1 by simp]at S;have e9:(((bs.length+1:Nat)):Int)=(bs.length:Int)+1:=by omega
  rw[e9]at S;exact⟨(f.keep.trans (Fh.of_below q L)).trans VL,S⟩
 have C:=Ar P 0;have k1:=Ar P 1;have f1:=Cx w8 p 1 _ _ P;rw[show(bs++[b]).length=bs.length+1 by simp]at C;cases g:(Z==65533)
 ·clear y;go_wp2;go_ret;rw[r.out,s.out];exact⟨rfl,F.1,F.2⟩
 have ae:(sz==1)=false:=by rw[g,Gj]at y;exact y
 go_wp2;go_ret;rw[r.out,s.out];exact⟨rfl,F.1,F.2⟩
def Cu(r:Int):A2:=(encodeRuneZ r).map λx=>UInt8.ofNat x.toNat
theorem eK(x:Int)(a:0<=x)(b:x<=255):B0 (UInt8.ofNat x.toNat)=A7 Ai x:=by
 unfold B0;rw[OA,I7 (by omega)];congr 1;omega
theorem RM(r:Int):runeCells r=(Cu r).map B0:=by
 have b:∀x∈encodeRuneZ r,0<=x/\x<=255:=by
  unfold encodeRuneZ
  repeat' split
  all_goals(intro x a;simp at a;omega)
 unfold runeCells Cu;rw[Na];apply Ul;intro x a;exact(eK x (b x a).1 (b x a).2).symm
theorem KR(r:Int):1<=(Cu r).length/\(Cu r).length<=4:=by
 unfold Cu encodeRuneZ;rw[De]
 repeat' split
 all_goals simp
theorem eM{cs:A2}{o:Obj}(r:base<=W.heap.size)(e:p<base)(B:wh<=bs.length)(q:W.ownsRow base 5 1 (A8 a n c) bs.length (bs.map B0))(x:w5.ownsRow base 5 1 (A8 (Aj ⟨g,0,Ak⟩) (bs.length+cs.length) cap5) (bs.length+cs.length) (bs.map B0++cs.map B0))(s:(W.alloc o).grownBy w5 (Value.slice a n c).ownBlock)(l:w5.heap[p]?=Aj (Af #[A8 a n c,A7 Ah wh] 340)):RL W p base g cap5 (bs++cs) wh (w5.setCell ⟨p,0,Ak⟩ (A8 (Aj ⟨g,0,Ak⟩) (bs.length+cs.length) cap5)):=by
 have b:=G3 ((AT base W).alloc r _) (q.alloc _) s (by simp;omega);have d:(bs++cs).length=bs.length+cs.length:=AC;have f:Av w5 base (A8 (Aj ⟨g,0,Ak⟩) (bs.length+cs.length) cap5) (bs++cs):=⟨by rw[d,Eg];exact x,by have:=b.size;omega,_,_,_,rfl⟩
 obtain⟨⟨y,c2,m,z⟩,A⟩:=M3 f;have h:=RK (p:=p) (j:=0) (u:=A8 (Aj ⟨g,0,Ak⟩) (bs.length+cs.length) cap5) f e;have i:=(RJ (v:=A8 (Aj ⟨g,0,Ak⟩) (bs.length+cs.length) cap5) l).1;refine⟨⟨b.os,b.tape,b.output,by simpa[World.setCell]using b.size,λk t w=>(BV _ _ _ _ (by simpa using w)).trans (b.block k t)⟩,⟨⟨_,i,h⟩,e,by omega⟩,by rw[d];exact i,(M3 h).2,⟨c2,m⟩⟩
theorem eN(W:Al)(p f:Nat)(bs:A2)(t:Nat)(r:Int)(J : -2147483648<=r)(K:r<=2147483647)(h:Ew W p f bs t)(X:bs.length<=999999999):An Ao 238 #[A9 (Aj ⟨p,0,Ak⟩),A7 .i32 r] W λe w=>e=Ag (Ab #[])/\Fh p f W w/\Ew w p f (bs++Cu r) (bs++Cu r).length:=by
 obtain⟨v,j,i,A,a,n,c,rfl⟩:=h.row;have H:=h.lt;have G:=h.le;have I:n=bs.length:=by
  rcases i.2 with⟨E,F⟩|⟨g,Q,C,e,_⟩
  ·cases E;exact F.symm
  cases e;rfl
 subst I;have O:=Ap i;have P:=Ap j;have x:An Ao 165 #[A8 a bs.length c,A7 .i32 r] W λe s=>∃g b,e=Ag (A8 (Aj ⟨g,0,Ak⟩) (bs.length+(Cu r).length) b)/\Hid (RL W p f g b (bs++Cu r) t (s.setCell ⟨p,0,Ak⟩ (A8 (Aj ⟨g,0,Ak⟩) (bs.length+(Cu r).length) b)))/\Hid (s.heap[p]?=Aj (Af #[A8 a bs.length c,A7 Ah t] 340)):=by
  refine(Any.utf8_AppendRune_plain Tryz.lays242 (by kernel_rfl) f (A8 a bs.length c) bs.length (bs.map B0) r J K W i (by omega) A).mono ?_;rintro e s ⟨v',rfl,q,o,B⟩;rw[RM,De]at q;have V:=(KR r).1;rcases q.2 with⟨_,U⟩|⟨g,b,C,rfl,_⟩
  ·omega
  have z:=(B.block p (by have:=At j;simp;omega) (λe=>by have:=E7 i e.symm;omega)).trans ((AL _ _ _ (At j)).trans j);exact⟨g,b,rfl,eM A H G i q B z,z⟩
 have L:=Ar j 0;obtain⟨m,l⟩:∃m,(Cu r).length=m:=⟨_,rfl⟩
 have k:Hid ((bs++Cu r).length=bs.length+m/\m<=4):=⟨by rw[AC,l],by rw[<-l];exact(KR r).2⟩
 rw[l]at x;have Y:=k.2;go_enter func238,ntmps238
 go_wp2_with(first
  |(go_at_call 165;refine x.mono ?_;rintro e N ⟨T,b,rfl,d,u⟩;have L:=Ar u 0;have R:=Cx N p 0 _ _ u;have M:=Ar d.row 0;have S:=Cx _ p 1 _ _ d.row;have Z:=Ar d.row 1;rw[k.1]at M)
  )
 go_end0;refine⟨rfl,d.keep.trans VL,?_⟩;have y:=VM d.gat;have D:(((bs++Cu r).length:Nat):Int)=(bs.length:Int)+m:=by rw[k.1];omega
 rw[D]at y;exact y
end
section
open Go.RowKit
def qIO(x:Nat):Bool:=decide (56320<=x/\x<=57343)
def Mb(x:Nat):Bool:=decide (55296<=x/\x<=56319)
theorem We(x:Nat)(w:Al):An Ao 253 #[A7 .i32 x] w λe d=>e=Ag (Ad (qIO x))/\d=w:=by
 unfold qIO;by_cases b:56320<=x
 ·by_cases c:x<=57343
  ·have a:decide ((x:Int)<=57343)=true:=by simp;omega
   rw[Bs ⟨b,c⟩];go_enter func253,ntmps253;go_wp2;go_ret;exact⟨rfl,rfl⟩
  have a:decide ((x:Int)<=57343)=false:=by simp;omega
  rw[BJ (by omega)];go_enter func253,ntmps253;go_wp2;go_ret;exact⟨rfl,rfl⟩
 rw[BJ (by omega)];go_enter func253,ntmps253;go_wp2;go_ret;exact⟨rfl,rfl⟩
theorem fO(x:Nat)(w:Al):An Ao 254 #[A7 .i32 x] w λe d=>e=Ag (Ad (Mb x))/\d=w:=by
 unfold Mb;by_cases b:55296<=x
 ·by_cases c:x<=56319
  ·have a:decide ((x:Int)<=56319)=true:=by simp;omega
   rw[Bs ⟨b,c⟩];go_enter func254,ntmps254;go_wp2;go_ret;exact⟨rfl,rfl⟩
  have a:decide ((x:Int)<=56319)=false:=by simp;omega
  rw[BJ (by omega)];go_enter func254,ntmps254;go_wp2;go_ret;exact⟨rfl,rfl⟩
 rw[BJ (by omega)];go_enter func254,ntmps254;go_wp2;go_ret;exact⟨rfl,rfl⟩
theorem Pd:∀{k p a x q:Nat},Ce bs lim k p a=.ok (x,q)->x<(a+1)*16^k/\q=p+k
 |0,p,a,x,q,h=>by
  unfold Ce at h;cases h;simp
 |k+1,p,a,x,q,h=>by
  rw[Ce]at h;split at h
  ·cases h
  split at h
  ·cases h
  split at h
  ·cases h
  next d hd =>
  obtain⟨b,c⟩:=Pd h;have e:=Pc hd;have f:(a*16+d+1)*16^k<=((a+1)*16)*16^k:=QC _ (by omega);have g:((a+1)*16)*16^k=(a+1)*16^(k+1):=by rw[Nat.mul_assoc,LL,Gk 16]
  exact⟨by omega,by omega⟩
def Ey(bs:A2)(lim:Int)(p:Nat):A6 Int:=match Ce bs lim 4 p 0 with
 |.error e=>.error e
 |.ok (x,q)=>if qIO x=true then .error (9,(q:Int)-1)else if Mb x=true then(match Ba bs lim [92,117] q with
  |.error e=>.error e
  |.ok (_,q2)=>match Ce bs lim 4 q2 0 with
   |.error e=>.error e
   |.ok (y,q3)=>if qIO y=true then .ok (65536+((x:Int)-55296)*1024+((y:Int)-56320),q3)else .error (9,(q3:Int)-1))else .ok (x,q)
theorem fP(W:Al)(b:Nat)(s:AQ)(h:Az W b s):An Ao 246 #[Ac #[A9 (Aj ⟨b,0,Ak⟩)]] W (DD W b s (λx:Int=>A7 .i32 x) (Ey s.bs s.lim s.pos)):=by
 have j:=Ap (Eu h);obtain⟨R,p⟩:∃R,Hid (Ey s.bs s.lim s.pos=R):=⟨_,show _=_ from rfl⟩
 rw[p.out];have a:=p.out;unfold Ey at a;have o:=j.cell;have u:=Wd _ b s j.src;go_enter func246,ntmps246
 go_wp2_with fail
 refine u.mono ?_;rintro e D ⟨c,hF⟩;rcases hx:Ce s.bs s.lim 4 s.pos 0 with⟨f,i⟩|⟨x,q⟩
 ·simp only[hx]at a hF;subst a;obtain rfl:=(show B7 f i e from hF)
  go_wp2;exact⟨rfl,j.but.trans c,rfl⟩
 simp only[hx]at a hF;have C:=(Pd hx).1;obtain⟨rfl,g⟩:=hF;obtain⟨d,o⟩:=CK j g c
 go_wp2_with fail
 refine(We x _).mono ?_;rintro e w ⟨rfl,rfl⟩;cases r:qIO x
 ·rw[r,Aq (by decide)]at a
  go_wp2_with fail
  refine(fO x _).mono ?_;rintro e w ⟨rfl,rfl⟩;cases m:Mb x
  ·rw[m,Aq (by decide)]at a;subst a;go_wp2;go_ret;exact⟨d.but,rfl,d.src⟩
  rw[m,As rfl]at a;have A:=By (show decide (55296<=x/\x<=56319)=true from m)
  go_wp2_with fail
  refine(Ma _ b {s with pos:=q} [92,117] (by decide) d.src).mono ?_;rintro e E ⟨c,hF⟩;rcases hq:Ba s.bs s.lim [92,117] q with⟨f,i⟩|⟨_,t⟩
  ·simp only[hq]at a hF;subst a;obtain rfl:=(show B7 f i e from hF)
   go_wp2;exact⟨rfl,d.but.trans c,rfl⟩
  simp only[hq]at a hF;obtain⟨rfl,g⟩:=hF;obtain⟨l,o⟩:=CK d g c
  go_wp2_with fail
  refine(Wd _ b {s with pos:=t} l.src).mono ?_;rintro e F ⟨c,hF⟩;rcases hy:Ce s.bs s.lim 4 t 0 with⟨f,i⟩|⟨y,v⟩
  ·simp only[hy]at a hF;subst a;obtain rfl:=(show B7 f i e from hF)
   go_wp2;exact⟨rfl,l.but.trans c,rfl⟩
  simp only[hy]at a hF;obtain⟨rfl,g⟩:=hF;obtain⟨k,o⟩:=CK l g c
  go_wp2_with fail
  refine(We y _).mono ?_;rintro e G ⟨rfl,rfl⟩;cases n:qIO y
  ·rw[n,Aq (by decide)]at a;subst a
   go_wp2_with fail
   refine(Fd _ b {s with pos:=v} _ k.src).mono ?_;rintro e z ⟨rfl,rfl⟩;go_wp2;exact⟨rfl,k.but,rfl⟩
  rw[n,As rfl]at a;have B:=By (show decide (56320<=y/\y<=57343)=true from n);subst a;go_wp2;go_ret;exact⟨k.but,by first|rfl|(simp;omega),k.src⟩
 rw[r,As rfl]at a;subst a
 go_wp2_with fail
 refine(Fd _ b {s with pos:=q} _ d.src).mono ?_;rintro e z ⟨rfl,rfl⟩;go_wp2;exact⟨rfl,d.but,rfl⟩
def Eb(bs:A2)(lim:Int)(p:Nat):A6 Int:=match bs[p]? with
 |none=>.error (9,p)
 |some c=>if(p:Int)=lim then .error (8,p)else if c.toNat=34 then .ok (34,p+1)else if c.toNat=92 then .ok (92,p+1)else if c.toNat=47 then .ok (47,p+1)else if c.toNat=98 then .ok (8,p+1)else if c.toNat=102 then .ok (12,p+1)else if c.toNat=110 then .ok (10,p+1)else if c.toNat=114 then .ok (13,p+1)else if c.toNat=116 then .ok (9,p+1)else if c.toNat=117 then Ey bs lim (p+1)else .error (9,p)
theorem fQ(W:Al)(b:Nat)(s:AQ)(h:Az W b s):An Ao 239 #[Ac #[A9 (Aj ⟨b,0,Ak⟩)]] W (DD W b s (λx:Int=>A7 .i32 x) (Eb s.bs s.lim s.pos)):=by
 have l:=Ap (Eu h);obtain⟨R,B⟩:∃R,Hid (Eb s.bs s.lim s.pos=R):=⟨_,show _=_ from rfl⟩
 rw[B.out];have a:=B.out;unfold Eb at a;have A:=l.cell;clear h B;rcases Ji l.src with f|f|⟨c,f⟩
 ·rw[DI (by have:s.pos=s.bs.length:=f;omega)]at a;subst a;have n:=K6 _ b s l.src f;clear f;go_enter func239,ntmps239
  go_wp2_with(first
   |(go_at_call 226;refine n.mono ?_;clear n;rintro e I ⟨hF,k⟩;obtain rfl:=hF))
  exact⟨rfl,l.but.trans (AE.of_below k),rfl⟩
 ·have E:=f.2;have F:=f.1;rw[AY F]at a;simp only[]at a;rw[As E]at a;subst a;have n:=K7 _ b s l.src f;clear f E F;go_enter func239,ntmps239
  go_wp2_with(first
   |(go_at_call 226;refine n.mono ?_;clear n;rintro e I ⟨hF,k⟩;obtain rfl:=hF))
  exact⟨rfl,l.but.trans (AE.of_below k),rfl⟩
 have G:=f.1;have H:=f.2;rw[G]at a;simp only[]at a;rw[Aq H]at a;have n:An Ao 226 #[A9 (Aj ⟨b,0,Ak⟩)] _ λe C=>e=Ag (A7 Ai c.toNat)/\Az C b {s with pos:=s.pos+1}/\AE b _ C:=E6 _ b s c l.src f;clear f G H;go_enter func239,ntmps239
 go_wp2_with fail
 refine n.mono ?_;clear n A;rintro e I ⟨rfl,y,k⟩;obtain⟨d,A⟩:=CK l y k;clear l y k;by_cases g:c.toNat=34
 ·rw[As g]at a;subst a;have O:((c.toNat:Int)==34)=true:=by simp;omega
  have t:Hid (wrap32 (c.toNat:Int)=34):=by show _=_;unfold wrap32;omega
  clear g;go_wp2;go_ret;exact⟨d.but,by show Ending.returned (A7 .i32 (wrap32 (c.toNat:Int)))=_;rw[t.out],d.src⟩
 rw[Aq g]at a;have O:=AI (c:=c) 34 (by omega);by_cases i:c.toNat=92
 ·rw[As i]at a;subst a;have Q:((c.toNat:Int)==92)=true:=by simp;omega
  have t:Hid (wrap32 (c.toNat:Int)=92):=by show _=_;unfold wrap32;omega
  clear g i;go_wp2;go_ret;exact⟨d.but,by show Ending.returned (A7 .i32 (wrap32 (c.toNat:Int)))=_;rw[t.out],d.src⟩
 rw[Aq i]at a;have Q:=AI (c:=c) 92 (by omega);by_cases j:c.toNat=47
 ·rw[As j]at a;subst a;have P:((c.toNat:Int)==47)=true:=by simp;omega
  have t:Hid (wrap32 (c.toNat:Int)=47):=by show _=_;unfold wrap32;omega
  clear g i j;go_wp2;go_ret;exact⟨d.but,by show Ending.returned (A7 .i32 (wrap32 (c.toNat:Int)))=_;rw[t.out],d.src⟩
 rw[Aq j]at a;have P:=AI (c:=c) 47 (by omega);by_cases m:c.toNat=98
 ·rw[As m]at a;subst a;have S:((c.toNat:Int)==98)=true:=by simp;omega
  clear g i j m;go_wp2;go_ret;exact⟨d.but,rfl,d.src⟩
 rw[Aq m]at a;have S:=AI (c:=c) 98 (by omega);by_cases o:c.toNat=102
 ·rw[As o]at a;subst a;have J:((c.toNat:Int)==102)=true:=by simp;omega
  clear g i j m o;go_wp2;go_ret;exact⟨d.but,rfl,d.src⟩
 rw[Aq o]at a;have J:=AI (c:=c) 102 (by omega);by_cases p:c.toNat=110
 ·rw[As p]at a;subst a;have K:((c.toNat:Int)==110)=true:=by simp;omega
  clear g i j m o p;go_wp2;go_ret;exact⟨d.but,rfl,d.src⟩
 rw[Aq p]at a;have K:=AI (c:=c) 110 (by omega);by_cases r:c.toNat=114
 ·rw[As r]at a;subst a;have L:((c.toNat:Int)==114)=true:=by simp;omega
  clear g i j m o p r;go_wp2;go_ret;exact⟨d.but,rfl,d.src⟩
 rw[Aq r]at a;have L:=AI (c:=c) 114 (by omega);by_cases u:c.toNat=116
 ·rw[As u]at a;subst a;have M:((c.toNat:Int)==116)=true:=by simp;omega
  clear g i j m o p r u;go_wp2;go_ret;exact⟨d.but,rfl,d.src⟩
 rw[Aq u]at a;have M:=AI (c:=c) 116 (by omega);by_cases w:c.toNat=117
 ·rw[As w]at a;have N:((c.toNat:Int)==117)=true:=by simp;omega
  clear g i j m o p r u w;have D:=λV (T:Az V b {s with pos:=s.pos+1})=>fP V b {s with pos:=s.pos+1} T;have v:∀V,Az V b {s with pos:=s.pos+1}->An Ao 246 #[Ac #[A9 (Aj ⟨b,0,Ak⟩)]] V (DD V b {s with pos:=s.pos+1} (λx:Int=>A7 .i32 x) R):=by rw[<-a];exact D
  clear D a;rcases R with⟨X,Y⟩|⟨z,q⟩
  ·go_wp2_with(first
    |(go_at_call 246;refine(v _ d.src).mono ?_;clear v A;rintro e U ⟨k,hF⟩;obtain rfl:=hF))
   exact⟨rfl,d.but.trans k,rfl⟩
  go_wp2_with(first
   |(go_at_call 246;refine(v _ d.src).mono ?_;clear v A;rintro e U ⟨k,rfl,y⟩))
  go_ret;exact⟨d.but.trans k,rfl,y⟩
 rw[Aq w]at a;have N:=AI (c:=c) 117 (by omega);subst a;clear g i j m o p r u w
 go_wp2_with(first
  |(go_at_call 227;refine(Fd _ b {s with pos:=s.pos+1} _ d.src).mono ?_;rintro e Z ⟨hF,rfl⟩;obtain rfl:=hF))
 exact⟨rfl,d.but,by show B7 _ _ _;unfold B7 GO;simp⟩
end
section
open Go.RowKit Go.Lib
theorem fR{l:A2}{c:UInt8}(a:Kd l=true)(h:BC l c=1):Kd (l++[c])=true:=by
 match l,a with
 |[],_ =>
  unfold BC at h;simp only[]at h;split at h
  ·cases h
  split at h
  ·cases h
  exact Bs (by omega)
 |[b0],a =>
  have d:=By a;unfold BC at h;simp only[]at h;split at h
  ·cases h
  split at h
  ·cases h
  exact Bs (by omega)
 |[b0,b1],a =>
  have d:=By a;have e:=P6 (b:=b0) (by omega);unfold BC at h;simp only[]at h;split at h
  ·cases h
  split at h
  ·cases h
  exact Bs (by omega)
 |[b0,b1,b2],a =>
  unfold BC at h;simp only[]at h;split at h
  ·cases h
  cases h
def Bn(bs:A2)(lim:Int):Nat->Nat->A2->Nat->A6 A2
 |0,p,_,_=>.error (9,p)
 |g+1,p,acc,wh=>match bs[p]? with
  |none=>.error (9,p)
  |some c=>if(p:Int)=lim then .error (8,p)else
   if c.toNat=34/\wh=acc.length then .ok (acc,p+1)else
   if c.toNat=92/\wh=acc.length then(match Eb bs lim (p+1)with
    |.error e=>.error e
    |.ok (r,q)=>Bn bs lim g q (acc++Cu r) (acc++Cu r).length)else
   if c.toNat<32 then .error (9,p)else if BC (acc.drop wh) c=0 then .error (9,p)else
   Bn bs lim g (p+1) (acc++[c]) (if BC (acc.drop wh) c=2 then acc.length+1 else wh)
theorem fS(h:Ey bs lim p=.ok (r,q)):(0<=r/\r<=1114111)/\p+4<=q:=by
 unfold Ey at h;split at h
 ·cases h
 next x q1 hx =>
 obtain⟨a,d⟩:=Pd hx;split at h
 ·cases h
 split at h
 ·next hhi =>
  have b:=By (show decide (55296<=x/\x<=56319)=true from hhi);split at h
  ·cases h
  next q2 hr =>
  split at h
  ·cases h
  next y q3 hy =>
  obtain⟨e,f⟩:=Pd hy;split at h
  ·next hlo =>
   have c:=By (show decide (56320<=y/\y<=57343)=true from hlo);cases h;have:q1<=q2:=by
    unfold Ba at hr;split at hr
    ·cases hr
    split at hr
    ·cases hr
    split at hr
    ·unfold Ba at hr;split at hr
     ·cases hr
     split at hr
     ·cases hr
     split at hr
     ·unfold Ba at hr;cases hr;omega
     cases hr
    cases hr
   omega
  cases h
 cases h;simp at a;omega
theorem RT(h:Eb bs lim p=.ok (r,q)):(0<=r/\r<=1114111)/\p+1<=q:=by
 unfold Eb at h;split at h
 ·cases h
 split at h
 ·cases h
 repeat' split at h
 all_goals first
  |(cases h;omega)
  |(have:=fS h;omega)
  |cases h
theorem fT{wf:Nat}{c:UInt8}(d:wh<=acc.length)(e:Kd (acc.drop wh)=true)(f:¬BC (acc.drop wh) c=0)(a:(if BC (acc.drop wh) c=2 then acc.length+1 else wh)=wf):Kd ((acc++[c]).drop wf)=true:=by
 by_cases b:BC (acc.drop wh) c=2
 ·rw[As b]at a;subst a;rw[J9 (by simp)];rfl
 rw[Aq b]at a;subst a;rw[ML d];refine fR e ?_;have g:BC (acc.drop wh) c=0\/BC (acc.drop wh) c=1\/BC (acc.drop wh) c=2:=by
  unfold BC
  repeat' split
  all_goals simp
 omega
theorem Nw{Q:Exit->Act->Al->Prop}{a:Act}(h:Q .ret a w):Exit.noGoto Q .ret a w:=h
structure Fj(W:World)(b:Nat)(s:AQ)(p:Nat)(acc:A2)(wh:Nat)(V:World):Prop where
 src:Az V b {s with pos:=p}
 but:AE b W V
 box:V.heap[W.heap.size]?=some (.cells #[.pointer (some ⟨b,0,none⟩)] 207)
 gat:Ew V (W.heap.size+1) (W.heap.size+2) acc wh
theorem Fj.take(h:Fj W b s p acc wh V)(d:b<W.heap.size)(c:Az V' b {s with pos:=q})(a:AE b V V'):Fj W b s q acc wh V' :=
 ⟨c,h.but.trans a,(a.block _ (At h.box) (by omega)).trans h.box,h.gat.but a (by omega) (by omega)⟩
theorem Fj.below(h:Fj W b s p acc wh V)(a:A1 V V'):Fj W b s p acc wh V' :=
 ⟨h.src.below a,h.but.trans (AE.of_below a),(a.block _ (At h.box)).trans h.box,h.gat.below a⟩
theorem Fj.keep{acc':A2}{wh':Nat}(h:Fj W b s p acc wh V)(d:Az W b s)(a:Fh (W.heap.size+1) (W.heap.size+2) V V')(e:Ew V' (W.heap.size+1) (W.heap.size+2) acc' wh'):Fj W b s p acc' wh' V' :=
 ⟨d.same rfl rfl h.src (λk c=>a.block k (by omega) (by omega)),⟨a.os.trans h.but.os,a.tape.trans h.but.tape,a.output.trans h.but.output,AW h.but.size a.size,λk c f=>(a.block k (by omega) (by omega)).trans (h.but.block k c f)⟩,(a.block _ (by omega) (by omega)).trans h.box,e⟩
theorem RU:∀w:Al,(convert 49 9 (A8 Ak 0 0)).run Ao w=.ok (Aa ⟨#[]⟩) w:=λw=>by kernel_rfl
theorem RV(h:Av W base v bs):(convert 49 9 v).run Ao W=.ok (Aa ⟨bs.toArray⟩) W:=by
 have b:=h;obtain⟨⟨k,d⟩,l,m⟩:=h;rcases d with⟨rfl,c⟩|⟨g,a,i,rfl,n⟩
 ·have:bs=[]:=JU c;subst this;exact RU W
 refine Qz W 49 9 5 ⟨g,0,Ak⟩ a bs underlying49 underlying5 underlying9 ?_;intro j f;have e:(⟨g,0,Ak⟩:Addr).add j=⟨g,j,Ak⟩:=by by_cases h:j=0<;>simp[Addr.add,h]
 rw[e];exact(M3 b).2 j f
theorem fU(h:Az W b s):Fj W b s s.pos [] 0 ((W.alloc (Af #[A9 (Aj ⟨b,0,Ak⟩)] 207)).alloc (Af #[A8 Ak 0 0,A7 Ah 0] 340)):=by
 have a:A1 W ((W.alloc (Af #[A9 (Aj ⟨b,0,Ak⟩)] 207)).alloc (Af #[A8 Ak 0 0,A7 Ah 0] 340)):=(AH).alloc (by simp) _;have c:=Ay (W.alloc (Af #[A9 (Aj ⟨b,0,Ak⟩)] 207)) (Af #[A8 Ak 0 0,A7 Ah 0] 340);rw[AM]at c;refine⟨h.below a,AE.of_below a,?_,⟨⟨_,c,?_⟩,by omega,AB _⟩⟩
 ·have d:=Ay W (Af #[A9 (Aj ⟨b,0,Ak⟩)] 207);exact(AL _ _ _ (by simp)).trans d
 refine⟨FK _ _ _ _,?_,Ak,0,0,rfl⟩;simp
theorem Wf(W:Al)(b:Nat)(s:AQ)(h:Az W b s)(ht:U8 W)(h7:7<b)(ax:s.bs.length<=200000000):An Ao 231 #[Ac #[A9 (Aj ⟨b,0,Ak⟩)]] W (DD W b s (λl:A2=>Aa ⟨l.toArray⟩) (Bn s.bs s.lim (s.bs.length+1-s.pos) s.pos [] 0)):=by
 have ak:=Ap (fU h);have P:=Ap h;have Q:=Ap ht;have C:=At h.row;have ar:=h.le;obtain⟨R,F⟩:∃R,Hid (Bn s.bs s.lim (s.bs.length+1-s.pos) s.pos [] 0=R):=⟨_,show _=_ from rfl⟩
 rw[F.out];go_enter func231,ntmps231;go_wp2;go_step3;go_wp2;go_step3;go_wp2;generalize(W.alloc (Af #[A9 (Aj ⟨b,0,Ak⟩)] 207)).alloc (Af #[A8 Ak 0 0,A7 Ah 0] 340)=W0 at *
 go_loopg[4,8] (s.bs.length+1-s.pos) (λg _ _ wr=>∃(p:Nat) (f:A2) (j:Nat),Hid (s.bs.length+1<=p+g)/\Hid (p<=s.bs.length)/\Hid (f.length<=4*p)/\Hid (Kd (f.drop j)=true)/\Hid (Fj W b s p f j wr)/\Hid (Bn s.bs s.lim g p f j=R))
 case atStart=>exact⟨s.pos,[],0,by show _<=_;omega,ar,by show 0<=_;omega,rfl,ak,F⟩
 case round =>
  obtain⟨p,f,j,hg,hp,M,af,m,F⟩:=hrel;obtain⟨g,rfl⟩:∃g,gk=g+1:=⟨gk-1,by have:=hg.out;have:=hp.out;omega⟩
  have t:=Ar m.box 0;have HU:Hid (∀V,AE b W V->U8 V):=by
   show∀V,_;intro V B;have i:∀(q off:Nat) (aa:Am),q<=7->W.cell? ⟨q,off,Ak⟩=Aj aa->V.cell? ⟨q,off,Ak⟩=Aj aa:=λq off aa hq hv=>(GF (w:=W) (B.block q (by omega) (by omega))).trans hv;exact⟨λc ao=>i _ _ _ (by decide) (Q.1 c ao),λag hi=>⟨i _ _ _ (by decide) (Q.2 ag hi).1,i _ _ _ (by decide) (Q.2 ag hi).2⟩⟩
  rcases Ji m.src with u|u|⟨c,u⟩
  ·have N:Hid (R=.error (9,(p:Int))):=by
    show _=_;rw[<-F.out,Bn,DI (by have:p=s.bs.length:=u;omega)]
   have z:=K6 _ b {s with pos:=p} m.src u
   go_wp2_with(first
    |(go_at_call 226;refine z.mono ?_;rintro e D ⟨hF,d⟩;obtain rfl:=hF))
   rw[N.out];exact⟨rfl,m.but.trans (AE.of_below d),rfl⟩
  ·have N:Hid (R=.error (8,(p:Int))):=by
    show _=_;have h2:(p:Int)=s.lim:=u.2;have h3:p<s.bs.length:=u.1;rw[<-F.out,Bn,AY h3];simp only[];rw[As h2]
   have z:=K7 _ b {s with pos:=p} m.src u
   go_wp2_with(first
    |(go_at_call 226;refine z.mono ?_;rintro e D ⟨hF,d⟩;obtain rfl:=hF))
   rw[N.out];exact⟨rfl,m.but.trans (AE.of_below d),rfl⟩
  have ap:s.bs[p]?=Aj c:=u.1;have aq:¬(p:Int)=s.lim:=u.2;have ai:Hid (p<s.bs.length):=u.lt;have k:=F.out;rw[Bn,ap]at k;simp only[]at k;rw[Aq aq]at k;have z:An Ao 226 #[A9 (Aj ⟨b,0,Ak⟩)] wr λe W'=>e=Ag (A7 Ai c.toNat)/\Az W' b {s with pos:=p+1}/\AE b wr W':=E6 _ b {s with pos:=p} c m.src u;have A:=λV (B:Fj W b s (p+1) f j V)=>eH V (W.heap.size+1) (W.heap.size+2) f j B.gat;have hC:(j=f.length/\c.toNat=34)\/(j=f.length/\c.toNat=92)\/(j=f.length/\c.toNat≠34/\c.toNat≠92)\/(j≠f.length/\c.toNat=34)\/(j≠f.length/\c.toNat=92)\/(j≠f.length/\c.toNat≠34/\c.toNat≠92):=by omega
  rcases hC with⟨y,H⟩|⟨y,I⟩|⟨y,H,I⟩|⟨y,H⟩|⟨y,I⟩|⟨y,H,I⟩
  ·rw[Bs y]at A;rw[As ⟨H,y⟩]at k;subst k;have U:((c.toNat:Int)==34)=true:=by simp;omega
   go_wp2_with(first
    |(go_at_call 226;refine z.mono ?_;rintro e D ⟨rfl,o,d⟩;have a:=Ap (m.take C o d))
    |(go_at_call 237;refine(A _ a).mono ?_;rintro e E ⟨rfl,d⟩;have n:=Ap (a.below d);obtain⟨v3,r3,o3⟩:=n.gat.row;obtain⟨_,_,a3,n3,c3,rfl⟩:=(show Av E _ _ _ from o3);have au:=RV o3;have k3:=Ar r3 0))
   refine Nw ?_;go_ret;exact⟨n.but,rfl,n.src⟩
  ·rw[Bs y]at A;rw[Aq (λhh=>by omega),As ⟨I,y⟩]at k;have U:=AI (c:=c) 34 (by omega);have ae:((c.toNat:Int)==92)=true:=by simp;omega
   have cE:=λV (B:Fj W b s (p+1) f j V)=>fQ V b {s with pos:=p+1} B.src;rcases he:Eb s.bs s.lim (p+1)with⟨en,pl⟩|⟨r,q⟩
   ·rw[he]at k;have T:∀V,Fj W b s (p+1) f j V->An Ao 239 #[Ac #[A9 (Aj ⟨b,0,Ak⟩)]] V (DD V b {s with pos:=p+1} (λx:Int=>A7 .i32 x) (.error (en,pl))):=by rw[<-he];exact cE
    subst k
    go_wp2_with(first
     |(go_at_call 226;refine z.mono ?_;rintro e D ⟨rfl,o,d⟩;have a:=Ap (m.take C o d);have t:=Ar a.box 0)
     |(go_at_call 237;refine(A _ a).mono ?_;rintro e E ⟨rfl,d⟩;have n:=Ap (a.below d);have a:=n;have t:=Ar a.box 0)
     |(go_at_call 239;refine(T _ a).mono ?_;rintro e w5 ⟨d,hF⟩;obtain rfl:=hF))
    exact⟨rfl,a.but.trans d,rfl⟩
   rw[he]at k;simp only[]at k;have T:∀V,Fj W b s (p+1) f j V->An Ao 239 #[Ac #[A9 (Aj ⟨b,0,Ak⟩)]] V (DD V b {s with pos:=p+1} (λx:Int=>A7 .i32 x) (.ok (r,q))):=by rw[<-he];exact cE
   have v:=RT he;have av:=v.1.1;have aw:=v.1.2;have ab:=Ap v.2;have O:=Ap k;have cC:=λV (B:Fj W b s q f j V)=>eN V (W.heap.size+1) (W.heap.size+2) f j r (by omega) (by omega) B.gat (by have:=M.out;have:=hp.out;omega);have aj:=Ap ((KR r).2)
   go_wp2_with(first
    |(go_at_call 226;refine z.mono ?_;rintro e D ⟨rfl,o,d⟩;have a:=Ap (m.take C o d);have t:=Ar a.box 0)
    |(go_at_call 237;refine(A _ a).mono ?_;rintro e E ⟨rfl,d⟩;have n:=Ap (a.below d);have a:=n;have t:=Ar a.box 0)
    |(go_at_call 239;refine(T _ a).mono ?_;rintro e w5 ⟨d,rfl,o⟩;have ac:=Ap (a.take C o d))
    |(go_at_call 238;refine(cC _ ac).mono ?_;rintro e w6 ⟨rfl,an,am⟩;have ad:=Ap (ac.keep P an am)))
   go_roundg g
   case measure=>omega
   case rel=>exact⟨q,f++Cu r,(f++Cu r).length,by show _<=_;have:=hg.out;have:=ab.out;omega,ad.src.le,by show _<=_;rw[AC];have:=M.out;have:=ab.out;have:=aj.out;omega,by show _=_;rw[LD];rfl,ad,O⟩
  all_goals
   first|rw[Bs y]at A|rw[BJ y]at A
   first|have U:((c.toNat:Int)==34)=true:=(by simp;omega)|have U:=AI (c:=c) 34 (by omega)
   first|have ae:((c.toNat:Int)==92)=true:=(by simp;omega)|have ae:=AI (c:=c) 92 (by omega)
   rw[Aq (λhh=>by omega),Aq (λhh=>by omega)]at k;by_cases L:c.toNat<32
   ·rw[As L]at k;subst k;have al:decide ((c.toNat:Int)<32)=true:=by simp;omega
    first
    |exact absurd L (by omega)
    |clear L
     try clear H
     try clear I
     go_wp2_with(first
      |(go_at_call 226;refine z.mono ?_;rintro e D ⟨rfl,o,d⟩;have a:=Ap (m.take C o d);have t:=Ar a.box 0)
      |(go_at_call 237;refine(A _ a).mono ?_;rintro e E ⟨rfl,d⟩;have n:Hid (Fj W b s (p+1) f j E):=a.below d;have a:=n;have t:=Ar a.box 0)
      |(go_at_call 227;refine(Fd _ b {s with pos:=p+1} _ a.src).mono ?_;rintro e w7 ⟨hF,rfl⟩;obtain rfl:=hF))
     exact⟨rfl,a.but,by show B7 _ _ _;unfold B7 GO;simp⟩
   rw[Aq L]at k;have al:decide ((c.toNat:Int)<32)=false:=by simp;omega
   try clear H
   try clear I
   obtain⟨wf,S⟩:∃wf,Hid ((if BC (f.drop j) c=2 then f.length+1 else j)=wf):=⟨_,show _=_ from rfl⟩
   have J:=λV (B:Fj W b s (p+1) f j V)=>eJ V (W.heap.size+1) (W.heap.size+2) f j c B.gat af.out (HU V B.but) (by omega) (by have:=M.out;have:=hp.out;omega);rw[S.out]at J;by_cases K:BC (f.drop j) c=0
   ·rw[As K]at k;subst k;have Z:(BC (f.drop j) c != 0)=false:=by rw[K];rfl
    rw[Z]at J
    go_wp2_with(first
     |(go_at_call 226;refine z.mono ?_;rintro e D ⟨rfl,o,d⟩;have a:=Ap (m.take C o d);have t:=Ar a.box 0)
     |(go_at_call 237;refine(A _ a).mono ?_;rintro e E ⟨rfl,d⟩;have n:=Ap (a.below d);have a:=n;have t:=Ar a.box 0)
     |(go_at_call 240;refine(J _ a).mono ?_;rintro e w4 ⟨rfl,Y,X⟩;have G:=Ap (a.keep P Y X);have t:=Ar G.box 0)
     |(go_at_call 227;refine(Fd _ b {s with pos:=p+1} _ G.src).mono ?_;rintro e w7 ⟨hF,rfl⟩;obtain rfl:=hF))
    exact⟨rfl,G.but,by show B7 _ _ _;unfold B7 GO;simp⟩
   rw[Aq K,S.out]at k;have O:=Ap k;have Z:(BC (f.drop j) c != 0)=true:=by simpa using K
   rw[Z]at J;have ah:=Ap (fT m.gat.le af.out K S)
   go_wp2_with(first
    |(go_at_call 226;refine z.mono ?_;rintro e D ⟨rfl,o,d⟩;have a:=Ap (m.take C o d);have t:=Ar a.box 0)
    |(go_at_call 237;refine(A _ a).mono ?_;rintro e E ⟨rfl,d⟩;have n:=Ap (a.below d);have a:=n;have t:=Ar a.box 0)
    |(go_at_call 240;refine(J _ a).mono ?_;rintro e w4 ⟨rfl,Y,X⟩;have G:=Ap (a.keep P Y X);have t:=Ar G.box 0))
   go_roundg g
   case measure=>omega
   case rel=>exact⟨p+1,f++[c],wf,by show _<=_;have:=hg.out;omega,ai,by show _<=_;rw[AC];have:=M.out;simp;omega,ah,G,O⟩
end
end Go.Proofs.YtoegnhgofkhbnaaGreatDoor
