import Derived.Lib.AppendStr
import Derived.DeepKeys5
import Derived.Maps.Keyed
import Derived.Test.YtmajcjammmjimaaGreatDoorCq03
import Derived.Test.YtmajcjammmjimaaGreatDoorCq01
set_option maxRecDepth 100000
set_option maxHeartbeats 8000000
set_option linter.all false
namespace Go.Proofs.YtmajcjammmjimaaGreatDoor
open Go.Proofs.Tryz
variable{V W W':World}{base e:Nat}{v':Value}{bs:List UInt8}{b:UInt8}{X Y:Nat->Nat}
section
open Go.RowKit
theorem qxj:∀(s:Fin 8) (x:Fin 32),bits .or .u8 ((s.val:Int)*32) (x.val:Int)=((32*s.val+x.val:Nat):Int):=by decide
theorem qeO(s x:Nat)(a:s<8)(b:x<32):qax (UInt8.ofNat (32*s+x))=.int .u8 (bits .or .u8 ((s:Int)*32) (x:Int)):=by
 rw[qba _ (by omega)];have:=qxj ⟨s,a⟩ ⟨x,b⟩;simp only[]at this;rw[this]
theorem qby(W:World)(b:Nat)(v:Value)(bs:List UInt8)(s x:Nat)(D:s<8)(S:x<18446744073709551616)(R:bs.length<=999999999)(h:Own W b v bs):Calls prog 70 #[v,.int .u8 s,.int .u64 x] W λe O=>∃z,e=.returned z/\Own O b z (bs++qaj s x)/\Below b W O:=by
 obtain⟨H,C,E,F,G⟩:=kaF Tryz.infoU8;obtain⟨Q,B,a,n,c,rfl⟩:=h;have j:=qab Q;by_cases A:x<24
 ·have l:Hid (qaj s x=UInt8.ofNat (32*s+x)::[]):=by show _=_;unfold qaj;rw[kag A]
  go_enter func70,ntmps70
  go_wp2_with(first
    |(at_builtin;refine kao _ rfl _ _ 27 rfl b 5 H (.int .u8 0) 1 1 underlying27 C E F G rfl (by decide) _ _ _ rfl (j.out.alloc _) ⟨W.heap.size,0,none⟩ 1 1 [.int .u8 (bits .or .u8 ((s:Int)*32) (x:Int))] rfl rfl (qag _ _ _) (λu f=>by simp at f;subst f;rfl) (by unfold maxLen;omega) (by omega) (by simp;omega) ?_;intro z g d k L;obtain⟨K,J,rfl⟩:=ownsRow_succ d;have i:Hid (Own g b _ (bs++[UInt8.ofNat (32*s+x)])/\Below b W g):=qa0 B j.out (qeO s _ D (by omega)) d k))
  go_ret;rw[l.out];exact⟨_,rfl,i.out⟩
 skip
 by_cases I:x<=255
 ·have l:Hid (qaj s x=UInt8.ofNat (32*s+24)::beF x 1):=by show _=_;unfold qaj;rw[kac A];rw[kag I]
  go_enter func70,ntmps70
  go_wp2_with(first
    |(at_builtin;refine kao _ rfl _ _ 27 rfl b 5 H (.int .u8 0) 1 1 underlying27 C E F G rfl (by decide) _ _ _ rfl (j.out.alloc _) ⟨W.heap.size,0,none⟩ 1 1 [.int .u8 (bits .or .u8 ((s:Int)*32) 24)] rfl rfl (qag _ _ _) (λu f=>by simp at f;subst f;rfl) (by unfold maxLen;omega) (by omega) (by simp;omega) ?_;intro z g d k L;obtain⟨K,J,rfl⟩:=ownsRow_succ d;have i:Hid (Own g b _ (bs++[UInt8.ofNat (32*s+24)])/\Below b W g):=qa0 B j.out (qeO s _ D (by omega)) d k)
    |(go_at_call 92;refine(qar _ b _ _ (x) 1 (by omega) (by omega) (by simp;omega) i.out.1).mono ?_;rintro e N ⟨M,rfl,q,w⟩;obtain⟨r,t,o,y,p,rfl⟩:=q;have m:=qab (qaP i.out ⟨r,t,o,y,p,rfl⟩ w (l.out.symm))))
  go_ret;exact⟨_,rfl,m.out⟩
 skip
 by_cases c2:x<=65535
 ·have l:Hid (qaj s x=UInt8.ofNat (32*s+25)::beF x 2):=by show _=_;unfold qaj;rw[kac A];rw[kac I];rw[kag c2]
  go_enter func70,ntmps70
  go_wp2_with(first
    |(at_builtin;refine kao _ rfl _ _ 27 rfl b 5 H (.int .u8 0) 1 1 underlying27 C E F G rfl (by decide) _ _ _ rfl (j.out.alloc _) ⟨W.heap.size,0,none⟩ 1 1 [.int .u8 (bits .or .u8 ((s:Int)*32) 25)] rfl rfl (qag _ _ _) (λu f=>by simp at f;subst f;rfl) (by unfold maxLen;omega) (by omega) (by simp;omega) ?_;intro z g d k L;obtain⟨K,J,rfl⟩:=ownsRow_succ d;have i:Hid (Own g b _ (bs++[UInt8.ofNat (32*s+25)])/\Below b W g):=qa0 B j.out (qeO s _ D (by omega)) d k)
    |(go_at_call 92;refine(qar _ b _ _ (x) 2 (by omega) (by omega) (by simp;omega) i.out.1).mono ?_;rintro e N ⟨M,rfl,q,w⟩;obtain⟨r,t,o,y,p,rfl⟩:=q;have m:=qab (qaP i.out ⟨r,t,o,y,p,rfl⟩ w (l.out.symm))))
  go_ret;exact⟨_,rfl,m.out⟩
 skip
 by_cases P:x<=4294967295
 ·have l:Hid (qaj s x=UInt8.ofNat (32*s+26)::beF x 4):=by show _=_;unfold qaj;rw[kac A];rw[kac I];rw[kac c2];rw[kag P]
  go_enter func70,ntmps70
  go_wp2_with(first
    |(at_builtin;refine kao _ rfl _ _ 27 rfl b 5 H (.int .u8 0) 1 1 underlying27 C E F G rfl (by decide) _ _ _ rfl (j.out.alloc _) ⟨W.heap.size,0,none⟩ 1 1 [.int .u8 (bits .or .u8 ((s:Int)*32) 26)] rfl rfl (qag _ _ _) (λu f=>by simp at f;subst f;rfl) (by unfold maxLen;omega) (by omega) (by simp;omega) ?_;intro z g d k L;obtain⟨K,J,rfl⟩:=ownsRow_succ d;have i:Hid (Own g b _ (bs++[UInt8.ofNat (32*s+26)])/\Below b W g):=qa0 B j.out (qeO s _ D (by omega)) d k)
    |(go_at_call 92;refine(qar _ b _ _ (x) 4 (by omega) (by omega) (by simp;omega) i.out.1).mono ?_;rintro e N ⟨M,rfl,q,w⟩;obtain⟨r,t,o,y,p,rfl⟩:=q;have m:=qab (qaP i.out ⟨r,t,o,y,p,rfl⟩ w (l.out.symm))))
  go_ret;exact⟨_,rfl,m.out⟩
 skip
 have l:Hid (qaj s x=UInt8.ofNat (32*s+27)::beF x 8):=by show _=_;unfold qaj;rw[kac A];rw[kac I];rw[kac c2];rw[kac P]
 go_enter func70,ntmps70
 go_wp2_with(first
   |(at_builtin;refine kao _ rfl _ _ 27 rfl b 5 H (.int .u8 0) 1 1 underlying27 C E F G rfl (by decide) _ _ _ rfl (j.out.alloc _) ⟨W.heap.size,0,none⟩ 1 1 [.int .u8 (bits .or .u8 ((s:Int)*32) 27)] rfl rfl (qag _ _ _) (λu f=>by simp at f;subst f;rfl) (by unfold maxLen;omega) (by omega) (by simp;omega) ?_;intro z g d k L;obtain⟨K,J,rfl⟩:=ownsRow_succ d;have i:Hid (Own g b _ (bs++[UInt8.ofNat (32*s+27)])/\Below b W g):=qa0 B j.out (qeO s _ D (by omega)) d k)
   |(go_at_call 92;refine(qar _ b _ _ (x) 8 (by omega) (by omega) (by simp;omega) i.out.1).mono ?_;rintro e N ⟨M,rfl,q,w⟩;obtain⟨r,t,o,y,p,rfl⟩:=q;have m:=qab (qaP i.out ⟨r,t,o,y,p,rfl⟩ w (l.out.symm))))
 go_ret;exact⟨_,rfl,m.out⟩

end
section
open Go.RowKit Go.Lib
theorem qp2(l:List UInt8):strCells ⟨l.toArray⟩=l.map qax:=by
 unfold strCells;simp[qax]
theorem qaQ{v:Value}{l:List UInt8}(h:Own W base v bs)(a:W'.ownsRow base 5 1 v' (bs.length+(⟨l.toArray⟩:ByteArray).size) (bs.map qax++strCells ⟨l.toArray⟩))(d:W.grownBy W' v.ownBlock):Own W' base v' (bs++l)/\Below base W W':=by
 obtain⟨f,c,_⟩:=h;have b:=qa4 (kam base W) f d c;have i:(⟨l.toArray⟩:ByteArray).size=l.length:=kaT ..;rw[i,qp2]at a;refine⟨⟨by rw[kaa,kaW];exact a,kaj c b.size,?_⟩,b⟩;rcases a.2 with⟨e,_⟩|⟨g,j,k,e,_⟩
 ·exact⟨none,0,0,e⟩
 exact⟨_,_,_,e⟩
theorem qkI(W:World)(b:Nat)(v:Value)(bs l:List UInt8)(y:bs.length<=999999999)(J:l.length<=999999999)(h:Own W b v bs):Calls prog 71 #[v,.string ⟨l.toArray⟩] W λe f=>∃d,e=.returned d/\Own f b d (bs++(qaj 3 l.length++l))/\Below b W f:=by
 obtain⟨D,w,A,B,C⟩:=kaF Tryz.infoU8;have q:Calls prog 70 #[v,.int .u8 3,.int .u64 l.length] W λe f=>∃d,e=.returned d/\Own f b d (bs++qaj 3 l.length)/\Below b W f:=qby W b v bs 3 l.length (by decide) (by omega) y h;have I:(qaj 3 l.length).length<=9:=by
  unfold qaj;have t:∀x k,(beF x k).length=k:=λx k=>by induction k with|zero=>rfl|succ k E=>rw[beF,kah,E]
  repeat' split
  all_goals simp[t]
 have j:(⟨l.toArray⟩:ByteArray).size=l.length:=kaT ..;obtain⟨_,_,a,n,c,rfl⟩:=h;go_enter func71,ntmps71
 go_wp2_with(first
  |(go_at_call 70;refine q.mono ?_;rintro e H ⟨L,rfl,r,s⟩;obtain⟨G,p,o,F,c2,rfl⟩:=r;have i:Hid (Own H b (.slice o F c2) (bs++qaj 3 l.length)):=⟨G,p,_,_,_,rfl⟩;have m:=qab s)
  |(at_builtin;refine wpList_append_own_string _ rfl _ _ 27 9 rfl b 5 D underlying27 underlying9 w A B C _ _ _ rfl i.out.1 ⟨l.toArray⟩ rfl (by rw[j,kaa];unfold maxLen;omega) (by rw[j,kaa];omega) i.out.2.1 ?_;intro d M z u K;have g:=qab (qaQ i.out z u)))
 go_ret;rw[kap]at g;exact⟨_,rfl,g.out.1,m.out.trans g.out.2⟩

def qa1(x:Nat):List UInt8:=if x<32 then[UInt8.ofNat (160+x)]else if x<=255 then 217::beF x 1 else if x<=65535 then 218::beF x 2 else 219::beF x 4
theorem qis:∀x:Fin 32,bits .or .u8 160 (x.val:Int)=((160+x.val:Nat):Int):=by decide
theorem qoN(W:World)(b:Nat)(v:Value)(bs:List UInt8)(x:Nat)(S:x<4294967296)(R:bs.length<=999999999)(h:Own W b v bs):Calls prog 93 #[v,.int .u64 x] W λe K=>∃j,e=.returned j/\Own K b j (bs++qa1 x)/\Below b W K:=by
 obtain⟨E,A,B,C,D⟩:=kaF Tryz.infoU8;obtain⟨Q,z,a,n,c,rfl⟩:=h;have k:=qab Q;by_cases q:x<32
 ·have m:Hid (qa1 x=[UInt8.ofNat (160+x)]):=by show _=_;unfold qa1;rw[kag q]
  have L:=qis ⟨x,q⟩;simp only[]at L;have O:Hid (qax (UInt8.ofNat (160+x))=.int .u8 (bits .or .u8 160 (x:Int))):=by show _=_;rw[L,qba _ (by omega)]
  have P:Hid (qax (UInt8.ofNat (160+x))=.int .u8 (160+(x:Int))):=by show _=_;rw[qba _ (by omega)];simp
  go_enter func93,ntmps93
  go_wp2_with(first
   |(at_builtin;refine kao _ rfl _ _ 27 rfl b 5 E (.int .u8 0) 1 1 underlying27 A B C D rfl (by decide) _ _ _ rfl (k.out.alloc _) ⟨W.heap.size,0,none⟩ 1 1 [.int .u8 (bits .or .u8 160 (x:Int))] rfl rfl (qag _ _ _) (λu f=>by simp at f;subst f;rfl) (by unfold maxLen;omega) (by omega) (by simp;omega) ?_;intro j g d l I;have i:=qab (qa0 z k.out O.out d l);obtain⟨H,G,rfl⟩:=ownsRow_succ d)
   |(at_builtin;refine kao _ rfl _ _ 27 rfl b 5 E (.int .u8 0) 1 1 underlying27 A B C D rfl (by decide) _ _ _ rfl (k.out.alloc _) ⟨W.heap.size,0,none⟩ 1 1 [.int .u8 (160+(x:Int))] rfl rfl (qag _ _ _) (λu f=>by simp at f;subst f;rfl) (by unfold maxLen;omega) (by omega) (by simp;omega) ?_;intro j g d l I;have i:Hid (Own g b j (bs++[UInt8.ofNat (160+x)])/\Below b W g):=qa0 z k.out P.out d l;obtain⟨H,G,rfl⟩:=ownsRow_succ d))
  go_ret;rw[m.out];exact⟨_,rfl,i.out⟩
 by_cases J:x<=255
 ·have m:Hid (qa1 x=217::beF x 1):=by show _=_;unfold qa1;rw[kac q];rw[kag J]
  go_enter func93,ntmps93
  go_wp2_with(first
   |(at_builtin;refine kao _ rfl _ _ 27 rfl b 5 E (.int .u8 0) 1 1 underlying27 A B C D rfl (by decide) _ _ _ rfl (k.out.alloc _) ⟨W.heap.size,0,none⟩ 1 1 [.int .u8 217] rfl rfl (qag _ _ _) (λu f=>by simp at f;subst f;rfl) (by unfold maxLen;omega) (by omega) (by simp;omega) ?_;intro j g d l I;have i:Hid (Own g b j (bs++[217])/\Below b W g):=qa0 z k.out rfl d l;obtain⟨H,G,rfl⟩:=ownsRow_succ d)
   |(go_at_call 92;refine(qar _ b _ _ x 1 (by omega) (by omega) (by simp;omega) i.out.1).mono ?_;rintro e N ⟨M,rfl,s,y⟩;obtain⟨t,w,p,F,r,rfl⟩:=s;have o:=qab (qaP i.out ⟨t,w,p,F,r,rfl⟩ y (m.out.symm))))
  go_ret;exact⟨_,rfl,o.out⟩
 by_cases c2:x<=65535
 ·have m:Hid (qa1 x=218::beF x 2):=by show _=_;unfold qa1;rw[kac q];rw[kac J];rw[kag c2]
  go_enter func93,ntmps93
  go_wp2_with(first
   |(at_builtin;refine kao _ rfl _ _ 27 rfl b 5 E (.int .u8 0) 1 1 underlying27 A B C D rfl (by decide) _ _ _ rfl (k.out.alloc _) ⟨W.heap.size,0,none⟩ 1 1 [.int .u8 218] rfl rfl (qag _ _ _) (λu f=>by simp at f;subst f;rfl) (by unfold maxLen;omega) (by omega) (by simp;omega) ?_;intro j g d l I;have i:Hid (Own g b j (bs++[218])/\Below b W g):=qa0 z k.out rfl d l;obtain⟨H,G,rfl⟩:=ownsRow_succ d)
   |(go_at_call 92;refine(qar _ b _ _ x 2 (by omega) (by omega) (by simp;omega) i.out.1).mono ?_;rintro e N ⟨M,rfl,s,y⟩;obtain⟨t,w,p,F,r,rfl⟩:=s;have o:=qab (qaP i.out ⟨t,w,p,F,r,rfl⟩ y (m.out.symm))))
  go_ret;exact⟨_,rfl,o.out⟩
 have m:Hid (qa1 x=219::beF x 4):=by show _=_;unfold qa1;rw[kac q];rw[kac J];rw[kac c2]
 go_enter func93,ntmps93
 go_wp2_with(first
  |(at_builtin;refine kao _ rfl _ _ 27 rfl b 5 E (.int .u8 0) 1 1 underlying27 A B C D rfl (by decide) _ _ _ rfl (k.out.alloc _) ⟨W.heap.size,0,none⟩ 1 1 [.int .u8 219] rfl rfl (qag _ _ _) (λu f=>by simp at f;subst f;rfl) (by unfold maxLen;omega) (by omega) (by simp;omega) ?_;intro j g d l I;have i:Hid (Own g b j (bs++[219])/\Below b W g):=qa0 z k.out rfl d l;obtain⟨H,G,rfl⟩:=ownsRow_succ d)
  |(go_at_call 92;refine(qar _ b _ _ x 4 (by omega) (by omega) (by simp;omega) i.out.1).mono ?_;rintro e N ⟨M,rfl,s,y⟩;obtain⟨t,w,p,F,r,rfl⟩:=s;have o:=qab (qaP i.out ⟨t,w,p,F,r,rfl⟩ y (m.out.symm))))
 go_ret;exact⟨_,rfl,o.out⟩
theorem qkD(W:World)(b:Nat)(v:Value)(bs l:List UInt8)(y:bs.length<=999999999)(J:l.length<=999999999)(h:Own W b v bs):Calls prog 74 #[v,.string ⟨l.toArray⟩] W λe i=>∃g,e=.returned g/\Own i b g (bs++(qa1 l.length++l))/\Below b W i:=by
 obtain⟨D,w,A,B,C⟩:=kaF Tryz.infoU8;have q:=qoN W b v bs l.length (by omega) y h;have I:(qa1 l.length).length<=9:=by
  unfold qa1;have t:∀x k,(beF x k).length=k:=λx k=>by induction k with|zero=>rfl|succ k E=>rw[beF,kah,E]
  repeat' split
  all_goals simp[t]
 have j:(⟨l.toArray⟩:ByteArray).size=l.length:=kaT ..;obtain⟨_,_,a,n,c,rfl⟩:=h;go_enter func74,ntmps74
 go_wp2_with(first
  |(go_at_call 93;refine q.mono ?_;rintro e H ⟨L,rfl,r,s⟩;obtain⟨G,p,o,F,c2,rfl⟩:=r;have f:Hid (Own H b (.slice o F c2) (bs++qa1 l.length)):=⟨G,p,_,_,_,rfl⟩;have m:=qab s)
  |(at_builtin;refine wpList_append_own_string _ rfl _ _ 27 9 rfl b 5 D underlying27 underlying9 w A B C _ _ _ rfl f.out.1 ⟨l.toArray⟩ rfl (by rw[j,kaa];unfold maxLen;omega) (by rw[j,kaa];omega) f.out.2.1 ?_;intro g M z u K;have d:=qab (qaQ f.out z u)))
 go_ret;rw[kap]at d;exact⟨_,rfl,d.out.1,m.out.trans d.out.2⟩

def qh3(W:World)(base e:Nat)(v:Value)(bs:List UInt8):Prop:=Own W base v bs/\v.ownBlock≠some e/\e<W.heap.size
def qh5(base e:Nat)(W W':World):Prop:=Below base W W'/\W'.heap[e]?=W.heap[e]?
theorem qh5.trans{A B C:World}(h:qh5 base e A B)(k:qh5 base e B C):qh5 base e A C:=⟨h.1.trans k.1,k.2.trans h.2⟩
theorem qbI{a:Option Addr}{n c:Nat}{u:Value}(h:qh3 W base e (.slice a n c) bs)(p:qax b=u)(m:W'.ownsRow base 5 1 v' (bs.length+1) (bs.map qax++[u]))(f:(W.alloc (Obj.cells #[u] 5)).grownBy W' (Value.slice a n c).ownBlock)(d:v'.ownBlock=(Value.slice a n c).ownBlock\/v'.ownBlock=some (W.alloc (Obj.cells #[u] 5)).heap.size):qh3 W' base e v' (bs++[b])/\qh5 base e W W':=by
 obtain⟨⟨l,j,_⟩,i,k⟩:=h;have g:=qa0 j l p m f;have o:=f.size;simp at o;refine⟨⟨g.1,?_,by omega⟩,g.2,?_⟩
 ·rcases d with d|d
  ·rw[d];exact i
  rw[d];simp;omega
 rw[f.block e (by simp;omega) (λx=>i x.symm)];exact((kam W.heap.size W).alloc (kaf _) _).block e k
theorem qdL{W2:World}{ys zs:List UInt8}{v2:Value}(h:qh3 W' base e v' (bs++[b])/\qh5 base e W W')(a:qh3 W2 base e v2 ((bs++[b])++ys))(c:qh5 base e W' W2)(k:b::ys=zs):qh3 W2 base e v2 (bs++zs)/\qh5 base e W W2:=by
 subst k;refine⟨?_,h.2.trans c⟩;rw[kap]at a;exact a
theorem qcg(W:World)(d e:Nat)(v:Value)(bs:List UInt8)(x w:Nat)(_hx:x<18446744073709551616)(L:w<=8)(J:bs.length<=1000000000)(h:qh3 W d e v bs):Calls prog 92 #[v,.int .u64 x,.int .i64 w] W λr o=>∃i,r=.returned i/\qh3 o d e i (bs++beF x w)/\qh5 d e W o:=by
 obtain⟨E,A,B,C,D⟩:=kaF Tryz.infoU8;obtain⟨a,n,c,rfl⟩:=h.1.2.2;have b:=qab h;go_enter func92,ntmps92;go_wp2
 go_loopg[0,7] w (λg y z wr=>∃(f:List UInt8) (a n c:_),y=.slice a n c/\z=.int .i64 ((g:Int)-1)/\g<=w/\f.length<=1000000000+(w-g)/\Hid (qh3 wr d e (.slice a n c) f)/\Hid (qh5 d e W wr)/\Hid (f++beF x g=bs++beF x w))
 case atStart=>exact⟨bs,a,n,c,rfl,by go_num,kaf _,by omega,b,⟨kam _ _,rfl⟩,rfl⟩
 case round =>
  obtain⟨f,a,n,c,rfl,rfl,I,M,b,j,l⟩:=hrel;have H:=b.out.1.2.1
  cases gk with
  |zero =>
   go_wp2;go_ret;have k:f=bs++beF x w:=by have:=l.out;simpa[beF]using this
   subst k;exact⟨_,rfl,b.out,j.out⟩
  |succ k =>
   go_wp2_with(first
    |(at_builtin;refine kbe _ rfl _ _ 27 rfl d 5 E (.int .u8 0) 1 1 underlying27 A B C D rfl (by decide) _ _ _ rfl (b.out.1.1.alloc _) ⟨wr.heap.size,0,none⟩ 1 1 [.int .u8 ((x:Int)/2^(8*k)%256)] rfl rfl (qag _ _ _) (λu q=>by simp at q;subst q;rfl) (by unfold maxLen;omega) (by omega) (by simp;omega) ?_;intro i N p t K s;have m:=qab (qbI b.out (qnv x k) p t s);obtain⟨G,F,rfl⟩:=ownsRow_succ p))
   go_roundg k
   case measure=>omega
   case rel =>
    refine⟨f++[UInt8.ofNat (x/2^(8*k)%256)],_,_,_,rfl,by go_num,by omega,by rw[kaa];simp;omega,m.out.1,j.out.trans m.out.2,?_⟩;show _=_;have:=l.out;rw[beF]at this;rw[kap];exact this

def qbr(x:Nat):List UInt8:=if x<=255 then 196::beF x 1 else if x<=65535 then 197::beF x 2 else 198::beF x 4
def qbq(x:Nat):List UInt8:=if x<16 then[UInt8.ofNat (144+x)]else if x<=65535 then 220::beF x 2 else 221::beF x 4
def qbm(x:Nat):List UInt8:=if x<16 then[UInt8.ofNat (128+x)]else if x<=65535 then 222::beF x 2 else 223::beF x 4
theorem qoE:∀x:Fin 16,bits .or .u8 144 (x.val:Int)=((144+x.val:Nat):Int):=by decide
theorem qoJ:∀x:Fin 16,bits .or .u8 128 (x.val:Int)=((128+x.val:Nat):Int):=by decide
theorem qow(W:World)(b:Nat)(v:Value)(bs:List UInt8)(x:Nat)(O:x<4294967296)(N:bs.length<=999999999)(h:Own W b v bs):Calls prog 75 #[v,.int .u64 x] W λe G=>∃i,e=.returned i/\Own G b i (bs++qbr x)/\Below b W G:=by
 obtain⟨F,B,C,D,E⟩:=kaF Tryz.infoU8;obtain⟨M,A,a,n,c,rfl⟩:=h;have k:=qab M;by_cases z:x<=255
 ·have w:Hid (qbr x=196::beF x 1):=by show _=_;unfold qbr;rw[kag z]
  go_enter func75,ntmps75
  go_wp2_with(first
   |(at_builtin;refine kao _ rfl _ _ 27 rfl b 5 F (.int .u8 0) 1 1 underlying27 B C D E rfl (by decide) _ _ _ rfl (k.out.alloc _) ⟨W.heap.size,0,none⟩ 1 1 [.int .u8 196] rfl rfl (qag _ _ _) (λu g=>by simp at g;subst g;rfl) (by unfold maxLen;omega) (by omega) (by simp;omega) ?_;intro i j f t J;have d:Hid (Own j b i (bs++[196])/\Below b W j):=qa0 A k.out rfl f t;obtain⟨I,H,rfl⟩:=ownsRow_succ f)
   |(go_at_call 92;refine(qar _ b _ _ x 1 (by omega) (by omega) (by simp;omega) d.out.1).mono ?_;rintro e L ⟨K,rfl,p,s⟩;obtain⟨q,r,m,y,o,rfl⟩:=p;have l:=qab (qaP d.out ⟨q,r,m,y,o,rfl⟩ s (w.out.symm))))
  go_ret;exact⟨_,rfl,l.out⟩
 by_cases c2:x<=65535
 ·have w:Hid (qbr x=197::beF x 2):=by show _=_;unfold qbr;rw[kac z];rw[kag c2]
  go_enter func75,ntmps75
  go_wp2_with(first
   |(at_builtin;refine kao _ rfl _ _ 27 rfl b 5 F (.int .u8 0) 1 1 underlying27 B C D E rfl (by decide) _ _ _ rfl (k.out.alloc _) ⟨W.heap.size,0,none⟩ 1 1 [.int .u8 197] rfl rfl (qag _ _ _) (λu g=>by simp at g;subst g;rfl) (by unfold maxLen;omega) (by omega) (by simp;omega) ?_;intro i j f t J;have d:Hid (Own j b i (bs++[197])/\Below b W j):=qa0 A k.out rfl f t;obtain⟨I,H,rfl⟩:=ownsRow_succ f)
   |(go_at_call 92;refine(qar _ b _ _ x 2 (by omega) (by omega) (by simp;omega) d.out.1).mono ?_;rintro e L ⟨K,rfl,p,s⟩;obtain⟨q,r,m,y,o,rfl⟩:=p;have l:=qab (qaP d.out ⟨q,r,m,y,o,rfl⟩ s (w.out.symm))))
  go_ret;exact⟨_,rfl,l.out⟩
 have w:Hid (qbr x=198::beF x 4):=by show _=_;unfold qbr;rw[kac z];rw[kac c2]
 go_enter func75,ntmps75
 go_wp2_with(first
  |(at_builtin;refine kao _ rfl _ _ 27 rfl b 5 F (.int .u8 0) 1 1 underlying27 B C D E rfl (by decide) _ _ _ rfl (k.out.alloc _) ⟨W.heap.size,0,none⟩ 1 1 [.int .u8 198] rfl rfl (qag _ _ _) (λu g=>by simp at g;subst g;rfl) (by unfold maxLen;omega) (by omega) (by simp;omega) ?_;intro i j f t J;have d:Hid (Own j b i (bs++[198])/\Below b W j):=qa0 A k.out rfl f t;obtain⟨I,H,rfl⟩:=ownsRow_succ f)
  |(go_at_call 92;refine(qar _ b _ _ x 4 (by omega) (by omega) (by simp;omega) d.out.1).mono ?_;rintro e L ⟨K,rfl,p,s⟩;obtain⟨q,r,m,y,o,rfl⟩:=p;have l:=qab (qaP d.out ⟨q,r,m,y,o,rfl⟩ s (w.out.symm))))
 go_ret;exact⟨_,rfl,l.out⟩
theorem qnR(W:World)(b:Nat)(v:Value)(bs:List UInt8)(x:Nat)(R:x<4294967296)(Q:bs.length<=999999999)(h:Own W b v bs):Calls prog 76 #[v,.int .u8 144,.int .u8 220,.int .u64 x] W λe J=>∃g,e=.returned g/\Own J b g (bs++qbq x)/\Below b W J:=by
 obtain⟨w,q,r,s,t⟩:=kaF Tryz.infoU8;obtain⟨N,p,a,n,c,rfl⟩:=h;have k:=qab N;by_cases o:x<16
 ·have m:Hid (qbq x=[UInt8.ofNat (144+x)]):=by show _=_;unfold qbq;rw[kag o]
  have K:=qoE ⟨x,o⟩;simp only[]at K;have L:Hid (qax (UInt8.ofNat (144+x))=.int .u8 (bits .or .u8 144 (x:Int))):=by show _=_;rw[K,qba _ (by omega)]
  have M:Hid (qax (UInt8.ofNat (144+x))=.int .u8 (144+(x:Int))):=by show _=_;rw[qba _ (by omega)];simp
  go_enter func76,ntmps76
  go_wp2_with(first
   |(at_builtin;refine kao _ rfl _ _ 27 rfl b 5 w (.int .u8 0) 1 1 underlying27 q r s t rfl (by decide) _ _ _ rfl (k.out.alloc _) ⟨W.heap.size,0,none⟩ 1 1 [.int .u8 (bits .or .u8 144 (x:Int))] rfl rfl (qag _ _ _) (λu f=>by simp at f;subst f;rfl) (by unfold maxLen;omega) (by omega) (by simp;omega) ?_;intro g i d l H;have j:=qab (qa0 p k.out L.out d l);obtain⟨C,B,rfl⟩:=ownsRow_succ d)
   |(at_builtin;refine kao _ rfl _ _ 27 rfl b 5 w (.int .u8 0) 1 1 underlying27 q r s t rfl (by decide) _ _ _ rfl (k.out.alloc _) ⟨W.heap.size,0,none⟩ 1 1 [.int .u8 (144+(x:Int))] rfl rfl (qag _ _ _) (λu f=>by simp at f;subst f;rfl) (by unfold maxLen;omega) (by omega) (by simp;omega) ?_;intro g i d l H;have j:Hid (Own i b g (bs++[UInt8.ofNat (144+x)])/\Below b W i):=qa0 p k.out M.out d l;obtain⟨C,B,rfl⟩:=ownsRow_succ d))
  go_ret;rw[m.out];exact⟨_,rfl,j.out⟩
 by_cases c2:x<=65535
 ·have m:Hid (qbq x=220::beF x 2):=by show _=_;unfold qbq;rw[kac o];rw[kag c2]
  go_enter func76,ntmps76
  go_wp2_with(first
   |(at_builtin;refine kao _ rfl _ _ 27 rfl b 5 w (.int .u8 0) 1 1 underlying27 q r s t rfl (by decide) _ _ _ rfl (k.out.alloc _) ⟨W.heap.size,0,none⟩ 1 1 [.int .u8 220] rfl rfl (qag _ _ _) (λu f=>by simp at f;subst f;rfl) (by unfold maxLen;omega) (by omega) (by simp;omega) ?_;intro g i d l H;have j:Hid (Own i b g (bs++[220])/\Below b W i):=qa0 p k.out rfl d l;obtain⟨C,B,rfl⟩:=ownsRow_succ d)
   |(go_at_call 92;refine(qar _ b _ _ x 2 (by omega) (by omega) (by simp;omega) j.out.1).mono ?_;rintro e P ⟨O,rfl,D,G⟩;obtain⟨E,F,z,I,A,rfl⟩:=D;have y:=qab (qaP j.out ⟨E,F,z,I,A,rfl⟩ G (m.out.symm))))
  go_ret;exact⟨_,rfl,y.out⟩
 have m:Hid (qbq x=221::beF x 4):=by show _=_;unfold qbq;rw[kac o];rw[kac c2]
 go_enter func76,ntmps76
 go_wp2_with(first
  |(at_builtin;refine kao _ rfl _ _ 27 rfl b 5 w (.int .u8 0) 1 1 underlying27 q r s t rfl (by decide) _ _ _ rfl (k.out.alloc _) ⟨W.heap.size,0,none⟩ 1 1 [.int .u8 221] rfl rfl (qag _ _ _) (λu f=>by simp at f;subst f;rfl) (by unfold maxLen;omega) (by omega) (by simp;omega) ?_;intro g i d l H;have j:Hid (Own i b g (bs++[221])/\Below b W i):=qa0 p k.out rfl d l;obtain⟨C,B,rfl⟩:=ownsRow_succ d)
  |(go_at_call 92;refine(qar _ b _ _ x 4 (by omega) (by omega) (by simp;omega) j.out.1).mono ?_;rintro e P ⟨O,rfl,D,G⟩;obtain⟨E,F,z,I,A,rfl⟩:=D;have y:=qab (qaP j.out ⟨E,F,z,I,A,rfl⟩ G (m.out.symm))))
 go_ret;exact⟨_,rfl,y.out⟩
theorem qov(W:World)(b:Nat)(v:Value)(bs:List UInt8)(x:Nat)(R:x<4294967296)(Q:bs.length<=999999999)(h:Own W b v bs):Calls prog 76 #[v,.int .u8 128,.int .u8 222,.int .u64 x] W λe J=>∃g,e=.returned g/\Own J b g (bs++qbm x)/\Below b W J:=by
 obtain⟨w,q,r,s,t⟩:=kaF Tryz.infoU8;obtain⟨N,p,a,n,c,rfl⟩:=h;have k:=qab N;by_cases o:x<16
 ·have m:Hid (qbm x=[UInt8.ofNat (128+x)]):=by show _=_;unfold qbm;rw[kag o]
  have K:=qoJ ⟨x,o⟩;simp only[]at K;have L:Hid (qax (UInt8.ofNat (128+x))=.int .u8 (bits .or .u8 128 (x:Int))):=by show _=_;rw[K,qba _ (by omega)]
  have M:Hid (qax (UInt8.ofNat (128+x))=.int .u8 (128+(x:Int))):=by show _=_;rw[qba _ (by omega)];simp
  go_enter func76,ntmps76
  go_wp2_with(first
   |(at_builtin;refine kao _ rfl _ _ 27 rfl b 5 w (.int .u8 0) 1 1 underlying27 q r s t rfl (by decide) _ _ _ rfl (k.out.alloc _) ⟨W.heap.size,0,none⟩ 1 1 [.int .u8 (bits .or .u8 128 (x:Int))] rfl rfl (qag _ _ _) (λu f=>by simp at f;subst f;rfl) (by unfold maxLen;omega) (by omega) (by simp;omega) ?_;intro g i d l H;have j:Hid (Own i b g (bs++[UInt8.ofNat (128+x)])/\Below b W i):=qa0 p k.out L.out d l;obtain⟨C,B,rfl⟩:=ownsRow_succ d)
   |(at_builtin;refine kao _ rfl _ _ 27 rfl b 5 w (.int .u8 0) 1 1 underlying27 q r s t rfl (by decide) _ _ _ rfl (k.out.alloc _) ⟨W.heap.size,0,none⟩ 1 1 [.int .u8 (128+(x:Int))] rfl rfl (qag _ _ _) (λu f=>by simp at f;subst f;rfl) (by unfold maxLen;omega) (by omega) (by simp;omega) ?_;intro g i d l H;have j:=qab (qa0 p k.out M.out d l);obtain⟨C,B,rfl⟩:=ownsRow_succ d))
  go_ret;rw[m.out];exact⟨_,rfl,j.out⟩
 by_cases c2:x<=65535
 ·have m:Hid (qbm x=222::beF x 2):=by show _=_;unfold qbm;rw[kac o];rw[kag c2]
  go_enter func76,ntmps76
  go_wp2_with(first
   |(at_builtin;refine kao _ rfl _ _ 27 rfl b 5 w (.int .u8 0) 1 1 underlying27 q r s t rfl (by decide) _ _ _ rfl (k.out.alloc _) ⟨W.heap.size,0,none⟩ 1 1 [.int .u8 222] rfl rfl (qag _ _ _) (λu f=>by simp at f;subst f;rfl) (by unfold maxLen;omega) (by omega) (by simp;omega) ?_;intro g i d l H;have j:Hid (Own i b g (bs++[222])/\Below b W i):=qa0 p k.out rfl d l;obtain⟨C,B,rfl⟩:=ownsRow_succ d)
   |(go_at_call 92;refine(qar _ b _ _ x 2 (by omega) (by omega) (by simp;omega) j.out.1).mono ?_;rintro e P ⟨O,rfl,D,G⟩;obtain⟨E,F,z,I,A,rfl⟩:=D;have y:=qab (qaP j.out ⟨E,F,z,I,A,rfl⟩ G (m.out.symm))))
  go_ret;exact⟨_,rfl,y.out⟩
 have m:Hid (qbm x=223::beF x 4):=by show _=_;unfold qbm;rw[kac o];rw[kac c2]
 go_enter func76,ntmps76
 go_wp2_with(first
  |(at_builtin;refine kao _ rfl _ _ 27 rfl b 5 w (.int .u8 0) 1 1 underlying27 q r s t rfl (by decide) _ _ _ rfl (k.out.alloc _) ⟨W.heap.size,0,none⟩ 1 1 [.int .u8 223] rfl rfl (qag _ _ _) (λu f=>by simp at f;subst f;rfl) (by unfold maxLen;omega) (by omega) (by simp;omega) ?_;intro g i d l H;have j:Hid (Own i b g (bs++[223])/\Below b W i):=qa0 p k.out rfl d l;obtain⟨C,B,rfl⟩:=ownsRow_succ d)
  |(go_at_call 92;refine(qar _ b _ _ x 4 (by omega) (by omega) (by simp;omega) j.out.1).mono ?_;rintro e P ⟨O,rfl,D,G⟩;obtain⟨E,F,z,I,A,rfl⟩:=D;have y:=qab (qaP j.out ⟨E,F,z,I,A,rfl⟩ G (m.out.symm))))
 go_ret;exact⟨_,rfl,y.out⟩

end
section
open Go.RowKit
theorem qzl:laidOutB prog=true:=by kernel_rfl
theorem few:prog.types.size+2<=10000:=kcf (by kernel_rfl)
theorem qqO:WideMaps.KeyLaw prog 135:=deep_law_gate qzl few (kcf (by kernel_rfl)) (by kernel_rfl) (by kernel_rfl)
theorem quQ:WideMaps.KeyLaw prog 267:=deep_law_gate qzl few (kcf (by kernel_rfl)) (by kernel_rfl) (by kernel_rfl)
theorem q0A(x:Nat)(h:x<65536):(Lit.int .u16 (x:Int)).wf=true:=by
 have a:IntKind.u16.min=0:=by kernel_rfl
 have b:IntKind.u16.max=65535:=by kernel_rfl
 simp[Lit.wf,a,b];omega
theorem qny{α β:Type}(f:α->Option β)(g:α->β):∀(l:List α),(∀x∈l,f x=some (g x))->l.mapM f=some (l.map g)
 |[],_=>rfl
 |x::l,h=>by
  rw[List.mapM_cons,h x (by simp),qny f g l (λy a=>h y (by simp[a]))];rfl
theorem qq5(X:Nat->Nat)(j:∀r,X r<65536):∃l,keyOf prog 135 (.agg (plA X))=some l:=by
 obtain⟨d,k⟩:∃d,prog.types.size+1=d+2:=⟨prog.types.size-1,by have:1<=prog.types.size:=kcf (by kernel_rfl);omega⟩
 have f:prog.keyType 135=true:=by kernel_rfl
 have b:prog.cellsOf 135=16:=by kernel_rfl
 have g:prog.cellsOf 133=1:=by kernel_rfl
 have m:(Value.agg (plA X)).formed prog 135=true:=by
  simp only[Value.formed,underlying135];rw[qcc,b];rfl
 have n:prog.keyLits (d+2) 135 (plA X).toList=some ((List.range 16).map λi=>[Lit.int .u16 (X i)]).flatten:=by
  have e:(plA X).toList.length=16:=by have:=qcc X;simpa using this
  unfold Program.keyLits;simp only[underlying135];rw[kag (by rw[e,b]),g];rw[qny _ (λi=>[Lit.int .u16 (X i)]) _ (λi a=>?_)]
  ·rfl
  have a:i<16:=by simpa using a
  have c:((plA X).toList.drop (i*1)).take 1=[.int .u16 (X i)]:=by
   have h:=qdk X i a;rw[kdI];rw[<-kbE]at h;obtain⟨o,p⟩:=kbw.1 h;rw[ka6 o,p];rfl
  rw[c];unfold Program.keyLits;simp only[underlying133];rw[kag ⟨trivial,q0A _ (j i)⟩]
 refine⟨.string (keyBytes ((List.range 16).map λi=>[Lit.int .u16 (X i)]).flatten),?_⟩;unfold keyOf;simp only[underlying135];have e:(Value.agg (plA X)).cells=plA X:=rfl;rw[f,m,k,kag (by rfl),e,n,kc9]
theorem qpt(h:plA X=plA Y):∀r,r<16->X r=Y r:=by
 intro r b;have a:=qdk X r b;rw[h,qdk Y r b]at a;injection a with a;injection a with _ a;omega
def qvl(X Y:Nat->Nat):Bool:=(List.range 16).all λr=>X r==Y r
theorem qkr(h:qvl X Y=true):∀r,r<16->X r=Y r:=by
 intro r a;have:=ka3.1 h r (by simpa using a);simpa using this
theorem qrL(h:∀r,r<16->X r=Y r):qvl X Y=true:=ka3.2 λr a=>by simpa using h r (by simpa using a)
theorem qyc(X Y:Nat->Nat)(i:∀r,X r<65536)(j:∀r,Y r<65536)(w:World):(Op.equalIn 10000 135 (.agg (plA X)) (.agg (plA Y))).run prog w=.ok (qvl X Y) w:=by
 obtain⟨l,a⟩:=qq5 X i;obtain⟨n,f⟩:=qq5 Y j;obtain⟨b,d,g⟩:=run_equal_deep w (m:=prog.types.size+1) (by have:=few;omega) (k:=135) (by kernel_rfl) (by kernel_rfl) a f;have d:(Op.equalIn 10000 135 (.agg (plA X)) (.agg (plA Y))).run prog w=.ok b w:=d;have e:b=qvl X Y:=by
  cases c:qvl X Y with
  |true =>
   refine g.2 ?_;rw[qxS (qkr c),f]at a;exact(kaE a).symm
  |false =>
   cases b with
   |false=>rfl
   |true =>
    have e:=g.1 rfl;subst e;have h:=qqO.inj a f;rw[qrL (qpt (Value.agg.inj h))]at c;cases c
 rw[d,e]

def zPl:Nat->Nat:=λ_=>0
structure qiR(W:World)(X:Nat->Nat)(V:World):Prop where
 box:V.heap[W.heap.size]?=some (.cells (plA X) 135)
 ret:V.heap[W.heap.size+1]?=some (.cells (plA zPl) 135)
 below:Below W.heap.size W V
theorem qiR.next{V':World}(h:qiR W X V)(a:Below V.heap.size V V'):qiR W X V' :=
 ⟨(a.block _ (ltA h.box)).trans h.box,(a.block _ (ltA h.ret)).trans h.ret,h.below.trans (a.mono h.below.size)⟩
theorem qwV(W:World)(X:Nat->Nat):qiR W X ((W.alloc (.cells (plA X) 135)).alloc (.cells (plA zPl) 135)) :=
 ⟨(kae _ _ _ (by simp)).trans (qac _ _),by have:=qac (W.alloc (.cells (plA X) 135)) (.cells (plA zPl) 135);simpa using this,(bwA).alloc (by simp) _⟩
theorem qhf(X:Nat->Nat):(plA X).all (·.oneCell')=true:=by
 rw[Array.all_eq_true];intro i h;simp[plA,Value.oneCell']
theorem qlj(X Y:Nat->Nat):(plA X).size=(plA Y).size:=by rw[qcc,qcc]
theorem qiR.set(h:qiR W X V)(g:Nat)(a:W.heap.size+1<g)(cs:Array Value):qiR W X (V.setRow g cs) :=
 ⟨sx (by omega) h.box,sx (by omega) h.ret,qai h.below (by omega) _⟩
theorem qiR.cell(h:qiR W X V)(g j:Nat)(a:W.heap.size+1<g)(v:Value):qiR W X (V.setCell ⟨g,j,none⟩ v) :=
 ⟨(kaG _ _ _ _ (by simp;omega)).trans h.box,(kaG _ _ _ _ (by simp;omega)).trans h.ret,h.below.setCell (by simp;omega) _⟩
theorem qiR.drew(h:qiR W X V):qiR W X V.drew:=⟨h.box,h.ret,h.below.drew⟩
theorem qsK(st X:Nat->Nat)(k:Nat):(λi=>if i=k then w1 (st k) (X k)else wSt st X k i)=wSt st X (k+1):=by
 funext r;unfold wSt;by_cases h:r=k
 ·subst h;rw[kag rfl,kag (by omega)]
 rw[kac h];by_cases a:r<k
 ·rw[kag a,kag (by omega)]
 rw[kac a,kac (by omega)]
theorem qxW(y:Nat)(h:y<256):IntKind.u16.wrap ((y:Int)*2)=((y<<<1:Nat):Int):=by
 have:=w16 (y*2) (by omega);rw[kcn];rw[show((y:Int)*2)=((y*2:Nat):Int) by simp,this]
theorem qsC(st X:Nat->Nat):wSt st X 0=X:=by
 funext r;unfold wSt;rw[kac (by omega)]
theorem qmy(W:World)(A:Nat)(ra:Option Addr)(rc n:Nat)(st:Nat->Nat)(P:Nat->Nat)(C:∀r,P r<512)(u:∀r,st r<256)(hn:n<=16)(m:A<W.heap.size)(x:W.cell? ⟨A,0,none⟩=some (.slice ra n rc))(cs:∀r,r<16->W.cell? ⟨A,3+r,none⟩=some (.int .u16 (st r))):Calls prog 85 #[.pointer (some ⟨A,0,none⟩),.agg (plA P)] W λe R=>(∃Y,e=.returned (.agg (plA Y))/\(∀r,r<n->∀k,(Y r).testBit k=wdB (st r) (P r) k)/\(∀r,n<=r->Y r=P r)/\∀r,Y r<512)/\Below W.heap.size W R:=by
 have L:Hid (qiR W P ((W.alloc (.cells (plA P) 135)).alloc (.cells #[.int .u16 0,.int .u16 0,.int .u16 0,.int .u16 0,.int .u16 0,.int .u16 0,.int .u16 0,.int .u16 0,.int .u16 0,.int .u16 0,.int .u16 0,.int .u16 0,.int .u16 0,.int .u16 0,.int .u16 0,.int .u16 0] 135))):=qwV W P;have H:=qab (qxR P st n C);go_enter func85,ntmps85;go_wp2
 go_loopg[] (8192-qmY P 16) (λg wr=>∃X,Hid (qiR W X wr)/\Hid (Mid P st n X)/\Hid (qmY X 16+g=8192))
 case atStart=>exact⟨P,L,H,by show _=_;have:=qjl C 16;omega⟩
 case round =>
  obtain⟨X,l,d,G⟩:=hrel;have T:=(l.out.below.cell (p:=⟨A,_,none⟩) m).trans x
  go_wp2_with(first
   |(refine kak rfl 135 (.tmp 3) rfl W.heap.size rfl _ _ _ _ l.out.box underlying135 rfl (qbo X) ?_)
   |(refine kan rfl 135 (.tmp 5) (.tmp 7) rfl wr.heap.size (plA X) rfl rfl 135 (plA zPl) (qac wr _) (qbo X) (qlj _ _) (qhf X) ?_;have v:=qab (ltA l.out.ret);have w:Hid (qiR W X ((wr.alloc (.cells #[.int .u16 0,.int .u16 0,.int .u16 0,.int .u16 0,.int .u16 0,.int .u16 0,.int .u16 0,.int .u16 0,.int .u16 0,.int .u16 0,.int .u16 0,.int .u16 0,.int .u16 0,.int .u16 0,.int .u16 0,.int .u16 0] 135)).setRow wr.heap.size (plA X))):=(l.out.next bwA).set _ v.out _;have O:Hid (((wr.alloc (.cells #[.int .u16 0,.int .u16 0,.int .u16 0,.int .u16 0,.int .u16 0,.int .u16 0,.int .u16 0,.int .u16 0,.int .u16 0,.int .u16 0,.int .u16 0,.int .u16 0,.int .u16 0,.int .u16 0,.int .u16 0,.int .u16 0] 135)).setRow wr.heap.size (plA X)).heap[wr.heap.size]?=some (.cells (plA (wSt st X 0)) 135)):=(by rw[qsC];exact kaA _ _ _ _ _ _ (qac wr _));generalize(wr.alloc (.cells #[.int .u16 0,.int .u16 0,.int .u16 0,.int .u16 0,.int .u16 0,.int .u16 0,.int .u16 0,.int .u16 0,.int .u16 0,.int .u16 0,.int .u16 0,.int .u16 0,.int .u16 0,.int .u16 0,.int .u16 0,.int .u16 0] 135)).setRow wr.heap.size (plA X)=V1 at *;generalize wr.heap.size=M at *;have T:=(w.out.below.cell (p:=⟨A,_,none⟩) m).trans x))
  go_loopg[13] n (λg ai V=>∃k:Nat,ai=.int .i64 k/\Hid (k+g=n)/\Hid (qiR W X V)/\Hid (V.heap[M]?=some (.cells (plA (wSt st X k)) 135)))
  case atStart=>exact⟨0,rfl,by show _=_;omega,w,O⟩
  case round =>
   obtain⟨k,rfl,o,b,i⟩:=hrel
   cases gk with
   |zero =>
    have af:¬(k:Int)<(n:Int):=by have:=o.out;omega
    have ae:k=n:=by have:=o.out;omega
    subst ae;have z:∀r,X r<65536:=λr=>by have:=d.out.lt r;omega
    have ab:∀r,wSt st X k r<65536:=λr=>by have:=(d.out.step u).lt r;omega
    have E:=qyc (wSt st X k) X ab z wr
    cases j:qvl (wSt st X k) X with
    |true =>
     rw[j]at E;have he:∀r,r<k->w1 (st r) (X r)=X r:=λr f=>by
      have h:=qkr j r (by omega);unfold wSt at h;rwa[kag f]at h
     have F:=qab (d.out.done he)
     go_wp2_with(first
      |(refine kak rfl 135 (.tmp 5) rfl M rfl _ _ _ _ i.out underlying135 rfl (qbo _) ?_)
      |(refine kak rfl 135 (.tmp 3) rfl W.heap.size rfl _ _ _ _ b.out.box underlying135 rfl (qbo X) ?_)
      |(refine kan rfl 135 (.tmp 4) (.tmp 36) rfl (W.heap.size+1) (plA X) rfl rfl 135 (plA zPl) b.out.ret (qbo X) (qlj _ _) (qhf X) ?_))
     refine kaw (kcb results85 _ _ (W.heap.size+1) 135 (plA X) (0,0) _ rfl (kaA _ _ _ _ _ _ b.out.ret) underlying135 rfl (qbo X)) rfl ⟨⟨X,rfl,F.out,d.out.off,d.out.lt⟩,qai b.out.below (by omega) _⟩
    |false =>
     rw[j]at E;have I:Hid (qmY X 16<qmY (wSt st X k) 16):=by
      show _<_;have D:∀r,X r<=wSt st X k r:=λr=>by
       unfold wSt;by_cases f:r<k
       ·rw[kag f];exact qzZ _ _
       rw[kac f];exact kaf _
      have ad:∃r,r<16/\X r<wSt st X k r:=by
       refine kc4 λhh=>?_;have:qvl (wSt st X k) X=true:=qrL λr f=>by
        have y:=D r;have B:¬X r<wSt st X k r:=λh=>hh ⟨r,f,h⟩;omega
       rw[this]at j;cases j
      obtain⟨r,y,B⟩:=ad;exact qph D 16 r y B
     have q:=qab (d.out.step u)
     go_wp2_with(first
      |(refine kak rfl 135 (.tmp 5) rfl M rfl _ _ _ _ i.out underlying135 rfl (qbo _) ?_)
      |(refine kak rfl 135 (.tmp 3) rfl W.heap.size rfl _ _ _ _ b.out.box underlying135 rfl (qbo X) ?_)
      |(refine kan rfl 135 (.tmp 3) (.tmp 37) rfl W.heap.size (plA (wSt st X k)) rfl rfl 135 (plA X) b.out.box (qbo _) (qlj _ _) (qhf _) ?_))
     have N:Hid (qiR W (wSt st X k) (wr.setRow W.heap.size (plA (wSt st X k)))):=⟨kaA _ _ _ _ _ _ b.out.box,sx (by omega) b.out.ret,qai b.out.below (kaf _) _⟩
     go_roundg (8192-qmY (wSt st X k) 16)
     case measure=>have:=G.out;have:=I.out;have:=qjl q.out.lt 16;omega
     case rel=>exact⟨wSt st X k,N,q,by show _=_;have:=qjl q.out.lt 16;omega⟩
   |succ g =>
    have am:k<n:=by have:=o.out;omega
    have af:(k:Int)<(n:Int):=by omega
    have al:(k:Int)<16:=by omega
    have aa:=d.out.lt k;have ah:=u k;have ha:=qsU (X k) (st k) (by omega) (by omega);have ac:X k&&&st k<256:=kbU (n:=8) _ (by omega);have an:=qxW (X k&&&st k) ac;have ao:=qzx ah aa;have ag:bits .or .u16 (X k:Int) (((X k&&&st k)<<<1:Nat):Int)=((w1 (st k) (X k):Nat):Int):=qzG _ _ (by omega) (by rw[kcn];omega);have aj:wr.cell? ⟨M,k,none⟩=some (.int .u16 (X k)):=by
     have h:=qaa i.out k;rw[qdk _ k (by omega)]at h;rw[h];unfold wSt;rw[kac (by omega)]
    have ak:=kaK wr M k _ _ i.out;have J:Hid (wr.cell? ⟨W.heap.size,k,none⟩=some (.int .u16 (X k))/\wr.cell? ⟨A,3+k,none⟩=some (.int .u16 (st k))):=⟨by have h:=qaa b.out.box k;rwa[qdk _ k (by omega)]at h,(b.out.below.cell (p:=⟨A,_,none⟩) m).trans (cs k (by omega))⟩
    have s:Hid (qiR W X (wr.drew.setCell ⟨M,k,none⟩ (.int .u16 ((w1 (st k) (X k):Nat):Int)))):=b.out.drew.cell _ _ v.out _;have Q:Hid ((wr.drew.setCell ⟨M,k,none⟩ (.int .u16 ((w1 (st k) (X k):Nat):Int))).heap[M]?=some (.cells (plA (wSt st X (k+1))) 135)):=by
     have h:=kaO wr.drew M k _ _ (.int .u16 ((w1 (st k) (X k):Nat):Int)) i.out;rw[qiL,qsK]at h;exact h
    go_wp2;have a:(λZ:World=>Z.cell? ⟨W.heap.size,k,none⟩=some (.int .u16 (X k))/\Z.cell? ⟨A,3+k,none⟩=some (.int .u16 (st k))) {wr with drawn:=wr.drawn+1}:=J.out;have U:(λZ:World=>Z.cell? ⟨W.heap.size,k,none⟩=some (.int .u16 (X k))/\Z.cell? ⟨A,3+k,none⟩=some (.int .u16 (st k))) (wr.drew.setCell ⟨M,k,none⟩ (.int .u16 ((w1 (st k) (X k):Nat):Int))):=⟨by have h:=qaa s.out.box k;rwa[qdk _ k (by omega)]at h,(s.out.below.cell (p:=⟨A,_,none⟩) m).trans (cs k (by omega))⟩
    refine kaM (S:=λZ=>Z.cell? ⟨W.heap.size,k,none⟩=some (.int .u16 (X k))/\Z.cell? ⟨A,3+k,none⟩=some (.int .u16 (st k))) (by kernel_rfl) ?_;refine tkp 0 16 (.int .i64 k) a ?_;refine tkq 1 17 (.pointer (some ⟨M,k,none⟩)) rfl (λZ c=>?y1) a ?_
    case y1=>go_simp
    refine tkp 3 19 (.int .i64 k) a ?_;refine tkq 4 20 (.pointer (some ⟨W.heap.size,k,none⟩)) rfl (λZ c=>?y4) a ?_
    case y4=>go_simp
    refine tkq 5 21 (.int .u16 (X k)) rfl (λZ c=>?y5) a ?_
    case y5=>(have z1:=c.1;go_simp)
    refine tkp 6 22 (.pointer (some ⟨A,0,none⟩)) a ?_;refine tkp 7 23 (.int .i64 k) a ?_;refine tkp 8 24 (.pointer (some ⟨A,0,none⟩)) a ?_;refine tkp 9 25 (.pointer (some ⟨A,3,none⟩)) a ?_;refine tkq 10 26 (.pointer (some ⟨A,3+k,none⟩)) rfl (λZ c=>?y10) a ?_
    case y10=>go_simp
    refine tkq 11 27 (.int .u16 (st k)) rfl (λZ c=>?y11) a ?_
    case y11=>(have z2:=c.2;go_simp)
    refine tkq 12 28 (.int .u16 ((X k&&&st k:Nat):Int)) rfl (λZ c=>?y12) a ?_
    case y12=>go_simp
    refine tkq 13 29 (.int .u16 (((X k&&&st k)<<<1:Nat):Int)) rfl (λZ c=>?y13) a ?_
    case y13=>go_simp
    refine rdq 2 (λK t=>?_);go_simp;refine t.out _ _ a (λ_=>?_);refine tkq 14 30 (.int .u16 ((w1 (st k) (X k):Nat):Int)) rfl (λZ c=>?y14) a ?_
    case y14=>(go_simp;exact ag)
    refine tkq 15 31 (.pointer (some ⟨M,k,none⟩)) rfl (λZ c=>?y15) a ?_
    case y15=>go_simp
    refine rdq 16 (λK t=>?_);go_simp;refine t.out _ _ U (λ_=>?_);refine wdn ?_;go_simp;go_wp2;go_roundg g
    case measure=>omega
    case rel=>exact⟨k+1,by go_num,by show _=_;have:=o.out;omega,s,Q⟩

end
end Go.Proofs.YtmajcjammmjimaaGreatDoor
