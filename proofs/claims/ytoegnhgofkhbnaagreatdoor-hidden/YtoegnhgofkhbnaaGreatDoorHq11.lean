import Derived.Laws.IdiomStrings
import Derived.Laws.Concat
import Derived.Test.YtoegnhgofkhbnaaGreatDoorHq09
import Derived.Test.YtoegnhgofkhbnaaGreatDoorHq10
set_option maxRecDepth 100000
set_option maxHeartbeats 8000000
set_option linter.all false
namespace Go.Proofs.YtoegnhgofkhbnaaGreatDoor
open Go.Proofs.Tryz
open Go.Value renaming int->A7,slice->A8,pointer->A9,string->Aa,tuple->Ab,agg->Ac,bool->Ad,iface->Ae
open Go.Ending renaming returned->Ag
open Go.IntKind renaming i64->Ah,u8->Ai
open Option renaming some->Aj,none->Ak
open Go renaming World->Al,Value->Am,Calls->An
open Go.Proofs.Tryz renaming prog->Ao
variable{P:Program}{W w:Al}{ops:Array Oper}{o:Oper}{a:Act}{Q:Exit->Act->Al->Prop}
section
open Go.RowKit Go.Lib
def Fe(x:Nat):A2:=if x<=255 then 196::AX x 1 else if x<=65535 then 197::AX x 2 else 198::AX x 4
def Ff(x:Nat):A2:=if x<16 then[UInt8.ofNat (144+x)]else if x<=65535 then 220::AX x 2 else 221::AX x 4
def EN(x:Nat):A2:=if x<16 then[UInt8.ofNat (128+x)]else if x<=65535 then 222::AX x 2 else 223::AX x 4
theorem cm:∀x:Fin 16,bits .or Ai 144 (x.val:Int)=((144+x.val:Nat):Int):=by decide
theorem cn:∀x:Fin 16,bits .or Ai 128 (x.val:Int)=((128+x.val:Nat):Int):=by decide
theorem co(W:Al)(b:Nat)(v:Am)(bs:A2)(x:Nat)(O:x<4294967296)(N:bs.length<=999999999)(h:Av W b v bs):An Ao 146 #[v,A7 .u64 x] W λe G=>∃i,e=Ag i/\Av G b i (bs++Fe x)/\Below b W G:=by
 obtain⟨F,B,C,D,E⟩:=BH Tryz.infoU8;obtain⟨M,A,a,n,c,rfl⟩:=h;have k:=Ap M;by_cases z:x<=255
 ·have w:Hid (Fe x=196::AX x 1):=by show _=_;unfold Fe;rw[As z]
  go_enter func146,ntmps146
  go_wp2_with(first
   |(at_builtin;refine Bz _ rfl _ _ 49 rfl b 5 F (A7 Ai 0) 1 1 underlying49 B C D E rfl (by decide) _ _ _ rfl (k.alloc _) ⟨W.heap.size,0,Ak⟩ 1 1 [A7 Ai 196] rfl rfl (Bf _ _ _) (λu g=>by simp at g;subst g;rfl) (by unfold maxLen;omega) (by omega) (by simp;omega) ?_;intro i j f t J;have d:Hid (Av j b i (bs++[196])/\Below b W j):=Ct A k rfl f t;obtain⟨I,H,rfl⟩:=ownsRow_succ f)
   |(go_at_call 166;refine(EM _ b _ _ x 1 (by omega) (by omega) (by simp;omega) d.1).mono ?_;rintro e L ⟨K,rfl,p,s⟩;obtain⟨q,r,m,y,o,rfl⟩:=p;have l:=Ap (E8 d ⟨q,r,m,y,o,rfl⟩ s (w.out.symm))))
  go_ret;exact⟨_,rfl,l⟩
 by_cases c2:x<=65535
 ·have w:Hid (Fe x=197::AX x 2):=by show _=_;unfold Fe;rw[Aq z];rw[As c2]
  go_enter func146,ntmps146
  go_wp2_with(first
   |(at_builtin;refine Bz _ rfl _ _ 49 rfl b 5 F (A7 Ai 0) 1 1 underlying49 B C D E rfl (by decide) _ _ _ rfl (k.alloc _) ⟨W.heap.size,0,Ak⟩ 1 1 [A7 Ai 197] rfl rfl (Bf _ _ _) (λu g=>by simp at g;subst g;rfl) (by unfold maxLen;omega) (by omega) (by simp;omega) ?_;intro i j f t J;have d:Hid (Av j b i (bs++[197])/\Below b W j):=Ct A k rfl f t;obtain⟨I,H,rfl⟩:=ownsRow_succ f)
   |(go_at_call 166;refine(EM _ b _ _ x 2 (by omega) (by omega) (by simp;omega) d.1).mono ?_;rintro e L ⟨K,rfl,p,s⟩;obtain⟨q,r,m,y,o,rfl⟩:=p;have l:=Ap (E8 d ⟨q,r,m,y,o,rfl⟩ s (w.out.symm))))
  go_ret;exact⟨_,rfl,l⟩
 have w:Hid (Fe x=198::AX x 4):=by show _=_;unfold Fe;rw[Aq z];rw[Aq c2]
 go_enter func146,ntmps146
 go_wp2_with(first
  |(at_builtin;refine Bz _ rfl _ _ 49 rfl b 5 F (A7 Ai 0) 1 1 underlying49 B C D E rfl (by decide) _ _ _ rfl (k.alloc _) ⟨W.heap.size,0,Ak⟩ 1 1 [A7 Ai 198] rfl rfl (Bf _ _ _) (λu g=>by simp at g;subst g;rfl) (by unfold maxLen;omega) (by omega) (by simp;omega) ?_;intro i j f t J;have d:Hid (Av j b i (bs++[198])/\Below b W j):=Ct A k rfl f t;obtain⟨I,H,rfl⟩:=ownsRow_succ f)
  |(go_at_call 166;refine(EM _ b _ _ x 4 (by omega) (by omega) (by simp;omega) d.1).mono ?_;rintro e L ⟨K,rfl,p,s⟩;obtain⟨q,r,m,y,o,rfl⟩:=p;have l:=Ap (E8 d ⟨q,r,m,y,o,rfl⟩ s (w.out.symm))))
 go_ret;exact⟨_,rfl,l⟩
theorem cq(W:Al)(b:Nat)(v:Am)(bs:A2)(x:Nat)(R:x<4294967296)(Q:bs.length<=999999999)(h:Av W b v bs):An Ao 147 #[v,A7 Ai 144,A7 Ai 220,A7 .u64 x] W λe J=>∃g,e=Ag g/\Av J b g (bs++Ff x)/\Below b W J:=by
 obtain⟨w,q,r,s,t⟩:=BH Tryz.infoU8;obtain⟨N,p,a,n,c,rfl⟩:=h;have k:=Ap N;by_cases o:x<16
 ·have m:Hid (Ff x=[UInt8.ofNat (144+x)]):=by show _=_;unfold Ff;rw[As o]
  have K:=cm ⟨x,o⟩;simp only[]at K;have L:Hid (B0 (UInt8.ofNat (144+x))=A7 Ai (bits .or Ai 144 (x:Int))):=by show _=_;rw[K,GQ _ (by omega)]
  have M:Hid (B0 (UInt8.ofNat (144+x))=A7 Ai (144+(x:Int))):=by show _=_;rw[GQ _ (by omega)];simp
  go_enter func147,ntmps147
  go_wp2_with(first
   |(at_builtin;refine Bz _ rfl _ _ 49 rfl b 5 w (A7 Ai 0) 1 1 underlying49 q r s t rfl (by decide) _ _ _ rfl (k.alloc _) ⟨W.heap.size,0,Ak⟩ 1 1 [A7 Ai (bits .or Ai 144 (x:Int))] rfl rfl (Bf _ _ _) (λu f=>by simp at f;subst f;rfl) (by unfold maxLen;omega) (by omega) (by simp;omega) ?_;intro g i d l H;have j:=Ap (Ct p k L d l);obtain⟨C,B,rfl⟩:=ownsRow_succ d)
   |(at_builtin;refine Bz _ rfl _ _ 49 rfl b 5 w (A7 Ai 0) 1 1 underlying49 q r s t rfl (by decide) _ _ _ rfl (k.alloc _) ⟨W.heap.size,0,Ak⟩ 1 1 [A7 Ai (144+(x:Int))] rfl rfl (Bf _ _ _) (λu f=>by simp at f;subst f;rfl) (by unfold maxLen;omega) (by omega) (by simp;omega) ?_;intro g i d l H;have j:Hid (Av i b g (bs++[UInt8.ofNat (144+x)])/\Below b W i):=Ct p k M d l;obtain⟨C,B,rfl⟩:=ownsRow_succ d))
  go_ret;rw[m.out];exact⟨_,rfl,j⟩
 by_cases c2:x<=65535
 ·have m:Hid (Ff x=220::AX x 2):=by show _=_;unfold Ff;rw[Aq o];rw[As c2]
  go_enter func147,ntmps147
  go_wp2_with(first
   |(at_builtin;refine Bz _ rfl _ _ 49 rfl b 5 w (A7 Ai 0) 1 1 underlying49 q r s t rfl (by decide) _ _ _ rfl (k.alloc _) ⟨W.heap.size,0,Ak⟩ 1 1 [A7 Ai 220] rfl rfl (Bf _ _ _) (λu f=>by simp at f;subst f;rfl) (by unfold maxLen;omega) (by omega) (by simp;omega) ?_;intro g i d l H;have j:Hid (Av i b g (bs++[220])/\Below b W i):=Ct p k rfl d l;obtain⟨C,B,rfl⟩:=ownsRow_succ d)
   |(go_at_call 166;refine(EM _ b _ _ x 2 (by omega) (by omega) (by simp;omega) j.1).mono ?_;rintro e P ⟨O,rfl,D,G⟩;obtain⟨E,F,z,I,A,rfl⟩:=D;have y:=Ap (E8 j ⟨E,F,z,I,A,rfl⟩ G (m.out.symm))))
  go_ret;exact⟨_,rfl,y⟩
 have m:Hid (Ff x=221::AX x 4):=by show _=_;unfold Ff;rw[Aq o];rw[Aq c2]
 go_enter func147,ntmps147
 go_wp2_with(first
  |(at_builtin;refine Bz _ rfl _ _ 49 rfl b 5 w (A7 Ai 0) 1 1 underlying49 q r s t rfl (by decide) _ _ _ rfl (k.alloc _) ⟨W.heap.size,0,Ak⟩ 1 1 [A7 Ai 221] rfl rfl (Bf _ _ _) (λu f=>by simp at f;subst f;rfl) (by unfold maxLen;omega) (by omega) (by simp;omega) ?_;intro g i d l H;have j:Hid (Av i b g (bs++[221])/\Below b W i):=Ct p k rfl d l;obtain⟨C,B,rfl⟩:=ownsRow_succ d)
  |(go_at_call 166;refine(EM _ b _ _ x 4 (by omega) (by omega) (by simp;omega) j.1).mono ?_;rintro e P ⟨O,rfl,D,G⟩;obtain⟨E,F,z,I,A,rfl⟩:=D;have y:=Ap (E8 j ⟨E,F,z,I,A,rfl⟩ G (m.out.symm))))
 go_ret;exact⟨_,rfl,y⟩
theorem cr(W:Al)(b:Nat)(v:Am)(bs:A2)(x:Nat)(R:x<4294967296)(Q:bs.length<=999999999)(h:Av W b v bs):An Ao 147 #[v,A7 Ai 128,A7 Ai 222,A7 .u64 x] W λe J=>∃g,e=Ag g/\Av J b g (bs++EN x)/\Below b W J:=by
 obtain⟨w,q,r,s,t⟩:=BH Tryz.infoU8;obtain⟨N,p,a,n,c,rfl⟩:=h;have k:=Ap N;by_cases o:x<16
 ·have m:Hid (EN x=[UInt8.ofNat (128+x)]):=by show _=_;unfold EN;rw[As o]
  have K:=cn ⟨x,o⟩;simp only[]at K;have L:Hid (B0 (UInt8.ofNat (128+x))=A7 Ai (bits .or Ai 128 (x:Int))):=by show _=_;rw[K,GQ _ (by omega)]
  have M:Hid (B0 (UInt8.ofNat (128+x))=A7 Ai (128+(x:Int))):=by show _=_;rw[GQ _ (by omega)];simp
  go_enter func147,ntmps147
  go_wp2_with(first
   |(at_builtin;refine Bz _ rfl _ _ 49 rfl b 5 w (A7 Ai 0) 1 1 underlying49 q r s t rfl (by decide) _ _ _ rfl (k.alloc _) ⟨W.heap.size,0,Ak⟩ 1 1 [A7 Ai (bits .or Ai 128 (x:Int))] rfl rfl (Bf _ _ _) (λu f=>by simp at f;subst f;rfl) (by unfold maxLen;omega) (by omega) (by simp;omega) ?_;intro g i d l H;have j:Hid (Av i b g (bs++[UInt8.ofNat (128+x)])/\Below b W i):=Ct p k L d l;obtain⟨C,B,rfl⟩:=ownsRow_succ d)
   |(at_builtin;refine Bz _ rfl _ _ 49 rfl b 5 w (A7 Ai 0) 1 1 underlying49 q r s t rfl (by decide) _ _ _ rfl (k.alloc _) ⟨W.heap.size,0,Ak⟩ 1 1 [A7 Ai (128+(x:Int))] rfl rfl (Bf _ _ _) (λu f=>by simp at f;subst f;rfl) (by unfold maxLen;omega) (by omega) (by simp;omega) ?_;intro g i d l H;have j:=Ap (Ct p k M d l);obtain⟨C,B,rfl⟩:=ownsRow_succ d))
  go_ret;rw[m.out];exact⟨_,rfl,j⟩
 by_cases c2:x<=65535
 ·have m:Hid (EN x=222::AX x 2):=by show _=_;unfold EN;rw[Aq o];rw[As c2]
  go_enter func147,ntmps147
  go_wp2_with(first
   |(at_builtin;refine Bz _ rfl _ _ 49 rfl b 5 w (A7 Ai 0) 1 1 underlying49 q r s t rfl (by decide) _ _ _ rfl (k.alloc _) ⟨W.heap.size,0,Ak⟩ 1 1 [A7 Ai 222] rfl rfl (Bf _ _ _) (λu f=>by simp at f;subst f;rfl) (by unfold maxLen;omega) (by omega) (by simp;omega) ?_;intro g i d l H;have j:Hid (Av i b g (bs++[222])/\Below b W i):=Ct p k rfl d l;obtain⟨C,B,rfl⟩:=ownsRow_succ d)
   |(go_at_call 166;refine(EM _ b _ _ x 2 (by omega) (by omega) (by simp;omega) j.1).mono ?_;rintro e P ⟨O,rfl,D,G⟩;obtain⟨E,F,z,I,A,rfl⟩:=D;have y:=Ap (E8 j ⟨E,F,z,I,A,rfl⟩ G (m.out.symm))))
  go_ret;exact⟨_,rfl,y⟩
 have m:Hid (EN x=223::AX x 4):=by show _=_;unfold EN;rw[Aq o];rw[Aq c2]
 go_enter func147,ntmps147
 go_wp2_with(first
  |(at_builtin;refine Bz _ rfl _ _ 49 rfl b 5 w (A7 Ai 0) 1 1 underlying49 q r s t rfl (by decide) _ _ _ rfl (k.alloc _) ⟨W.heap.size,0,Ak⟩ 1 1 [A7 Ai 223] rfl rfl (Bf _ _ _) (λu f=>by simp at f;subst f;rfl) (by unfold maxLen;omega) (by omega) (by simp;omega) ?_;intro g i d l H;have j:Hid (Av i b g (bs++[223])/\Below b W i):=Ct p k rfl d l;obtain⟨C,B,rfl⟩:=ownsRow_succ d)
  |(go_at_call 166;refine(EM _ b _ _ x 4 (by omega) (by omega) (by simp;omega) j.1).mono ?_;rintro e P ⟨O,rfl,D,G⟩;obtain⟨E,F,z,I,A,rfl⟩:=D;have y:=Ap (E8 j ⟨E,F,z,I,A,rfl⟩ G (m.out.symm))))
 go_ret;exact⟨_,rfl,y⟩
theorem Ro  : ∀w:Al,(Instr.typeAssert (Ae 176 (Ac #[])) 89 252 true).run Ao w=.ok (Ab #[Ad false,Ad false]) w:=λw=>by kernel_rfl
theorem Rp  : ∀w:Al,(Instr.typeAssert (Ae 176 (Ac #[])) 89 254 true).run Ao w=.ok (Ab #[A7 Ah 0,Ad false]) w:=λw=>by kernel_rfl
theorem Rq  : ∀w:Al,(Instr.typeAssert (Ae 176 (Ac #[])) 89 214 true).run Ao w=.ok (Ab #[.string ByteArray.empty,Ad false]) w:=λw=>by kernel_rfl
theorem Ve  : ∀w:Al,(Instr.typeAssert (Ae 176 (Ac #[])) 89 216 true).run Ao w=.ok (Ab #[A8 Ak 0 0,Ad false]) w:=λw=>by kernel_rfl
theorem Rr  : ∀w:Al,(Instr.typeAssert (Ae 176 (Ac #[])) 89 218 true).run Ao w=.ok (Ab #[A8 Ak 0 0,Ad false]) w:=λw=>by kernel_rfl
theorem Rs  : ∀w:Al,(Instr.typeAssert (Ae 176 (Ac #[])) 89 220 true).run Ao w=.ok (Ab #[A8 Ak 0 0,Ad false]) w:=λw=>by kernel_rfl
theorem M0(b:Bool):∀w:Al,(Instr.typeAssert (Ae 252 (Ad b)) 89 252 true).run Ao w=.ok (Ab #[Ad b,Ad true]) w:=λw=>by kernel_rfl
theorem Rt(s:ByteArray):∀w:Al,(Instr.typeAssert (Ae 214 (.string s)) 89 252 true).run Ao w=.ok (Ab #[Ad false,Ad false]) w:=λw=>by kernel_rfl
theorem Ru(s:ByteArray):∀w:Al,(Instr.typeAssert (Ae 214 (.string s)) 89 254 true).run Ao w=.ok (Ab #[A7 Ah 0,Ad false]) w:=λw=>by kernel_rfl
theorem Rw(s:ByteArray):∀w:Al,(Instr.typeAssert (Ae 214 (.string s)) 89 214 true).run Ao w=.ok (Ab #[.string s,Ad true]) w:=λw=>by kernel_rfl
theorem Nq(a:A5)(n c:Nat):∀w:Al,(Instr.typeAssert (Ae 216 (A8 a n c)) 89 252 true).run Ao w=.ok (Ab #[Ad false,Ad false]) w:=λw=>by kernel_rfl
theorem Nr(a:A5)(n c:Nat):∀w:Al,(Instr.typeAssert (Ae 216 (A8 a n c)) 89 254 true).run Ao w=.ok (Ab #[A7 Ah 0,Ad false]) w:=λw=>by kernel_rfl
theorem Ns(a:A5)(n c:Nat):∀w:Al,(Instr.typeAssert (Ae 216 (A8 a n c)) 89 214 true).run Ao w=.ok (Ab #[.string ByteArray.empty,Ad false]) w:=λw=>by kernel_rfl
theorem OZ(a:A5)(n c:Nat):∀w:Al,(Instr.typeAssert (Ae 216 (A8 a n c)) 89 216 true).run Ao w=.ok (Ab #[A8 a n c,Ad true]) w:=λw=>by kernel_rfl
theorem Rx(a:A5)(n c:Nat):∀w:Al,(Instr.typeAssert (Ae 218 (A8 a n c)) 89 252 true).run Ao w=.ok (Ab #[Ad false,Ad false]) w:=λw=>by kernel_rfl
theorem Ry(a:A5)(n c:Nat):∀w:Al,(Instr.typeAssert (Ae 218 (A8 a n c)) 89 254 true).run Ao w=.ok (Ab #[A7 Ah 0,Ad false]) w:=λw=>by kernel_rfl
theorem Rz(a:A5)(n c:Nat):∀w:Al,(Instr.typeAssert (Ae 218 (A8 a n c)) 89 214 true).run Ao w=.ok (Ab #[.string ByteArray.empty,Ad false]) w:=λw=>by kernel_rfl
theorem Vf(a:A5)(n c:Nat):∀w:Al,(Instr.typeAssert (Ae 218 (A8 a n c)) 89 216 true).run Ao w=.ok (Ab #[A8 Ak 0 0,Ad false]) w:=λw=>by kernel_rfl
theorem RA(a:A5)(n c:Nat):∀w:Al,(Instr.typeAssert (Ae 218 (A8 a n c)) 89 218 true).run Ao w=.ok (Ab #[A8 a n c,Ad true]) w:=λw=>by kernel_rfl
theorem RB(a:A5)(n c:Nat):∀w:Al,(Instr.typeAssert (Ae 220 (A8 a n c)) 89 252 true).run Ao w=.ok (Ab #[Ad false,Ad false]) w:=λw=>by kernel_rfl
theorem RC(a:A5)(n c:Nat):∀w:Al,(Instr.typeAssert (Ae 220 (A8 a n c)) 89 254 true).run Ao w=.ok (Ab #[A7 Ah 0,Ad false]) w:=λw=>by kernel_rfl
theorem RD(a:A5)(n c:Nat):∀w:Al,(Instr.typeAssert (Ae 220 (A8 a n c)) 89 214 true).run Ao w=.ok (Ab #[.string ByteArray.empty,Ad false]) w:=λw=>by kernel_rfl
theorem Vg(a:A5)(n c:Nat):∀w:Al,(Instr.typeAssert (Ae 220 (A8 a n c)) 89 216 true).run Ao w=.ok (Ab #[A8 Ak 0 0,Ad false]) w:=λw=>by kernel_rfl
theorem RE(a:A5)(n c:Nat):∀w:Al,(Instr.typeAssert (Ae 220 (A8 a n c)) 89 218 true).run Ao w=.ok (Ab #[A8 Ak 0 0,Ad false]) w:=λw=>by kernel_rfl
theorem RF(a:A5)(n c:Nat):∀w:Al,(Instr.typeAssert (Ae 220 (A8 a n c)) 89 220 true).run Ao w=.ok (Ab #[A8 a n c,Ad true]) w:=λw=>by kernel_rfl
theorem cy(W:Al)(b:Nat)(v:Am)(bs:A2)(A:bs.length<=999999999)(h:Av W b v bs):An Ao 113 #[v,Ae 176 (Ac #[])] W λe g=>∃d,e=Ag d/\Av g b d (bs++[192])/\Below b W g:=by
 obtain⟨w,q,r,s,t⟩:=BH Tryz.infoU8;obtain⟨j,i,a,n,c,rfl⟩:=h;have x:Hid (Av W b (A8 a n c) bs):=⟨j,i,a,n,c,rfl⟩
 have f:=Ap j;have C:=Ro;have D:=Rp;have E:=Rq;have F:=Ve;have G:=Rr;have H:=Rs;go_enter func113,ntmps113
 go_wp2_with(first
  |(at_builtin;refine Bz _ rfl _ _ 49 rfl b 5 w (A7 Ai 0) 1 1 underlying49 q r s t rfl (by decide) _ _ _ rfl (f.alloc _) ⟨W.heap.size,0,Ak⟩ 1 1 [A7 Ai 192] rfl rfl (Bf _ _ _) (λu l=>by simp at l;subst l;rfl) (by unfold maxLen;omega) (by omega) (by simp;omega) ?_;intro d m k p B;have o:Hid (Av m b d (bs++[192])/\Below b W m):=Ct i f rfl k p;obtain⟨z,y,rfl⟩:=ownsRow_succ k))
 go_ret;exact⟨_,rfl,o⟩
theorem cz(W:Al)(b:Nat)(v:Am)(bs:A2)(A:bs.length<=999999999)(h:Av W b v bs):An Ao 113 #[v,Ae 252 (Ad true)] W λe g=>∃d,e=Ag d/\Av g b d (bs++[195])/\Below b W g:=by
 obtain⟨w,q,r,s,t⟩:=BH Tryz.infoU8;obtain⟨j,i,a,n,c,rfl⟩:=h;have x:Hid (Av W b (A8 a n c) bs):=⟨j,i,a,n,c,rfl⟩
 have f:=Ap j;have C:=M0 true;go_enter func113,ntmps113
 go_wp2_with(first
  |(at_builtin;refine Bz _ rfl _ _ 49 rfl b 5 w (A7 Ai 0) 1 1 underlying49 q r s t rfl (by decide) _ _ _ rfl (f.alloc _) ⟨W.heap.size,0,Ak⟩ 1 1 [A7 Ai 195] rfl rfl (Bf _ _ _) (λu l=>by simp at l;subst l;rfl) (by unfold maxLen;omega) (by omega) (by simp;omega) ?_;intro d m k p B;have o:Hid (Av m b d (bs++[195])/\Below b W m):=Ct i f rfl k p;obtain⟨z,y,rfl⟩:=ownsRow_succ k))
 go_ret;exact⟨_,rfl,o⟩
theorem cZ(W:Al)(b:Nat)(v:Am)(bs:A2)(A:bs.length<=999999999)(h:Av W b v bs):An Ao 113 #[v,Ae 252 (Ad false)] W λe g=>∃d,e=Ag d/\Av g b d (bs++[194])/\Below b W g:=by
 obtain⟨w,q,r,s,t⟩:=BH Tryz.infoU8;obtain⟨j,i,a,n,c,rfl⟩:=h;have x:Hid (Av W b (A8 a n c) bs):=⟨j,i,a,n,c,rfl⟩
 have f:=Ap j;have C:=M0 false;go_enter func113,ntmps113
 go_wp2_with(first
  |(at_builtin;refine Bz _ rfl _ _ 49 rfl b 5 w (A7 Ai 0) 1 1 underlying49 q r s t rfl (by decide) _ _ _ rfl (f.alloc _) ⟨W.heap.size,0,Ak⟩ 1 1 [A7 Ai 194] rfl rfl (Bf _ _ _) (λu l=>by simp at l;subst l;rfl) (by unfold maxLen;omega) (by omega) (by simp;omega) ?_;intro d m k p B;have o:Hid (Av m b d (bs++[194])/\Below b W m):=Ct i f rfl k p;obtain⟨z,y,rfl⟩:=ownsRow_succ k))
 go_ret;exact⟨_,rfl,o⟩
theorem d8(W:Al)(b:Nat)(v:Am)(bs:A2)(l:A2)(q:bs.length<=999999999)(r:l.length<=999999999)(h:Av W b v bs):An Ao 113 #[v,Ae 214 (Aa ⟨l.toArray⟩)] W λe d=>∃g,e=Ag g/\Av d b g (bs++(C6 l.length++l))/\Below b W d:=by
 obtain⟨A,w,x,y,z⟩:=BH Tryz.infoU8;obtain⟨f,p,a,n,c,rfl⟩:=h;have i:Hid (Av W b (A8 a n c) bs):=⟨f,p,a,n,c,rfl⟩
 have s:=Ap f;have C:=Rt ⟨l.toArray⟩;have D:=Ru ⟨l.toArray⟩;have E:=Rw ⟨l.toArray⟩;go_enter func113,ntmps113
 go_wp2_with(first
  |(go_at_call 145;refine(bW _ b _ bs l q r i).mono ?_;rintro e G ⟨F,rfl,j,o⟩;obtain⟨k,m,t,B,u,rfl⟩:=j))
 go_ret;exact⟨_,rfl,⟨k,m,_,_,_,rfl⟩,o⟩
theorem d9(W:Al)(b:Nat)(v:Am)(bs:A2)(p:bs.length<=999999999)(h:Av W b v bs):An Ao 112 #[v,Ae 176 (Ac #[])] W λe d=>∃g,e=Ag g/\Av d b g (bs++AO 7 22)/\Below b W d:=by
 obtain⟨y,t,u,w,x⟩:=BH Tryz.infoU8;obtain⟨f,o,a,n,c,rfl⟩:=h;have i:Hid (Av W b (A8 a n c) bs):=⟨f,o,a,n,c,rfl⟩
 have q:=Ap f;have A:=Ro;have B:=Rp;have C:=Rq;have D:=Ve;have E:=Rr;have F:=Rs;go_enter func112,ntmps112
 go_wp2_with(first
  |(go_at_call 141;refine(Jk _ b _ bs 7 22 (by omega) (by omega) p i).mono ?_;rintro e H ⟨G,rfl,j,m⟩;obtain⟨k,l,r,z,s,rfl⟩:=j))
 go_ret;exact⟨_,rfl,⟨k,l,_,_,_,rfl⟩,m⟩
theorem da(W:Al)(b:Nat)(v:Am)(bs:A2)(p:bs.length<=999999999)(h:Av W b v bs):An Ao 112 #[v,Ae 252 (Ad true)] W λe d=>∃g,e=Ag g/\Av d b g (bs++AO 7 21)/\Below b W d:=by
 obtain⟨y,t,u,w,x⟩:=BH Tryz.infoU8;obtain⟨f,o,a,n,c,rfl⟩:=h;have i:Hid (Av W b (A8 a n c) bs):=⟨f,o,a,n,c,rfl⟩
 have q:=Ap f;have A:=M0 true;go_enter func112,ntmps112
 go_wp2_with(first
  |(go_at_call 141;refine(Jk _ b _ bs 7 21 (by omega) (by omega) p i).mono ?_;rintro e C ⟨B,rfl,j,m⟩;obtain⟨k,l,r,z,s,rfl⟩:=j))
 go_ret;exact⟨_,rfl,⟨k,l,_,_,_,rfl⟩,m⟩
theorem de(W:Al)(b:Nat)(v:Am)(bs:A2)(p:bs.length<=999999999)(h:Av W b v bs):An Ao 112 #[v,Ae 252 (Ad false)] W λe d=>∃g,e=Ag g/\Av d b g (bs++AO 7 20)/\Below b W d:=by
 obtain⟨y,t,u,w,x⟩:=BH Tryz.infoU8;obtain⟨f,o,a,n,c,rfl⟩:=h;have i:Hid (Av W b (A8 a n c) bs):=⟨f,o,a,n,c,rfl⟩
 have q:=Ap f;have A:=M0 false;go_enter func112,ntmps112
 go_wp2_with(first
  |(go_at_call 141;refine(Jk _ b _ bs 7 20 (by omega) (by omega) p i).mono ?_;rintro e C ⟨B,rfl,j,m⟩;obtain⟨k,l,r,z,s,rfl⟩:=j))
 go_ret;exact⟨_,rfl,⟨k,l,_,_,_,rfl⟩,m⟩
theorem df(W:Al)(b:Nat)(v:Am)(bs:A2)(l:A2)(q:bs.length<=999999999)(r:l.length<=999999999)(h:Av W b v bs):An Ao 112 #[v,Ae 214 (Aa ⟨l.toArray⟩)] W λe d=>∃g,e=Ag g/\Av d b g (bs++(AO 3 l.length++l))/\Below b W d:=by
 obtain⟨A,w,x,y,z⟩:=BH Tryz.infoU8;obtain⟨f,p,a,n,c,rfl⟩:=h;have i:Hid (Av W b (A8 a n c) bs):=⟨f,p,a,n,c,rfl⟩
 have s:=Ap f;have C:=Rt ⟨l.toArray⟩;have D:=Ru ⟨l.toArray⟩;have E:=Rw ⟨l.toArray⟩;go_enter func112,ntmps112
 go_wp2_with(first
  |(go_at_call 142;refine(bU _ b _ bs l q r i).mono ?_;rintro e G ⟨F,rfl,j,o⟩;obtain⟨k,m,t,B,u,rfl⟩:=j))
 go_ret;exact⟨_,rfl,⟨k,m,_,_,_,rfl⟩,o⟩
end
section
open Go.RowKit
theorem Wc(w:Al)(B:Nat)(t k e:TypeId)(i:TypeInfo)(z:Am)(size r:Nat)(q:P.underlying t=Aj (.slice e))(hi:P.info? e=Aj i)(A:i.zero=Aj z)(L:i.size=size)(F:i.bytes=r)(v:Am)(n:Nat)(xs:List Am)(p:w.ownsRow B e size v n xs)(a:Addr)(m c:Nat)(b:List Am)(h:b.length=m*size)(o:∀j u,b[j]?=Aj u->w.cell? (a.add j)=Aj u)(C:∀u∈b,u.oneCell'=true)(J:0<m)(D:n+m<=maxLen)(x:(n+m)*r<=140737488355328){v':Am}{w':Al}(d:(Builtin.append_ #[t,t] k #[v,A8 (Aj a) m c]).run P w=.ok v' w'):v'.ownBlock=v.ownBlock\/v'.ownBlock=Aj w.heap.size:=by
 subst L;subst F;have Q:n+m<=9223372036854775807:=by simp only[maxLen]at D;omega
 rcases p.2 with⟨rfl,rfl⟩|⟨g,l,s,rfl,M,I,O,N,G,R⟩
 ·have f:=run_append_nil (P:=P) w t k e i z q hi A a m c b h o J (by omega) (by have E:=x;simp only[Df]at E;omega);rw[f]at d;injection d with e1 e2;right;rw[<-e1];rfl
 by_cases y:n+m<=l
 ·have H:n*i.size+b.length<=s.size:=by rw[h,G,<-Nat.add_mul];exact QC _ y
  have f:=run_append_room (P:=P) w t k e i q hi g n l s I a m c b h o C y H;rw[f]at d;injection d with e1 e2;left;rw[<-e1];rfl
 have K:=p.cells (g:=g) rfl;have f:=run_append_grow (P:=P) w t k e i z q hi A ⟨g,0,Ak⟩ n l xs p.1 K a m c b h o (by omega) (by omega) (growslice_fits (by omega) x);rw[f]at d;injection d with e1 e2;right;rw[<-e1];rfl
theorem M9(w:Al){rest:List Oper}(N:o.guard=Ak)(s x:Operand)(t:TypeId)(R:o.op=.call {callee:=.builtin .append,args:=#[s,x],argTypes:=#[t,t]})(f:Nat)(e:TypeId)(i:TypeInfo)(z:Am)(size l:Nat)(F:P.underlying t=Aj (.slice e))(hi:P.info? e=Aj i)(G:i.zero=Aj z)(E:i.size=size)(r:i.bytes=l)(V:z.cells.size=size)(T:0<size)(v:Am)(n:Nat)(xs:List Am)(S:a.eval s=v)(C:w.ownsRow f e size v n xs)(k:Addr)(m c:Nat)(b:List Am)(U:a.eval x=A8 (Aj k) m c)(A:b.length=m*size)(B:∀j u,b[j]?=Aj u->w.cell? (k.add j)=Aj u)(p:∀u∈b,u.oneCell'=true)(O:0<m)(q:n+m<=maxLen)(y:(n+m)*l<=140737488355328)(M:f<=w.heap.size)(h:∀d g,g.ownsRow f e size d (n+m) (xs++b)->w.grownBy g v.ownBlock->(d.ownBlock=v.ownBlock\/d.ownBlock=Aj w.heap.size)->wpList P ops Q rest (a.put o.dst d) g):wpList P ops Q (o::rest) a w:=by
 refine LK N λK L=>?_;obtain⟨d,g,D,H,I,_⟩:=N2 (P:=P) w f t o.type e i z size l F hi G E r V T v n xs C k m c b A B p q y M;have J:=Wc (P:=P) w f t o.type e i z size l F hi G E r v n xs C k m c b A B p O q y D;unfold Oper.wp execOp;simp only[R,resolve,invoke,builtin,D8,E4,Dl,LC,CT,GJ,S,U,D];exact L _ _ (h d g H I J)
def Ek(W:Al)(m:Nat)(ks:List A2):Prop:=∃D,W.ownsMap Ao 9 (unitElem (H:=Unit)) m ks.length D/\∀l:A2,Maps.has D (.string l)=decide (l∈ks)
theorem Ek.kept{W':Al}{m:Nat}{ks:List A2}{row:Option Nat}(h:Ek W m ks)(c:W.grownBy W' row)(d:Aj m≠row):Ek W' m ks:=by
 obtain⟨D,a,b⟩:=h;exact⟨D,a.kept c d,b⟩
theorem Pe(l:A2)(b:l.length<=1000000000):keyOf Ao 9 (Aa ⟨l.toArray⟩)=Aj (.string l):=by
 have a:(⟨l.toArray⟩:ByteArray).size<=maxLen:=by
  show l.toArray.size<=maxLen;rw[FY];unfold maxLen;omega
 simp[keyOf,mapKey,underlying9,a]
theorem fV(W:Al)(m:Nat)(ks:List A2)(l:A2)(h:Ek W m ks)(f:l∈ks)(d:l.length<=1000000000):An Ao 250 #[.map (Aj m),Aa ⟨l.toArray⟩] W λe a=>e=Ag (Ad false)/\A1 W a:=by
 obtain⟨D,b,c⟩:=h;have j:(zeroValue 175).run Ao W=.ok (Ac #[]) W:=by kernel_rfl
 obtain⟨v,k,g,i⟩:=b.look_ok (MT underlying9) underlying345 j R6 (Pe l d);obtain⟨rfl,_⟩:=unitElem_inv i;rw[c l,Bs f]at g;go_enter func250,ntmps250;go_wp2;go_ret;exact⟨rfl,AH⟩
theorem fW(W:Al)(m:Nat)(ks:List A2)(l:A2)(h:Ek W m ks)(p:¬l∈ks)(x:ks.length<1000000000)(c:l.length<=1000000000):An Ao 250 #[.map (Aj m),Aa ⟨l.toArray⟩] W λe g=>e=Ag (Ad true)/\Ek g m (l::ks)/\AE m W g:=by
 obtain⟨D,b,i⟩:=h;have w:(zeroValue 175).run Ao W=.ok (Ac #[]) W:=by kernel_rfl
 obtain⟨v,z,t,u⟩:=b.look_ok (MT underlying9) underlying345 w R6 (Pe l c);obtain⟨rfl,_⟩:=unitElem_inv u;rw[i l,BJ p]at t;obtain⟨j,y,s,n⟩:=(b.alloc (.cells #[] 175)).store (MT underlying9) underlying345 (by unfold maxLen;omega) (Pe l c) (val:=Ac #[]) (R6 (H:=Unit));have f:Hid (Ek j m (l::ks)/\AE m W j):=by
  refine⟨⟨_,s,λq=>?_⟩,?_⟩
  ·by_cases d:q=l
   ·subst d;rw[QJ b.isMap (MT (P:=Ao) underlying9 |>.key (Pe q c))];simp
   rw[QF (λe=>d (by injection e)),i q];simp[d]
  have a:=n.grown;exact⟨a.os,a.tape,a.output,AW (by simp) a.size,λk o r=>(a.block k (by simp;omega) (by simpa using r)).trans (AL _ _ _ o)⟩
 go_enter func250,ntmps250;go_wp2;go_ret;exact⟨rfl,f.1,f.2⟩
theorem Wg{b:Nat}{s:AQ}(k n:Nat)(h:Az W b s):Az ((W.drewN n).setCell ⟨b,4,Ak⟩ (A7 Ah k)) b {s with within:=k}/\AE b W ((W.drewN n).setCell ⟨b,4,Ak⟩ (A7 Ah k)):=by
 have e:(W.drewN n).heap[b]?=Aj (.cells s.arr 205):=h.row;have d:∀q,q≠b->((W.drewN n).setCell ⟨b,4,Ak⟩ (A7 Ah k)).heap[q]?=W.heap[q]?:=λq a=>BV (W.drewN n) _ _ _ (by simpa using a);refine⟨⟨?_,λi l=>?_,h.len,h.le⟩,⟨rfl,rfl,rfl,by simp[World.setCell,World.drewN,A1],λq _ a=>d q a⟩⟩
 ·rw[QI _ b 4 _ _ _ _ e,B4 _ _ _ _ _ _ e];rfl
 obtain⟨g,off,f,c,j⟩:=h.inp i l;exact⟨g,off,f,c,(GF (w:=W) (d g c)).trans j⟩
theorem Wh(W:Al)(b:Nat)(s:AQ)(h:Az W b s)(d:¬(s.within:Int)=s.depth)(i:s.within<=1000000):An Ao 221 #[A9 (Aj ⟨b,0,Ak⟩)] W λe c=>e=Ag (Ab #[])/\Az c b {s with within:=s.within+1}/\AE b W c:=by
 have j:W.cell? ⟨b,1,Ak⟩=Aj (A7 Ah s.depth):=Ar h.row 1;have k:W.cell? ⟨b,4,Ak⟩=Aj (A7 Ah s.within):=Ar h.row 4;have g:=Cx W b 4 _ _ h.row;have a:Hid (∀n,Az ((W.drewN n).setCell ⟨b,4,Ak⟩ (A7 Ah ((s.within:Int)+1))) b {s with within:=s.within+1}/\AE b W ((W.drewN n).setCell ⟨b,4,Ak⟩ (A7 Ah ((s.within:Int)+1)))):=λn=>Wg (s.within+1) n h;have f:((s.within:Int)==s.depth)=false:=by simpa using d
 go_enter func221,ntmps221;go_wp2
 go_quiet (fail)
 go_wp2;go_end0;exact⟨rfl,(a nq).1,(a nq).2⟩
theorem fX(W:Al)(b:Nat)(s:AQ)(h:Az W b s)(f:(s.within:Int)=s.depth):An Ao 221 #[A9 (Aj ⟨b,0,Ak⟩)] W λe a=>B7 11 ((s.pos:Int)-1) e/\AE b W a/\∃p,Az a b {s with pos:=p}:=by
 have i:W.cell? ⟨b,1,Ak⟩=Aj (A7 Ah s.depth):=Ar h.row 1;have j:W.cell? ⟨b,4,Ak⟩=Aj (A7 Ah s.within):=Ar h.row 4;have g:((s.within:Int)==s.depth)=true:=by simpa using f
 have d:=λn=>Fd (W.drewN n) b s 11 (h.drewN n);have c:=Ap h;go_enter func221,ntmps221;go_wp2
 go_quiet (fail)
 go_wp2_with(first
  |(go_at_call 227;refine(d nq).mono ?_;rintro e k ⟨hF,rfl⟩;obtain rfl:=hF))
 exact⟨rfl,rfl,AE.of_below (DN W nq),_,c.drewN nq⟩
theorem Wi(W:Al)(b k:Nat)(s:AQ)(h:Az W b s)(d:s.within=k+1)(i:s.within<=1000000):An Ao 249 #[A9 (Aj ⟨b,0,Ak⟩)] W λe c=>e=Ag (Ab #[])/\Az c b {s with within:=k}/\AE b W c:=by
 have j:W.cell? ⟨b,4,Ak⟩=Aj (A7 Ah ((k:Int)+1)):=by
  have:=Ar h.row 4;rw[this];show Aj (Value.int Ah (s.within:Int))=_;rw[d];rfl
 have f:=Cx W b 4 _ _ h.row;have a:Hid (Az (W.setCell ⟨b,4,Ak⟩ (A7 Ah k)) b {s with within:=k}/\AE b W (W.setCell ⟨b,4,Ak⟩ (A7 Ah k))):=Wg k 0 h;have g:k<=1000000:=by omega
 go_enter func249,ntmps249;go_wp2;go_end0;exact⟨rfl,a.1,a.2⟩
end
section
open Go.RowKit Go.Shelf
def l5(n:Nat)(s:ByteArray)(w:Al)(e:Ending)(w':Al):Prop :=
 ∃a m cap x y,e=Ag (Ab #[.agg (DF a m cap x y),Ad (BA n s.data.toList)])/\A1 w w'/\(BA n s.data.toList=true->m=(Cf s.data.toList).1.length/\x=(Cf s.data.toList).2.1/\y=(Cf s.data.toList).2.2/\AA w' w.heap.size 158 a (((Cf s.data.toList).1.map Dj).flatMap En))
theorem l7(s:ByteArray)(n:Nat)(w:Al)(X:s.size<=2000)(U:Gq w):An Ao 76 #[.string s,A7 Ah n] w λe b=>l5 n s w e b:=by
 have l:Hid ((prog.info? 153).map (·.size)=Aj C2.size):=NO;have q:=Ap U;obtain⟨g,Z,b0,B,C,V,W,K⟩:=Xi s X;obtain⟨d,f,b1,D,E,ac,ad,M⟩:=Xi Z W;have Y:BA n s.data.toList=(Dh g.data.toList&&(EO d.data.toList n&&CZ f != 0)):=by
  rw[<-X7];unfold Pv;rw[<-B,<-C,<-D,<-E,Pr]
 have m:=Ap Y;have J:Hid (BA n s.data.toList=true->Cf s.data.toList=(Fk g.data.toList,IJ d.data.toList,CZ f)):=by
  intro T;have F:=XA T;rw[<-B,<-C,<-D,<-E]at F;have:=XB F;rw[Pr]at this;exact this
 have z:=Ap (jJ w);have L:=K _ (q.below z.below);go_enter func76,ntmps76
 go_wp2_with(fail)
 refine L.mono ?_;rintro e w2 ⟨rfl,P⟩;have A:=Ap (z.step P);have N:=M _ (q.below A.below)
 go_wp2_with(fail)
 refine N.mono ?_;rintro e H ⟨rfl,Q⟩;have r:=Ap (A.step Q);have O:=kZ g H V (q.below r.below)
 go_wp2_with(fail)
 refine O.mono ?_;rintro e w4 ⟨t,u,G,rfl,R,S⟩;have I:=Ap S;have y:=Ap (At r.res);have a:=Ap (r.step R);cases i:Dh g.data.toList
 ·have c:Hid (BA n s.data.toList=false):=by show _=_;rw[m.out,i];rfl
  go_wp2_with(first
   |(go_at_call 102;refine(RQ d n _).mono ?_;rintro e v ⟨rfl,rfl⟩)
   |(go_at_call 103;refine(RP f _).mono ?_;rintro e x ⟨rfl,rfl⟩)
   |(refine Bg rfl 153 _ _ rfl w.heap.size C2 rfl rfl 153 C2 a.res l rfl Pp ?_))
  refine Bd (FN results76 _ _ w.heap.size 153 C2 (0,0) _ rfl (B4 _ _ C2 _ _ _ a.res) underlying153 rfl NO (Ad false) rfl) rfl ⟨Ak,0,0,0,0,by rw[c.out];rfl,Bu a.below (by omega) _,λe=>by rw[c.out]at e;cases e⟩
 cases k:EO d.data.toList n
 ·have c:Hid (BA n s.data.toList=false):=by show _=_;rw[m.out,i,k];rfl
  have h:=λw=>RQ d n w;rw[k]at h
  go_wp2_with(first
   |(go_at_call 102;refine(h _).mono ?_;rintro e v ⟨rfl,rfl⟩)
   |(go_at_call 103;refine(RP f _).mono ?_;rintro e x ⟨rfl,rfl⟩)
   |(refine Bg rfl 153 _ _ rfl w.heap.size C2 rfl rfl 153 C2 a.res l rfl Pp ?_))
  refine Bd (FN results76 _ _ w.heap.size 153 C2 (0,0) _ rfl (B4 _ _ C2 _ _ _ a.res) underlying153 rfl NO (Ad false) rfl) rfl ⟨Ak,0,0,0,0,by rw[c.out];rfl,Bu a.below (by omega) _,λe=>by rw[c.out]at e;cases e⟩
 have h:=λw=>RQ d n w;rw[k]at h;have o:=λw=>RP f w;cases j:(CZ f != 0)
 ·have c:Hid (BA n s.data.toList=false):=by show _=_;rw[m.out,i,k,j];rfl
  rw[j]at o
  go_wp2_with(first
   |(go_at_call 102;refine(h _).mono ?_;rintro e v ⟨rfl,rfl⟩)
   |(go_at_call 103;refine(o _).mono ?_;rintro e x ⟨rfl,rfl⟩)
   |(refine Bg rfl 153 _ _ rfl w.heap.size C2 rfl rfl 153 C2 a.res l rfl Pp ?_))
  refine Bd (FN results76 _ _ w.heap.size 153 C2 (0,0) _ rfl (B4 _ _ C2 _ _ _ a.res) underlying153 rfl NO (Ad false) rfl) rfl ⟨Ak,0,0,0,0,by rw[c.out];rfl,Bu a.below (by omega) _,λe=>by rw[c.out]at e;cases e⟩
 have c:Hid (BA n s.data.toList=true):=by show _=_;rw[m.out,i,k,j];rfl
 rw[j]at o;have p:Hid (Cf s.data.toList=(Fk g.data.toList,IJ d.data.toList,CZ f)/\u=(Fk g.data.toList).length/\AA w4 H.heap.size 158 t (((Fk g.data.toList).map Dj).flatMap En)):=⟨J c,I i⟩
 generalize IJ d.data.toList=li at *;generalize CZ f=ai at *
 go_wp2_with(first
  |(go_at_call 102;refine(h _).mono ?_;rintro e v ⟨rfl,rfl⟩)
  |(go_at_call 103;refine(o _).mono ?_;rintro e x ⟨rfl,rfl⟩)
  |(refine Bg rfl 153 _ _ rfl w.heap.size (DF t u G li ai) rfl rfl 153 C2 a.res l rfl (L7 _ _ _ _ _) ?_))
 refine Bd (FN results76 _ _ w.heap.size 153 (DF t u G li ai) (0,0) _ rfl (B4 _ _ C2 _ _ _ a.res) underlying153 rfl NO (Ad true) rfl) rfl ⟨_,_,_,_,_,by rw[c.out],Bu a.below (by omega) _,λ_=>?_⟩;rw[p.1];exact⟨p.2.1,rfl,rfl,p.2.2.kept λaa ab fr i j=>⟨by have:=y.out;omega,sx (by have:=y.out;omega) j⟩⟩
end
section
open Go.RowKit
def BU(l:A2):Am:=Aa ⟨l.toArray⟩
theorem TM(W:Al)(F:Nat->Prop)(v:Am)(ks:List A2)(s:A2)(h:C7 W 9 1 F v ks.length (ks.map BU))(L:ks.length<=200000000):An Ao 124 #[v,Aa ⟨s.toArray⟩] W λe r=>e=Ag (Ad (decide (s∈ks)))/\r=W:=by
 obtain⟨R,f⟩:∃R,Hid (decide (s∈ks)=R):=⟨_,show _=_ from rfl⟩
 rw[f.out];obtain⟨a,i,rfl,p⟩:∃a i,v=A8 a ks.length i/\Hid (∀(j:Nat) (x:A2),ks[j]?=Aj x->∃g,a=Aj ⟨g,0,Ak⟩/\W.cell? ⟨g,j,Ak⟩=Aj (BU x)):=by
  obtain⟨E,w⟩:=h;rcases w with⟨rfl,u⟩|⟨g,i,t,rfl,J,c,G,H,I,y⟩
  ·refine⟨Ak,0,by rw[u],λj x b=>?_⟩;have:=B9 b;omega
  refine⟨_,i,rfl,λj x b=>⟨g,rfl,?_⟩⟩;rw[Ar c j];have K:=B9 b;have n:(t.toList.take (ks.length*1))[j]?=Aj (BU x):=by rw[y,GH,b];rfl
  rw[Iv (by omega)]at n;simpa using n
 go_enter func124,ntmps124;go_wp2
 go_loopg[5] ks.length (λg z wr=>wr=W/\∃k:Nat,z=A7 Ah k/\Hid (k+g=ks.length)/\Hid (decide (s∈ks.drop k)=R))
 case atStart=>exact⟨rfl,0,rfl,by show _=_;omega,f⟩
 case round =>
  obtain⟨rfl,k,rfl,c,f⟩:=hrel;have d:=f.out
  cases gk with
  |zero =>
   rw[J9 (by have:=c.out;omega)]at d;have m:Hid (R=false):=by show _=_;rw[<-d];simp
   have B:¬(k:Int)<(ks.length:Int):=by have:=c.out;omega
   go_wp2;go_ret;rw[m.out];exact⟨rfl,rfl⟩
  |succ g =>
   have o:k<ks.length:=by have:=c.out;omega
   have B:(k:Int)<(ks.length:Int):=by omega
   obtain⟨x,b⟩:∃x,ks[k]?=Aj x:=⟨_,AY o⟩
   obtain⟨D,rfl,A⟩:=p.out k x b;unfold BU at A;rw[F5 o,(J8.1 b).2]at d;by_cases l:x=s
   ·have m:Hid (R=true):=by show _=_;rw[<-d,l];simp
    have C:(x==s)=true:=by rw[l];exact beq_self_eq_true s
    go_wp2;go_ret;rw[m.out];exact⟨rfl,rfl⟩
   have q:Hid (decide (s∈ks.drop (k+1))=R):=by
    show _=_;rw[<-d];simp[Gi,Ne.symm l]
   have C:(x==s)=false:=by simpa using l
   go_wp2;go_roundg g
   case measure=>omega
   case rel=>exact⟨rfl,k+1,by go_num,by show _=_;have:=c.out;omega,q⟩
end
section
open Go.RowKit Go.Lib
theorem Qn{i:Nat}{K:Act->Al->Prop}(hi:ops[i]?=Aj o)(b:o.guard=Ak)(h:o.upon Ao a K Q ((execOp a.eval o).run Ao w)):wpOp Ao ops Q i K a w:=by
 unfold wpOp;rw[hi];simp only[Region.wanted,b,K3];exact .inl h
theorem TW(a:Act)(p:Nat)(y:Am)(h:p<a.tmps.size):(a.put (Aj p) y).eval (.tmp p)=y:=by
 simp[Act.put,Act.eval,Array.getD,h]
theorem TX(a:Act)(i j:Nat)(u v:Am)(h:i≠j):(a.put (Aj i) u).put (Aj j) v=(a.put (Aj j) v).put (Aj i) u:=by
 simp only[Act.put];rw[Oq _ _ h]
theorem ZK(a:Act)(p:Nat)(y:Am):(a.put (Aj p) y).tmps.size=a.tmps.size:=by simp[Act.put]
theorem ZL(w:Al)(g:Nat)(b:UInt8)(a:w.cell? ⟨g,0,Ak⟩=Aj (A7 Ai (b.toNat:Int))):(convert 49 9 (A8 (Aj ⟨g,0,Ak⟩) 1 1)).run Ao w=.ok (Aa ⟨#[b]⟩) w:=by
 refine Qz _ 49 9 5 ⟨g,0,Ak⟩ 1 [b] underlying49 underlying5 underlying9 ?_;intro j c;obtain rfl:j=0:=by simpa using c
 exact a
theorem ZM{S:Al->Prop}{fuel:Nat}{listed:Array Bool}{oc ob ov:Oper}{args:A4}(c b v s p q:Nat)(f:FuncId)(r:Am)(u:UInt8)(z:ops[c]?=Aj oc/\ops[b]?=Aj ob/\ops[v]?=Aj ov)(L:(oc.guard,oc.dst,ob.guard,ob.dst,ov.guard,ov.dst,ov.op)=(Ak,Aj s,Ak,Aj p,Ak,Aj q,.convert 49 9 (.tmp p)))(M:((Region.ready .any ops listed).all (λi=>i==c||i==b)&&(Region.ready .any ops (listed.setIfInBounds c true)).all (·==b)&&(Region.ready .any ops (listed.setIfInBounds b true)).all (λi=>i==c||i==v)&&(Region.ready .any ops ((listed.setIfInBounds c true).setIfInBounds b true)).all (·==v)&&(Region.ready .any ops ((listed.setIfInBounds b true).setIfInBounds v true)).all (·==c) && !(Region.ready .any ops listed).isEmpty && !(Region.ready .any ops (listed.setIfInBounds c true)).isEmpty && !(Region.ready .any ops (listed.setIfInBounds b true)).isEmpty && !(Region.ready .any ops ((listed.setIfInBounds c true).setIfInBounds b true)).isEmpty && !(Region.ready .any ops ((listed.setIfInBounds b true).setIfInBounds v true)).isEmpty&&decide (c≠b/\c≠v/\b≠v/\s≠p/\s≠q/\p≠q/\p<a.tmps.size))=true)(C:∀y aa V,(execOp a.eval oc).run Ao V=.ok (.enter f args) V/\(execOp (a.put (Aj p) y).eval oc).run Ao V=.ok (.enter f args) V/\(execOp ((a.put (Aj p) y).put (Aj q) aa).eval oc).run Ao V=.ok (.enter f args) V)(J:∀V,(execOp a.eval ob).run Ao V=.ok (.value (A8 (Aj ⟨V.heap.size,0,Ak⟩) 1 1)) (V.alloc (.cells #[A7 Ai u.toNat] 5))/\(execOp (a.put (Aj s) r).eval ob).run Ao V=.ok (.value (A8 (Aj ⟨V.heap.size,0,Ak⟩) 1 1)) (V.alloc (.cells #[A7 Ai u.toNat] 5)))(hC:∀V,An Ao f args V λe l=>e=Ag r/\A1 V l)(o:∀V,A1 w V->S V)(h:∀V y,A1 w V->wpAnyH Ao .any ops Q S fuel (((listed.setIfInBounds c true).setIfInBounds b true).setIfInBounds v true) (((a.put (Aj s) r).put (Aj p) y).put (Aj q) (Aa ⟨#[u]⟩)) V):wpAnyH Ao .any ops Q S (fuel+3) listed a w:=by
 simp only[Ch,D7,KI,Je,Jc,OD,List.isEmpty_eq_false_iff]at M;obtain⟨⟨⟨⟨⟨⟨⟨⟨⟨⟨r1,r2⟩,r3⟩,P⟩,r5⟩,n1⟩,n2⟩,n3⟩,N⟩,n5⟩,F,R,d3,G,T,d6,B⟩:=M;simp only[N7]at L;obtain⟨U,W,H,I,X,Y,Z⟩:=L;obtain⟨o1,O,o3⟩:=z;have x:∀{a':Act} {V:Al} {K:Act->Al->Prop},(execOp a'.eval oc).run Ao V=.ok (.enter f args) V->(∀l,A1 V l->K (a'.put (Aj s) r) l)->wpOp Ao ops Q c K a' V:=λ{a' V K} e k=>by
  refine Qn o1 U ?_;rw[e];refine(hC V).mono ?_;rintro e l ⟨rfl,d⟩;show K (a'.put oc.dst r) l;rw[W];exact k l d
 have A:∀{a':Act} {V:Al} {K:Act->Al->Prop} {g:Nat},a'.eval (.tmp p)=A8 (Aj ⟨g,0,Ak⟩) 1 1->V.cell? ⟨g,0,Ak⟩=Aj (A7 Ai (u.toNat:Int))->K (a'.put (Aj q) (Aa ⟨#[u]⟩)) V->wpOp Ao ops Q v K a' V:=λ{a' V K g} e k h=>by
  refine Qn o3 X ?_;unfold execOp;simp only[Z,e,D8,ZL V g u k];show K (a'.put ov.dst _) V;rw[Y];exact h
 have cell:∀{V l:Al},Below (V.heap.size+1) (V.alloc (.cells #[A7 Ai u.toNat] 5)) l->l.cell? ⟨V.heap.size,0,Ak⟩=Aj (A7 Ai (u.toNat:Int)):=λ{V l} d=>by
  rw[d.cell (p:=⟨V.heap.size,0,Ak⟩) (by simp)];exact Ar (Ay V _) 0
 have D:∀V:Al,(V.alloc (.cells #[A7 Ai u.toNat] 5)).heap.size=V.heap.size+1:=λV=>by simp
 have E:∀V:Al,A1 V (V.alloc (.cells #[A7 Ai u.toNat] 5)):=λV=>AH;refine LO rfl n1 λi hi=>?_;rcases r1 i hi with rfl|rfl
 ·refine x (C undef undef w).1 λV d=>⟨o V d,LO rfl n2 λj n=>?_⟩
  obtain rfl:=r2 j n;refine Qn O H ?_;rw[(J V).2];show S _/\_;rw[I];have m:=d.trans ((E V).mono d.size);refine⟨o _ m,LO rfl N λj n=>?_⟩;obtain rfl:=P j n;exact A (TW _ _ _ (by rw[ZK];exact B)) (cell (AT _ _)) ⟨o _ m,h _ _ m⟩
 refine Qn O H ?_;rw[(J w).1];show S _/\_;rw[I];have t:=E w;refine⟨o _ t,LO rfl n3 λj n=>?_⟩;rcases r3 j n with rfl|rfl
 ·refine x (C _ undef _).2.1 λV d=>?_;have m:=t.trans (d.mono (by rw[D];omega));rw[A1,D]at d;rw[Oq _ _ F.symm,TX _ _ _ _ _ G.symm];refine⟨o _ m,LO rfl N λj n=>?_⟩;obtain rfl:=P j n;exact A (TW _ _ _ (by rw[ZK];exact B)) (cell d) ⟨o _ m,h _ _ m⟩
 refine A (TW _ _ _ B) (cell (AT _ _)) ⟨o _ t,LO rfl n5 λj n=>?_⟩
 obtain rfl:=r5 j n;refine x (C _ _ _).2.2 λV d=>?_;have m:=t.trans (d.mono (by rw[D];omega));refine⟨o _ m,?_⟩;rw[TX _ _ _ _ _ T.symm,TX _ _ _ _ _ G.symm,Oq _ _ R.symm,Oq _ _ F.symm];exact h _ _ m
theorem rO{V V':Al}(h:A1 W V)(k:Below V.heap.size {V with drawn:=V.drawn+1} V'):A1 W V':=h.drew.trans (k.mono h.size)
theorem ZN:∀(k x:Nat),AX x (k+1)=AX (x/256) k++[UInt8.ofNat (x%256)]
 |0,x=>by simp[AX]
 |k+1,x=>by
  rw[AX,ZN k x,AX,I8,Nat.div_div_eq_div_mul,show 256*2^(8*k)=2^(8*(k+1)) by rw[Nat.mul_succ,Nat.pow_add];omega]
theorem KB(l m:A2):(⟨l.toArray⟩:ByteArray)++⟨m.toArray⟩=⟨(l++m).toArray⟩:=by
 apply LI;simp
theorem Qo(x:Int)(h : -9223372036854775808<=x/\x<=9223372036854775807):IntKind.i64.wrap x=x:=(MW x).trans (by omega)
theorem w8(x:Int)(h:0<=x/\x<=255):IntKind.u8.wrap x=x:=by
 unfold IntKind.wrap;simp only[IntKind.bits,IntKind.signed,QQ];rw[Aq (by decide)];omega
theorem TY(x:Nat)(h:x<256):(UInt8.ofNat x).toNat=x:=by rw[OA,I7 h]
theorem Qp(x:Nat):∀k,(AX x k).length=k
 |0=>rfl
 |k+1=>by rw[AX,Bq,Qp x k]
theorem ZO:∀(k n:Nat) (W:Al),n<=9223372036854775807->k<=8->An Ao 68 #[A7 Ah n,A7 Ah k] W λe i=>e=Ag (BU (AX n k))/\A1 W i
 |0,n,W,_,_=>by
  unfold BU AX;go_enter func68,ntmps68;go_wp2;go_ret;exact⟨rfl,Bb⟩
 |k+1,n,W,hn,hk=>by
  have c:=λV=>ZO k (n/256) V (by omega) (by omega);obtain⟨u,b⟩:∃u,UInt8.ofNat (n%256)=u:=⟨_,rfl⟩
  have j:(n:Int).tdiv 256=((n/256:Nat):Int):=by rw[Int.tdiv_eq_ediv_of_nonneg (by omega)];omega
  have l:(n:Int).tmod 256=((n%256:Nat):Int):=by rw[U4 (by omega)];omega
  have h:Hid (IntKind.u8.wrap ((n:Int).tmod 256)=(u.toNat:Int)):=by show _=_;rw[<-b,TY _ (by omega),l,w8 _ (by omega)]
  have g:Hid (IntKind.i64.wrap ((n:Int).tdiv 256)=((n/256:Nat):Int)):=by show _=_;rw[j,Qo _ (by omega)]
  have f:Hid (IntKind.i64.wrap (((k+1:Nat):Int)-1)=(k:Int)):=by show _=_;rw[Qo _ (by omega)];omega
  have o:(((k+1:Nat):Int)==0)=false:=by simp;omega
  have d:Hid (AX n (k+1)=AX (n/256) k++[u]):=by show _=_;rw[ZN,b]
  have p:¬((AX (n/256) k).length+1>9223372036854775807):=by rw[Qp];omega
  rw[d.out];generalize((k+1:Nat):Int)=k1 at *;go_enter func68,ntmps68
  go_wp2_with fail
  refine Cp (S:=λ_=>True) trivial (by kernel_rfl) ?_;intro a;refine Au 0 7 (A7 Ah n) a ?_;refine AD 1 8 (A7 Ah ((n/256:Nat):Int)) rfl (λZ _=>?y1) a ?_
  case y1=>(go_simp;exact g)
  refine Au 2 9 (A7 Ah k1) a ?_;refine AD 3 10 (A7 Ah k) rfl (λZ _=>?y2) a ?_
  case y2=>(go_simp;exact f)
  refine Au 5 12 (A7 Ah n) a ?_;refine AD 6 13 (A7 Ah ((n:Int).tmod 256)) rfl (λZ _=>?y3) a ?_
  case y3=>go_simp
  refine AD 7 14 (A7 Ai u.toNat) rfl (λZ _=>?y4) a ?_
  case y4=>(go_simp;exact h)
  refine ZM 4 8 9 11 15 16 68 (BU (AX (n/256) k)) u ⟨rfl,rfl,rfl⟩ rfl (by kernel_rfl) (λ_ _ _=>⟨by kernel_rfl,by kernel_rfl,by kernel_rfl⟩) (λ_=>⟨by kernel_rfl,by kernel_rfl⟩) c (λ_ _=>trivial) (λV y m=>?_);refine AD 10 17 (BU (AX (n/256) k++[u])) rfl (λZ _=>?y5) a ?_
  case y5=>(unfold BU;go_simp;exact KB _ [u])
  refine Au 11 4 (BU (AX (n/256) k++[u])) a ?_;refine Bw ?_;go_simp;go_wp2;go_ret;exact⟨rfl,(Bb (w:=W)).drew.trans m⟩
end
end Go.Proofs.YtoegnhgofkhbnaaGreatDoor
