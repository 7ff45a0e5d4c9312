import Derived.Lib.RuneBytes
import Derived.Laws.IdiomStrings
import Derived.Test.YtpifimohecagoaaGreatDoorPq08
import Derived.Test.YtpifimohecagoaaGreatDoorPq10
set_option maxRecDepth 100000
set_option maxHeartbeats 8000000
namespace Go.Proofs.YtpifimohecagoaaGreatDoor
open Go.Proofs.Tryz
variable{b b0 base c cap cap5 g j k n off p q wh:Nat}{V V' W W' w w5:World}{a:Option Addr}{u v:Value}{acc bs:List UInt8}{lim r:Int}{s:Src}
section
open Go.RowKit Go.Lib
def qbu(x:Nat):List UInt8:=if x<=255 then 196::beF x 1 else if x<=65535 then 197::beF x 2 else 198::beF x 4
def qbp(x:Nat):List UInt8:=if x<16 then[UInt8.ofNat (144+x)]else if x<=65535 then 220::beF x 2 else 221::beF x 4
def qbo(x:Nat):List UInt8:=if x<16 then[UInt8.ofNat (128+x)]else if x<=65535 then 222::beF x 2 else 223::beF x 4
theorem qoN:∀x:Fin 16,bits .or .u8 144 (x.val:Int)=((144+x.val:Nat):Int):=by decide
theorem qnI:∀x:Fin 16,bits .or .u8 128 (x.val:Int)=((128+x.val:Nat):Int):=by decide
theorem qoj(W:World)(b:Nat)(v:Value)(bs:List UInt8)(x:Nat)(O:x<4294967296)(N:bs.length<=999999999)(h:Own W b v bs):Calls prog 112 #[v,.int .u64 x] W λe G=>∃i,e=.returned i/\Own G b i (bs++qbu x)/\Below b W G:=by
 obtain⟨F,B,C,D,E⟩:=info_parts Tryz.infoU8;obtain⟨M,A,a,n,c,rfl⟩:=h;have k:=qab M;by_cases z:x<=255
 ·have w:Hid (qbu x=196::beF x 1):=by show _=_;unfold qbu;rw[if_pos z]
  go_enter func112,ntmps112
  go_wp2_with(first
   |(at_builtin;refine wpList_append_own _ rfl _ _ 35 rfl b 5 F (.int .u8 0) 1 1 underlying35 B C D E rfl (by decide) _ _ _ rfl (k.out.alloc _) ⟨W.heap.size,0,none⟩ 1 1 [.int .u8 196] rfl rfl (qag _ _ _) (λu g=>by simp at g;subst g;rfl) (by unfold maxLen;omega) (by omega) (by simp;omega) ?_;intro i j f t J;have d:Hid (Own j b i (bs++[196])/\Below b W j):=qa0 A k.out rfl f t;obtain⟨I,H,rfl⟩:=ownsRow_succ f)
   |(go_at_call 128;refine(qar _ b _ _ x 1 (by omega) (by omega) (by simp;omega) d.out.1).mono ?_;rintro e L ⟨K,rfl,p,s⟩;obtain⟨q,r,m,y,o,rfl⟩:=p;have l:=qab (qaP d.out ⟨q,r,m,y,o,rfl⟩ s (w.out.symm))))
  go_ret;exact⟨_,rfl,l.out⟩
 by_cases c2:x<=65535
 ·have w:Hid (qbu x=197::beF x 2):=by show _=_;unfold qbu;rw[if_neg z];rw[if_pos c2]
  go_enter func112,ntmps112
  go_wp2_with(first
   |(at_builtin;refine wpList_append_own _ rfl _ _ 35 rfl b 5 F (.int .u8 0) 1 1 underlying35 B C D E rfl (by decide) _ _ _ rfl (k.out.alloc _) ⟨W.heap.size,0,none⟩ 1 1 [.int .u8 197] rfl rfl (qag _ _ _) (λu g=>by simp at g;subst g;rfl) (by unfold maxLen;omega) (by omega) (by simp;omega) ?_;intro i j f t J;have d:Hid (Own j b i (bs++[197])/\Below b W j):=qa0 A k.out rfl f t;obtain⟨I,H,rfl⟩:=ownsRow_succ f)
   |(go_at_call 128;refine(qar _ b _ _ x 2 (by omega) (by omega) (by simp;omega) d.out.1).mono ?_;rintro e L ⟨K,rfl,p,s⟩;obtain⟨q,r,m,y,o,rfl⟩:=p;have l:=qab (qaP d.out ⟨q,r,m,y,o,rfl⟩ s (w.out.symm))))
  go_ret;exact⟨_,rfl,l.out⟩
 have w:Hid (qbu x=198::beF x 4):=by show _=_;unfold qbu;rw[if_neg z];rw[if_neg c2]
 go_enter func112,ntmps112
 go_wp2_with(first
  |(at_builtin;refine wpList_append_own _ rfl _ _ 35 rfl b 5 F (.int .u8 0) 1 1 underlying35 B C D E rfl (by decide) _ _ _ rfl (k.out.alloc _) ⟨W.heap.size,0,none⟩ 1 1 [.int .u8 198] rfl rfl (qag _ _ _) (λu g=>by simp at g;subst g;rfl) (by unfold maxLen;omega) (by omega) (by simp;omega) ?_;intro i j f t J;have d:Hid (Own j b i (bs++[198])/\Below b W j):=qa0 A k.out rfl f t;obtain⟨I,H,rfl⟩:=ownsRow_succ f)
  |(go_at_call 128;refine(qar _ b _ _ x 4 (by omega) (by omega) (by simp;omega) d.out.1).mono ?_;rintro e L ⟨K,rfl,p,s⟩;obtain⟨q,r,m,y,o,rfl⟩:=p;have l:=qab (qaP d.out ⟨q,r,m,y,o,rfl⟩ s (w.out.symm))))
 go_ret;exact⟨_,rfl,l.out⟩
theorem qnV(W:World)(b:Nat)(v:Value)(bs:List UInt8)(x:Nat)(R:x<4294967296)(Q:bs.length<=999999999)(h:Own W b v bs):Calls prog 113 #[v,.int .u8 144,.int .u8 220,.int .u64 x] W λe J=>∃g,e=.returned g/\Own J b g (bs++qbp x)/\Below b W J:=by
 obtain⟨w,q,r,s,t⟩:=info_parts Tryz.infoU8;obtain⟨N,p,a,n,c,rfl⟩:=h;have k:=qab N;by_cases o:x<16
 ·have m:Hid (qbp x=[UInt8.ofNat (144+x)]):=by show _=_;unfold qbp;rw[if_pos o]
  have K:=qoN ⟨x,o⟩;simp only[]at K;have L:Hid (qax (UInt8.ofNat (144+x))=.int .u8 (bits .or .u8 144 (x:Int))):=by show _=_;rw[K,qbb _ (by omega)]
  have M:Hid (qax (UInt8.ofNat (144+x))=.int .u8 (144+(x:Int))):=by show _=_;rw[qbb _ (by omega)];simp
  go_enter func113,ntmps113
  go_wp2_with(first
   |(at_builtin;refine wpList_append_own _ rfl _ _ 35 rfl b 5 w (.int .u8 0) 1 1 underlying35 q r s t rfl (by decide) _ _ _ rfl (k.out.alloc _) ⟨W.heap.size,0,none⟩ 1 1 [.int .u8 (bits .or .u8 144 (x:Int))] rfl rfl (qag _ _ _) (λu f=>by simp at f;subst f;rfl) (by unfold maxLen;omega) (by omega) (by simp;omega) ?_;intro g i d l H;have j:=qab (qa0 p k.out L.out d l);obtain⟨C,B,rfl⟩:=ownsRow_succ d)
   |(at_builtin;refine wpList_append_own _ rfl _ _ 35 rfl b 5 w (.int .u8 0) 1 1 underlying35 q r s t rfl (by decide) _ _ _ rfl (k.out.alloc _) ⟨W.heap.size,0,none⟩ 1 1 [.int .u8 (144+(x:Int))] rfl rfl (qag _ _ _) (λu f=>by simp at f;subst f;rfl) (by unfold maxLen;omega) (by omega) (by simp;omega) ?_;intro g i d l H;have j:Hid (Own i b g (bs++[UInt8.ofNat (144+x)])/\Below b W i):=qa0 p k.out M.out d l;obtain⟨C,B,rfl⟩:=ownsRow_succ d))
  go_ret;rw[m.out];exact⟨_,rfl,j.out⟩
 by_cases c2:x<=65535
 ·have m:Hid (qbp x=220::beF x 2):=by show _=_;unfold qbp;rw[if_neg o];rw[if_pos c2]
  go_enter func113,ntmps113
  go_wp2_with(first
   |(at_builtin;refine wpList_append_own _ rfl _ _ 35 rfl b 5 w (.int .u8 0) 1 1 underlying35 q r s t rfl (by decide) _ _ _ rfl (k.out.alloc _) ⟨W.heap.size,0,none⟩ 1 1 [.int .u8 220] rfl rfl (qag _ _ _) (λu f=>by simp at f;subst f;rfl) (by unfold maxLen;omega) (by omega) (by simp;omega) ?_;intro g i d l H;have j:Hid (Own i b g (bs++[220])/\Below b W i):=qa0 p k.out rfl d l;obtain⟨C,B,rfl⟩:=ownsRow_succ d)
   |(go_at_call 128;refine(qar _ b _ _ x 2 (by omega) (by omega) (by simp;omega) j.out.1).mono ?_;rintro e P ⟨O,rfl,D,G⟩;obtain⟨E,F,z,I,A,rfl⟩:=D;have y:=qab (qaP j.out ⟨E,F,z,I,A,rfl⟩ G (m.out.symm))))
  go_ret;exact⟨_,rfl,y.out⟩
 have m:Hid (qbp x=221::beF x 4):=by show _=_;unfold qbp;rw[if_neg o];rw[if_neg c2]
 go_enter func113,ntmps113
 go_wp2_with(first
  |(at_builtin;refine wpList_append_own _ rfl _ _ 35 rfl b 5 w (.int .u8 0) 1 1 underlying35 q r s t rfl (by decide) _ _ _ rfl (k.out.alloc _) ⟨W.heap.size,0,none⟩ 1 1 [.int .u8 221] rfl rfl (qag _ _ _) (λu f=>by simp at f;subst f;rfl) (by unfold maxLen;omega) (by omega) (by simp;omega) ?_;intro g i d l H;have j:Hid (Own i b g (bs++[221])/\Below b W i):=qa0 p k.out rfl d l;obtain⟨C,B,rfl⟩:=ownsRow_succ d)
  |(go_at_call 128;refine(qar _ b _ _ x 4 (by omega) (by omega) (by simp;omega) j.out.1).mono ?_;rintro e P ⟨O,rfl,D,G⟩;obtain⟨E,F,z,I,A,rfl⟩:=D;have y:=qab (qaP j.out ⟨E,F,z,I,A,rfl⟩ G (m.out.symm))))
 go_ret;exact⟨_,rfl,y.out⟩
theorem qnT(W:World)(b:Nat)(v:Value)(bs:List UInt8)(x:Nat)(R:x<4294967296)(Q:bs.length<=999999999)(h:Own W b v bs):Calls prog 113 #[v,.int .u8 128,.int .u8 222,.int .u64 x] W λe J=>∃g,e=.returned g/\Own J b g (bs++qbo x)/\Below b W J:=by
 obtain⟨w,q,r,s,t⟩:=info_parts Tryz.infoU8;obtain⟨N,p,a,n,c,rfl⟩:=h;have k:=qab N;by_cases o:x<16
 ·have m:Hid (qbo x=[UInt8.ofNat (128+x)]):=by show _=_;unfold qbo;rw[if_pos o]
  have K:=qnI ⟨x,o⟩;simp only[]at K;have L:Hid (qax (UInt8.ofNat (128+x))=.int .u8 (bits .or .u8 128 (x:Int))):=by show _=_;rw[K,qbb _ (by omega)]
  have M:Hid (qax (UInt8.ofNat (128+x))=.int .u8 (128+(x:Int))):=by show _=_;rw[qbb _ (by omega)];simp
  go_enter func113,ntmps113
  go_wp2_with(first
   |(at_builtin;refine wpList_append_own _ rfl _ _ 35 rfl b 5 w (.int .u8 0) 1 1 underlying35 q r s t rfl (by decide) _ _ _ rfl (k.out.alloc _) ⟨W.heap.size,0,none⟩ 1 1 [.int .u8 (bits .or .u8 128 (x:Int))] rfl rfl (qag _ _ _) (λu f=>by simp at f;subst f;rfl) (by unfold maxLen;omega) (by omega) (by simp;omega) ?_;intro g i d l H;have j:Hid (Own i b g (bs++[UInt8.ofNat (128+x)])/\Below b W i):=qa0 p k.out L.out d l;obtain⟨C,B,rfl⟩:=ownsRow_succ d)
   |(at_builtin;refine wpList_append_own _ rfl _ _ 35 rfl b 5 w (.int .u8 0) 1 1 underlying35 q r s t rfl (by decide) _ _ _ rfl (k.out.alloc _) ⟨W.heap.size,0,none⟩ 1 1 [.int .u8 (128+(x:Int))] rfl rfl (qag _ _ _) (λu f=>by simp at f;subst f;rfl) (by unfold maxLen;omega) (by omega) (by simp;omega) ?_;intro g i d l H;have j:=qab (qa0 p k.out M.out d l);obtain⟨C,B,rfl⟩:=ownsRow_succ d))
  go_ret;rw[m.out];exact⟨_,rfl,j.out⟩
 by_cases c2:x<=65535
 ·have m:Hid (qbo x=222::beF x 2):=by show _=_;unfold qbo;rw[if_neg o];rw[if_pos c2]
  go_enter func113,ntmps113
  go_wp2_with(first
   |(at_builtin;refine wpList_append_own _ rfl _ _ 35 rfl b 5 w (.int .u8 0) 1 1 underlying35 q r s t rfl (by decide) _ _ _ rfl (k.out.alloc _) ⟨W.heap.size,0,none⟩ 1 1 [.int .u8 222] rfl rfl (qag _ _ _) (λu f=>by simp at f;subst f;rfl) (by unfold maxLen;omega) (by omega) (by simp;omega) ?_;intro g i d l H;have j:Hid (Own i b g (bs++[222])/\Below b W i):=qa0 p k.out rfl d l;obtain⟨C,B,rfl⟩:=ownsRow_succ d)
   |(go_at_call 128;refine(qar _ b _ _ x 2 (by omega) (by omega) (by simp;omega) j.out.1).mono ?_;rintro e P ⟨O,rfl,D,G⟩;obtain⟨E,F,z,I,A,rfl⟩:=D;have y:=qab (qaP j.out ⟨E,F,z,I,A,rfl⟩ G (m.out.symm))))
  go_ret;exact⟨_,rfl,y.out⟩
 have m:Hid (qbo x=223::beF x 4):=by show _=_;unfold qbo;rw[if_neg o];rw[if_neg c2]
 go_enter func113,ntmps113
 go_wp2_with(first
  |(at_builtin;refine wpList_append_own _ rfl _ _ 35 rfl b 5 w (.int .u8 0) 1 1 underlying35 q r s t rfl (by decide) _ _ _ rfl (k.out.alloc _) ⟨W.heap.size,0,none⟩ 1 1 [.int .u8 223] rfl rfl (qag _ _ _) (λu f=>by simp at f;subst f;rfl) (by unfold maxLen;omega) (by omega) (by simp;omega) ?_;intro g i d l H;have j:Hid (Own i b g (bs++[223])/\Below b W i):=qa0 p k.out rfl d l;obtain⟨C,B,rfl⟩:=ownsRow_succ d)
  |(go_at_call 128;refine(qar _ b _ _ x 4 (by omega) (by omega) (by simp;omega) j.out.1).mono ?_;rintro e P ⟨O,rfl,D,G⟩;obtain⟨E,F,z,I,A,rfl⟩:=D;have y:=qab (qaP j.out ⟨E,F,z,I,A,rfl⟩ G (m.out.symm))))
 go_ret;exact⟨_,rfl,y.out⟩

def szU(b:UInt8):Nat:=firstT b.toNat%8
def loU(b:UInt8):Nat:=accLo (firstT b.toNat/16)
def hiU(b:UInt8):Nat:=accHi (firstT b.toNat/16)
def qus:List UInt8->Bool
 |[]=>true
 |[b0]=>decide (2<=szU b0)
 |[b0,b1]=>decide (3<=szU b0/\loU b0<=b1.toNat/\b1.toNat<=hiU b0)
 |[b0,b1,b2]=>decide (4<=szU b0/\(loU b0<=b1.toNat/\b1.toNat<=hiU b0)/\128<=b2.toNat/\b2.toNat<=191)
 |_=>false
def qbC(l:List UInt8)(b:UInt8):Nat:=match l with
 |[]=>if szU b=0 then 2 else if szU b=1 then 0 else 1
 |[b0]=>if b.toNat<loU b0\/hiU b0<b.toNat then 0 else if szU b0=2 then 2 else 1
 |[b0,_]=>if b.toNat<128\/191<b.toNat then 0 else if szU b0=3 then 2 else 1
 |_=>if b.toNat<128\/191<b.toNat then 0 else 2
theorem qkG(b:UInt8):(szU b=0/\firstT b.toNat=240/\b.toNat<128)\/(szU b=1/\firstT b.toNat=241/\128<=b.toNat)\/(2<=szU b/\szU b<=4/\firstT b.toNat<240/\128<=b.toNat):=by
 unfold szU;have f:=firstT_cases b.toNat;have c:b.toNat<128->firstT b.toNat=240:=λh=>by unfold firstT;rw[if_pos h]
 have d:128<=b.toNat->firstT b.toNat≠240:=λh=>by
  unfold firstT;rw[if_neg (by omega)]
  repeat' split
  all_goals decide
 by_cases a:b.toNat<128
 ·left;have:=c a;exact⟨by rw[this],this,a⟩
 have e:=d (by omega);rcases f with h|h|h|h|h|h|h|h|h
 ·exact absurd h e
 ·right;left;exact⟨by rw[h],h,by omega⟩
 all_goals(right;right;rw[h];exact⟨by decide,by decide,by decide,by omega⟩)
theorem qi6{b:UInt8}(h:2<=szU b):szU b<=4/\firstT b.toNat<240/\128<=b.toNat:=by
 rcases qkG b with a|a|a
 ·omega
 ·omega
 exact a.2
theorem qud(b:UInt8):qgU b.toNat (firstT b.toNat) (szU b) (firstT b.toNat/16) (loU b) (hiU b):=qxh _ _ rfl (by
 rcases firstT_cases b.toNat with h|h|h|h|h|h|h|h|h<;>rw[h]<;>decide)
def qb5(V:World)(g off n cap:Nat)(r:Bool):Prop:=Calls prog 207 #[.slice (some ⟨g,off,none⟩) n cap] V λe W'=>e=.returned (.bool r)/\Below V.heap.size V W'
def qdo(V:World)(g off n cap:Nat)(bad:Bool):Prop:=Calls prog 208 #[.slice (some ⟨g,off,none⟩) n cap] V λe W'=>∃ch sz,e=.returned (.tuple #[.int .i32 ch,.int .i64 sz])/\(ch==65533&&sz==1)=bad/\Below V.heap.size V W'
theorem qdz(h:Calls prog 207 #[.slice (some ⟨g,off,none⟩) n cap] V λe a=>e=.returned (.bool true)/\a=V):qb5 V g off n cap true :=
 h.mono λ_ _ ⟨b,c⟩=>⟨b,c▸Below.refl _ _⟩
theorem qcr(f:128<=b0)(j:1<=n)(c:V.cell? ⟨g,off,none⟩=some (.int .u8 b0))(h:Calls prog 215 #[.slice (some ⟨g,off,none⟩) n cap] V λe a=>e=.returned (.tuple #[.int .i32 65533,.int .i64 1])/\Below V.heap.size V a):qdo V g off n cap true :=
 qd1 V g off cap n b0 f j c (λb k a=>(b==65533&&k==1)=true/\Below V.heap.size V a) (h.mono λ_ _ ⟨i,d⟩=>⟨65533,1,i,by decide,d⟩)
theorem qwe(b:2<=k)(a:Int):(a==65533&&(k:Int)==1)=false:=by
 have:((k:Int)==1)=false:=by simp;omega
 rw[this,Bool.and_false]
theorem qpk(f:2<=k)(d:128<=b0)(i:1<=n)(c:V.cell? ⟨g,off,none⟩=some (.int .u8 b0))(h:Calls prog 215 #[.slice (some ⟨g,off,none⟩) n cap] V λe b=>(∃a,e=.returned (.tuple #[.int .i32 a,.int .i64 k]))/\Below V.heap.size V b):qdo V g off n cap false :=
 qd1 V g off cap n b0 d i c (λa j b=>(a==65533&&j==1)=false/\Below V.heap.size V b) (h.mono λ_ _ ⟨⟨a,he⟩,hB⟩=>⟨a,k,he,qwe f a,hB⟩)
theorem qtO(g off c:Nat)(l:List UInt8)(b:UInt8)(t:qus l=true)(V:World)(q:∀i (hi:i<(l++[b]).length),V.cell? ⟨g,off+i,none⟩=some (.int .u8 ((l++[b])[i]'hi).toNat))(h:U8 V):(qbC l b=1->qb5 V g off (l.length+1) c false)/\(qbC l b=0->qb5 V g off (l.length+1) c true/\qdo V g off (l.length+1) c true)/\(qbC l b=2->qb5 V g off (l.length+1) c true/\qdo V g off (l.length+1) c false):=by
 match l,t with
 |[],_ =>
  have a:V.cell? ⟨g,off,none⟩=some (.int .u8 b.toNat):=q 0 (by simp);have f:=qud b;have d:=b.toNat_lt;unfold qbC;rcases qkG b with⟨v,u,k⟩|⟨v,u,k⟩|⟨v,u,k,n⟩
  ·rw[if_pos v];refine⟨by simp,by simp,λ_=>⟨qdz (qbW V g off 1 c _ _ _ _ _ _ f d (by decide) (by omega) (by decide) a h),?_⟩⟩;refine(qfT V g off c 1 b.toNat k (by decide) a).mono λ_ _ ⟨z,D⟩=>⟨b.toNat,1,z,?_,D▸Below.refl _ _⟩
   have:((b.toNat:Int)==65533)=false:=by simp;omega
   rw[this,Bool.false_and]
  ·rw[if_neg (by omega),if_pos v];refine⟨by simp,λ_=>⟨qdz (qbW V g off 1 c _ _ _ _ _ _ f d (by decide) (by omega) (by decide) a h),?_⟩,by simp⟩;exact qcr k (Nat.le_add_left _ _) a ((qpz V g off c 1 _ u d (by decide) a h).mono λ_ _ ⟨z,D⟩=>⟨z,D▸Below.refl _ _⟩)
  rw[if_neg (by omega),if_neg (by omega)];exact⟨λ_=>qku V g off c _ _ _ _ _ _ f d (by omega) a h,by simp,by simp⟩
 |[b0],t =>
  have a:V.cell? ⟨g,off,none⟩=some (.int .u8 b0.toNat):=q 0 (by simp);have m:V.cell? ⟨g,off+1,none⟩=some (.int .u8 b.toNat):=q 1 (by simp);have f:=qud b0;have d:=b0.toNat_lt;have C:=of_decide_eq_true t;obtain⟨u,k,n⟩:=qi6 C;have y:szU b0=2->qb5 V g off 2 c true:=λe=>qdz (qbW V g off 2 c _ _ _ _ _ _ f d (by decide) (by omega) (by decide) a h);unfold qbC;simp only[];by_cases q1:b.toNat<loU b0
  ·rw[if_pos (.inl q1)];refine⟨by simp,λ_=>?_,by simp⟩;by_cases j:szU b0=2
   ·exact⟨y j,qcr n (Nat.le_add_left _ _) a (qsk V g off c _ _ _ _ _ _ _ f d k a m h j q1)⟩
   exact⟨qmd V g off c _ _ _ _ _ _ _ f d (by omega) a m h q1,qcr n (Nat.le_add_left _ _) a (qdL V g off c 2 _ _ _ _ _ _ f d k a h (by decide) (by omega))⟩
  by_cases o:hiU b0<b.toNat
  ·rw[if_pos (.inr o)];refine⟨by simp,λ_=>?_,by simp⟩;by_cases j:szU b0=2
   ·exact⟨y j,qcr n (Nat.le_add_left _ _) a (qsH V g off c _ _ _ _ _ _ _ f d k a m h j q1 o)⟩
   exact⟨qm0 V g off c _ _ _ _ _ _ _ f d (by omega) a m h q1 o,qcr n (Nat.le_add_left _ _) a (qdL V g off c 2 _ _ _ _ _ _ f d k a h (by decide) (by omega))⟩
  rw[if_neg (by omega)];by_cases j:szU b0=2
  ·rw[if_pos j];exact⟨by simp,by simp,λ_=>⟨y j,qpk (by decide) n (Nat.le_add_left _ _) a (qs4 V g off c _ _ _ _ _ _ _ f d k a m h j q1 o)⟩⟩
  rw[if_neg j];exact⟨λ_=>qkA V g off c _ _ _ _ _ _ _ f d (by omega) a m h q1 o,by simp,by simp⟩
 |[b0,b1],t =>
  have a:V.cell? ⟨g,off,none⟩=some (.int .u8 b0.toNat):=q 0 (by simp);have m:V.cell? ⟨g,off+1,none⟩=some (.int .u8 b1.toNat):=q 1 (by simp);have p:V.cell? ⟨g,off+2,none⟩=some (.int .u8 b.toNat):=q 2 (by simp);have f:=qud b0;have d:=b0.toNat_lt;obtain⟨C,E,F⟩:=of_decide_eq_true t;obtain⟨u,k,n⟩:=qi6 (b:=b0) (by omega);have r:¬b1.toNat<loU b0:=by omega
  have s:¬hiU b0<b1.toNat:=by omega
  have y:szU b0=3->qb5 V g off 3 c true:=λe=>qdz (qbW V g off 3 c _ _ _ _ _ _ f d (by decide) (by omega) (by decide) a h);unfold qbC;simp only[];by_cases q1:b.toNat<128
  ·rw[if_pos (.inl q1)];refine⟨by simp,λ_=>?_,by simp⟩;by_cases j:szU b0=3
   ·exact⟨y j,qcr n (Nat.le_add_left _ _) a (qsv V g off c _ _ _ _ _ _ _ _ f d k a m p h j r s q1)⟩
   exact⟨qjX V g off c _ _ _ _ _ _ _ _ f d (by omega) a m p h r s q1,qcr n (Nat.le_add_left _ _) a (qdL V g off c 3 _ _ _ _ _ _ f d k a h (by decide) (by omega))⟩
  by_cases o:191<b.toNat
  ·rw[if_pos (.inr o)];refine⟨by simp,λ_=>?_,by simp⟩;by_cases j:szU b0=3
   ·exact⟨y j,qcr n (Nat.le_add_left _ _) a (qtd V g off c _ _ _ _ _ _ _ _ f d k a m p h j r s o)⟩
   exact⟨qkI V g off c _ _ _ _ _ _ _ _ f d (by omega) a m p h r s q1 o,qcr n (Nat.le_add_left _ _) a (qdL V g off c 3 _ _ _ _ _ _ f d k a h (by decide) (by omega))⟩
  rw[if_neg (by omega)];by_cases j:szU b0=3
  ·rw[if_pos j];exact⟨by simp,by simp,λ_=>⟨y j,qpk (by decide) n (Nat.le_add_left _ _) a (qsW V g off c _ _ _ _ _ _ _ _ f d k a m p h j r s (by omega) (by omega))⟩⟩
  rw[if_neg j];exact⟨λ_=>qkL V g off c _ _ _ _ _ _ _ _ f d (by omega) a m p h r s q1 o,by simp,by simp⟩
 |[b0,b1,b2],t =>
  have a:V.cell? ⟨g,off,none⟩=some (.int .u8 b0.toNat):=q 0 (by simp);have m:V.cell? ⟨g,off+1,none⟩=some (.int .u8 b1.toNat):=q 1 (by simp);have p:V.cell? ⟨g,off+2,none⟩=some (.int .u8 b2.toNat):=q 2 (by simp);have x:V.cell? ⟨g,off+3,none⟩=some (.int .u8 b.toNat):=q 3 (by simp);have f:=qud b0;have d:=b0.toNat_lt;obtain⟨C,⟨E,F⟩,A,B⟩:=of_decide_eq_true t;obtain⟨u,k,n⟩:=qi6 (b:=b0) (by omega);have w:szU b0=4:=by omega
  have r:¬b1.toNat<loU b0:=by omega
  have s:¬hiU b0<b1.toNat:=by omega
  have y:=qdz (qbW V g off 4 c _ _ _ _ _ _ f d (by decide) (by omega) (by decide) a h);unfold qbC;simp only[];by_cases q1:b.toNat<128
  ·rw[if_pos (.inl q1)];exact⟨by simp,λ_=>⟨y,qcr n (Nat.le_add_left _ _) a (qsY V g off c _ _ _ _ _ _ _ _ _ f d k a m p x h w r s A B q1)⟩,by simp⟩
  by_cases o:191<b.toNat
  ·rw[if_pos (.inr o)];exact⟨by simp,λ_=>⟨y,qcr n (Nat.le_add_left _ _) a (qtT V g off c _ _ _ _ _ _ _ _ _ f d k a m p x h w r s A B o)⟩,by simp⟩
  rw[if_neg (by omega)];exact⟨by simp,by simp,λ_=>⟨y,qpk (by decide) n (Nat.le_add_left _ _) a (qsF V g off c _ _ _ _ _ _ _ _ _ f d k a m p x h w r s A B (by omega) (by omega))⟩⟩

structure qcz(W:World)(p base:Nat)(bs:List UInt8)(wh:Nat):Prop where
 row:∃v,W.heap[p]?=some (.cells #[v,.int .i64 wh] 303)/\Own W base v bs
 lt:p<base
 le:wh<=bs.length
structure qdc(p base:Nat)(W W':World):Prop where
 os:W'.os=W.os
 tape:W'.tape=W.tape
 output:W'.output=W.output
 size:W.heap.size<=W'.heap.size
 block:∀k,k<base->k≠p->W'.heap[k]?=W.heap[k]?
theorem qdc.refl(p a:Nat)(W:World):qdc p a W W:=⟨rfl,rfl,rfl,Nat.le_refl _,λ_ _ _=>rfl⟩
theorem qdc.trans{a b c:World}(h:qdc p base a b)(d:qdc p base b c):qdc p base a c :=
 ⟨d.os.trans h.os,d.tape.trans h.tape,d.output.trans h.output,Nat.le_trans h.size d.size,λk e f=>(d.block k e f).trans (h.block k e f)⟩
theorem qdc.of_below(h:Below W.heap.size W W')(a:base<=W.heap.size):qdc p base W W' :=
 ⟨h.os,h.tape,h.output,h.size,λk b _=>h.block k (by omega)⟩
theorem qdE{a b:Value}{t:TypeId}(c:w.heap[g]?=some (.cells #[a,b] t)):(w.setCell ⟨g,0,none⟩ v).heap[g]?=some (.cells #[v,b] t)/\(w.setCell ⟨g,1,none⟩ v).heap[g]?=some (.cells #[a,v] t):=by
 constructor
 ·rw[setCell_eq_setRow w g 0 _ _ _ v c,setRow_heap _ _ _ _ _ _ c];rfl
 rw[setCell_eq_setRow w g 1 _ _ _ v c,setRow_heap _ _ _ _ _ _ c];rfl
theorem qfx:qdc p base w (w.setCell ⟨p,j,none⟩ v) :=
 ⟨rfl,rfl,rfl,by simp[World.setCell],λk _ a=>heap_setCell_other _ _ _ _ (by simpa using a)⟩
theorem qex(h:Own w base v bs)(n:p<base):Own (w.setCell ⟨p,j,none⟩ u) base v bs:=by
 obtain⟨⟨d,a⟩,f,i⟩:=h;refine⟨⟨d,?_⟩,by simpa[World.setCell]using f,i⟩;rcases a with a|⟨g,b,c,e,l,m,k⟩
 ·exact .inl a
 exact .inr ⟨g,b,c,e,l,(heap_setCell_other _ _ _ _ (by simp;omega)).trans m,k⟩
theorem qcz.same(h:qcz W p base bs wh)(d:∀k,k<W.heap.size->k=p\/base<=k->W'.heap[k]?=W.heap[k]?)(q:W.heap.size<=W'.heap.size):qcz W' p base bs wh:=by
 obtain⟨v,f,⟨l,a⟩,o,m⟩:=h.row;refine⟨⟨v,(d p (ltA f) (.inl rfl)).trans f,⟨l,?_⟩,by omega,m⟩,h.lt,h.le⟩;rcases a with a|⟨g,i,j,e,b,c,n⟩
 ·exact .inl a
 exact .inr ⟨g,i,j,e,b,(d g (ltA c) (.inr b)).trans c,n⟩
theorem qcz.below(h:qcz W p base bs wh)(a:Below W.heap.size W W'):qcz W' p base bs wh:=h.same (λk b _=>a.block k b) a.size
theorem qcz.but(h:qcz W p base bs wh)(c:But b W W')(e:b<base)(f:b≠p):qcz W' p base bs wh:=h.same (λk d a=>c.block k d (by rcases a with a|a<;>omega)) c.size
theorem qhk(W:World)(p k:Nat)(bs:List UInt8)(b:Nat)(h:qcz W p k bs b):Calls prog 197 #[.pointer (some ⟨p,0,none⟩)] W λe j=>e=.returned (.bool (decide (b=bs.length)))/\Below W.heap.size W j:=by
 obtain⟨v,f,⟨r,d⟩,_,a,n,c,rfl⟩:=h.row;have m:n=bs.length:=by
  rcases d with⟨d,l⟩|⟨g,o,q,e,_⟩
  ·cases d;exact l.symm
  cases e;rfl
 subst m;have s:=qaa f 0;have t:=qaa f 1;have i:Hid (((b:Int)==(bs.length:Int))=decide (b=bs.length)):=by
  show _=_;by_cases e:b=bs.length
  ·simp[e]
  simp[e];omega
 go_enter func197,ntmps197;go_wp2
 go_quiet (fail)
 go_wp2;go_ret;refine⟨?_,qao W nq⟩;show Ending.returned (.bool _)=_;rw[i.out]
theorem qcG(h:Own W base (.slice (some ⟨g,0,none⟩) n cap) bs):(n=bs.length/\bs.length<=cap/\cap<=maxLen/\base<=g)/\∀j (a:j<bs.length),W.cell? ⟨g,j,none⟩=some (.int .u8 ((bs[j]'a).toNat:Int)):=by
 obtain⟨⟨r,b⟩,_,_⟩:=h;rcases b with⟨b,_⟩|⟨q,o,p,e,k,m,d,f,s,i⟩
 ·cases b
 cases e;refine⟨⟨rfl,d,f,k⟩,λj a=>?_⟩;rw[qaa m j,<-Array.getElem?_toList];have c:=congrArg (λl=>l[j]?) i;simp only[Nat.mul_one]at c;rw[List.getElem?_take_of_lt a,List.getElem?_map,List.getElem?_eq_getElem a]at c;exact c
theorem U8.keep(h:U8 W)(e:qdc p base W V)(j:7<p)(l:p<base):U8 V:=by
 have a:∀(g off:Nat) (v:Value),g<=7->W.cell? ⟨g,off,none⟩=some v->V.cell? ⟨g,off,none⟩=some v:=λg off v k f=>(World.cell?_of_block (w:=W) (e.block g (by omega) (by omega))).trans f;exact⟨λc d=>a _ _ _ (by decide) (h.1 c d),λi b=>⟨a _ _ _ (by decide) (h.2 i b).1,a _ _ _ (by decide) (h.2 i b).2⟩⟩
theorem qjQ(h:qcz W p base bs wh):qcz (W.setCell ⟨p,1,none⟩ (.int .i64 bs.length)) p base bs bs.length:=by
 obtain⟨v,b,a⟩:=h.row;exact⟨⟨v,(qdE b).2,qex a h.lt⟩,h.lt,Nat.le_refl _⟩
structure qzv(W:World)(p base g cap:Nat)(bs:List UInt8)(wh:Nat)(V:World):Prop where
 keep:qdc p base W V
 gat:qcz V p base bs wh
 row:V.heap[p]?=some (.cells #[.slice (some ⟨g,0,none⟩) bs.length cap,.int .i64 wh] 303)
 cells:∀j (hj:j<bs.length),V.cell? ⟨g,j,none⟩=some (.int .u8 ((bs[j]'hj).toNat:Int))
 cap:bs.length<=cap/\cap<=maxLen
theorem q0t{b:UInt8}(q:base<=W.heap.size)(e:p<base)(B:wh<=bs.length)(o:W.ownsRow base 5 1 (.slice a n c) bs.length (bs.map qax))(y:qax b=u)(x:w5.ownsRow base 5 1 (.slice (some ⟨g,0,none⟩) (bs.length+1) cap5) (bs.length+1) (bs.map qax++[u]))(r:(W.alloc (.cells #[u] 5)).grownBy w5 (Value.slice a n c).ownBlock)(l:w5.heap[p]?=some (.cells #[.slice a n c,.int .i64 wh] 303)):qzv W p base g cap5 (bs++[b]) wh (w5.setCell ⟨p,0,none⟩ (.slice (some ⟨g,0,none⟩) (bs.length+1) cap5)):=by
 have d:=qa3 ((Below.refl base W).alloc q _) (o.alloc _) r (by simp;omega);have f:Own w5 base (.slice (some ⟨g,0,none⟩) (bs.length+1) cap5) (bs++[b]):=⟨qbR x y,by have:=d.size;omega,_,_,_,rfl⟩
 obtain⟨⟨z,c2,m,A⟩,cs⟩:=qcG f;have h:=qex (p:=p) (j:=0) (u:=.slice (some ⟨g,0,none⟩) (bs.length+1) cap5) f e;have t:(bs++[b]).length=bs.length+1:=by simp
 have i:=(qdE (v:=.slice (some ⟨g,0,none⟩) (bs.length+1) cap5) l).1;refine⟨⟨d.os,d.tape,d.output,by simpa[World.setCell]using d.size,λk s w=>(heap_setCell_other _ _ _ _ (by simpa using w)).trans (d.block k s)⟩,⟨⟨_,i,h⟩,e,by omega⟩,by rw[t];exact i,(qcG h).2,⟨c2,m⟩⟩
theorem qpW(W:World)(p t:Nat)(bs:List UInt8)(d:Nat)(b:UInt8)(h:qcz W p t bs d)(hp:qus (bs.drop d)=true)(ht:U8 W)(h7:7<p)(hl:bs.length<=999999999):Calls prog 200 #[.pointer (some ⟨p,0,none⟩),.int .u8 b.toNat] W λe Z=>e=.returned (.bool (qbC (bs.drop d) b != 0))/\qdc p t W Z/\qcz Z p t (bs++[b]) (if qbC (bs.drop d) b=2 then bs.length+1 else d):=by
 obtain⟨D,G⟩:∃D,Hid ((qbC (bs.drop d) b != 0)=D):=⟨_,show _=_ from rfl⟩
 obtain⟨E,H⟩:∃E,Hid ((if qbC (bs.drop d) b=2 then bs.length+1 else d)=E):=⟨_,show _=_ from rfl⟩
 rw[G.out,H.out];obtain⟨i0,J,aj,ak,al⟩:=info_parts Tryz.infoU8;obtain⟨ax,hr,ho,c,an,am,ao,rfl⟩:=h.row;have ad:=h.lt;have ab:=h.le;have hn:am=bs.length:=by
  rcases ho.2 with⟨w,h3⟩|⟨ar,ap,aq,e,_⟩
  ·cases w;exact h3.symm
  cases e;rfl
 subst hn;have N:=qab ho;have O:=qab hr;have HT:=qab ht;have C:=qaa hr 0;go_enter func200,ntmps200
 go_wp2_with(first
  |(at_builtin;refine wpList_append_own _ rfl _ _ 35 rfl t 5 i0 (.int .u8 0) 1 1 underlying35 J aj ak al rfl (by decide) _ _ _ rfl (N.out.alloc _) ⟨W.heap.size,0,none⟩ 1 1 [.int .u8 b.toNat] rfl rfl (qag _ _ _) (λaw hu=>by simp at hu;subst hu;rfl) (by unfold maxLen;omega) (by omega) (by simp;omega) ?_;intro v' w5 ae n av;obtain⟨m,o,rfl⟩:=ownsRow_succ ae;have P:=qab ((n.block p (by have:=ltA O.out;simp;omega) (λe=>by have:=qbE N.out e.symm;omega)).trans ((Below.heap_alloc _ _ _ (ltA O.out)).trans O.out));have C:=qaa P.out 0;have f0:=frozen_of_row w5 p 0 _ _ P.out))
 have f:=qab (q0t c ad ab N.out rfl ae n P.out);generalize w5.setCell ⟨p,0,none⟩ (.slice (some ⟨m,0,none⟩) (bs.length+1) o)=V at *;have C:=qaa f.out.row 0;have k1:=qaa f.out.row 1;have f1:=frozen_of_row V p 1 _ _ f.out.row;have ac:(bs++[b]).length=bs.length+1:=by simp
 rw[ac]at C k1;have Y:=f.out.cap;rw[ac]at Y;have au:=Y.1;have ag:=Y.2;unfold maxLen at ag;have ai:(bs.drop d).length+1=bs.length+1-d:=by rw[List.length_drop];omega
 have z:Hid (∀X,Below V.heap.size V X->(qbC (bs.drop d) b=1->qb5 X m d (bs.length+1-d) (o-d) false)/\(qbC (bs.drop d) b=0->qb5 X m d (bs.length+1-d) (o-d) true/\qdo X m d (bs.length+1-d) (o-d) true)/\(qbC (bs.drop d) b=2->qb5 X m d (bs.length+1-d) (o-d) true/\qdo X m d (bs.length+1-d) (o-d) false)):=by
  show∀X,_;intro X x;have v:(bs++[b]).drop d=bs.drop d++[b]:=List.drop_append_of_le_length ab;have:=qtO m d (o-d) (bs.drop d) b hp X (λi J=>by
   have aa:d+i<(bs++[b]).length:=by
    rw[<-v,List.length_drop]at J;omega
   have g:=f.out.cells (d+i) aa;have e:(bs.drop d++[b])[i]'J=(bs++[b])[d+i]'aa:=by
    simp only[<-v,List.getElem_drop]
   rw[e];exact(x.cell (p:=⟨m,d+i,none⟩) (block_lt_of_cell g)).trans g) ((HT.out.keep f.out.keep h7 ad).below x)
  rw[ai]at this;exact this
 have ah:qbC (bs.drop d) b=0\/qbC (bs.drop d) b=1\/qbC (bs.drop d) b=2:=by
  unfold qbC
  repeat' split
  all_goals simp
 have M:=qab (Nat.le_trans c f.out.keep.size)
 go_quiet (fail)
 have k:=qab (qao V nq);rcases ah with I|S|w
 ·have r:Hid (D=false):=by show _=_;rw[<-G.out,I];rfl
  have s:Hid (E=d):=by show _=_;rw[<-H.out,I];rfl
  have l:=((z.out _ k.out).2.1 I).1;have A:=λX x=>((z.out X x).2.1 I).2;unfold qb5 at l;unfold qdo at A
  go_wp2_with(first
   |(go_at_call 207;refine l.mono ?_;rintro e K ⟨rfl,B⟩;have j:=qab (k.out.trans (B.mono k.out.size));have R:=A K j.out)
   |(go_at_call 208;refine R.mono ?_;rintro e L ⟨a,sz,rfl,y,U⟩;have q:=qab (j.out.trans (U.mono j.out.size));rw[Bool.and_eq_true]at y;obtain⟨u,af⟩:=y))
  go_ret;rw[r.out,s.out];exact⟨rfl,f.out.keep.trans (qdc.of_below q.out M.out),f.out.gat.below q.out⟩
 ·have r:Hid (D=true):=by show _=_;rw[<-G.out,S];rfl
  have s:Hid (E=d):=by show _=_;rw[<-H.out,S];rfl
  have l:=(z.out _ k.out).1 S;unfold qb5 at l
  go_wp2_with(first
   |(go_at_call 207;refine l.mono ?_;rintro e K ⟨rfl,B⟩;have j:=qab (k.out.trans (B.mono k.out.size))))
  go_ret;rw[r.out,s.out];exact⟨rfl,f.out.keep.trans (qdc.of_below j.out M.out),f.out.gat.below j.out⟩
 have r:Hid (D=true):=by show _=_;rw[<-G.out,w];rfl
 have s:Hid (E=bs.length+1):=by show _=_;rw[<-H.out,w];rfl
 have l:=((z.out _ k.out).2.2 w).1;have A:=λX x=>((z.out X x).2.2 w).2;unfold qb5 at l;unfold qdo at A
 go_wp2_with(first
  |(go_at_call 207;refine l.mono ?_;rintro e K ⟨rfl,B⟩;have j:=qab (k.out.trans (B.mono k.out.size));have R:=A K j.out))
 refine R.mono ?_;rintro e L ⟨a,sz,rfl,y,U⟩;have q:=qab (j.out.trans (U.mono j.out.size));have Q:=qab ((q.out.block p (ltA f.out.row)).trans f.out.row);have F:Hid (qdc p t W (L.setCell ⟨p,1,none⟩ (.int .i64 ((bs.length:Int)+1)))/\qcz (L.setCell ⟨p,1,none⟩ (.int .i64 ((bs.length:Int)+1))) p t (bs++[b]) (bs.length+1)):=by
  have T:=qjQ (f.out.gat.below q.out);rw[show(bs++[b]).length=bs.length+1 by simp]at T;have e9:(((bs.length+1:Nat)):Int)=(bs.length:Int)+1:=by omega
  rw[e9]at T;exact⟨(f.out.keep.trans (qdc.of_below q.out M.out)).trans qfx,T⟩
 have C:=qaa Q.out 0;have k1:=qaa Q.out 1;have f1:=frozen_of_row L p 1 _ _ Q.out;rw[show(bs++[b]).length=bs.length+1 by simp]at C;cases u:(a==65533)
 ·clear y;go_wp2;go_ret;rw[r.out,s.out];exact⟨rfl,F.out.1,F.out.2⟩
 have af:(sz==1)=false:=by rw[u,Bool.true_and]at y;exact y
 go_wp2;go_ret;rw[r.out,s.out];exact⟨rfl,F.out.1,F.out.2⟩

def qbN(r:Int):List UInt8:=(encodeRuneZ r).map λx=>UInt8.ofNat x.toNat
theorem qrA(x:Int)(a:0<=x)(b:x<=255):qax (UInt8.ofNat x.toNat)=.int .u8 x:=by
 unfold qax;rw[UInt8.toNat_ofNat',Nat.mod_eq_of_lt (by omega)];congr 1;omega
theorem qix(r:Int):runeCells r=(qbN r).map qax:=by
 have b:∀x∈encodeRuneZ r,0<=x/\x<=255:=by
  unfold encodeRuneZ
  repeat' split
  all_goals(intro x a;simp at a;omega)
 unfold runeCells qbN;rw[List.map_map];apply List.map_congr_left;intro x a;exact(qrA x (b x a).1 (b x a).2).symm
theorem qcl(r:Int):1<=(qbN r).length/\(qbN r).length<=4:=by
 unfold qbN encodeRuneZ;rw[List.length_map]
 repeat' split
 all_goals simp
theorem qz3{cs:List UInt8}{o:Obj}(r:base<=W.heap.size)(e:p<base)(B:wh<=bs.length)(q:W.ownsRow base 5 1 (.slice a n c) bs.length (bs.map qax))(x:w5.ownsRow base 5 1 (.slice (some ⟨g,0,none⟩) (bs.length+cs.length) cap5) (bs.length+cs.length) (bs.map qax++cs.map qax))(s:(W.alloc o).grownBy w5 (Value.slice a n c).ownBlock)(l:w5.heap[p]?=some (.cells #[.slice a n c,.int .i64 wh] 303)):qzv W p base g cap5 (bs++cs) wh (w5.setCell ⟨p,0,none⟩ (.slice (some ⟨g,0,none⟩) (bs.length+cs.length) cap5)):=by
 have b:=qa3 ((Below.refl base W).alloc r _) (q.alloc _) s (by simp;omega);have d:(bs++cs).length=bs.length+cs.length:=List.length_append;have f:Own w5 base (.slice (some ⟨g,0,none⟩) (bs.length+cs.length) cap5) (bs++cs):=⟨by rw[d,List.map_append];exact x,by have:=b.size;omega,_,_,_,rfl⟩
 obtain⟨⟨y,c2,m,z⟩,A⟩:=qcG f;have h:=qex (p:=p) (j:=0) (u:=.slice (some ⟨g,0,none⟩) (bs.length+cs.length) cap5) f e;have i:=(qdE (v:=.slice (some ⟨g,0,none⟩) (bs.length+cs.length) cap5) l).1;refine⟨⟨b.os,b.tape,b.output,by simpa[World.setCell]using b.size,λk t w=>(heap_setCell_other _ _ _ _ (by simpa using w)).trans (b.block k t)⟩,⟨⟨_,i,h⟩,e,by omega⟩,by rw[d];exact i,(qcG h).2,⟨c2,m⟩⟩
theorem qfW(W:World)(p f:Nat)(bs:List UInt8)(t:Nat)(r:Int)(J : -2147483648<=r)(K:r<=2147483647)(h:qcz W p f bs t)(X:bs.length<=999999999):Calls prog 198 #[.pointer (some ⟨p,0,none⟩),.int .i32 r] W λe w=>e=.returned (.tuple #[])/\qdc p f W w/\qcz w p f (bs++qbN r) (bs++qbN r).length:=by
 obtain⟨v,j,i,A,a,n,c,rfl⟩:=h.row;have H:=h.lt;have G:=h.le;have I:n=bs.length:=by
  rcases i.2 with⟨E,F⟩|⟨g,Q,C,e,_⟩
  ·cases E;exact F.symm
  cases e;rfl
 subst I;have O:=qab i;have P:=qab j;have x:Calls prog 127 #[.slice a bs.length c,.int .i32 r] W λe s=>∃g b,e=.returned (.slice (some ⟨g,0,none⟩) (bs.length+(qbN r).length) b)/\Hid (qzv W p f g b (bs++qbN r) t (s.setCell ⟨p,0,none⟩ (.slice (some ⟨g,0,none⟩) (bs.length+(qbN r).length) b)))/\Hid (s.heap[p]?=some (.cells #[.slice a bs.length c,.int .i64 t] 303)):=by
  refine(Any.utf8_AppendRune_plain Tryz.lays242 (by kernel_rfl) f (.slice a bs.length c) bs.length (bs.map qax) r J K W i (by omega) A).mono ?_;rintro e s ⟨v',rfl,q,o,B⟩;rw[qix,List.length_map]at q;have V:=(qcl r).1;rcases q.2 with⟨_,U⟩|⟨g,b,C,rfl,_⟩
  ·omega
  have z:=(B.block p (by have:=ltA j;simp;omega) (λe=>by have:=qbE i e.symm;omega)).trans ((Below.heap_alloc _ _ _ (ltA j)).trans j);exact⟨g,b,rfl,qz3 A H G i q B z,z⟩
 have L:=qaa j 0;obtain⟨m,l⟩:∃m,(qbN r).length=m:=⟨_,rfl⟩
 have k:Hid ((bs++qbN r).length=bs.length+m/\m<=4):=⟨by rw[List.length_append,l],by rw[<-l];exact(qcl r).2⟩
 rw[l]at x;have Y:=k.out.2;go_enter func198,ntmps198
 go_wp2_with(first
  |(go_at_call 127;refine x.mono ?_;rintro e N ⟨T,b,rfl,d,u⟩;have L:=qaa u.out 0;have R:=frozen_of_row N p 0 _ _ u.out;have M:=qaa d.out.row 0;have S:=frozen_of_row _ p 1 _ _ d.out.row;have Z:=qaa d.out.row 1;rw[k.out.1]at M)
  )
 go_end0;refine⟨rfl,d.out.keep.trans qfx,?_⟩;have y:=qjQ d.out.gat;have D:(((bs++qbN r).length:Nat):Int)=(bs.length:Int)+m:=by rw[k.out.1];omega
 rw[D]at y;exact y

end
section
open Go.RowKit
def qvn(x:Nat):Bool:=decide (56320<=x/\x<=57343)
def qza(x:Nat):Bool:=decide (55296<=x/\x<=56319)
theorem qkP(x:Nat)(w:World):Calls prog 213 #[.int .i32 x] w λe d=>e=.returned (.bool (qvn x))/\d=w:=by
 unfold qvn;by_cases b:56320<=x
 ·by_cases c:x<=57343
  ·have a:decide ((x:Int)<=57343)=true:=by simp;omega
   rw[decide_eq_true ⟨b,c⟩];go_enter func213,ntmps213;go_wp2;go_ret;exact⟨rfl,rfl⟩
  have a:decide ((x:Int)<=57343)=false:=by simp;omega
  rw[decide_eq_false (by omega)];go_enter func213,ntmps213;go_wp2;go_ret;exact⟨rfl,rfl⟩
 rw[decide_eq_false (by omega)];go_enter func213,ntmps213;go_wp2;go_ret;exact⟨rfl,rfl⟩
theorem qon(x:Nat)(w:World):Calls prog 214 #[.int .i32 x] w λe d=>e=.returned (.bool (qza x))/\d=w:=by
 unfold qza;by_cases b:55296<=x
 ·by_cases c:x<=56319
  ·have a:decide ((x:Int)<=56319)=true:=by simp;omega
   rw[decide_eq_true ⟨b,c⟩];go_enter func214,ntmps214;go_wp2;go_ret;exact⟨rfl,rfl⟩
  have a:decide ((x:Int)<=56319)=false:=by simp;omega
  rw[decide_eq_false (by omega)];go_enter func214,ntmps214;go_wp2;go_ret;exact⟨rfl,rfl⟩
 rw[decide_eq_false (by omega)];go_enter func214,ntmps214;go_wp2;go_ret;exact⟨rfl,rfl⟩
theorem qjs:∀{k p a x q:Nat},qfK bs lim k p a=.ok (x,q)->x<(a+1)*16^k/\q=p+k
 |0,p,a,x,q,h=>by
  unfold qfK at h;cases h;simp
 |k+1,p,a,x,q,h=>by
  rw[qfK]at h;split at h
  ·cases h
  split at h
  ·cases h
  split at h
  ·cases h
  next d hd =>
  obtain⟨b,c⟩:=qjs h;have e:=qqx hd;have f:(a*16+d+1)*16^k<=((a+1)*16)*16^k:=Nat.mul_le_mul_right _ (by omega);have g:((a+1)*16)*16^k=(a+1)*16^(k+1):=by rw[Nat.mul_assoc,Nat.pow_succ,Nat.mul_comm 16]
  exact⟨by omega,by omega⟩
def qfs(bs:List UInt8)(lim:Int)(p:Nat):Except (Int×Int) (Int×Nat):=match qfK bs lim 4 p 0 with
 |.error e=>.error e
 |.ok (x,q)=>if qvn x=true then .error (9,(q:Int)-1)else if qza x=true then(match qaQ bs lim [92,117] q with
  |.error e=>.error e
  |.ok (_,q2)=>match qfK bs lim 4 q2 0 with
   |.error e=>.error e
   |.ok (y,q3)=>if qvn y=true then .ok (65536+((x:Int)-55296)*1024+((y:Int)-56320),q3)else .error (9,(q3:Int)-1))else .ok (x,q)
theorem qkx(W:World)(b:Nat)(s:Src)(h:qad W b s):Calls prog 206 #[.agg #[.pointer (some ⟨b,0,none⟩)]] W (qbU W b s (λx:Int=>.int .i32 x) (qfs s.bs s.lim s.pos)):=by
 have j:=qab (qaX h);obtain⟨R,p⟩:∃R,Hid (qfs s.bs s.lim s.pos=R):=⟨_,show _=_ from rfl⟩
 rw[p.out];have a:=p.out;unfold qfs at a;have o:=j.out.cell;have u:=qgQ _ b s j.out.src;go_enter func206,ntmps206
 go_wp2_with fail
 refine u.mono ?_;rintro e D ⟨c,hF⟩;rcases hx:qfK s.bs s.lim 4 s.pos 0 with⟨f,i⟩|⟨x,q⟩
 ·simp only[hx]at a hF;subst a;obtain rfl:=(show qan f i e from hF)
  go_wp2;exact⟨rfl,j.out.but.trans c,rfl⟩
 simp only[hx]at a hF;have C:=(qjs hx).1;obtain⟨rfl,g⟩:=hF;obtain⟨d,o⟩:=rdK j g c
 go_wp2_with fail
 refine(qkP x _).mono ?_;rintro e w ⟨rfl,rfl⟩;cases r:qvn x
 ·rw[r,if_neg (by decide)]at a
  go_wp2_with fail
  refine(qon x _).mono ?_;rintro e w ⟨rfl,rfl⟩;cases m:qza x
  ·rw[m,if_neg (by decide)]at a;subst a;go_wp2;go_ret;exact⟨d.out.but,rfl,d.out.src⟩
  rw[m,if_pos rfl]at a;have A:=of_decide_eq_true (show decide (55296<=x/\x<=56319)=true from m)
  go_wp2_with fail
  refine(qbB _ b {s with pos:=q} [92,117] (by decide) d.out.src).mono ?_;rintro e E ⟨c,hF⟩;rcases hq:qaQ s.bs s.lim [92,117] q with⟨f,i⟩|⟨_,t⟩
  ·simp only[hq]at a hF;subst a;obtain rfl:=(show qan f i e from hF)
   go_wp2;exact⟨rfl,d.out.but.trans c,rfl⟩
  simp only[hq]at a hF;obtain⟨rfl,g⟩:=hF;obtain⟨l,o⟩:=rdK d g c
  go_wp2_with fail
  refine(qgQ _ b {s with pos:=t} l.out.src).mono ?_;rintro e F ⟨c,hF⟩;rcases hy:qfK s.bs s.lim 4 t 0 with⟨f,i⟩|⟨y,v⟩
  ·simp only[hy]at a hF;subst a;obtain rfl:=(show qan f i e from hF)
   go_wp2;exact⟨rfl,l.out.but.trans c,rfl⟩
  simp only[hy]at a hF;obtain⟨rfl,g⟩:=hF;obtain⟨k,o⟩:=rdK l g c
  go_wp2_with fail
  refine(qkP y _).mono ?_;rintro e G ⟨rfl,rfl⟩;cases n:qvn y
  ·rw[n,if_neg (by decide)]at a;subst a
   go_wp2_with fail
   refine(qau _ b {s with pos:=v} _ k.out.src).mono ?_;rintro e z ⟨rfl,rfl⟩;go_wp2;exact⟨rfl,k.out.but,rfl⟩
  rw[n,if_pos rfl]at a;have B:=of_decide_eq_true (show decide (56320<=y/\y<=57343)=true from n);subst a;go_wp2;go_ret;exact⟨k.out.but,by first|rfl|(simp;omega),k.out.src⟩
 rw[r,if_pos rfl]at a;subst a
 go_wp2_with fail
 refine(qau _ b {s with pos:=q} _ d.out.src).mono ?_;rintro e z ⟨rfl,rfl⟩;go_wp2;exact⟨rfl,d.out.but,rfl⟩
def qlo(bs:List UInt8)(lim:Int)(p:Nat):Except (Int×Int) (Int×Nat):=match bs[p]? with
 |none=>.error (9,p)
 |some c=>if(p:Int)=lim then .error (8,p)else if c.toNat=34 then .ok (34,p+1)else if c.toNat=92 then .ok (92,p+1)else if c.toNat=47 then .ok (47,p+1)else if c.toNat=98 then .ok (8,p+1)else if c.toNat=102 then .ok (12,p+1)else if c.toNat=110 then .ok (10,p+1)else if c.toNat=114 then .ok (13,p+1)else if c.toNat=116 then .ok (9,p+1)else if c.toNat=117 then qfs bs lim (p+1)else .error (9,p)
theorem qhJ(W:World)(b:Nat)(s:Src)(h:qad W b s):Calls prog 199 #[.agg #[.pointer (some ⟨b,0,none⟩)]] W (qbU W b s (λx:Int=>.int .i32 x) (qlo s.bs s.lim s.pos)):=by
 have l:=qab (qaX h);obtain⟨R,B⟩:∃R,Hid (qlo s.bs s.lim s.pos=R):=⟨_,show _=_ from rfl⟩
 rw[B.out];have a:=B.out;unfold qlo at a;have A:=l.out.cell;clear h B;rcases qaR l.out.src with f|f|⟨c,f⟩
 ·rw[List.getElem?_eq_none (by have:s.pos=s.bs.length:=f;omega)]at a;subst a;have n:=qb1 _ b s l.out.src f;clear f;go_enter func199,ntmps199
  go_wp2_with(first
   |(go_at_call 186;refine n.mono ?_;clear n;rintro e I ⟨hF,k⟩;obtain rfl:=hF))
  exact⟨rfl,l.out.but.trans (But.of_below k),rfl⟩
 ·have E:=f.2;have F:=f.1;rw[List.getElem?_eq_getElem F]at a;simp only[]at a;rw[if_pos E]at a;subst a;have n:=qbd _ b s l.out.src f;clear f E F;go_enter func199,ntmps199
  go_wp2_with(first
   |(go_at_call 186;refine n.mono ?_;clear n;rintro e I ⟨hF,k⟩;obtain rfl:=hF))
  exact⟨rfl,l.out.but.trans (But.of_below k),rfl⟩
 have G:=f.1;have H:=f.2;rw[G]at a;simp only[]at a;rw[if_neg H]at a;have n:Calls prog 186 #[.pointer (some ⟨b,0,none⟩)] _ λe C=>e=.returned (.int .u8 c.toNat)/\qad C b {s with pos:=s.pos+1}/\But b _ C:=qaw _ b s c l.out.src f;clear f G H;go_enter func199,ntmps199
 go_wp2_with fail
 refine n.mono ?_;clear n A;rintro e I ⟨rfl,y,k⟩;obtain⟨d,A⟩:=rdK l y k;clear l y k;by_cases g:c.toNat=34
 ·rw[if_pos g]at a;subst a;have O:((c.toNat:Int)==34)=true:=by simp;omega
  have t:Hid (wrap32 (c.toNat:Int)=34):=by show _=_;unfold wrap32;omega
  clear g;go_wp2;go_ret;exact⟨d.out.but,by show Ending.returned (.int .i32 (wrap32 (c.toNat:Int)))=_;rw[t.out],d.out.src⟩
 rw[if_neg g]at a;have O:=nec (c:=c) 34 (by omega);by_cases i:c.toNat=92
 ·rw[if_pos i]at a;subst a;have Q:((c.toNat:Int)==92)=true:=by simp;omega
  have t:Hid (wrap32 (c.toNat:Int)=92):=by show _=_;unfold wrap32;omega
  clear g i;go_wp2;go_ret;exact⟨d.out.but,by show Ending.returned (.int .i32 (wrap32 (c.toNat:Int)))=_;rw[t.out],d.out.src⟩
 rw[if_neg i]at a;have Q:=nec (c:=c) 92 (by omega);by_cases j:c.toNat=47
 ·rw[if_pos j]at a;subst a;have P:((c.toNat:Int)==47)=true:=by simp;omega
  have t:Hid (wrap32 (c.toNat:Int)=47):=by show _=_;unfold wrap32;omega
  clear g i j;go_wp2;go_ret;exact⟨d.out.but,by show Ending.returned (.int .i32 (wrap32 (c.toNat:Int)))=_;rw[t.out],d.out.src⟩
 rw[if_neg j]at a;have P:=nec (c:=c) 47 (by omega);by_cases m:c.toNat=98
 ·rw[if_pos m]at a;subst a;have S:((c.toNat:Int)==98)=true:=by simp;omega
  clear g i j m;go_wp2;go_ret;exact⟨d.out.but,rfl,d.out.src⟩
 rw[if_neg m]at a;have S:=nec (c:=c) 98 (by omega);by_cases o:c.toNat=102
 ·rw[if_pos o]at a;subst a;have J:((c.toNat:Int)==102)=true:=by simp;omega
  clear g i j m o;go_wp2;go_ret;exact⟨d.out.but,rfl,d.out.src⟩
 rw[if_neg o]at a;have J:=nec (c:=c) 102 (by omega);by_cases p:c.toNat=110
 ·rw[if_pos p]at a;subst a;have K:((c.toNat:Int)==110)=true:=by simp;omega
  clear g i j m o p;go_wp2;go_ret;exact⟨d.out.but,rfl,d.out.src⟩
 rw[if_neg p]at a;have K:=nec (c:=c) 110 (by omega);by_cases r:c.toNat=114
 ·rw[if_pos r]at a;subst a;have L:((c.toNat:Int)==114)=true:=by simp;omega
  clear g i j m o p r;go_wp2;go_ret;exact⟨d.out.but,rfl,d.out.src⟩
 rw[if_neg r]at a;have L:=nec (c:=c) 114 (by omega);by_cases u:c.toNat=116
 ·rw[if_pos u]at a;subst a;have M:((c.toNat:Int)==116)=true:=by simp;omega
  clear g i j m o p r u;go_wp2;go_ret;exact⟨d.out.but,rfl,d.out.src⟩
 rw[if_neg u]at a;have M:=nec (c:=c) 116 (by omega);by_cases w:c.toNat=117
 ·rw[if_pos w]at a;have N:((c.toNat:Int)==117)=true:=by simp;omega
  clear g i j m o p r u w;have D:=λV (T:qad V b {s with pos:=s.pos+1})=>qkx V b {s with pos:=s.pos+1} T;have v:∀V,qad V b {s with pos:=s.pos+1}->Calls prog 206 #[.agg #[.pointer (some ⟨b,0,none⟩)]] V (qbU V b {s with pos:=s.pos+1} (λx:Int=>.int .i32 x) R):=by rw[<-a];exact D
  clear D a;rcases R with⟨X,Y⟩|⟨z,q⟩
  ·go_wp2_with(first
    |(go_at_call 206;refine(v _ d.out.src).mono ?_;clear v A;rintro e U ⟨k,hF⟩;obtain rfl:=hF))
   exact⟨rfl,d.out.but.trans k,rfl⟩
  go_wp2_with(first
   |(go_at_call 206;refine(v _ d.out.src).mono ?_;clear v A;rintro e U ⟨k,rfl,y⟩))
  go_ret;exact⟨d.out.but.trans k,rfl,y⟩
 rw[if_neg w]at a;have N:=nec (c:=c) 117 (by omega);subst a;clear g i j m o p r u w
 go_wp2_with(first
  |(go_at_call 187;refine(qau _ b {s with pos:=s.pos+1} _ d.out.src).mono ?_;rintro e Z ⟨hF,rfl⟩;obtain rfl:=hF))
 exact⟨rfl,d.out.but,by show qan _ _ _;unfold qan qd5;simp⟩

end
section
open Go.RowKit Go.Lib
theorem qqZ{l:List UInt8}{c:UInt8}(a:qus l=true)(h:qbC l c=1):qus (l++[c])=true:=by
 match l,a with
 |[],_ =>
  unfold qbC at h;simp only[]at h;split at h
  ·cases h
  split at h
  ·cases h
  exact decide_eq_true (by omega)
 |[b0],a =>
  have d:=of_decide_eq_true a;unfold qbC at h;simp only[]at h;split at h
  ·cases h
  split at h
  ·cases h
  exact decide_eq_true (by omega)
 |[b0,b1],a =>
  have d:=of_decide_eq_true a;have e:=qi6 (b:=b0) (by omega);unfold qbC at h;simp only[]at h;split at h
  ·cases h
  split at h
  ·cases h
  exact decide_eq_true (by omega)
 |[b0,b1,b2],a =>
  unfold qbC at h;simp only[]at h;split at h
  ·cases h
  cases h
def qcT(bs:List UInt8)(lim:Int):Nat->Nat->List UInt8->Nat->Except (Int×Int) (List UInt8×Nat)
 |0,p,_,_=>.error (9,p)
 |g+1,p,acc,wh=>match bs[p]? with
  |none=>.error (9,p)
  |some c=>if(p:Int)=lim then .error (8,p)else
   if c.toNat=34/\wh=acc.length then .ok (acc,p+1)else
   if c.toNat=92/\wh=acc.length then(match qlo bs lim (p+1)with
    |.error e=>.error e
    |.ok (r,q)=>qcT bs lim g q (acc++qbN r) (acc++qbN r).length)else
   if c.toNat<32 then .error (9,p)else if qbC (acc.drop wh) c=0 then .error (9,p)else
   qcT bs lim g (p+1) (acc++[c]) (if qbC (acc.drop wh) c=2 then acc.length+1 else wh)
theorem qnK(h:qfs bs lim p=.ok (r,q)):(0<=r/\r<=1114111)/\p+4<=q:=by
 unfold qfs at h;split at h
 ·cases h
 next x q1 hx =>
 obtain⟨a,d⟩:=qjs hx;split at h
 ·cases h
 split at h
 ·next hhi =>
  have b:=of_decide_eq_true (show decide (55296<=x/\x<=56319)=true from hhi);split at h
  ·cases h
  next q2 hr =>
  split at h
  ·cases h
  next y q3 hy =>
  obtain⟨e,f⟩:=qjs hy;split at h
  ·next hlo =>
   have c:=of_decide_eq_true (show decide (56320<=y/\y<=57343)=true from hlo);cases h;have:q1<=q2:=by
    unfold qaQ at hr;split at hr
    ·cases hr
    split at hr
    ·cases hr
    split at hr
    ·unfold qaQ at hr;split at hr
     ·cases hr
     split at hr
     ·cases hr
     split at hr
     ·unfold qaQ at hr;cases hr;omega
     cases hr
    cases hr
   omega
  cases h
 cases h;simp at a;omega
theorem qkQ(h:qlo bs lim p=.ok (r,q)):(0<=r/\r<=1114111)/\p+1<=q:=by
 unfold qlo at h;split at h
 ·cases h
 split at h
 ·cases h
 repeat' split at h
 all_goals first
  |(cases h;omega)
  |(have:=qnK h;omega)
  |cases h
theorem qk5{wf:Nat}{c:UInt8}(d:wh<=acc.length)(e:qus (acc.drop wh)=true)(f:¬qbC (acc.drop wh) c=0)(a:(if qbC (acc.drop wh) c=2 then acc.length+1 else wh)=wf):qus ((acc++[c]).drop wf)=true:=by
 by_cases b:qbC (acc.drop wh) c=2
 ·rw[if_pos b]at a;subst a;rw[List.drop_eq_nil_of_le (by simp)];rfl
 rw[if_neg b]at a;subst a;rw[List.drop_append_of_le_length d];refine qqZ e ?_;have g:qbC (acc.drop wh) c=0\/qbC (acc.drop wh) c=1\/qbC (acc.drop wh) c=2:=by
  unfold qbC
  repeat' split
  all_goals simp
 omega
theorem qhd{Q:Exit->Act->World->Prop}{a:Act}(h:Q .ret a w):Exit.noGoto Q .ret a w:=h
structure qjE(W:World)(b:Nat)(s:Src)(p:Nat)(acc:List UInt8)(wh:Nat)(V:World):Prop where
 src:qad V b {s with pos:=p}
 but:But b W V
 box:V.heap[W.heap.size]?=some (.cells #[.pointer (some ⟨b,0,none⟩)] 130)
 gat:qcz V (W.heap.size+1) (W.heap.size+2) acc wh
theorem qjE.take(h:qjE W b s p acc wh V)(d:b<W.heap.size)(c:qad V' b {s with pos:=q})(a:But b V V'):qjE W b s q acc wh V' :=
 ⟨c,h.but.trans a,(a.block _ (ltA h.box) (by omega)).trans h.box,h.gat.but a (by omega) (by omega)⟩
theorem qjE.below(h:qjE W b s p acc wh V)(a:Below V.heap.size V V'):qjE W b s p acc wh V' :=
 ⟨h.src.below a,h.but.trans (But.of_below a),(a.block _ (ltA h.box)).trans h.box,h.gat.below a⟩
theorem qjE.keep{acc':List UInt8}{wh':Nat}(h:qjE W b s p acc wh V)(d:qad W b s)(a:qdc (W.heap.size+1) (W.heap.size+2) V V')(e:qcz V' (W.heap.size+1) (W.heap.size+2) acc' wh'):qjE W b s p acc' wh' V' :=
 ⟨d.same rfl rfl h.src (λk c=>a.block k (by omega) (by omega)),⟨a.os.trans h.but.os,a.tape.trans h.but.tape,a.output.trans h.but.output,Nat.le_trans h.but.size a.size,λk c f=>(a.block k (by omega) (by omega)).trans (h.but.block k c f)⟩,(a.block _ (by omega) (by omega)).trans h.box,e⟩
theorem ql6:∀w:World,(convert 35 9 (.slice none 0 0)).run prog w=.ok (.string ⟨#[]⟩) w:=λw=>by kernel_rfl
theorem qiA(h:Own W base v bs):(convert 35 9 v).run prog W=.ok (.string ⟨bs.toArray⟩) W:=by
 have b:=h;obtain⟨⟨k,d⟩,l,m⟩:=h;rcases d with⟨rfl,c⟩|⟨g,a,i,rfl,n⟩
 ·have:bs=[]:=List.eq_nil_of_length_eq_zero c;subst this;exact ql6 W
 refine run_convert_bytes_back W 35 9 5 ⟨g,0,none⟩ a bs underlying35 underlying5 underlying9 ?_;intro j f;have e:(⟨g,0,none⟩:Addr).add j=⟨g,j,none⟩:=by by_cases h:j=0<;>simp[Addr.add,h]
 rw[e];exact(qcG b).2 j f
theorem qvw(h:qad W b s):qjE W b s s.pos [] 0 ((W.alloc (.cells #[.pointer (some ⟨b,0,none⟩)] 130)).alloc (.cells #[.slice none 0 0,.int .i64 0] 303)):=by
 have a:Below W.heap.size W ((W.alloc (.cells #[.pointer (some ⟨b,0,none⟩)] 130)).alloc (.cells #[.slice none 0 0,.int .i64 0] 303)):=(bwA).alloc (by simp) _;have c:=qac (W.alloc (.cells #[.pointer (some ⟨b,0,none⟩)] 130)) (.cells #[.slice none 0 0,.int .i64 0] 303);rw[World.size_alloc]at c;refine⟨h.below a,But.of_below a,?_,⟨⟨_,c,?_⟩,by omega,Nat.le_refl _⟩⟩
 ·have d:=qac W (.cells #[.pointer (some ⟨b,0,none⟩)] 130);exact(Below.heap_alloc _ _ _ (by simp)).trans d
 refine⟨World.ownsRow_nil _ _ _ _,?_,none,0,0,rfl⟩;simp
theorem qf4(W:World)(b:Nat)(s:Src)(h:qad W b s)(ht:U8 W)(h7:7<b)(ax:s.bs.length<=200000000):Calls prog 191 #[.agg #[.pointer (some ⟨b,0,none⟩)]] W (qbU W b s (λl:List UInt8=>.string ⟨l.toArray⟩) (qcT s.bs s.lim (s.bs.length+1-s.pos) s.pos [] 0)):=by
 have ak:=qab (qvw h);have P:=qab h;have Q:=qab ht;have C:=ltA h.row;have ar:=h.le;obtain⟨R,F⟩:∃R,Hid (qcT s.bs s.lim (s.bs.length+1-s.pos) s.pos [] 0=R):=⟨_,show _=_ from rfl⟩
 rw[F.out];go_enter func191,ntmps191;go_wp2;go_step3;go_wp2;go_step3;go_wp2;generalize(W.alloc (.cells #[.pointer (some ⟨b,0,none⟩)] 130)).alloc (.cells #[.slice none 0 0,.int .i64 0] 303)=W0 at *
 go_loopg[4,8] (s.bs.length+1-s.pos) (λg _ _ wr=>∃(p:Nat) (f:List UInt8) (j:Nat),Hid (s.bs.length+1<=p+g)/\Hid (p<=s.bs.length)/\Hid (f.length<=4*p)/\Hid (qus (f.drop j)=true)/\Hid (qjE W b s p f j wr)/\Hid (qcT s.bs s.lim g p f j=R))
 case atStart=>exact⟨s.pos,[],0,by show _<=_;omega,ar,by show 0<=_;omega,rfl,ak,F⟩
 case round =>
  obtain⟨p,f,j,hg,hp,M,af,m,F⟩:=hrel;obtain⟨g,rfl⟩:∃g,gk=g+1:=⟨gk-1,by have:=hg.out;have:=hp.out;omega⟩
  have t:=qaa m.out.box 0;have HU:Hid (∀V,But b W V->U8 V):=by
   show∀V,_;intro V B;have i:∀(q off:Nat) (aa:Value),q<=7->W.cell? ⟨q,off,none⟩=some aa->V.cell? ⟨q,off,none⟩=some aa:=λq off aa hq hv=>(World.cell?_of_block (w:=W) (B.block q (by omega) (by omega))).trans hv;exact⟨λc ao=>i _ _ _ (by decide) (Q.out.1 c ao),λag hi=>⟨i _ _ _ (by decide) (Q.out.2 ag hi).1,i _ _ _ (by decide) (Q.out.2 ag hi).2⟩⟩
  rcases qaR m.out.src with u|u|⟨c,u⟩
  ·have N:Hid (R=.error (9,(p:Int))):=by
    show _=_;rw[<-F.out,qcT,List.getElem?_eq_none (by have:p=s.bs.length:=u;omega)]
   have z:=qb1 _ b {s with pos:=p} m.out.src u
   go_wp2_with(first
    |(go_at_call 186;refine z.mono ?_;rintro e D ⟨hF,d⟩;obtain rfl:=hF))
   rw[N.out];exact⟨rfl,m.out.but.trans (But.of_below d),rfl⟩
  ·have N:Hid (R=.error (8,(p:Int))):=by
    show _=_;have h2:(p:Int)=s.lim:=u.2;have h3:p<s.bs.length:=u.1;rw[<-F.out,qcT,List.getElem?_eq_getElem h3];simp only[];rw[if_pos h2]
   have z:=qbd _ b {s with pos:=p} m.out.src u
   go_wp2_with(first
    |(go_at_call 186;refine z.mono ?_;rintro e D ⟨hF,d⟩;obtain rfl:=hF))
   rw[N.out];exact⟨rfl,m.out.but.trans (But.of_below d),rfl⟩
  have ap:s.bs[p]?=some c:=u.1;have aq:¬(p:Int)=s.lim:=u.2;have ai:Hid (p<s.bs.length):=u.lt;have k:=F.out;rw[qcT,ap]at k;simp only[]at k;rw[if_neg aq]at k;have z:Calls prog 186 #[.pointer (some ⟨b,0,none⟩)] wr λe W'=>e=.returned (.int .u8 c.toNat)/\qad W' b {s with pos:=p+1}/\But b wr W':=qaw _ b {s with pos:=p} c m.out.src u;have A:=λV (B:qjE W b s (p+1) f j V)=>qhk V (W.heap.size+1) (W.heap.size+2) f j B.gat;have hC:(j=f.length/\c.toNat=34)\/(j=f.length/\c.toNat=92)\/(j=f.length/\c.toNat≠34/\c.toNat≠92)\/(j≠f.length/\c.toNat=34)\/(j≠f.length/\c.toNat=92)\/(j≠f.length/\c.toNat≠34/\c.toNat≠92):=by omega
  rcases hC with⟨y,H⟩|⟨y,I⟩|⟨y,H,I⟩|⟨y,H⟩|⟨y,I⟩|⟨y,H,I⟩
  ·rw[decide_eq_true y]at A;rw[if_pos ⟨H,y⟩]at k;subst k;have U:((c.toNat:Int)==34)=true:=by simp;omega
   go_wp2_with(first
    |(go_at_call 186;refine z.mono ?_;rintro e D ⟨rfl,o,d⟩;have a:=qab (m.out.take C o d))
    |(go_at_call 197;refine(A _ a.out).mono ?_;rintro e E ⟨rfl,d⟩;have n:=qab (a.out.below d);obtain⟨v3,r3,o3⟩:=n.out.gat.row;obtain⟨_,_,a3,n3,c3,rfl⟩:=(show Own E _ _ _ from o3);have au:=qiA o3;have k3:=qaa r3 0))
   refine qhd ?_;go_ret;exact⟨n.out.but,rfl,n.out.src⟩
  ·rw[decide_eq_true y]at A;rw[if_neg (λhh=>by omega),if_pos ⟨I,y⟩]at k;have U:=nec (c:=c) 34 (by omega);have ae:((c.toNat:Int)==92)=true:=by simp;omega
   have cE:=λV (B:qjE W b s (p+1) f j V)=>qhJ V b {s with pos:=p+1} B.src;rcases he:qlo s.bs s.lim (p+1)with⟨en,pl⟩|⟨r,q⟩
   ·rw[he]at k;have T:∀V,qjE W b s (p+1) f j V->Calls prog 199 #[.agg #[.pointer (some ⟨b,0,none⟩)]] V (qbU V b {s with pos:=p+1} (λx:Int=>.int .i32 x) (.error (en,pl))):=by rw[<-he];exact cE
    subst k
    go_wp2_with(first
     |(go_at_call 186;refine z.mono ?_;rintro e D ⟨rfl,o,d⟩;have a:=qab (m.out.take C o d);have t:=qaa a.out.box 0)
     |(go_at_call 197;refine(A _ a.out).mono ?_;rintro e E ⟨rfl,d⟩;have n:=qab (a.out.below d);have a:=n;have t:=qaa a.out.box 0)
     |(go_at_call 199;refine(T _ a.out).mono ?_;rintro e w5 ⟨d,hF⟩;obtain rfl:=hF))
    exact⟨rfl,a.out.but.trans d,rfl⟩
   rw[he]at k;simp only[]at k;have T:∀V,qjE W b s (p+1) f j V->Calls prog 199 #[.agg #[.pointer (some ⟨b,0,none⟩)]] V (qbU V b {s with pos:=p+1} (λx:Int=>.int .i32 x) (.ok (r,q))):=by rw[<-he];exact cE
   have v:=qkQ he;have av:=v.1.1;have aw:=v.1.2;have ab:=qab v.2;have O:=qab k;have cC:=λV (B:qjE W b s q f j V)=>qfW V (W.heap.size+1) (W.heap.size+2) f j r (by omega) (by omega) B.gat (by have:=M.out;have:=hp.out;omega);have aj:=qab ((qcl r).2)
   go_wp2_with(first
    |(go_at_call 186;refine z.mono ?_;rintro e D ⟨rfl,o,d⟩;have a:=qab (m.out.take C o d);have t:=qaa a.out.box 0)
    |(go_at_call 197;refine(A _ a.out).mono ?_;rintro e E ⟨rfl,d⟩;have n:=qab (a.out.below d);have a:=n;have t:=qaa a.out.box 0)
    |(go_at_call 199;refine(T _ a.out).mono ?_;rintro e w5 ⟨d,rfl,o⟩;have ac:=qab (a.out.take C o d))
    |(go_at_call 198;refine(cC _ ac.out).mono ?_;rintro e w6 ⟨rfl,an,am⟩;have ad:=qab (ac.out.keep P.out an am)))
   go_roundg g
   case measure=>omega
   case rel=>exact⟨q,f++qbN r,(f++qbN r).length,by show _<=_;have:=hg.out;have:=ab.out;omega,ad.out.src.le,by show _<=_;rw[List.length_append];have:=M.out;have:=ab.out;have:=aj.out;omega,by show _=_;rw[List.drop_length];rfl,ad,O⟩
  all_goals
   first|rw[decide_eq_true y]at A|rw[decide_eq_false y]at A
   first|have U:((c.toNat:Int)==34)=true:=(by simp;omega)|have U:=nec (c:=c) 34 (by omega)
   first|have ae:((c.toNat:Int)==92)=true:=(by simp;omega)|have ae:=nec (c:=c) 92 (by omega)
   rw[if_neg (λhh=>by omega),if_neg (λhh=>by omega)]at k;by_cases L:c.toNat<32
   ·rw[if_pos L]at k;subst k;have al:decide ((c.toNat:Int)<32)=true:=by simp;omega
    first
    |exact absurd L (by omega)
    |clear L
     try clear H
     try clear I
     go_wp2_with(first
      |(go_at_call 186;refine z.mono ?_;rintro e D ⟨rfl,o,d⟩;have a:=qab (m.out.take C o d);have t:=qaa a.out.box 0)
      |(go_at_call 197;refine(A _ a.out).mono ?_;rintro e E ⟨rfl,d⟩;have n:Hid (qjE W b s (p+1) f j E):=a.out.below d;have a:=n;have t:=qaa a.out.box 0)
      |(go_at_call 187;refine(qau _ b {s with pos:=p+1} _ a.out.src).mono ?_;rintro e w7 ⟨hF,rfl⟩;obtain rfl:=hF))
     exact⟨rfl,a.out.but,by show qan _ _ _;unfold qan qd5;simp⟩
   rw[if_neg L]at k;have al:decide ((c.toNat:Int)<32)=false:=by simp;omega
   try clear H
   try clear I
   obtain⟨wf,S⟩:∃wf,Hid ((if qbC (f.drop j) c=2 then f.length+1 else j)=wf):=⟨_,show _=_ from rfl⟩
   have J:=λV (B:qjE W b s (p+1) f j V)=>qpW V (W.heap.size+1) (W.heap.size+2) f j c B.gat af.out (HU.out V B.but) (by omega) (by have:=M.out;have:=hp.out;omega);rw[S.out]at J;by_cases K:qbC (f.drop j) c=0
   ·rw[if_pos K]at k;subst k;have Z:(qbC (f.drop j) c != 0)=false:=by rw[K];rfl
    rw[Z]at J
    go_wp2_with(first
     |(go_at_call 186;refine z.mono ?_;rintro e D ⟨rfl,o,d⟩;have a:=qab (m.out.take C o d);have t:=qaa a.out.box 0)
     |(go_at_call 197;refine(A _ a.out).mono ?_;rintro e E ⟨rfl,d⟩;have n:=qab (a.out.below d);have a:=n;have t:=qaa a.out.box 0)
     |(go_at_call 200;refine(J _ a.out).mono ?_;rintro e w4 ⟨rfl,Y,X⟩;have G:=qab (a.out.keep P.out Y X);have t:=qaa G.out.box 0)
     |(go_at_call 187;refine(qau _ b {s with pos:=p+1} _ G.out.src).mono ?_;rintro e w7 ⟨hF,rfl⟩;obtain rfl:=hF))
    exact⟨rfl,G.out.but,by show qan _ _ _;unfold qan qd5;simp⟩
   rw[if_neg K,S.out]at k;have O:=qab k;have Z:(qbC (f.drop j) c != 0)=true:=by simpa using K
   rw[Z]at J;have ah:=qab (qk5 m.out.gat.le af.out K S.out)
   go_wp2_with(first
    |(go_at_call 186;refine z.mono ?_;rintro e D ⟨rfl,o,d⟩;have a:=qab (m.out.take C o d);have t:=qaa a.out.box 0)
    |(go_at_call 197;refine(A _ a.out).mono ?_;rintro e E ⟨rfl,d⟩;have n:=qab (a.out.below d);have a:=n;have t:=qaa a.out.box 0)
    |(go_at_call 200;refine(J _ a.out).mono ?_;rintro e w4 ⟨rfl,Y,X⟩;have G:=qab (a.out.keep P.out Y X);have t:=qaa G.out.box 0))
   go_roundg g
   case measure=>omega
   case rel=>exact⟨p+1,f++[c],wf,by show _<=_;have:=hg.out;omega,ai,by show _<=_;rw[List.length_append];have:=M.out;simp;omega,ah,G,O⟩

end
end Go.Proofs.YtpifimohecagoaaGreatDoor
