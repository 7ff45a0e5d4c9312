import Derived.Test.YtmajcjammmjimaaGreatDoorCq07
set_option maxRecDepth 100000
set_option maxHeartbeats 8000000
set_option linter.all false
namespace Go.Proofs.YtmajcjammmjimaaGreatDoor
open Go.Proofs.Tryz
variable{c d k:Int}{s:Nat}{W W' W0 w:World}{arr:Array Value}{ea:Option Addr}{L:List (Int×Int)}
section
open Go.RowKit Go.Lib
theorem qpr:∀x:Fin 24,bits .or .u8 96 (x.val:Int)=((96+x.val:Nat):Int):=by decide
theorem qwB(W:World)(b e:Nat)(v:Value)(bs:List UInt8)(x:Nat)(R:x<4294967296)(Q:bs.length<=999999999)(h:qh3 W b e v bs):Calls prog 93 #[v,.int .u64 x] W λr G=>∃j,r=.returned j/\qh3 G b e j (bs++qa1 x)/\qh5 b e W G:=by
 obtain⟨B,w,y,z,A⟩:=kaF Tryz.infoU8;have P:=h.1.2.1;obtain⟨a,n,c,rfl⟩:=h.1.2.2;have k:=qab h;by_cases s:x<32
 ·have p:Hid (qa1 x=[UInt8.ofNat (160+x)]):=by show _=_;unfold qa1;rw[kag s]
  have J:=qis ⟨x,s⟩;simp only[]at J;have N:Hid (qax (UInt8.ofNat (160+x))=.int .u8 (bits .or .u8 160 (x:Int))):=by show _=_;rw[J,qba _ (by omega)]
  have O:Hid (qax (UInt8.ofNat (160+x))=.int .u8 (160+(x:Int))):=by show _=_;rw[qba _ (by omega)];simp
  go_enter func93,ntmps93
  go_wp2_with(first
   |(at_builtin;refine kbe _ rfl _ _ 27 rfl b 5 B (.int .u8 0) 1 1 underlying27 w y z A rfl (by decide) _ _ _ rfl (k.out.1.1.alloc _) ⟨W.heap.size,0,none⟩ 1 1 [.int .u8 (bits .or .u8 160 (x:Int))] rfl rfl (qag _ _ _) (λu f=>by simp at f;subst f;rfl) (by unfold maxLen;omega) (by omega) (by simp;omega) ?_;intro j g d m E l;have i:=qab (qbI k.out N.out d m l);obtain⟨D,C,rfl⟩:=ownsRow_succ d)
   |(at_builtin;refine kbe _ rfl _ _ 27 rfl b 5 B (.int .u8 0) 1 1 underlying27 w y z A rfl (by decide) _ _ _ rfl (k.out.1.1.alloc _) ⟨W.heap.size,0,none⟩ 1 1 [.int .u8 (160+(x:Int))] rfl rfl (qag _ _ _) (λu f=>by simp at f;subst f;rfl) (by unfold maxLen;omega) (by omega) (by simp;omega) ?_;intro j g d m E l;have i:Hid (qh3 g b e j (bs++[UInt8.ofNat (160+x)])/\qh5 b e W g):=qbI k.out O.out d m l;obtain⟨D,C,rfl⟩:=ownsRow_succ d))
  go_ret;rw[p.out];exact⟨_,rfl,i.out⟩
 by_cases F:x<=255
 ·have p:Hid (qa1 x=217::beF x 1):=by show _=_;unfold qa1;rw[kac s];rw[kag F]
  go_enter func93,ntmps93
  go_wp2_with(first
   |(at_builtin;refine kbe _ rfl _ _ 27 rfl b 5 B (.int .u8 0) 1 1 underlying27 w y z A rfl (by decide) _ _ _ rfl (k.out.1.1.alloc _) ⟨W.heap.size,0,none⟩ 1 1 [.int .u8 217] rfl rfl (qag _ _ _) (λu f=>by simp at f;subst f;rfl) (by unfold maxLen;omega) (by omega) (by simp;omega) ?_;intro j g d m E l;have i:Hid (qh3 g b e j (bs++[217])/\qh5 b e W g):=qbI k.out rfl d m l;obtain⟨D,C,rfl⟩:=ownsRow_succ d)
   |(go_at_call 92;refine(qcg _ b e _ _ x 1 (by omega) (by omega) (by simp;omega) i.out.1).mono ?_;rintro r M ⟨L,rfl,o,t⟩;obtain⟨H,K,I,rfl⟩:=o.1.2.2;have q:=qab (qdL i.out o t (p.out.symm))))
  go_ret;exact⟨_,rfl,q.out⟩
 by_cases c2:x<=65535
 ·have p:Hid (qa1 x=218::beF x 2):=by show _=_;unfold qa1;rw[kac s];rw[kac F];rw[kag c2]
  go_enter func93,ntmps93
  go_wp2_with(first
   |(at_builtin;refine kbe _ rfl _ _ 27 rfl b 5 B (.int .u8 0) 1 1 underlying27 w y z A rfl (by decide) _ _ _ rfl (k.out.1.1.alloc _) ⟨W.heap.size,0,none⟩ 1 1 [.int .u8 218] rfl rfl (qag _ _ _) (λu f=>by simp at f;subst f;rfl) (by unfold maxLen;omega) (by omega) (by simp;omega) ?_;intro j g d m E l;have i:Hid (qh3 g b e j (bs++[218])/\qh5 b e W g):=qbI k.out rfl d m l;obtain⟨D,C,rfl⟩:=ownsRow_succ d)
   |(go_at_call 92;refine(qcg _ b e _ _ x 2 (by omega) (by omega) (by simp;omega) i.out.1).mono ?_;rintro r M ⟨L,rfl,o,t⟩;obtain⟨H,K,I,rfl⟩:=o.1.2.2;have q:=qab (qdL i.out o t (p.out.symm))))
  go_ret;exact⟨_,rfl,q.out⟩
 have p:Hid (qa1 x=219::beF x 4):=by show _=_;unfold qa1;rw[kac s];rw[kac F];rw[kac c2]
 go_enter func93,ntmps93
 go_wp2_with(first
  |(at_builtin;refine kbe _ rfl _ _ 27 rfl b 5 B (.int .u8 0) 1 1 underlying27 w y z A rfl (by decide) _ _ _ rfl (k.out.1.1.alloc _) ⟨W.heap.size,0,none⟩ 1 1 [.int .u8 219] rfl rfl (qag _ _ _) (λu f=>by simp at f;subst f;rfl) (by unfold maxLen;omega) (by omega) (by simp;omega) ?_;intro j g d m E l;have i:Hid (qh3 g b e j (bs++[219])/\qh5 b e W g):=qbI k.out rfl d m l;obtain⟨D,C,rfl⟩:=ownsRow_succ d)
  |(go_at_call 92;refine(qcg _ b e _ _ x 4 (by omega) (by omega) (by simp;omega) i.out.1).mono ?_;rintro r M ⟨L,rfl,o,t⟩;obtain⟨H,K,I,rfl⟩:=o.1.2.2;have q:=qab (qdL i.out o t (p.out.symm))))
 go_ret;exact⟨_,rfl,q.out⟩
theorem qvj(W:World)(b e:Nat)(v:Value)(bs:List UInt8)(x:Nat)(R:x<4294967296)(Q:bs.length<=999999999)(h:qh3 W b e v bs):Calls prog 70 #[v,.int .u8 3,.int .u64 x] W λr G=>∃j,r=.returned j/\qh3 G b e j (bs++qaj 3 x)/\qh5 b e W G:=by
 obtain⟨B,w,y,z,A⟩:=kaF Tryz.infoU8;have P:=h.1.2.1;obtain⟨a,n,c,rfl⟩:=h.1.2.2;have k:=qab h;by_cases s:x<24
 ·have p:Hid (qaj 3 x=[UInt8.ofNat (96+x)]):=by show _=_;unfold qaj;rw[kag s]
  have J:=qpr ⟨x,s⟩;simp only[]at J;have N:Hid (qax (UInt8.ofNat (96+x))=.int .u8 (bits .or .u8 96 (x:Int))):=by show _=_;rw[J,qba _ (by omega)]
  have O:Hid (qax (UInt8.ofNat (96+x))=.int .u8 (96+(x:Int))):=by show _=_;rw[qba _ (by omega)];simp
  go_enter func70,ntmps70
  go_wp2_with(first
   |(at_builtin;refine kbe _ rfl _ _ 27 rfl b 5 B (.int .u8 0) 1 1 underlying27 w y z A rfl (by decide) _ _ _ rfl (k.out.1.1.alloc _) ⟨W.heap.size,0,none⟩ 1 1 [.int .u8 (bits .or .u8 96 (x:Int))] rfl rfl (qag _ _ _) (λu f=>by simp at f;subst f;rfl) (by unfold maxLen;omega) (by omega) (by simp;omega) ?_;intro j g d m E l;have i:=qab (qbI k.out N.out d m l);obtain⟨D,C,rfl⟩:=ownsRow_succ d)
   |(at_builtin;refine kbe _ rfl _ _ 27 rfl b 5 B (.int .u8 0) 1 1 underlying27 w y z A rfl (by decide) _ _ _ rfl (k.out.1.1.alloc _) ⟨W.heap.size,0,none⟩ 1 1 [.int .u8 (96+(x:Int))] rfl rfl (qag _ _ _) (λu f=>by simp at f;subst f;rfl) (by unfold maxLen;omega) (by omega) (by simp;omega) ?_;intro j g d m E l;have i:Hid (qh3 g b e j (bs++[UInt8.ofNat (96+x)])/\qh5 b e W g):=qbI k.out O.out d m l;obtain⟨D,C,rfl⟩:=ownsRow_succ d))
  go_ret;rw[p.out];exact⟨_,rfl,i.out⟩
 by_cases F:x<=255
 ·have p:Hid (qaj 3 x=120::beF x 1):=by show _=_;unfold qaj;rw[kac s];rw[kag F];rfl
  go_enter func70,ntmps70
  go_wp2_with(first
   |(at_builtin;refine kbe _ rfl _ _ 27 rfl b 5 B (.int .u8 0) 1 1 underlying27 w y z A rfl (by decide) _ _ _ rfl (k.out.1.1.alloc _) ⟨W.heap.size,0,none⟩ 1 1 [.int .u8 120] rfl rfl (qag _ _ _) (λu f=>by simp at f;subst f;rfl) (by unfold maxLen;omega) (by omega) (by simp;omega) ?_;intro j g d m E l;have i:Hid (qh3 g b e j (bs++[120])/\qh5 b e W g):=qbI k.out rfl d m l;obtain⟨D,C,rfl⟩:=ownsRow_succ d)
   |(go_at_call 92;refine(qcg _ b e _ _ x 1 (by omega) (by omega) (by simp;omega) i.out.1).mono ?_;rintro r M ⟨L,rfl,o,t⟩;obtain⟨H,K,I,rfl⟩:=o.1.2.2;have q:=qab (qdL i.out o t (p.out.symm))))
  go_ret;exact⟨_,rfl,q.out⟩
 by_cases c2:x<=65535
 ·have p:Hid (qaj 3 x=121::beF x 2):=by show _=_;unfold qaj;rw[kac s];rw[kac F];rw[kag c2];rfl
  go_enter func70,ntmps70
  go_wp2_with(first
   |(at_builtin;refine kbe _ rfl _ _ 27 rfl b 5 B (.int .u8 0) 1 1 underlying27 w y z A rfl (by decide) _ _ _ rfl (k.out.1.1.alloc _) ⟨W.heap.size,0,none⟩ 1 1 [.int .u8 121] rfl rfl (qag _ _ _) (λu f=>by simp at f;subst f;rfl) (by unfold maxLen;omega) (by omega) (by simp;omega) ?_;intro j g d m E l;have i:Hid (qh3 g b e j (bs++[121])/\qh5 b e W g):=qbI k.out rfl d m l;obtain⟨D,C,rfl⟩:=ownsRow_succ d)
   |(go_at_call 92;refine(qcg _ b e _ _ x 2 (by omega) (by omega) (by simp;omega) i.out.1).mono ?_;rintro r M ⟨L,rfl,o,t⟩;obtain⟨H,K,I,rfl⟩:=o.1.2.2;have q:=qab (qdL i.out o t (p.out.symm))))
  go_ret;exact⟨_,rfl,q.out⟩
 have p:Hid (qaj 3 x=122::beF x 4):=by show _=_;unfold qaj;rw[kac s];rw[kac F];rw[kac c2];rw[kag (by omega)];rfl
 go_enter func70,ntmps70
 go_wp2_with(first
  |(at_builtin;refine kbe _ rfl _ _ 27 rfl b 5 B (.int .u8 0) 1 1 underlying27 w y z A rfl (by decide) _ _ _ rfl (k.out.1.1.alloc _) ⟨W.heap.size,0,none⟩ 1 1 [.int .u8 122] rfl rfl (qag _ _ _) (λu f=>by simp at f;subst f;rfl) (by unfold maxLen;omega) (by omega) (by simp;omega) ?_;intro j g d m E l;have i:Hid (qh3 g b e j (bs++[122])/\qh5 b e W g):=qbI k.out rfl d m l;obtain⟨D,C,rfl⟩:=ownsRow_succ d)
  |(go_at_call 92;refine(qcg _ b e _ _ x 4 (by omega) (by omega) (by simp;omega) i.out.1).mono ?_;rintro r M ⟨L,rfl,o,t⟩;obtain⟨H,K,I,rfl⟩:=o.1.2.2;have q:=qab (qdL i.out o t (p.out.symm))))
 go_ret;exact⟨_,rfl,q.out⟩
theorem qpj(W:World)(b e:Nat)(v:Value)(bs l:List UInt8)(z:bs.length<=999999999)(I:l.length<=999999999)(h:qh3 W b e v bs):Calls prog 71 #[v,.string ⟨l.toArray⟩] W λr j=>∃g,r=.returned g/\Own j b g (bs++(qaj 3 l.length++l))/\qh5 b e W j:=by
 obtain⟨E,y,B,C,D⟩:=kaF Tryz.infoU8;have t:=qvj W b e v bs l.length (by omega) z h;have H:(qaj 3 l.length).length<=9:=by
  unfold qaj;have w:∀x k,(beF x k).length=k:=λx k=>by induction k with|zero=>rfl|succ k F=>rw[beF,kah,F]
  repeat' split
  all_goals simp[w]
 have p:(⟨l.toArray⟩:ByteArray).size=l.length:=kaT ..;obtain⟨a,n,c,rfl⟩:=h.1.2.2;go_enter func71,ntmps71
 go_wp2_with(first
  |(go_at_call 70;refine t.mono ?_;rintro r q ⟨L,rfl,m,u⟩;obtain⟨G,K,c2,rfl⟩:=m.1.2.2;have d:=qab m;have s:=qab u)
  |(at_builtin;refine wpList_append_own_string _ rfl _ _ 27 9 rfl b 5 E underlying27 underlying9 y B C D _ _ _ rfl d.out.1.1 ⟨l.toArray⟩ rfl (by rw[p,kaa];unfold maxLen;omega) (by rw[p,kaa];omega) d.out.1.2.1 ?_;intro g i A o J;have f:Hid ((Own i b g ((bs++qaj 3 l.length)++l)/\Below b q i)/\i.heap[e]?=q.heap[e]?):=⟨qaQ d.out.1 A o,o.block e d.out.2.2 (λx=>d.out.2.1 x.symm)⟩))
 go_ret;rw[kap]at f;exact⟨_,rfl,f.out.1.1,s.out.trans ⟨f.out.1.2,f.out.2⟩⟩
theorem qrq(W:World)(b e:Nat)(v:Value)(bs l:List UInt8)(z:bs.length<=999999999)(I:l.length<=999999999)(h:qh3 W b e v bs):Calls prog 74 #[v,.string ⟨l.toArray⟩] W λr j=>∃g,r=.returned g/\Own j b g (bs++(qa1 l.length++l))/\qh5 b e W j:=by
 obtain⟨E,y,B,C,D⟩:=kaF Tryz.infoU8;have t:=qwB W b e v bs l.length (by omega) z h;have H:(qa1 l.length).length<=9:=by
  unfold qa1;have w:∀x k,(beF x k).length=k:=λx k=>by induction k with|zero=>rfl|succ k F=>rw[beF,kah,F]
  repeat' split
  all_goals simp[w]
 have p:(⟨l.toArray⟩:ByteArray).size=l.length:=kaT ..;obtain⟨a,n,c,rfl⟩:=h.1.2.2;go_enter func74,ntmps74
 go_wp2_with(first
  |(go_at_call 93;refine t.mono ?_;rintro r q ⟨L,rfl,m,u⟩;obtain⟨G,K,c2,rfl⟩:=m.1.2.2;have d:=qab m;have s:=qab u)
  |(at_builtin;refine wpList_append_own_string _ rfl _ _ 27 9 rfl b 5 E underlying27 underlying9 y B C D _ _ _ rfl d.out.1.1 ⟨l.toArray⟩ rfl (by rw[p,kaa];unfold maxLen;omega) (by rw[p,kaa];omega) d.out.1.2.1 ?_;intro g i A o J;have f:Hid ((Own i b g ((bs++qa1 l.length)++l)/\Below b q i)/\i.heap[e]?=q.heap[e]?):=⟨qaQ d.out.1 A o,o.block e d.out.2.2 (λx=>d.out.2.1 x.symm)⟩))
 go_ret;rw[kap]at f;exact⟨_,rfl,f.out.1.1,s.out.trans ⟨f.out.1.2,f.out.2⟩⟩

end
section
open Go.RowKit
def qvo(x:Nat):Bool:=decide (56320<=x/\x<=57343)
def qyT(x:Nat):Bool:=decide (55296<=x/\x<=56319)
theorem qlh(x:Nat)(w:World):Calls prog 215 #[.int .i32 x] w λe d=>e=.returned (.bool (qvo x))/\d=w:=by
 unfold qvo;by_cases b:56320<=x
 ·by_cases c:x<=57343
  ·have a:decide ((x:Int)<=57343)=true:=by simp;omega
   rw[kax ⟨b,c⟩];go_enter func215,ntmps215;go_wp2;go_ret;exact⟨rfl,rfl⟩
  have a:decide ((x:Int)<=57343)=false:=by simp;omega
  rw[kaz (by omega)];go_enter func215,ntmps215;go_wp2;go_ret;exact⟨rfl,rfl⟩
 rw[kaz (by omega)];go_enter func215,ntmps215;go_wp2;go_ret;exact⟨rfl,rfl⟩
theorem qnP(x:Nat)(w:World):Calls prog 216 #[.int .i32 x] w λe d=>e=.returned (.bool (qyT x))/\d=w:=by
 unfold qyT;by_cases b:55296<=x
 ·by_cases c:x<=56319
  ·have a:decide ((x:Int)<=56319)=true:=by simp;omega
   rw[kax ⟨b,c⟩];go_enter func216,ntmps216;go_wp2;go_ret;exact⟨rfl,rfl⟩
  have a:decide ((x:Int)<=56319)=false:=by simp;omega
  rw[kaz (by omega)];go_enter func216,ntmps216;go_wp2;go_ret;exact⟨rfl,rfl⟩
 rw[kaz (by omega)];go_enter func216,ntmps216;go_wp2;go_ret;exact⟨rfl,rfl⟩
theorem qjF{bs:List UInt8}{lim:Int}:∀{k p a x q:Nat},qf5 bs lim k p a=.ok (x,q)->x<(a+1)*16^k/\q=p+k
 |0,p,a,x,q,h=>by
  unfold qf5 at h;cases h;simp
 |k+1,p,a,x,q,h=>by
  rw[qf5]at h;split at h
  ·cases h
  split at h
  ·cases h
  split at h
  ·cases h
  next d hd =>
  obtain⟨b,c⟩:=qjF h;have e:=qry hd;have f:(a*16+d+1)*16^k<=((a+1)*16)*16^k:=kcW _ (by omega);have g:((a+1)*16)*16^k=(a+1)*16^(k+1):=by rw[kdR,kce,kb9 16]
  exact⟨by omega,by omega⟩
def qfl(bs:List UInt8)(lim:Int)(p:Nat):Except (Int×Int) (Int×Nat):=match qf5 bs lim 4 p 0 with
 |.error e=>.error e
 |.ok (x,q)=>if qvo x=true then .error (9,(q:Int)-1)else if qyT x=true then(match qaO bs lim [92,117] q with
  |.error e=>.error e
  |.ok (_,q2)=>match qf5 bs lim 4 q2 0 with
   |.error e=>.error e
   |.ok (y,q3)=>if qvo y=true then .ok (65536+((x:Int)-55296)*1024+((y:Int)-56320),q3)else .error (9,(q3:Int)-1))else .ok (x,q)
theorem qle(W:World)(b:Nat)(s:Src)(h:qad W b s):Calls prog 208 #[.agg #[.pointer (some ⟨b,0,none⟩)]] W (qbV W b s (λx:Int=>.int .i32 x) (qfl s.bs s.lim s.pos)):=by
 have j:=qab (qaX h);obtain⟨R,p⟩:∃R,Hid (qfl s.bs s.lim s.pos=R):=⟨_,show _=_ from rfl⟩
 rw[p.out];have a:=p.out;unfold qfl at a;have o:=j.out.cell;have u:=qhg _ b s j.out.src;go_enter func208,ntmps208
 go_wp2_with fail
 refine u.mono ?_;rintro e D ⟨c,hF⟩;rcases hx:qf5 s.bs s.lim 4 s.pos 0 with⟨f,i⟩|⟨x,q⟩
 ·simp only[hx]at a hF;subst a;obtain rfl:=(show qan f i e from hF)
  go_wp2;exact⟨rfl,j.out.but.trans c,rfl⟩
 simp only[hx]at a hF;have C:=(qjF hx).1;obtain⟨rfl,g⟩:=hF;obtain⟨d,o⟩:=rdK j g c
 go_wp2_with fail
 refine(qlh x _).mono ?_;rintro e w ⟨rfl,rfl⟩;cases r:qvo x
 ·rw[r,kac (by decide)]at a
  go_wp2_with fail
  refine(qnP x _).mono ?_;rintro e w ⟨rfl,rfl⟩;cases m:qyT x
  ·rw[m,kac (by decide)]at a;subst a;go_wp2;go_ret;exact⟨d.out.but,rfl,d.out.src⟩
  rw[m,kag rfl]at a;have A:=kaq (show decide (55296<=x/\x<=56319)=true from m)
  go_wp2_with fail
  refine(qbA _ b {s with pos:=q} [92,117] (by decide) d.out.src).mono ?_;rintro e E ⟨c,hF⟩;rcases hq:qaO s.bs s.lim [92,117] q with⟨f,i⟩|⟨_,t⟩
  ·simp only[hq]at a hF;subst a;obtain rfl:=(show qan f i e from hF)
   go_wp2;exact⟨rfl,d.out.but.trans c,rfl⟩
  simp only[hq]at a hF;obtain⟨rfl,g⟩:=hF;obtain⟨l,o⟩:=rdK d g c
  go_wp2_with fail
  refine(qhg _ b {s with pos:=t} l.out.src).mono ?_;rintro e F ⟨c,hF⟩;rcases hy:qf5 s.bs s.lim 4 t 0 with⟨f,i⟩|⟨y,v⟩
  ·simp only[hy]at a hF;subst a;obtain rfl:=(show qan f i e from hF)
   go_wp2;exact⟨rfl,l.out.but.trans c,rfl⟩
  simp only[hy]at a hF;obtain⟨rfl,g⟩:=hF;obtain⟨k,o⟩:=rdK l g c
  go_wp2_with fail
  refine(qlh y _).mono ?_;rintro e G ⟨rfl,rfl⟩;cases n:qvo y
  ·rw[n,kac (by decide)]at a;subst a
   go_wp2_with fail
   refine(qav _ b {s with pos:=v} _ k.out.src).mono ?_;rintro e z ⟨rfl,rfl⟩;go_wp2;exact⟨rfl,k.out.but,rfl⟩
  rw[n,kag rfl]at a;have B:=kaq (show decide (56320<=y/\y<=57343)=true from n);subst a;go_wp2;go_ret;exact⟨k.out.but,by first|rfl|(simp;omega),k.out.src⟩
 rw[r,kag rfl]at a;subst a
 go_wp2_with fail
 refine(qav _ b {s with pos:=q} _ d.out.src).mono ?_;rintro e z ⟨rfl,rfl⟩;go_wp2;exact⟨rfl,d.out.but,rfl⟩
def qlv(bs:List UInt8)(lim:Int)(p:Nat):Except (Int×Int) (Int×Nat):=match bs[p]? with
 |none=>.error (9,p)
 |some c=>if(p:Int)=lim then .error (8,p)else if c.toNat=34 then .ok (34,p+1)else if c.toNat=92 then .ok (92,p+1)else if c.toNat=47 then .ok (47,p+1)else if c.toNat=98 then .ok (8,p+1)else if c.toNat=102 then .ok (12,p+1)else if c.toNat=110 then .ok (10,p+1)else if c.toNat=114 then .ok (13,p+1)else if c.toNat=116 then .ok (9,p+1)else if c.toNat=117 then qfl bs lim (p+1)else .error (9,p)
theorem qh8(W:World)(b:Nat)(s:Src)(h:qad W b s):Calls prog 201 #[.agg #[.pointer (some ⟨b,0,none⟩)]] W (qbV W b s (λx:Int=>.int .i32 x) (qlv s.bs s.lim s.pos)):=by
 have l:=qab (qaX h);obtain⟨R,B⟩:∃R,Hid (qlv s.bs s.lim s.pos=R):=⟨_,show _=_ from rfl⟩
 rw[B.out];have a:=B.out;unfold qlv at a;have A:=l.out.cell;clear h B;rcases qaT l.out.src with f|f|⟨c,f⟩
 ·rw[kaC (by have:s.pos=s.bs.length:=f;omega)]at a;subst a;have n:=qb0 _ b s l.out.src f;clear f;go_enter func201,ntmps201
  go_wp2_with(first
   |(go_at_call 188;refine n.mono ?_;clear n;rintro e I ⟨hF,k⟩;obtain rfl:=hF))
  exact⟨rfl,l.out.but.trans (But.of_below k),rfl⟩
 ·have E:=f.2;have F:=f.1;rw[kab F]at a;simp only[]at a;rw[kag E]at a;subst a;have n:=qbb _ b s l.out.src f;clear f E F;go_enter func201,ntmps201
  go_wp2_with(first
   |(go_at_call 188;refine n.mono ?_;clear n;rintro e I ⟨hF,k⟩;obtain rfl:=hF))
  exact⟨rfl,l.out.but.trans (But.of_below k),rfl⟩
 have G:=f.1;have H:=f.2;rw[G]at a;simp only[]at a;rw[kac H]at a;have n:Calls prog 188 #[.pointer (some ⟨b,0,none⟩)] _ λe C=>e=.returned (.int .u8 c.toNat)/\qad C b {s with pos:=s.pos+1}/\But b _ C:=qaw _ b s c l.out.src f;clear f G H;go_enter func201,ntmps201
 go_wp2_with fail
 refine n.mono ?_;clear n A;rintro e I ⟨rfl,y,k⟩;obtain⟨d,A⟩:=rdK l y k;clear l y k;by_cases g:c.toNat=34
 ·rw[kag g]at a;subst a;have O:((c.toNat:Int)==34)=true:=by simp;omega
  have t:Hid (wrap32 (c.toNat:Int)=34):=by show _=_;unfold wrap32;omega
  clear g;go_wp2;go_ret;exact⟨d.out.but,by show Ending.returned (.int .i32 (wrap32 (c.toNat:Int)))=_;rw[t.out],d.out.src⟩
 rw[kac g]at a;have O:=nec (c:=c) 34 (by omega);by_cases i:c.toNat=92
 ·rw[kag i]at a;subst a;have Q:((c.toNat:Int)==92)=true:=by simp;omega
  have t:Hid (wrap32 (c.toNat:Int)=92):=by show _=_;unfold wrap32;omega
  clear g i;go_wp2;go_ret;exact⟨d.out.but,by show Ending.returned (.int .i32 (wrap32 (c.toNat:Int)))=_;rw[t.out],d.out.src⟩
 rw[kac i]at a;have Q:=nec (c:=c) 92 (by omega);by_cases j:c.toNat=47
 ·rw[kag j]at a;subst a;have P:((c.toNat:Int)==47)=true:=by simp;omega
  have t:Hid (wrap32 (c.toNat:Int)=47):=by show _=_;unfold wrap32;omega
  clear g i j;go_wp2;go_ret;exact⟨d.out.but,by show Ending.returned (.int .i32 (wrap32 (c.toNat:Int)))=_;rw[t.out],d.out.src⟩
 rw[kac j]at a;have P:=nec (c:=c) 47 (by omega);by_cases m:c.toNat=98
 ·rw[kag m]at a;subst a;have S:((c.toNat:Int)==98)=true:=by simp;omega
  clear g i j m;go_wp2;go_ret;exact⟨d.out.but,rfl,d.out.src⟩
 rw[kac m]at a;have S:=nec (c:=c) 98 (by omega);by_cases o:c.toNat=102
 ·rw[kag o]at a;subst a;have J:((c.toNat:Int)==102)=true:=by simp;omega
  clear g i j m o;go_wp2;go_ret;exact⟨d.out.but,rfl,d.out.src⟩
 rw[kac o]at a;have J:=nec (c:=c) 102 (by omega);by_cases p:c.toNat=110
 ·rw[kag p]at a;subst a;have K:((c.toNat:Int)==110)=true:=by simp;omega
  clear g i j m o p;go_wp2;go_ret;exact⟨d.out.but,rfl,d.out.src⟩
 rw[kac p]at a;have K:=nec (c:=c) 110 (by omega);by_cases r:c.toNat=114
 ·rw[kag r]at a;subst a;have L:((c.toNat:Int)==114)=true:=by simp;omega
  clear g i j m o p r;go_wp2;go_ret;exact⟨d.out.but,rfl,d.out.src⟩
 rw[kac r]at a;have L:=nec (c:=c) 114 (by omega);by_cases u:c.toNat=116
 ·rw[kag u]at a;subst a;have M:((c.toNat:Int)==116)=true:=by simp;omega
  clear g i j m o p r u;go_wp2;go_ret;exact⟨d.out.but,rfl,d.out.src⟩
 rw[kac u]at a;have M:=nec (c:=c) 116 (by omega);by_cases w:c.toNat=117
 ·rw[kag w]at a;have N:((c.toNat:Int)==117)=true:=by simp;omega
  clear g i j m o p r u w;have D:=λV (T:qad V b {s with pos:=s.pos+1})=>qle V b {s with pos:=s.pos+1} T;have v:∀V,qad V b {s with pos:=s.pos+1}->Calls prog 208 #[.agg #[.pointer (some ⟨b,0,none⟩)]] V (qbV V b {s with pos:=s.pos+1} (λx:Int=>.int .i32 x) R):=by rw[<-a];exact D
  clear D a;rcases R with⟨X,Y⟩|⟨z,q⟩
  ·go_wp2_with(first
    |(go_at_call 208;refine(v _ d.out.src).mono ?_;clear v A;rintro e U ⟨k,hF⟩;obtain rfl:=hF))
   exact⟨rfl,d.out.but.trans k,rfl⟩
  go_wp2_with(first
   |(go_at_call 208;refine(v _ d.out.src).mono ?_;clear v A;rintro e U ⟨k,rfl,y⟩))
  go_ret;exact⟨d.out.but.trans k,rfl,y⟩
 rw[kac w]at a;have N:=nec (c:=c) 117 (by omega);subst a;clear g i j m o p r u w
 go_wp2_with(first
  |(go_at_call 189;refine(qav _ b {s with pos:=s.pos+1} _ d.out.src).mono ?_;rintro e Z ⟨hF,rfl⟩;obtain rfl:=hF))
 exact⟨rfl,d.out.but,by show qan _ _ _;unfold qan qdB;simp⟩

end
section
open Go.RowKit Go.Deep
structure qbU(s:Nat)(W0:World)(arr:Array Value)(ea:Option Addr)(L:List (Int×Int))(W:World):Prop where
 below:Below (s+1) W0 W
 box:W.heap[s]?=some (.cells arr 25)
 edges:qaZ W ea L
 size:s+1<=W.heap.size
theorem qbU.step(h:qbU s W0 arr ea L W)(a:Below W.heap.size W W'):qbU s W0 arr ea L W' :=
 ⟨h.below.trans (a.mono h.size),(a.block _ (by have:=h.size;omega)).trans h.box,h.edges.below a,kaj h.size a.size⟩
theorem qgi(w:World)(arr:Array Value)(a:Option Addr)(L:List (Int×Int))(h:qaZ w a L):qbU w.heap.size (w.alloc (.cells arr 25)) arr a L (w.alloc (.cells arr 25)) :=
 ⟨kam _ _,qac _ _,h.below bwA,by simp⟩
theorem qbU.cell(h:qbU s W0 arr ea L W)(j:Nat):W.cell? ⟨s,j,none⟩=arr[j]?:=qaa h.box j
theorem qbU.from_(h:qbU w.heap.size W0 arr ea L W)(a:Below w.heap.size w W0):Below w.heap.size w W:=a.trans (h.below.mono (by omega))
structure qiT(arr:Array Value)(n:Nat)(L:List (Int×Int))(ea:Option Addr)(ecap:Nat):Prop where
 cfg:q0q arr n L ea ecap
 hn:n<=6
 hL:L.length<=30
 hE:qaU n L=true
theorem qd9{n:Nat}{ecap:Nat}(H:qiT arr n L ea ecap)(a b:Nat)(c:a<n)(d:b<n)(h:qbU s W0 arr ea L W):Calls prog 43 #[.agg arr,.int .i64 a,.int .i64 b] W λe i=>e=.returned (.bool (qbe n L a b))/\qbU s W0 arr ea L i :=
 (qx3 arr n L ea ecap H.cfg H.hn H.hL H.hE a b c d W h.edges).mono λ_ _ ⟨g,f⟩=>⟨g,h.step f⟩
theorem qtp(arr:Array Value)(n:Nat)(L:List (Int×Int))(s:Option Addr)(T:Nat)(H:qiT arr n L s T)(a b:Nat)(Y:a<n)(Z:b<n)(w:World)(U:qaZ w s L):Calls prog 44 #[.agg arr,.int .i64 a,.int .i64 b] w λe X=>∃r:Int,e=.returned (.int .i64 r)/\Hid (decide (r<0) = !qa5 n (qbe n L) a b)/\Below w.heap.size w X:=by
 have G:=H.cfg.f0;have hn:=H.hn;have d:=qab (qaD H.cfg.size);have p:=qab H;have S:=qab (qgi w arr s L U);have M:Hid (Below w.heap.size w (w.alloc (.cells arr 25))):=bwA;go_enter func44,ntmps44;go_wp2;generalize w.alloc (.cells arr 25)=W0 at *
 go_loopg[7,8,9] n (λg x y aa wr=>∃k:Nat,Hid (k+g=n)/\x=.int .i64 k/\Hid (qbU w.heap.size W0 arr s L wr)/\Hid (∀j,j<k->qaS n (qbe n L) a b j=false))
 case atStart=>exact⟨0,by show _=_;omega,rfl,S,λj D=>by omega⟩
 case round =>
  obtain⟨k,t,rfl,c,v⟩:=hrel;have K:=(c.out.cell 0).trans G
  cases gk with
  |zero =>
   have V:¬(k:Int)<n:=by have:=t.out;omega
   go_wp2;go_ret;exact⟨-1,rfl,by show _=_;rw[qfh (λj D=>v.out j (by have:=t.out;omega))];rfl,c.out.from_ M.out⟩
  |succ g =>
   have V:(k:Int)<n:=by have:=t.out;omega
   cases B:qbe n L a k
   ·have l:Hid (qaS n (qbe n L) a b k=false):=by show _=_;unfold qaS ubB;simp[B]
    go_wp2_with(first
     |(refine kak rfl 25 _ rfl _ rfl _ _ _ _ c.out.box underlying25 rfl d.out ?_)
     |(refine qaf 25 _ rfl rfl _ rfl _ _ _ _ c.out.box underlying25 rfl d.out ?_)
     |(go_at_call 43;refine(qd9 p.out _ _ (by omega) (by omega) c.out).mono ?_;rintro e u ⟨rfl,f⟩;have c:=qab f))
    go_loopg[9,8] 0 (λg x y wr=>x=.int .i64 0/\y=.bool false/\Hid (qbU w.heap.size W0 arr s L wr))
    case atStart=>exact⟨rfl,rfl,c⟩
    case round =>
     obtain⟨rfl,rfl,c⟩:=hrel;have K:=(c.out.cell 0).trans G;go_wp2;go_roundg g
     case measure=>omega
     case rel =>
      refine⟨k+1,by show _=_;have:=t.out;omega,by go_num,c,λj D=>?_⟩;by_cases e:j=k
      ·subst e;exact l.out
      exact v.out j (by omega)
   cases C:qbe n L b k
   ·have l:Hid (qaS n (qbe n L) a b k=false):=by show _=_;unfold qaS ubB;simp[C]
    go_wp2_with(first
     |(refine kak rfl 25 _ rfl _ rfl _ _ _ _ c.out.box underlying25 rfl d.out ?_)
     |(refine qaf 25 _ rfl rfl _ rfl _ _ _ _ c.out.box underlying25 rfl d.out ?_)
     |(go_at_call 43;refine(qd9 p.out _ _ (by omega) (by omega) c.out).mono ?_;rintro e u ⟨rfl,f⟩;have c:=qab f))
    go_loopg[9,8] 0 (λg x y wr=>x=.int .i64 0/\y=.bool false/\Hid (qbU w.heap.size W0 arr s L wr))
    case atStart=>exact⟨rfl,rfl,c⟩
    case round =>
     obtain⟨rfl,rfl,c⟩:=hrel;have K:=(c.out.cell 0).trans G;go_wp2;go_roundg g
     case measure=>omega
     case rel =>
      refine⟨k+1,by show _=_;have:=t.out;omega,by go_num,c,λj D=>?_⟩;by_cases e:j=k
      ·subst e;exact l.out
      exact v.out j (by omega)
   have R:Hid (ubB (qbe n L) a b k=true):=by show _=_;unfold ubB;simp[B,C]
   go_wp2_with(first
    |(refine kak rfl 25 _ rfl _ rfl _ _ _ _ c.out.box underlying25 rfl d.out ?_)
    |(refine qaf 25 _ rfl rfl _ rfl _ _ _ _ c.out.box underlying25 rfl d.out ?_)
    |(go_at_call 43;refine(qd9 p.out _ _ (by omega) (by omega) c.out).mono ?_;rintro e u ⟨rfl,f⟩;have c:=qab f))
   go_loopg[9,8] (n+1) (λg x y wr=>∃(q:Nat) (o:Bool),Hid (q+g=n+1)/\x=.int .i64 q/\y=.bool o/\Hid (qbU w.heap.size W0 arr s L wr)/\Hid (o=true->q<=n/\∀i,i<q->ubB (qbe n L) a b i=true->(qbe n L) k i=true)/\Hid (o=false->qaS n (qbe n L) a b k=false))
   case atStart=>exact⟨0,true,by show _=_;omega,rfl,rfl,c,λ_=>⟨by omega,λi J=>by omega⟩,λh=>by cases h⟩
   case round =>
    obtain⟨q,o,E,rfl,rfl,c,N,Q⟩:=hrel;have K:=(c.out.cell 0).trans G
    cases o with
    |false =>
     have l:=qab (Q.out rfl);by_cases P:(q:Int)<n
     ·go_wp2;go_roundg g
      case measure=>omega
      case rel =>
       refine⟨k+1,by show _=_;have:=t.out;omega,by go_num,c,λj D=>?_⟩;by_cases e:j=k
       ·subst e;exact l.out
       exact v.out j (by omega)
     go_wp2;go_roundg g
     case measure=>omega
     case rel =>
      refine⟨k+1,by show _=_;have:=t.out;omega,by go_num,c,λj D=>?_⟩;by_cases e:j=k
      ·subst e;exact l.out
      exact v.out j (by omega)
    |true =>
     have z:=(N.out rfl).1;have F:=qab ((N.out rfl).2);by_cases W:q<n
     ·have P:(q:Int)<n:=by omega
      cases gk with
      |zero=>have:=E.out;omega
      |succ I =>
       cases B:qbe n L a q
       ·have A:Hid (ubB (qbe n L) a b q=true->(qbe n L) k q=true):=λh=>by unfold ubB at h;simp[B]at h
        go_wp2_with(first
         |(refine kak rfl 25 _ rfl _ rfl _ _ _ _ c.out.box underlying25 rfl d.out ?_)
         |(refine qaf 25 _ rfl rfl _ rfl _ _ _ _ c.out.box underlying25 rfl d.out ?_)
         |(go_at_call 43;refine(qd9 p.out _ _ (by omega) (by omega) c.out).mono ?_;rintro e u ⟨rfl,f⟩;have c:=qab f))
        go_roundg I
        case measure=>omega
        case rel=>exact⟨q+1,true,by show _=_;have:=E.out;omega,by go_num,rfl,c,(λ_=>⟨by omega,λi J m=>by by_cases e:i=q;(· subst e;exact A.out m);(· exact F.out i (by omega) m)⟩),(λh=>by cases h)⟩
       cases C:qbe n L b q
       ·have A:Hid (ubB (qbe n L) a b q=true->(qbe n L) k q=true):=λh=>by unfold ubB at h;simp[C]at h
        go_wp2_with(first
         |(refine kak rfl 25 _ rfl _ rfl _ _ _ _ c.out.box underlying25 rfl d.out ?_)
         |(refine qaf 25 _ rfl rfl _ rfl _ _ _ _ c.out.box underlying25 rfl d.out ?_)
         |(go_at_call 43;refine(qd9 p.out _ _ (by omega) (by omega) c.out).mono ?_;rintro e u ⟨rfl,f⟩;have c:=qab f))
        go_roundg I
        case measure=>omega
        case rel=>exact⟨q+1,true,by show _=_;have:=E.out;omega,by go_num,rfl,c,(λ_=>⟨by omega,λi J m=>by by_cases e:i=q;(· subst e;exact A.out m);(· exact F.out i (by omega) m)⟩),(λh=>by cases h)⟩
       cases O:qbe n L k q
       ·have l:Hid (qaS n (qbe n L) a b k=false):=qd0 (k:=q) W (by unfold ubB;simp[B,C]) O
        go_wp2_with(first
         |(refine kak rfl 25 _ rfl _ rfl _ _ _ _ c.out.box underlying25 rfl d.out ?_)
         |(refine qaf 25 _ rfl rfl _ rfl _ _ _ _ c.out.box underlying25 rfl d.out ?_)
         |(go_at_call 43;refine(qd9 p.out _ _ (by omega) (by omega) c.out).mono ?_;rintro e u ⟨rfl,f⟩;have c:=qab f))
        go_roundg I
        case measure=>omega
        case rel=>exact⟨q+1,false,by show _=_;have:=E.out;omega,by go_num,rfl,c,(λh=>by cases h),(λ_=>l.out)⟩
       have A:Hid (ubB (qbe n L) a b q=true->(qbe n L) k q=true):=λ_=>O
       go_wp2_with(first
        |(refine kak rfl 25 _ rfl _ rfl _ _ _ _ c.out.box underlying25 rfl d.out ?_)
        |(refine qaf 25 _ rfl rfl _ rfl _ _ _ _ c.out.box underlying25 rfl d.out ?_)
        |(go_at_call 43;refine(qd9 p.out _ _ (by omega) (by omega) c.out).mono ?_;rintro e u ⟨rfl,f⟩;have c:=qab f))
       go_roundg I
       case measure=>omega
       case rel=>exact⟨q+1,true,by show _=_;have:=E.out;omega,by go_num,rfl,c,(λ_=>⟨by omega,λi J m=>by by_cases e:i=q;(· subst e;exact A.out m);(· exact F.out i (by omega) m)⟩),(λh=>by cases h)⟩
     have P:¬(q:Int)<n:=by omega
     have l:Hid (qaS n (qbe n L) a b k=true):=qgq R.out (λi J=>F.out i (by omega));go_wp2;go_ret;exact⟨k,rfl,by show _=_;rw[qdS (j:=k) (by omega) l.out,kaz (by omega)];rfl,c.out.from_ M.out⟩
theorem qtq(arr:Array Value)(n:Nat)(L:List (Int×Int))(s:Option Addr)(T:Nat)(H:qiT arr n L s T)(a b:Nat)(Y:a<n)(Z:b<n)(w:World)(U:qaZ w s L):Calls prog 45 #[.agg arr,.int .i64 a,.int .i64 b] w λe X=>∃r:Int,e=.returned (.int .i64 r)/\Hid (decide (r<0) = !qa5 n (λi j=>qbe n L j i) a b)/\Below w.heap.size w X:=by
 have G:=H.cfg.f0;have hn:=H.hn;have d:=qab (qaD H.cfg.size);have p:=qab H;have S:=qab (qgi w arr s L U);have M:Hid (Below w.heap.size w (w.alloc (.cells arr 25))):=bwA;go_enter func45,ntmps45;go_wp2;generalize w.alloc (.cells arr 25)=W0 at *
 go_loopg[7,8,9] n (λg x y aa wr=>∃k:Nat,Hid (k+g=n)/\x=.int .i64 k/\Hid (qbU w.heap.size W0 arr s L wr)/\Hid (∀j,j<k->qaS n (λi j=>qbe n L j i) a b j=false))
 case atStart=>exact⟨0,by show _=_;omega,rfl,S,λj D=>by omega⟩
 case round =>
  obtain⟨k,t,rfl,c,v⟩:=hrel;have K:=(c.out.cell 0).trans G
  cases gk with
  |zero =>
   have V:¬(k:Int)<n:=by have:=t.out;omega
   go_wp2;go_ret;exact⟨-1,rfl,by show _=_;rw[qfh (λj D=>v.out j (by have:=t.out;omega))];rfl,c.out.from_ M.out⟩
  |succ g =>
   have V:(k:Int)<n:=by have:=t.out;omega
   cases B:qbe n L k a
   ·have l:Hid (qaS n (λi j=>qbe n L j i) a b k=false):=by show _=_;unfold qaS ubB;simp[B]
    go_wp2_with(first
     |(refine kak rfl 25 _ rfl _ rfl _ _ _ _ c.out.box underlying25 rfl d.out ?_)
     |(refine qaf 25 _ rfl rfl _ rfl _ _ _ _ c.out.box underlying25 rfl d.out ?_)
     |(go_at_call 43;refine(qd9 p.out _ _ (by omega) (by omega) c.out).mono ?_;rintro e u ⟨rfl,f⟩;have c:=qab f))
    go_loopg[9,8] 0 (λg x y wr=>x=.int .i64 0/\y=.bool false/\Hid (qbU w.heap.size W0 arr s L wr))
    case atStart=>exact⟨rfl,rfl,c⟩
    case round =>
     obtain⟨rfl,rfl,c⟩:=hrel;have K:=(c.out.cell 0).trans G;go_wp2;go_roundg g
     case measure=>omega
     case rel =>
      refine⟨k+1,by show _=_;have:=t.out;omega,by go_num,c,λj D=>?_⟩;by_cases e:j=k
      ·subst e;exact l.out
      exact v.out j (by omega)
   cases C:qbe n L k b
   ·have l:Hid (qaS n (λi j=>qbe n L j i) a b k=false):=by show _=_;unfold qaS ubB;simp[C]
    go_wp2_with(first
     |(refine kak rfl 25 _ rfl _ rfl _ _ _ _ c.out.box underlying25 rfl d.out ?_)
     |(refine qaf 25 _ rfl rfl _ rfl _ _ _ _ c.out.box underlying25 rfl d.out ?_)
     |(go_at_call 43;refine(qd9 p.out _ _ (by omega) (by omega) c.out).mono ?_;rintro e u ⟨rfl,f⟩;have c:=qab f))
    go_loopg[9,8] 0 (λg x y wr=>x=.int .i64 0/\y=.bool false/\Hid (qbU w.heap.size W0 arr s L wr))
    case atStart=>exact⟨rfl,rfl,c⟩
    case round =>
     obtain⟨rfl,rfl,c⟩:=hrel;have K:=(c.out.cell 0).trans G;go_wp2;go_roundg g
     case measure=>omega
     case rel =>
      refine⟨k+1,by show _=_;have:=t.out;omega,by go_num,c,λj D=>?_⟩;by_cases e:j=k
      ·subst e;exact l.out
      exact v.out j (by omega)
   have R:Hid (ubB (λi j=>qbe n L j i) a b k=true):=by show _=_;unfold ubB;simp[B,C]
   go_wp2_with(first
    |(refine kak rfl 25 _ rfl _ rfl _ _ _ _ c.out.box underlying25 rfl d.out ?_)
    |(refine qaf 25 _ rfl rfl _ rfl _ _ _ _ c.out.box underlying25 rfl d.out ?_)
    |(go_at_call 43;refine(qd9 p.out _ _ (by omega) (by omega) c.out).mono ?_;rintro e u ⟨rfl,f⟩;have c:=qab f))
   go_loopg[9,8] (n+1) (λg x y wr=>∃(q:Nat) (o:Bool),Hid (q+g=n+1)/\x=.int .i64 q/\y=.bool o/\Hid (qbU w.heap.size W0 arr s L wr)/\Hid (o=true->q<=n/\∀i,i<q->ubB (λi j=>qbe n L j i) a b i=true->(λi j=>qbe n L j i) k i=true)/\Hid (o=false->qaS n (λi j=>qbe n L j i) a b k=false))
   case atStart=>exact⟨0,true,by show _=_;omega,rfl,rfl,c,λ_=>⟨by omega,λi J=>by omega⟩,λh=>by cases h⟩
   case round =>
    obtain⟨q,o,E,rfl,rfl,c,N,Q⟩:=hrel;have K:=(c.out.cell 0).trans G
    cases o with
    |false =>
     have l:=qab (Q.out rfl);by_cases P:(q:Int)<n
     ·go_wp2;go_roundg g
      case measure=>omega
      case rel =>
       refine⟨k+1,by show _=_;have:=t.out;omega,by go_num,c,λj D=>?_⟩;by_cases e:j=k
       ·subst e;exact l.out
       exact v.out j (by omega)
     go_wp2;go_roundg g
     case measure=>omega
     case rel =>
      refine⟨k+1,by show _=_;have:=t.out;omega,by go_num,c,λj D=>?_⟩;by_cases e:j=k
      ·subst e;exact l.out
      exact v.out j (by omega)
    |true =>
     have z:=(N.out rfl).1;have F:=qab ((N.out rfl).2);by_cases W:q<n
     ·have P:(q:Int)<n:=by omega
      cases gk with
      |zero=>have:=E.out;omega
      |succ I =>
       cases B:qbe n L q a
       ·have A:Hid (ubB (λi j=>qbe n L j i) a b q=true->(λi j=>qbe n L j i) k q=true):=λh=>by unfold ubB at h;simp[B]at h
        go_wp2_with(first
         |(refine kak rfl 25 _ rfl _ rfl _ _ _ _ c.out.box underlying25 rfl d.out ?_)
         |(refine qaf 25 _ rfl rfl _ rfl _ _ _ _ c.out.box underlying25 rfl d.out ?_)
         |(go_at_call 43;refine(qd9 p.out _ _ (by omega) (by omega) c.out).mono ?_;rintro e u ⟨rfl,f⟩;have c:=qab f))
        go_roundg I
        case measure=>omega
        case rel=>exact⟨q+1,true,by show _=_;have:=E.out;omega,by go_num,rfl,c,(λ_=>⟨by omega,λi J m=>by by_cases e:i=q;(· subst e;exact A.out m);(· exact F.out i (by omega) m)⟩),(λh=>by cases h)⟩
       cases C:qbe n L q b
       ·have A:Hid (ubB (λi j=>qbe n L j i) a b q=true->(λi j=>qbe n L j i) k q=true):=λh=>by unfold ubB at h;simp[C]at h
        go_wp2_with(first
         |(refine kak rfl 25 _ rfl _ rfl _ _ _ _ c.out.box underlying25 rfl d.out ?_)
         |(refine qaf 25 _ rfl rfl _ rfl _ _ _ _ c.out.box underlying25 rfl d.out ?_)
         |(go_at_call 43;refine(qd9 p.out _ _ (by omega) (by omega) c.out).mono ?_;rintro e u ⟨rfl,f⟩;have c:=qab f))
        go_roundg I
        case measure=>omega
        case rel=>exact⟨q+1,true,by show _=_;have:=E.out;omega,by go_num,rfl,c,(λ_=>⟨by omega,λi J m=>by by_cases e:i=q;(· subst e;exact A.out m);(· exact F.out i (by omega) m)⟩),(λh=>by cases h)⟩
       cases O:qbe n L q k
       ·have l:Hid (qaS n (λi j=>qbe n L j i) a b k=false):=qd0 (k:=q) W (by unfold ubB;simp[B,C]) O
        go_wp2_with(first
         |(refine kak rfl 25 _ rfl _ rfl _ _ _ _ c.out.box underlying25 rfl d.out ?_)
         |(refine qaf 25 _ rfl rfl _ rfl _ _ _ _ c.out.box underlying25 rfl d.out ?_)
         |(go_at_call 43;refine(qd9 p.out _ _ (by omega) (by omega) c.out).mono ?_;rintro e u ⟨rfl,f⟩;have c:=qab f))
        go_roundg I
        case measure=>omega
        case rel=>exact⟨q+1,false,by show _=_;have:=E.out;omega,by go_num,rfl,c,(λh=>by cases h),(λ_=>l.out)⟩
       have A:Hid (ubB (λi j=>qbe n L j i) a b q=true->(λi j=>qbe n L j i) k q=true):=λ_=>O
       go_wp2_with(first
        |(refine kak rfl 25 _ rfl _ rfl _ _ _ _ c.out.box underlying25 rfl d.out ?_)
        |(refine qaf 25 _ rfl rfl _ rfl _ _ _ _ c.out.box underlying25 rfl d.out ?_)
        |(go_at_call 43;refine(qd9 p.out _ _ (by omega) (by omega) c.out).mono ?_;rintro e u ⟨rfl,f⟩;have c:=qab f))
       go_roundg I
       case measure=>omega
       case rel=>exact⟨q+1,true,by show _=_;have:=E.out;omega,by go_num,rfl,c,(λ_=>⟨by omega,λi J m=>by by_cases e:i=q;(· subst e;exact A.out m);(· exact F.out i (by omega) m)⟩),(λh=>by cases h)⟩
     have P:¬(q:Int)<n:=by omega
     have l:Hid (qaS n (λi j=>qbe n L j i) a b k=true):=qgq R.out (λi J=>F.out i (by omega));go_wp2;go_ret;exact⟨k,rfl,by show _=_;rw[qdS (j:=k) (by omega) l.out,kaz (by omega)];rfl,c.out.from_ M.out⟩

theorem qyd(c:Int)(L:List (Int×Int))(a:Option Addr)(b:Nat)(i:L.length<=maxLen)(w:World)(g:qaZ w a L)(h:qbC c L=false):Calls prog 77 #[.int .i64 c,.slice a L.length b] w λe f=>e=.returned (.tuple #[.agg qaF,.bool false])/\Below w.heap.size w f:=by
 by_cases d:1<=c/\c<=6/\L.length<=30
 ·obtain⟨n,rfl⟩:=kbH (show 0<=c by omega);have k:qaU n L=false:=by
   unfold qbC at h;rw[kax d,kbB]at h;exact h
  refine(quV n (by omega) (by omega) L a b d.2.2 w g).mono ?_;rintro e f ⟨rfl,j⟩;exact⟨by rw[qjB k],j⟩
 exact qxc c L a b i w d
theorem qxs(c:Int)(L:List (Int×Int))(a:Option Addr)(b:Nat)(w:World)(g:qaZ w a L)(h:qbC c L=true):Calls prog 77 #[.int .i64 c,.slice a L.length b] w λe d=>e=.returned (.tuple #[.agg (qaq c.toNat (qc1 c.toNat L)),.bool true])/\Below w.heap.size w d:=by
 unfold qbC at h;rw[ka2]at h;have j:=kaq h.1;obtain⟨n,rfl⟩:=kbH (show 0<=c by omega);refine(quV n (by omega) (by omega) L a b j.2.2 w g).mono ?_;rintro e d ⟨rfl,i⟩;have f:qaU n L=true:=by have:=h.2;rwa[kbp]at this
 exact⟨by rw[qn4 f,kbp],i⟩
def roE(c:Int)(L:List (Int×Int))(d k:Int):Int :=
 if qbC c L&&qbM c.toNat d&&qbM c.toNat k then(if qaA c.toNat (qc1 c.toNat L)then 2 else if qa8 c.toNat (qc1 c.toNat L)then 0 else 3)else 1
def roA(c:Int)(L:List (Int×Int))(d k:Int):Array Value:=if roE c L d k=0 then qaq c.toNat (qc1 c.toNat L)else qaF
def roV(c:Int)(L:List (Int×Int))(d k:Int):Value:=.tuple #[.agg (roA c L d k),.int .i64 (roE c L d k)]
theorem qxp(h:(qbC c L&&qbM c.toNat d&&qbM c.toNat k)=false):roV c L d k=.tuple #[.agg qaF,.int .i64 1]:=by
 have e:roE c L d k=1:=by unfold roE;rw[h];rfl
 unfold roV roA;rw[e];rfl
theorem q0c(h:(qbC c L&&qbM c.toNat d&&qbM c.toNat k)=true)(a:qaA c.toNat (qc1 c.toNat L)=true):roV c L d k=.tuple #[.agg qaF,.int .i64 2]:=by
 have e:roE c L d k=2:=by unfold roE;rw[h,a];rfl
 unfold roV roA;rw[e];rfl
theorem qzP(h:(qbC c L&&qbM c.toNat d&&qbM c.toNat k)=true)(a:qaA c.toNat (qc1 c.toNat L)=false)(b:qa8 c.toNat (qc1 c.toNat L)=false):roV c L d k=.tuple #[.agg qaF,.int .i64 3]:=by
 have e:roE c L d k=3:=by unfold roE;rw[h,a,b];rfl
 unfold roV roA;rw[e];rfl
theorem qzS(h:(qbC c L&&qbM c.toNat d&&qbM c.toNat k)=true)(a:qaA c.toNat (qc1 c.toNat L)=false)(b:qa8 c.toNat (qc1 c.toNat L)=true):roV c L d k=.tuple #[.agg (qaq c.toNat (qc1 c.toNat L)),.int .i64 0]:=by
 have e:roE c L d k=0:=by unfold roE;rw[h,a,b];rfl
 unfold roV roA;rw[e];rfl
structure qxM(w:World)(N:Nat)(arr A:Array Value)(W:World):Prop where
 below:Below w.heap.size w W
 box:W.heap[w.heap.size]?=some (.cells arr 25)
 res:W.heap[w.heap.size+1]?=some (.cells qaF 84)
 own:W.heap[N]?=some (.cells A 84)
 lo:w.heap.size+1<N
theorem qxM.step{N:Nat}{A:Array Value}(h:qxM w N arr A W)(a:Below W.heap.size W W'):qxM w N arr A W':=by
 have b:=ltA h.own;have:=h.lo;exact⟨h.below.trans (a.mono h.below.size),(a.block _ (by omega)).trans h.box,(a.block _ (by omega)).trans h.res,(a.block _ b).trans h.own,h.lo⟩
theorem qr5(w b:World)(arr A:Array Value)(a:Below (w.heap.size+1+1) ((w.alloc (.cells arr 25)).alloc (.cells qaF 84)) b):qxM w b.heap.size arr A (b.alloc (.cells A 84)):=by
 have c:=a.size;simp only[kad]at c;refine⟨(((bwA).alloc (by simp) _).trans (a.mono (by omega))).alloc (by omega) _,?_,?_,qac _ _,by omega⟩
 ·rw[kae _ _ _ (by omega),a.block _ (by omega),kae _ _ _ (by simp)];exact qac _ _
 rw[kae _ _ _ (by omega),a.block _ (by omega)];have:=qac (w.alloc (.cells arr 25)) (.cells qaF 84);rwa[kad]at this
theorem qiK(arr:Array Value)(c:Int)(L:List (Int×Int))(r:Option Addr)(A:Nat)(d k:Int)(T:arr[0]?=some (.int .i64 c))(f1:arr[1]?=some (.slice r L.length A))(Q:arr[2]?=some (.int .i64 d))(u:arr[4]?=some (.int .i64 k))(H:L.length<=maxLen)(w:World)(G:qaZ w r L):Calls prog 53 #[.agg arr] w λe S=>e=.returned (roV c L d k)/\Below w.heap.size w S:=by
 have E:Hid (qaZ ((w.alloc (.cells arr 25)).alloc (.cells qaF 84)) r L):=G.below ((bwA).alloc (by simp) _);have J:=qab H;clear G H;cases i:qbC c L
 ·have j:Hid (roV c L d k=.tuple #[.agg qaF,.int .i64 1]):=qxp (by rw[i];rfl);have o:=qyd c L r A J.out _ E.out i;clear i;go_enter func53,ntmps53
  go_wp2_with(first
   |(refine qat rfl rfl _ rfl (w.heap.size+1) ?hN ?_;case hN=>(simp only[kad];done))
   |(go_at_call 77;refine o.mono ?_;clear o;rintro e h ⟨rfl,B⟩;have b:=qab (qr5 w h arr qaF (by simpa using B)))
   |(refine qat rfl rfl _ rfl h.heap.size rfl ?_)
   |(refine qal rfl 84 _ rfl _ rfl _ [] ?hl qbN ?_;case hl=>simp)
   |(refine kan rfl 84 _ _ rfl h.heap.size qaF rfl rfl 84 qaF (qac h _) (qas (qae _ _)) rfl (qa9 _ _) ?_;rw[kaB])
   |(refine kan rfl 84 _ _ rfl (w.heap.size+1) qaF rfl rfl 84 qaF b.out.res (qas (qae _ _)) rfl (qa9 _ _) ?_))
  refine kaw (qap results53 _ _ (w.heap.size+1) 84 qaF (0,0) _ rfl (kaA _ _ qaF _ _ _ b.out.res) underlying84 rfl (qas (qae _ _)) (.int .i64 1) rfl) rfl ⟨by rw[j.out],qai b.out.below (by omega) _⟩
 have o:=qxs c L r A _ E.out i;have F:=qab i;have U:1<=c/\c<=6:=by
  unfold qbC at i;rw[ka2]at i;have:=kaq i.1;omega
 clear i;obtain⟨n,rfl⟩:=kbH (show 0<=c by omega);have I:n<=6:=by omega
 rw[kbp]at o;have b:Hid (∀x,qbM ((n:Int)).toNat x=qbM n x):=λx=>by rw[kbp]
 have K:Hid (qc1 ((n:Int)).toNat L=qc1 n L):=by show _=_;rw[kbp]
 have s:Hid (qaA ((n:Int)).toNat (qc1 ((n:Int)).toNat L)=qaA n (qc1 n L)):=by show _=_;rw[kbp]
 have y:Hid (qa8 ((n:Int)).toNat (qc1 ((n:Int)).toNat L)=qa8 n (qc1 n L)):=by show _=_;rw[kbp]
 have D:Hid (qaq ((n:Int)).toNat (qc1 ((n:Int)).toNat L)=qaq n (qc1 n L)):=by show _=_;rw[kbp]
 generalize qc1 n L=M at *;have R:(qbM n d=false/\Hid (roV n L d k=.tuple #[.agg qaF,.int .i64 1]))\/(qbM n d=true/\qbM n k=false/\Hid (roV n L d k=.tuple #[.agg qaF,.int .i64 1]))\/(qbM n d=true/\qbM n k=true/\qaA n M=true/\Hid (roV n L d k=.tuple #[.agg qaF,.int .i64 2]))\/(qbM n d=true/\qbM n k=true/\qaA n M=false/\qa8 n M=false/\Hid (roV n L d k=.tuple #[.agg qaF,.int .i64 3]))\/(qbM n d=true/\qbM n k=true/\qaA n M=false/\qa8 n M=true/\Hid (roV n L d k=.tuple #[.agg (qaq n M),.int .i64 0])):=by
  cases m:qbM n d
  ·exact .inl ⟨rfl,qxp (by rw[b.out,b.out,m];simp)⟩
  cases q:qbM n k
  ·exact .inr (.inl ⟨rfl,rfl,qxp (by rw[b.out,b.out,q];simp)⟩)
  have z:(qbC n L&&qbM ((n:Int)).toNat d&&qbM ((n:Int)).toNat k)=true:=by rw[b.out,b.out,m,q,F.out];rfl
  cases p:qaA n M
  ·cases v:qa8 n M
   ·exact .inr (.inr (.inr (.inl ⟨rfl,rfl,rfl,rfl,qzP z (s.out.trans p) (y.out.trans v)⟩)))
   exact .inr (.inr (.inr (.inr ⟨rfl,rfl,rfl,rfl,(qzS z (s.out.trans p) (y.out.trans v)).trans (by rw[D.out])⟩)))
  exact .inr (.inr (.inl ⟨rfl,rfl,rfl,q0c z (s.out.trans p)⟩))
 clear b K s y D F;have t:True:=trivial;have N:=t;have O:=t;have P:=t;rcases R with⟨m,j⟩|⟨m,q,j⟩|⟨m,q,p,j⟩|⟨m,q,p,v,j⟩|⟨m,q,p,v,j⟩
 all_goals
  go_enter func53,ntmps53
  go_wp2_with(first
   |(refine qat rfl rfl _ rfl (w.heap.size+1) ?hN ?_;case hN=>(simp only[kad];done))
   |(go_at_call 77;refine o.mono ?_;clear o;rintro e h ⟨rfl,B⟩;have a:Hid (qxM w h.heap.size arr (qaq n M) (h.alloc (.cells (qaq n M) 84))):=qr5 w h arr _ (by simpa using B);have l:=(qaa a.out.box 2).trans Q)
   |(refine qat rfl rfl _ rfl h.heap.size rfl ?_)
   |(refine kan rfl 84 _ _ rfl h.heap.size (qaq n M) rfl rfl 84 qaF (qac h _) (qas (qae _ _)) (by rw[qae];exact qae _ _) (qa9 _ _) ?_;rw[kaB])
   |(refine kak rfl 84 _ rfl _ rfl _ _ _ _ a.out.own underlying84 rfl (qas (qae _ _)) ?_)
   |(refine qaf 84 _ rfl rfl _ rfl _ _ _ _ a.out.own underlying84 rfl (qas (qae _ _)) ?_)
   |(refine qal rfl 84 _ rfl _ rfl _ [] ?hl qbN ?_;case hl=>simp)
   |(go_at_call 78;clear t;refine(qfn _ n (qay n M).count d _).mono ?_;rintro e C ⟨rfl,g⟩;have f:=a.out.step g;clear a l;have a:=qab f;clear f g;have l:=(qaa a.out.box 4).trans u)
   |(go_at_call 78;clear N;refine(qfn _ n (qay n M).count k _).mono ?_;rintro e C ⟨rfl,g⟩;have f:=a.out.step g;clear a l;have a:=qab f;clear f g;have l:=(qaa a.out.box 4).trans u)
   |(go_at_call 79;clear O;refine(qk0 _ n M (qay n M) I _).mono ?_;rintro e C ⟨rfl,g⟩;have f:=a.out.step g;clear a l;have a:=qab f;clear f g;have l:=(qaa a.out.box 4).trans u)
   |(go_at_call 80;clear P;refine(qjJ _ n M (qay n M) I _).mono ?_;rintro e C ⟨rfl,g⟩;have f:=a.out.step g;clear a l;have a:=qab f;clear f g;have l:=(qaa a.out.box 4).trans u)
   |(refine kan rfl 84 _ _ rfl (w.heap.size+1) qaF rfl rfl 84 qaF a.out.res (qas (qae _ _)) rfl (qa9 _ _) ?_)
   |(refine kan rfl 84 _ _ rfl (w.heap.size+1) (qaq n M) rfl rfl 84 qaF a.out.res (qas (qae _ _)) (by rw[qae];exact qae _ _) (qa9 _ _) ?_))
  first
  |refine kaw (qap results53 _ _ (w.heap.size+1) 84 qaF (0,0) _ rfl (kaA _ _ qaF _ _ _ a.out.res) underlying84 rfl (qas (qae _ _)) (.int .i64 _) rfl) rfl ⟨by rw[j.out],qai a.out.below (by omega) _⟩
  |refine kaw (qap results53 _ _ (w.heap.size+1) 84 (qaq n M) (0,0) _ rfl (kaA _ _ qaF _ _ _ a.out.res) underlying84 rfl (qas (qae _ _)) (.int .i64 0) rfl) rfl ⟨by rw[j.out],qai a.out.below (by omega) _⟩

end
end Go.Proofs.YtmajcjammmjimaaGreatDoor
