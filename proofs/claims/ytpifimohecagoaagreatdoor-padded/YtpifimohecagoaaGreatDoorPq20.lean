import Derived.Test.YtpifimohecagoaaGreatDoorPq19
set_option maxRecDepth 100000
set_option maxHeartbeats 8000000
namespace Go.Proofs.YtpifimohecagoaaGreatDoor
open Go.Proofs.Tryz
variable{ss:List (Nat×List UInt8)}{Y st:Nat->Nat}{A n r tb x:Nat}{P:Nat->Bool}{tk:Nat->Nat->Nat}{rs:List (List (Nat×List UInt8)×Int×Int)}{ks:List (List UInt8)}{b l:List UInt8}{s:Nat×List UInt8}{p:List (List UInt8×Bool)}{W:World}
section
open Go.RowKit Go.Lib
theorem qqg:∀x:Fin 24,bits .or .u8 96 (x.val:Int)=((96+x.val:Nat):Int):=by decide
theorem qwI(W:World)(b e:Nat)(v:Value)(bs:List UInt8)(x:Nat)(R:x<4294967296)(Q:bs.length<=999999999)(h:qhl W b e v bs):Calls prog 129 #[v,.int .u64 x] W λr G=>∃j,r=.returned j/\qhl G b e j (bs++qa1 x)/\qhz b e W G:=by
 obtain⟨B,w,y,z,A⟩:=info_parts Tryz.infoU8;have P:=h.1.2.1;obtain⟨a,n,c,rfl⟩:=h.1.2.2;have k:=qab h;by_cases s:x<32
 ·have p:Hid (qa1 x=[UInt8.ofNat (160+x)]):=by show _=_;unfold qa1;rw[if_pos s]
  have J:=qia ⟨x,s⟩;simp only[]at J;have N:Hid (qax (UInt8.ofNat (160+x))=.int .u8 (bits .or .u8 160 (x:Int))):=by show _=_;rw[J,qbb _ (by omega)]
  have O:Hid (qax (UInt8.ofNat (160+x))=.int .u8 (160+(x:Int))):=by show _=_;rw[qbb _ (by omega)];simp
  go_enter func129,ntmps129
  go_wp2_with(first
   |(at_builtin;refine wpList_append_own_at _ rfl _ _ 35 rfl b 5 B (.int .u8 0) 1 1 underlying35 w y z A rfl (by decide) _ _ _ rfl (k.out.1.1.alloc _) ⟨W.heap.size,0,none⟩ 1 1 [.int .u8 (bits .or .u8 160 (x:Int))] rfl rfl (qag _ _ _) (λu f=>by simp at f;subst f;rfl) (by unfold maxLen;omega) (by omega) (by simp;omega) ?_;intro j g d m E l;have i:=qab (qbF k.out N.out d m l);obtain⟨D,C,rfl⟩:=ownsRow_succ d)
   |(at_builtin;refine wpList_append_own_at _ rfl _ _ 35 rfl b 5 B (.int .u8 0) 1 1 underlying35 w y z A rfl (by decide) _ _ _ rfl (k.out.1.1.alloc _) ⟨W.heap.size,0,none⟩ 1 1 [.int .u8 (160+(x:Int))] rfl rfl (qag _ _ _) (λu f=>by simp at f;subst f;rfl) (by unfold maxLen;omega) (by omega) (by simp;omega) ?_;intro j g d m E l;have i:Hid (qhl g b e j (bs++[UInt8.ofNat (160+x)])/\qhz b e W g):=qbF k.out O.out d m l;obtain⟨D,C,rfl⟩:=ownsRow_succ d))
  go_ret;rw[p.out];exact⟨_,rfl,i.out⟩
 by_cases F:x<=255
 ·have p:Hid (qa1 x=217::beF x 1):=by show _=_;unfold qa1;rw[if_neg s];rw[if_pos F]
  go_enter func129,ntmps129
  go_wp2_with(first
   |(at_builtin;refine wpList_append_own_at _ rfl _ _ 35 rfl b 5 B (.int .u8 0) 1 1 underlying35 w y z A rfl (by decide) _ _ _ rfl (k.out.1.1.alloc _) ⟨W.heap.size,0,none⟩ 1 1 [.int .u8 217] rfl rfl (qag _ _ _) (λu f=>by simp at f;subst f;rfl) (by unfold maxLen;omega) (by omega) (by simp;omega) ?_;intro j g d m E l;have i:Hid (qhl g b e j (bs++[217])/\qhz b e W g):=qbF k.out rfl d m l;obtain⟨D,C,rfl⟩:=ownsRow_succ d)
   |(go_at_call 128;refine(qcg _ b e _ _ x 1 (by omega) (by omega) (by simp;omega) i.out.1).mono ?_;rintro r M ⟨L,rfl,o,t⟩;obtain⟨H,K,I,rfl⟩:=o.1.2.2;have q:=qab (qdP i.out o t (p.out.symm))))
  go_ret;exact⟨_,rfl,q.out⟩
 by_cases c2:x<=65535
 ·have p:Hid (qa1 x=218::beF x 2):=by show _=_;unfold qa1;rw[if_neg s];rw[if_neg F];rw[if_pos c2]
  go_enter func129,ntmps129
  go_wp2_with(first
   |(at_builtin;refine wpList_append_own_at _ rfl _ _ 35 rfl b 5 B (.int .u8 0) 1 1 underlying35 w y z A rfl (by decide) _ _ _ rfl (k.out.1.1.alloc _) ⟨W.heap.size,0,none⟩ 1 1 [.int .u8 218] rfl rfl (qag _ _ _) (λu f=>by simp at f;subst f;rfl) (by unfold maxLen;omega) (by omega) (by simp;omega) ?_;intro j g d m E l;have i:Hid (qhl g b e j (bs++[218])/\qhz b e W g):=qbF k.out rfl d m l;obtain⟨D,C,rfl⟩:=ownsRow_succ d)
   |(go_at_call 128;refine(qcg _ b e _ _ x 2 (by omega) (by omega) (by simp;omega) i.out.1).mono ?_;rintro r M ⟨L,rfl,o,t⟩;obtain⟨H,K,I,rfl⟩:=o.1.2.2;have q:=qab (qdP i.out o t (p.out.symm))))
  go_ret;exact⟨_,rfl,q.out⟩
 have p:Hid (qa1 x=219::beF x 4):=by show _=_;unfold qa1;rw[if_neg s];rw[if_neg F];rw[if_neg c2]
 go_enter func129,ntmps129
 go_wp2_with(first
  |(at_builtin;refine wpList_append_own_at _ rfl _ _ 35 rfl b 5 B (.int .u8 0) 1 1 underlying35 w y z A rfl (by decide) _ _ _ rfl (k.out.1.1.alloc _) ⟨W.heap.size,0,none⟩ 1 1 [.int .u8 219] rfl rfl (qag _ _ _) (λu f=>by simp at f;subst f;rfl) (by unfold maxLen;omega) (by omega) (by simp;omega) ?_;intro j g d m E l;have i:Hid (qhl g b e j (bs++[219])/\qhz b e W g):=qbF k.out rfl d m l;obtain⟨D,C,rfl⟩:=ownsRow_succ d)
  |(go_at_call 128;refine(qcg _ b e _ _ x 4 (by omega) (by omega) (by simp;omega) i.out.1).mono ?_;rintro r M ⟨L,rfl,o,t⟩;obtain⟨H,K,I,rfl⟩:=o.1.2.2;have q:=qab (qdP i.out o t (p.out.symm))))
 go_ret;exact⟨_,rfl,q.out⟩
theorem qvC(W:World)(b e:Nat)(v:Value)(bs:List UInt8)(x:Nat)(R:x<4294967296)(Q:bs.length<=999999999)(h:qhl W b e v bs):Calls prog 107 #[v,.int .u8 3,.int .u64 x] W λr G=>∃j,r=.returned j/\qhl G b e j (bs++qaj 3 x)/\qhz b e W G:=by
 obtain⟨B,w,y,z,A⟩:=info_parts Tryz.infoU8;have P:=h.1.2.1;obtain⟨a,n,c,rfl⟩:=h.1.2.2;have k:=qab h;by_cases s:x<24
 ·have p:Hid (qaj 3 x=[UInt8.ofNat (96+x)]):=by show _=_;unfold qaj;rw[if_pos s]
  have J:=qqg ⟨x,s⟩;simp only[]at J;have N:Hid (qax (UInt8.ofNat (96+x))=.int .u8 (bits .or .u8 96 (x:Int))):=by show _=_;rw[J,qbb _ (by omega)]
  have O:Hid (qax (UInt8.ofNat (96+x))=.int .u8 (96+(x:Int))):=by show _=_;rw[qbb _ (by omega)];simp
  go_enter func107,ntmps107
  go_wp2_with(first
   |(at_builtin;refine wpList_append_own_at _ rfl _ _ 35 rfl b 5 B (.int .u8 0) 1 1 underlying35 w y z A rfl (by decide) _ _ _ rfl (k.out.1.1.alloc _) ⟨W.heap.size,0,none⟩ 1 1 [.int .u8 (bits .or .u8 96 (x:Int))] rfl rfl (qag _ _ _) (λu f=>by simp at f;subst f;rfl) (by unfold maxLen;omega) (by omega) (by simp;omega) ?_;intro j g d m E l;have i:=qab (qbF k.out N.out d m l);obtain⟨D,C,rfl⟩:=ownsRow_succ d)
   |(at_builtin;refine wpList_append_own_at _ rfl _ _ 35 rfl b 5 B (.int .u8 0) 1 1 underlying35 w y z A rfl (by decide) _ _ _ rfl (k.out.1.1.alloc _) ⟨W.heap.size,0,none⟩ 1 1 [.int .u8 (96+(x:Int))] rfl rfl (qag _ _ _) (λu f=>by simp at f;subst f;rfl) (by unfold maxLen;omega) (by omega) (by simp;omega) ?_;intro j g d m E l;have i:Hid (qhl g b e j (bs++[UInt8.ofNat (96+x)])/\qhz b e W g):=qbF k.out O.out d m l;obtain⟨D,C,rfl⟩:=ownsRow_succ d))
  go_ret;rw[p.out];exact⟨_,rfl,i.out⟩
 by_cases F:x<=255
 ·have p:Hid (qaj 3 x=120::beF x 1):=by show _=_;unfold qaj;rw[if_neg s];rw[if_pos F];rfl
  go_enter func107,ntmps107
  go_wp2_with(first
   |(at_builtin;refine wpList_append_own_at _ rfl _ _ 35 rfl b 5 B (.int .u8 0) 1 1 underlying35 w y z A rfl (by decide) _ _ _ rfl (k.out.1.1.alloc _) ⟨W.heap.size,0,none⟩ 1 1 [.int .u8 120] rfl rfl (qag _ _ _) (λu f=>by simp at f;subst f;rfl) (by unfold maxLen;omega) (by omega) (by simp;omega) ?_;intro j g d m E l;have i:Hid (qhl g b e j (bs++[120])/\qhz b e W g):=qbF k.out rfl d m l;obtain⟨D,C,rfl⟩:=ownsRow_succ d)
   |(go_at_call 128;refine(qcg _ b e _ _ x 1 (by omega) (by omega) (by simp;omega) i.out.1).mono ?_;rintro r M ⟨L,rfl,o,t⟩;obtain⟨H,K,I,rfl⟩:=o.1.2.2;have q:=qab (qdP i.out o t (p.out.symm))))
  go_ret;exact⟨_,rfl,q.out⟩
 by_cases c2:x<=65535
 ·have p:Hid (qaj 3 x=121::beF x 2):=by show _=_;unfold qaj;rw[if_neg s];rw[if_neg F];rw[if_pos c2];rfl
  go_enter func107,ntmps107
  go_wp2_with(first
   |(at_builtin;refine wpList_append_own_at _ rfl _ _ 35 rfl b 5 B (.int .u8 0) 1 1 underlying35 w y z A rfl (by decide) _ _ _ rfl (k.out.1.1.alloc _) ⟨W.heap.size,0,none⟩ 1 1 [.int .u8 121] rfl rfl (qag _ _ _) (λu f=>by simp at f;subst f;rfl) (by unfold maxLen;omega) (by omega) (by simp;omega) ?_;intro j g d m E l;have i:Hid (qhl g b e j (bs++[121])/\qhz b e W g):=qbF k.out rfl d m l;obtain⟨D,C,rfl⟩:=ownsRow_succ d)
   |(go_at_call 128;refine(qcg _ b e _ _ x 2 (by omega) (by omega) (by simp;omega) i.out.1).mono ?_;rintro r M ⟨L,rfl,o,t⟩;obtain⟨H,K,I,rfl⟩:=o.1.2.2;have q:=qab (qdP i.out o t (p.out.symm))))
  go_ret;exact⟨_,rfl,q.out⟩
 have p:Hid (qaj 3 x=122::beF x 4):=by show _=_;unfold qaj;rw[if_neg s];rw[if_neg F];rw[if_neg c2];rw[if_pos (by omega)];rfl
 go_enter func107,ntmps107
 go_wp2_with(first
  |(at_builtin;refine wpList_append_own_at _ rfl _ _ 35 rfl b 5 B (.int .u8 0) 1 1 underlying35 w y z A rfl (by decide) _ _ _ rfl (k.out.1.1.alloc _) ⟨W.heap.size,0,none⟩ 1 1 [.int .u8 122] rfl rfl (qag _ _ _) (λu f=>by simp at f;subst f;rfl) (by unfold maxLen;omega) (by omega) (by simp;omega) ?_;intro j g d m E l;have i:Hid (qhl g b e j (bs++[122])/\qhz b e W g):=qbF k.out rfl d m l;obtain⟨D,C,rfl⟩:=ownsRow_succ d)
  |(go_at_call 128;refine(qcg _ b e _ _ x 4 (by omega) (by omega) (by simp;omega) i.out.1).mono ?_;rintro r M ⟨L,rfl,o,t⟩;obtain⟨H,K,I,rfl⟩:=o.1.2.2;have q:=qab (qdP i.out o t (p.out.symm))))
 go_ret;exact⟨_,rfl,q.out⟩
theorem qrU(W:World)(b e:Nat)(v:Value)(bs l:List UInt8)(z:bs.length<=999999999)(I:l.length<=999999999)(h:qhl W b e v bs):Calls prog 108 #[v,.string ⟨l.toArray⟩] W λr j=>∃g,r=.returned g/\Own j b g (bs++(qaj 3 l.length++l))/\qhz b e W j:=by
 obtain⟨E,y,B,C,D⟩:=info_parts Tryz.infoU8;have t:=qvC W b e v bs l.length (by omega) z h;have H:(qaj 3 l.length).length<=9:=by
  unfold qaj;have w:∀x k,(beF x k).length=k:=λx k=>by induction k with|zero=>rfl|succ k F=>rw[beF,List.length_cons,F]
  repeat' split
  all_goals simp[w]
 have p:(⟨l.toArray⟩:ByteArray).size=l.length:=List.size_toArray ..;obtain⟨a,n,c,rfl⟩:=h.1.2.2;go_enter func108,ntmps108
 go_wp2_with(first
  |(go_at_call 107;refine t.mono ?_;rintro r q ⟨L,rfl,m,u⟩;obtain⟨G,K,c2,rfl⟩:=m.1.2.2;have d:=qab m;have s:=qab u)
  |(at_builtin;refine wpList_append_own_string _ rfl _ _ 35 9 rfl b 5 E underlying35 underlying9 y B C D _ _ _ rfl d.out.1.1 ⟨l.toArray⟩ rfl (by rw[p,List.length_append];unfold maxLen;omega) (by rw[p,List.length_append];omega) d.out.1.2.1 ?_;intro g i A o J;have f:Hid ((Own i b g ((bs++qaj 3 l.length)++l)/\Below b q i)/\i.heap[e]?=q.heap[e]?):=⟨qaU d.out.1 A o,o.block e d.out.2.2 (λx=>d.out.2.1 x.symm)⟩))
 go_ret;rw[List.append_assoc]at f;exact⟨_,rfl,f.out.1.1,s.out.trans ⟨f.out.1.2,f.out.2⟩⟩
theorem qrx(W:World)(b e:Nat)(v:Value)(bs l:List UInt8)(z:bs.length<=999999999)(I:l.length<=999999999)(h:qhl W b e v bs):Calls prog 111 #[v,.string ⟨l.toArray⟩] W λr j=>∃g,r=.returned g/\Own j b g (bs++(qa1 l.length++l))/\qhz b e W j:=by
 obtain⟨E,y,B,C,D⟩:=info_parts Tryz.infoU8;have t:=qwI W b e v bs l.length (by omega) z h;have H:(qa1 l.length).length<=9:=by
  unfold qa1;have w:∀x k,(beF x k).length=k:=λx k=>by induction k with|zero=>rfl|succ k F=>rw[beF,List.length_cons,F]
  repeat' split
  all_goals simp[w]
 have p:(⟨l.toArray⟩:ByteArray).size=l.length:=List.size_toArray ..;obtain⟨a,n,c,rfl⟩:=h.1.2.2;go_enter func111,ntmps111
 go_wp2_with(first
  |(go_at_call 129;refine t.mono ?_;rintro r q ⟨L,rfl,m,u⟩;obtain⟨G,K,c2,rfl⟩:=m.1.2.2;have d:=qab m;have s:=qab u)
  |(at_builtin;refine wpList_append_own_string _ rfl _ _ 35 9 rfl b 5 E underlying35 underlying9 y B C D _ _ _ rfl d.out.1.1 ⟨l.toArray⟩ rfl (by rw[p,List.length_append];unfold maxLen;omega) (by rw[p,List.length_append];omega) d.out.1.2.1 ?_;intro g i A o J;have f:Hid ((Own i b g ((bs++qa1 l.length)++l)/\Below b q i)/\i.heap[e]?=q.heap[e]?):=⟨qaU d.out.1 A o,o.block e d.out.2.2 (λx=>d.out.2.1 x.symm)⟩))
 go_ret;rw[List.append_assoc]at f;exact⟨_,rfl,f.out.1.1,s.out.trans ⟨f.out.1.2,f.out.2⟩⟩

theorem qxB(T:DataW Unit->Bool)(W:World)(u:Value)(F:Nat->Prop)(hF:∀k,F k->k<W.heap.size)(a:List (Lit×DataW Unit))(E:List Value)(I:qb7 W 198 2 F u a.length E)(X:∀(i:Nat) (o:Lit) (d:DataW Unit),a[i]?=some (o,d)->∃l t y,o=.string l/\E[2*i]?=some (.string ⟨l.toArray⟩)/\E[2*i+1]?=some (.iface t y)/\qv7 W (.iface t y) (T d)):Calls prog 68 #[.iface 196 u] W λe Q=>e=.returned (.bool (a.any λe=>T e.2))/\Below W.heap.size W Q:=by
 obtain⟨q,b,rfl,hn⟩:∃q b,u=.slice q a.length b/\a.length<=maxLen:=by
  rcases I.2 with⟨e,B⟩|⟨g,b,R,e,_,_,S,U,_⟩
  ·exact⟨none,0,by rw[e,B],by rw[B];decide⟩
  exact⟨_,_,e,Nat.le_trans S U⟩
 unfold maxLen at hn;have O:=qab I;have L:=qab X;obtain⟨r,w⟩:∃r,Hid ((a.any λe=>T e.2)=r):=⟨_,show _=_ from rfl⟩
 rw[w.out];have af:=qoc q a.length b;have ag:=qkM q a.length b;have ah:=qmP q a.length b;go_enter func68,ntmps68;go_wp2
 go_loopg[31,9] a.length (λg ab ai wr=>∃(k:Nat),ab=.int .i64 k/\Hid (k+g=a.length)/\Hid ((a.take k).any (λe=>T e.2)=false)/\Hid (Below W.heap.size W wr))
 case atStart=>exact⟨0,rfl,by show _=_;omega,by show _=_;simp,Below.refl _ _⟩
 case round =>
  obtain⟨k,rfl,n,H,c⟩:=hrel
  cases gk with
  |zero =>
   have x:¬(k:Int)<a.length:=by have:=n.out;omega
   have N:Hid (r=false):=by
    show _=_;rw[<-w.out];have h:=H.out;rwa[List.take_of_length_le (by have:=n.out;omega)]at h
   go_wp2;go_ret;rw[N.out];exact⟨rfl,c.out⟩
  |succ g =>
   have Z:k<a.length:=by have:=n.out;omega
   have x:(k:Int)<a.length:=by omega
   have v:=O.out.same (V':=wr) (G:=F) (λ_ h=>h) (λj Y=>c.out.block j (hF j Y));obtain⟨q0,rfl⟩:∃q0,q=some ⟨q0,0,none⟩:=by
    rcases v.2 with⟨_,e⟩|⟨g,ac,R,e,_⟩
    ·omega
    injection e with e1 B e3;exact⟨g,e1⟩
   obtain⟨⟨o,d⟩,D⟩:∃d,a[k]?=some d:=⟨a[k],List.getElem?_eq_getElem Z⟩
   obtain⟨l,J,K,rfl,z,aa,V⟩:=L.out k o d D;have ad:wr.cell? ⟨q0,k*2,none⟩=some (.string ⟨l.toArray⟩):=by
    have:=v.cell (2*k) _ z;have e:(⟨q0,0,none⟩:Addr).add (2*k)=⟨q0,k*2,none⟩:=by by_cases h:2*k=0<;>simp only[Addr.add,h,Nat.zero_add,Nat.mul_comm k 2,if_true,if_false]
    rwa[e]at this
   have ae:wr.cell? ⟨q0,k*2+1,none⟩=some (.iface J K):=by
    have:=v.cell (2*k+1) _ aa;have e:(⟨q0,0,none⟩:Addr).add (2*k+1)=⟨q0,k*2+1,none⟩:=by simp[Addr.add,Nat.mul_comm]
    rwa[e]at this
   have A:Hid (Below W.heap.size W (wr.alloc (.cells #[.string ⟨l.toArray⟩,.iface J K] 198))):=c.out.alloc c.out.size _;have f:=V _ A.out;have M:Hid ((a.take (k+1)).any (λe=>T e.2)=((a.take k).any (λe=>T e.2)||T d)):=qnx (λe:Lit×DataW Unit=>T e.2) a k _ D;have P:Hid (T d=true->(a.any λe=>T e.2)=true):=qr7 (λe:Lit×DataW Unit=>T e.2) a k _ D;cases m:T d
   ·rw[m]at f;have s:=qab m
    go_wp2_with(first
     |(go_at_call 68;refine f.mono ?_;rintro e w4 ⟨rfl,C⟩;have p:=qab (qdJ A.out C)))
    go_roundg g
    case measure=>omega
    case rel=>exact⟨k+1,by go_num,by show _=_;have:=n.out;omega,by show _=_;rw[M.out,H.out,s.out];rfl,p⟩
   rw[m]at f;have s:Hid (r=true):=by show _=_;rw[<-w.out];exact P.out m
   go_wp2_with(first
    |(go_at_call 68;refine f.mono ?_;rintro e w4 ⟨rfl,C⟩;have p:=qab (qdJ A.out C)))
   go_ret;rw[s.out];exact⟨rfl,p.out⟩

end
section
open Go.RowKit
def lbF(dflt:Int):List (List (Nat×List UInt8)×Int×Int)->List (List UInt8×Bool)->Int×Int
 |[],_=>(dflt,1)
 |x::rs,p=>if qzp x.1 p then x.2 else lbF dflt rs p
def PlP(rs:List (List (Nat×List UInt8)×Int×Int))(p:List (List UInt8×Bool))(Y:Nat->Nat):Prop:=∀r (h:r<rs.length),∀k,(Y r).testBit k=plc rs[r].1 p k
theorem qlJ{st:Nat}(b:∀k,st.testBit k=qg7 ss k)(a:∀k,x.testBit k=P k):∀k,wdB st x k=wdP ss P k
 |0=>a 0
 |k+1=>by rw[wdB,wdP,a,b,qlJ b a k]
theorem qvY{st tk:Nat}{t:List UInt8×Bool}(b:∀k,st.testBit k=qg7 ss k)(c:∀k,tk.testBit k=qk2 ss t k)(a:∀k,x.testBit k=P k)(k:Nat):(gon st tk x).testBit k=goP ss t P k:=by
 unfold gon;rw[Nat.testBit_or,Nat.testBit_and,Nat.testBit_shiftLeft,Nat.testBit_and,a,b]
 cases k with
 |zero=>rw[goP];simp
 |succ k =>
  rw[goP,Nat.add_sub_cancel,a,c];simp
theorem qqD(h:r<rs.length)(k:Nat):gB rs r k (λs=>s.1==1)=qg7 rs[r].1 k:=by
 unfold gB qg7;rw[List.getElem?_eq_getElem h];show(match rs[r].1[k]? with|some s=>s.1==1|none=>false)=_;cases rs[r].1[k]? <;> rfl
theorem qwT{a:List UInt8}(h:a∈ks)(i:b∈ks)(e:ks.idxOf a=ks.idxOf b):a=b:=by
 have f:=List.idxOf_lt_length_iff.2 h;have g:=List.idxOf_lt_length_iff.2 i;have c:=List.getElem_idxOf f;have d:=List.getElem_idxOf g;rw[<-c,<-d];simp[e]
theorem qxg(h:s.1=3->s.2∈ks)(j:s.1<=3)(a:List UInt8)(c:Bool):tkX ks s (qnC (fnL ks) a c)=tkS s (a,c):=by
 unfold tkX tkS;split
 ·rfl
 split
 ·rfl
 split
 ·cases c with
  |true=>rfl
  |false =>
   show(((fnL ks (.string a)).getD 0)==1)=false;by_cases b:a∈ks
   ·rw[qeR b];simp;omega
   rw[qep b];rfl
 have i:=h (by omega);rw[qeR i]
 cases c with
 |true =>
  show((1:Nat)==2+ks.idxOf s.2)=false;simp;omega
 |false =>
  show(((fnL ks (.string a)).getD 0)==2+ks.idxOf s.2)=(!false&&a==s.2)
  by_cases b:a∈ks
  ·rw[qeR b];show(2+ks.idxOf a==2+ks.idxOf s.2)=_;by_cases f:a=s.2
   ·rw[f];simp
   have g:ks.idxOf a≠ks.idxOf s.2:=λe=>f (qwT b i e);have d:(2+ks.idxOf a==2+ks.idxOf s.2)=false:=by simpa using g
   rw[d];simp[f]
  rw[qep b];have g:a≠s.2:=λe=>b (e▸i);have d:((none:Option Nat).getD 0==2+ks.idxOf s.2)=false:=by simp;omega
  rw[d];simp[g]
theorem qwf(b:List UInt8)(c:Bool):qnC (fnL ks) b c<2+ks.length:=by
 unfold qnC;split
 ·omega
 by_cases a:b∈ks
 ·rw[qeR a];have:=List.idxOf_lt_length_iff.2 a;show 2+ks.idxOf b<_;omega
 rw[qep a];show 0<_;omega
theorem qwp(h:r<rs.length)(d:∀s∈rs[r].1,s.1<=3/\(s.1=3->s.2∈ks))(b:List UInt8)(a:Bool)(k:Nat):gB rs r k (λs=>tkX ks s (qnC (fnL ks) b a))=qk2 rs[r].1 (b,a) k:=by
 unfold gB qk2;rw[List.getElem?_eq_getElem h];show(match rs[r].1[k]? with|some s=>tkX ks s (qnC (fnL ks) b a)|none=>false)=_
 cases e:rs[r].1[k]? with
 |none=>rfl
 |some s =>
  have c:=d s (List.mem_of_getElem? e);exact qxg c.2 c.1 b a
theorem qpJ(b:LyD rs ks st tk)(a:WdY rs.length st (one rs.length) Y):PlP rs [] Y:=by
 intro r h k;rw[a.1 r h k];have c:∀k,(st r).testBit k=qg7 rs[r].1 k:=λk=>(b.s r k).trans (qqD h k);have d:∀k,(one rs.length r).testBit k=(k==0):=by
  intro k;unfold one;rw[if_pos h]
  cases k with
  |zero=>rfl
  |succ k=>rw[Nat.testBit_succ];simp
 rw[qlJ c d k];rfl
theorem qtm(c:LyD rs ks st tk)(e:∀r (h:r<rs.length),∀s∈rs[r].1,s.1<=3/\(s.1=3->s.2∈ks)){P:Nat->Nat}(f:PlP rs p P)(b:List UInt8)(a:Bool)(g:WdY rs.length st (qiD st (tk (qnC (fnL ks) b a)) P rs.length) Y):PlP rs ((b,a)::p) Y:=by
 intro r h k;rw[g.1 r h k];have d:∀k,(st r).testBit k=qg7 rs[r].1 k:=λk=>(c.s r k).trans (qqD h k);have i:∀k,(tk (qnC (fnL ks) b a) r).testBit k=qk2 rs[r].1 (b,a) k:=λk=>(c.t _ r k).trans (qwp h (e r h) b a k);have j:∀k,(qiD st (tk (qnC (fnL ks) b a)) P rs.length r).testBit k=goP rs[r].1 (b,a) (plc rs[r].1 p) k:=by
  intro k;unfold qiD;rw[if_pos h];exact qvY d i (f r h) k
 rw[qlJ d j k];rfl
theorem qur{X:Nat->Nat}(h:PlP rs p Y)(c:rs.length<=16)(a:∀r,r<16->X r=Y r):PlP rs p X:=by
 intro r b k;rw[a r (by omega)];exact h r b k
theorem qpa(a:Int)(p:List (List UInt8×Bool))(Y:Nat->Nat):∀(rs:List (List (Nat×List UInt8)×Int×Int)) (o:Nat),(∀r (h:r<rs.length),∀k,(Y (o+r)).testBit k=plc rs[r].1 p.reverse k)->jdg a rs Y o=lbF a rs p
 |[],_,_=>rfl
 |x::rs,o,h=>by
  have b:=h 0 (by simp) x.1.length;rw[jdg,lbF];have e:(Y o).testBit x.1.length=qzp x.1 p:=b.trans (qt0 x.1 p);rw[e,qpa a p Y rs (o+1) (λr c k=>by
   have:=h (r+1) (by simpa using c) k;rw[show o+1+r=o+(r+1) by omega,this];rfl)]
theorem qwu(h:PlP rs p.reverse Y)(a:Int):jdg a rs Y 0=lbF a rs p :=
 qpa a p Y rs 0 (λr b k=>by rw[Nat.zero_add];exact h r b k)
theorem qts(h:b∈ks):b∈qio ks s:=by
 unfold qio;split
 ·exact List.mem_append_left _ h
 exact h
theorem qhb:∀(ss:List (Nat×List UInt8)) (ks:List (List UInt8)),b∈ks->b∈ss.foldl qio ks
 |[],_,h=>h
 |_::ss,_,h=>qhb ss _ (qts h)
theorem qkz:∀(ss:List (Nat×List UInt8)) (ks:List (List UInt8)) (s:Nat×List UInt8),s∈ss->s.1=3->s.2∈ss.foldl qio ks
 |x::ss,ks,s,b,h3=>by
  rcases List.mem_cons.1 b with rfl|b
  ·refine qhb ss _ ?_;unfold qio;by_cases a:s.2∈ks
   ·rw[if_neg (λh=>h.2 a)];exact a
   rw[if_pos ⟨h3,a⟩];simp
  exact qkz ss _ s b h3
theorem qkH:∀(rs:List (List (Nat×List UInt8)×Int×Int)) (ks:List (List UInt8)),b∈ks->b∈rs.foldl quk ks
 |[],_,h=>h
 |r::rs,_,h=>qkH rs _ (qhb r.1 _ h)
theorem qkk:∀(rs:List (List (Nat×List UInt8)×Int×Int)) (ks:List (List UInt8)) (r:List (Nat×List UInt8)×Int×Int),r∈rs->∀s∈r.1,s.1=3->s.2∈rs.foldl quk ks
 |x::rs,ks,r,a,s,hs,h3=>by
  rcases List.mem_cons.1 a with rfl|a
  ·exact qkH rs _ (qkz r.1 ks s hs h3)
  exact qkk rs _ r a s hs h3
theorem qk3{i j:Nat}(h:i<rs.length)(a:j<rs[i].1.length)(b:rs[i].1[j].1=3):rs[i].1[j].2∈qc0 rs :=
 qkk rs [] rs[i] (List.getElem_mem h) _ (List.getElem_mem a) b
theorem qmM:∀(rs:List (List (Nat×List UInt8)×Int×Int)) (ks:List (List UInt8)),(∀r∈rs,r.1.length<=8)->(rs.foldl quk ks).length<=ks.length+8*rs.length
 |[],_,_=>by simp
 |r::rs,ks,h=>by
  have b:=qmM rs (quk ks r) (λx a=>h x (List.mem_cons_of_mem _ a));have c:(quk ks r).length<=ks.length+r.1.length:=qnd r.1 ks;have d:=h r (by simp);rw[List.foldl_cons,List.length_cons];omega
theorem qm8(d:rs.length<=16)(a:∀i (h:i<rs.length),rs[i].1.length<=8):(qc0 rs).length<=128:=by
 have h:=qmM rs [] (λr c=>by
  obtain⟨i,b,rfl⟩:=List.getElem_of_mem c;exact a i b)
 unfold qc0;simp at h;omega

structure q0h(W:World)(rs:List (List (Nat×List UInt8)×Int×Int))(dflt:Int)(A:Nat)(q:Aut)(sts:List ((Nat->Nat)×Int×Int))(sa:Option Addr)(sc:Nat)(nf:Lit->Option Nat)(mf:Lit->Option Nat)(W':World):Prop where
 au:qcx W A q sts (.slice sa sts.length sc) nf 0 mf W'
 ers:q.rs=rs
 edf:q.dflt=dflt
 elf:q.lf=fnL (qc0 rs)
 eL:q.L=2+(qc0 rs).length
 ly:LyD rs (qc0 rs) q.st q.tk
 mv:qw0 q sts mf
 few:sts.length<=1
 first:∃t Y,sts[0]?=some t/\WdY rs.length q.st (one rs.length) Y/\∀r,r<16->t.1 r=Y r
def qu6(W:World)(rs:List (List (Nat×List UInt8)×Int×Int))(dflt:Int)(e:Ending)(W':World):Prop :=
 ∃A q sts sa sc nf mf,e=.returned (.pointer (some ⟨A,0,none⟩))/\q0h W rs dflt A q sts sa sc nf mf W'
def w3M(W:World):World:=((W.alloc (.map #[] 0)).alloc (.map #[] 0)).alloc (.map #[] 0)
theorem qjg(W:World):(w3M W).heap.size=W.heap.size+3:=by simp[w3M]
theorem q04(W:World)(a:TypeId)(b:Nat)(e:W.heap.size<=b)(f:b<W.heap.size+3):qdm (w3M W) a b 0 (λ_=>none):=by
 have c:(W.alloc (.map #[] 0)).heap.size=W.heap.size+1:=by simp
 have d:((W.alloc (.map #[] 0)).alloc (.map #[] 0)).heap.size=W.heap.size+2:=by simp
 rcases(by omega:b=W.heap.size\/b=W.heap.size+1\/b=W.heap.size+2)with rfl|rfl|rfl
 ·exact((qm6 W a).kept (World.grownBy_alloc _ _ none) (by simp)).kept (World.grownBy_alloc _ _ none) (by simp)
 ·have h:=(qm6 (W.alloc (.map #[] 0)) a).kept (World.grownBy_alloc _ (.map #[] 0) none) (by simp);rw[c]at h;exact h
 have h:=qm6 ((W.alloc (.map #[] 0)).alloc (.map #[] 0)) a;rw[d]at h;exact h
theorem qzL(W:World)(b:Nat)(d:W.heap.size<=b)(e:b<W.heap.size+3):ImK (w3M W) b []:=by
 have a:(W.alloc (.map #[] 0)).heap.size=W.heap.size+1:=by simp
 have c:((W.alloc (.map #[] 0)).alloc (.map #[] 0)).heap.size=W.heap.size+2:=by simp
 rcases(by omega:b=W.heap.size\/b=W.heap.size+1\/b=W.heap.size+2)with rfl|rfl|rfl
 ·exact((qi5 W).kept (World.grownBy_alloc _ _ none) (by simp)).kept (World.grownBy_alloc _ _ none) (by simp)
 ·have h:=(qi5 (W.alloc (.map #[] 0))).kept (World.grownBy_alloc _ (.map #[] 0) none) (by simp);rw[a]at h;exact h
 have h:=qi5 ((W.alloc (.map #[] 0)).alloc (.map #[] 0));rw[c]at h;exact h
def q0(ra:Option Addr)(rc:Nat)(rs:List (List (Nat×List UInt8)×Int×Int))(dflt:Int)(lm nb mb:Nat):Aut :=
 {ra:=ra,rc:=rc,rs:=rs,dflt:=dflt,lm:=lm,ln:=0,lf:=λ_=>none,st:=λ_=>0,tb:=0,L:=0,tc:=0,tk:=λ_ _=>0,nb:=nb,mb:=mb}
def q1(ra:Option Addr)(rc:Nat)(rs:List (List (Nat×List UInt8)×Int×Int))(dflt:Int)(lm nb mb:Nat)(st:Nat->Nat)(tb:Nat)(tk:Nat->Nat->Nat):Aut :=
 {ra:=ra,rc:=rc,rs:=rs,dflt:=dflt,lm:=lm,ln:=(qc0 rs).length,lf:=fnL (qc0 rs),st:=st,tb:=tb,L:=2+(qc0 rs).length,tc:=2+(qc0 rs).length,tk:=tk,nb:=nb,mb:=mb}
theorem LyD.lt(h:LyD rs ks st tk)(b:∀i (h:i<rs.length),rs[i].1.length<=8):(∀r,st r<256)/\∀x r,tk x r<256 :=
 ⟨λr=>qua λp a=>by rw[h.s,qm9 b r p a],λx r=>qua λp a=>by rw[h.t,qm9 b r p a]⟩
theorem qw7{V0 V1 V2 V3:World}{ra:Option Addr}{rc:Nat}{dflt:Int}{lm nb mb:Nat}(I:qe0 W ra rs)(H:rs.length<=16)(r:∀i (h:i<rs.length),rs[i].1.length<=8)(O:A=W.heap.size+3)(q:W.heap.size<=lm/\lm<W.heap.size+3)(d:W.heap.size<=nb/\nb<W.heap.size+3)(e:W.heap.size<=mb/\mb<W.heap.size+3)(o:lm≠nb)(p:lm≠mb)(z:nb≠mb)(f:V0=(w3M W).alloc (.cells (qiB (q0 ra rc rs dflt lm nb mb) (λ_=>0) (.slice none 0 0) (.slice none 0 0)) 116))(c:qsh V0 lm (qc0 rs) V1)(R:V1.heap.size<=tb)(D:qcy V1 A tb (2+(qc0 rs).length) (q0 ra rc rs dflt lm nb mb) (.slice none 0 0) st tk V2)(C:LyD rs (qc0 rs) st tk)(B:Below V2.heap.size V2 V3):qcx W A (q1 ra rc rs dflt lm nb mb st tb tk) [] (.slice none 0 0) (λ_=>none) 0 (λ_=>none) V3:=by
 have P:V0.heap.size=W.heap.size+4:=by rw[f,World.size_alloc,qjg]
 have Q:=c.but.size;have a:=D.next B
 have u:Below W.heap.size W V0:=by
  rw[f];exact(((bwA).alloc (by simp) _).alloc (by simp;omega) _).alloc (by simp;omega) _
 have v:=c.but.low u q.1;have w:=a.low v (by omega);have F:(w3M W).grownBy V0 none:=by rw[f];exact World.grownBy_alloc _ _ none
 have G:V0.grownBy V1 (some lm):=⟨c.but.os,c.but.tape,c.but.output,c.but.size,λi j k=>c.but.block i j (by simpa using k)⟩
 have s:V1.grownBy V3 (some A):=⟨a.os,a.tape,a.output,a.size,λi j k=>a.block i j (by simpa using k)⟩
 have t:∀n b,W.heap.size<=b->b<W.heap.size+3->b≠lm->qdm V3 n b 0 (λ_=>none):=λn b J K L =>
  (((q04 W n b J K).kept F (by simp)).kept G (by simpa using L)).kept s (by simp;omega)
 obtain⟨y,M,N⟩:=a.tks;refine⟨?_,I,⟨H,r⟩,w,?_,⟨y,M,N.at_⟩,World.ownsRow_nil _ _ _ _,t _ nb d.1 d.2 o.symm,t _ mb e.1 e.2 p.symm,?_,?_,?_,C.lt r,?_,?_,λl i h=>by cases h⟩
 ·rw[qsn];exact a.row
 ·exact(c.names.kept s (by simp;omega)).im
 ·exact⟨by omega,q.1,show W.heap.size<=tb by omega,d.1,e.1⟩
 ·refine⟨show A≠lm by omega,show A≠tb by omega,show A≠nb by omega,show A≠mb by omega,show lm≠tb by omega,o,p,show tb≠nb by omega,show tb≠mb by omega,z⟩
 ·intro g E;cases E
 ·intro i x m;simp at m
 intro i x m;simp at m

theorem qxV{V:World}{L:Nat}{q:Aut}{sv:Value}(h:qcy W A tb L q sv st tk V):AuR V A q.ra q.rc q.rs.length st :=
 ⟨(ltA h.row),(cell_of_row V A 0 _ _ _ h.row).trans (qr5 _ _ _ _),λr a=>(h.cs r a).1⟩
theorem qxb(d:Option Addr)(e:Nat)(rs:List (List (Nat×List UInt8)×Int×Int))(a:Int)(b nb c:Nat):qiB (q0 d e rs a b nb c) (λ_=>0) (.slice none 0 0) (.slice none 0 0)=#[.slice d rs.length e,.int .i64 a,.map (some b),.int .u16 0,.int .u16 0,.int .u16 0,.int .u16 0,.int .u16 0,.int .u16 0,.int .u16 0,.int .u16 0,.int .u16 0,.int .u16 0,.int .u16 0,.int .u16 0,.int .u16 0,.int .u16 0,.int .u16 0,.int .u16 0,.slice none 0 0,.slice none 0 0,.map (some nb),.map (some c)]:=by kernel_rfl
theorem q0a(V:World):(Instr.makeMap 107 none).run prog V=.ok (.map (some V.heap.size)) (V.alloc (.map #[] 0)):=by kernel_rfl
theorem qzT(V:World):(Instr.makeMap 108 none).run prog V=.ok (.map (some V.heap.size)) (V.alloc (.map #[] 0)):=by kernel_rfl
theorem qz9(V:World):(Instr.makeMap 109 none).run prog V=.ok (.map (some V.heap.size)) (V.alloc (.map #[] 0)):=by kernel_rfl
theorem qlX(W:World)(b:Option Addr)(d:Nat)(rs:List (List (Nat×List UInt8)×Int×Int))(c:Int)(hr:qe0 W b rs)(n:rs.length<=16)(V:∀i (h:i<rs.length),rs[i].1.length<=8)(ab:∀i (h:i<rs.length) j (o:j<rs[i].1.length),rs[i].1[j].1<=3/\rs[i].1[j].2.length<=1000000000):Calls prog 26 #[.slice b rs.length d,.int .i64 c] W (qu6 W rs c):=by
 have q:=qab hr;have g:=qab V;have u:=qab ab;have m1:=q0a;have m2:=qzT;have m3:=qz9;have J:Hid (∃a,a=((((W.alloc (.map #[] 0)).alloc (.map #[] 0)).alloc (.map #[] 0)).alloc (.cells #[.slice b rs.length d,.int .i64 c,.map (some W.heap.size),.int .u16 0,.int .u16 0,.int .u16 0,.int .u16 0,.int .u16 0,.int .u16 0,.int .u16 0,.int .u16 0,.int .u16 0,.int .u16 0,.int .u16 0,.int .u16 0,.int .u16 0,.int .u16 0,.int .u16 0,.int .u16 0,.slice none 0 0,.slice none 0 0,.map (some (W.heap.size+1)),.map (some (W.heap.size+1+1))] 116))/\a=(w3M W).alloc (.cells (qiB (q0 b d rs c W.heap.size (W.heap.size+1) (W.heap.size+1+1)) (λ_=>0) (.slice none 0 0) (.slice none 0 0)) 116)):=⟨_,rfl,by rw[qxb];rfl⟩
 obtain⟨a,k,l⟩:=J.out;have m:=qab l;have v:Hid (a.heap.size=W.heap.size+4):=by show _=_;rw[m.out,World.size_alloc,qjg]
 have s:Hid (Below W.heap.size W a):=by
  show Below _ _ _;rw[m.out];exact(((bwA).alloc (by simp) _).alloc (by simp;omega) _).alloc (by simp;omega) _
 have r:Hid (a.heap[W.heap.size+3]?=some (.cells (qiB (q0 b d rs c W.heap.size (W.heap.size+1) (W.heap.size+1+1)) (λ_=>0) (.slice none 0 0) (.slice none 0 0)) 116)):=by
  show _=_;rw[m.out];have:=qac (w3M W) (.cells (qiB (q0 b d rs c W.heap.size (W.heap.size+1) (W.heap.size+1+1)) (λ_=>0) (.slice none 0 0) (.slice none 0 0)) 116);rw[qjg]at this;exact this
 have H:Hid (ImK a W.heap.size []):=by
  show ImK _ _ _;rw[m.out];exact(qzL W W.heap.size (Nat.le_refl _) (by omega)).kept (World.grownBy_alloc _ _ none) (by simp)
 have Q:=qgG W a (W.heap.size+1+1+1) W.heap.size b d rs s.out (by have:=v.out;omega) (by omega) (Nat.le_refl _) n g.out (λi h j o=>(u.out i h j o).2) ((cell_of_row a _ 0 _ _ _ r.out).trans (qr5 _ _ _ _)) ((cell_of_row a _ 2 _ _ _ r.out).trans (qrk _ _ _ _)) q.out H.out;go_enter func26,ntmps26
 go_wp2_with(fail)
 rw[<-k];refine Q.mono ?_;rintro e L ⟨rfl,p⟩;have G:=qab p;have Z:=p.but.low s.out (Nat.le_refl _);have ac:=(p.but.block (W.heap.size+3) (by have:=v.out;omega) (by omega)).trans r.out;have P:=qgV W L (W.heap.size+1+1+1) (q0 b d rs c W.heap.size (W.heap.size+1) (W.heap.size+1+1)) (.slice none 0 0) (qc0 rs) Z ac (by omega) n g.out u.out q.out p.names (qm8 n g.out) (λi h j o U=>qk3 h o U) (by show W.heap.size+1+1+1≠W.heap.size;omega)
 go_wp2_with(fail)
 refine P.mono ?_;rintro e M ⟨rfl,tb,D,tk,ad,y,w⟩;have F:=qab y;have I:=qab ad;have t:Hid (LyD rs (qc0 rs) D tk):=w;have R:=qq2 M (W.heap.size+1+1+1) b d rs.length D (w.lt g.out).1 n (qxV y)
 go_wp2_with(fail)
 refine R.mono ?_;rintro e N ⟨⟨Y,rfl,z⟩,f⟩;have K:=qab z;have aa:=qw7 q.out n g.out (A:=W.heap.size+1+1+1) rfl ⟨Nat.le_refl _,by omega⟩ ⟨by omega,by omega⟩ ⟨by omega,by omega⟩ (by omega) (by omega) (by omega) m.out G.out I.out F.out t.out f;have S:=qgy W _ _ [] none 0 _ 0 _ N aa Y z.2.2 (by simp)
 go_wp2_with(fail)
 refine S.mono ?_;rintro e O ⟨i,af,sa,sc,nf,rfl,_,_,X,_,B,x,C,ae⟩;have E:Hid (qu6 W rs c (.returned (.pointer (some ⟨W.heap.size+1+1+1,0,none⟩))) O):=by
  refine⟨_,_,_,_,_,_,_,rfl,⟨X,rfl,rfl,rfl,rfl,t.out,?_,by simpa using B,x,Y,?_,K.out,ae⟩⟩
  ·intro ag x ai ah _ h;cases h
  have:i<af.length:=ltL C;have T:i=0:=by simp at B;omega
  rw[<-T];exact C
 go_wp2;go_ret;exact E.out

theorem qpU:∀(q:List (List UInt8)) (i:Nat),qbh n q i<0->i<=16->(∀x∈q,qaD n x=true)/\i+q.length<=16
 |[],i,_,hi=>⟨λx c=>absurd c (by simp),by simpa using hi⟩
 |x::q,i,h,_=>by
  unfold qbh at h;split at h
  ·next hc =>
   obtain⟨b,d⟩:=qpU q (i+1) h (by omega);refine⟨λy a=>?_,by rw[List.length_cons];omega⟩;rcases List.mem_cons.1 a with rfl|a
   ·exact hc.1
   exact b y a
  omega
theorem qrT(h:qfl l=true):(qjB l).length<=8:=by
 unfold qfl at h;unfold qjB
 cases a:(l==[46])with
 |true=>simp
 |false =>
  rw[a,Bool.false_or,Bool.and_eq_true]at h;have:=of_decide_eq_true h.2;simpa using this
theorem qpe{s:List UInt8}(h:s∈qjB l):s.length<=l.length:=by
 unfold qjB at h;split at h
 ·cases h
 exact qb6 47 l s h
theorem qqK(h:qaD n l=true):(qec l).1.length<=8/\∀s∈(qec l).1,s.length<=l.length:=by
 have b:=qhU h;have c:=qr4 b;have a:qkl n [(Lib.cut l [32]).1,(Lib.cut (Lib.cut l [32]).2.1 [32]).1,(Lib.cut (Lib.cut l [32]).2.1 [32]).2.1]=true:=by
  rw[<-b];exact h
 unfold qkl at a;rw[Bool.and_eq_true]at a;rw[c];have e:(Lib.cut l [32]).1.length<=l.length:=qb6 32 l _ (by rw[b];simp);exact⟨qrT a.1,λs d=>Nat.le_trans (qpe d) e⟩
theorem qrB(h:qft n l=0):(qcI l).length<=16/\∀r∈qcI l,r.1.length<=8/\∀s∈r.1,s.length<=2000:=by
 have a:qa5 n l<0:=by
  unfold qft at h;split at h
  ·cases h
  omega
 unfold qa5 at a;unfold qcI;split at a
 ·omega
 next hb =>
 split at a
 ·next h0 =>
  rw[if_pos h0];exact⟨by simp,λr b=>by cases b⟩
 next h0 =>
 rw[if_neg h0];obtain⟨d,i⟩:=qpU (qam 10 l) 0 a (by omega);refine⟨by rw[List.length_map];omega,λr b=>?_⟩;obtain⟨x,c,rfl⟩:=List.mem_map.1 b;obtain⟨f,g⟩:=qqK (d x c);refine⟨f,λs e=>?_⟩;have:=g s e;have:=qb6 10 l x c;omega
theorem qqU(h:qft n l=0):((qcI l).map enS).length<=16/\(∀i (h:i<((qcI l).map enS).length),((qcI l).map enS)[i].1.length<=8)/\∀i (h:i<((qcI l).map enS).length) j (a:j<((qcI l).map enS)[i].1.length),((qcI l).map enS)[i].1[j].1<=3/\((qcI l).map enS)[i].1[j].2.length<=1000000000:=by
 obtain⟨m,a⟩:=qrB h;refine⟨by rw[List.length_map];exact m,λi b=>?_,λi b j c=>?_⟩
 ·rw[List.getElem_map];have d:i<(qcI l).length:=by rwa[List.length_map]at b
  show((qcI l)[i].1.map sgS).length<=8;rw[List.length_map];exact(a _ (List.getElem_mem _)).1
 have d:i<(qcI l).length:=by rwa[List.length_map]at b
 have e:((qcI l).map enS)[i]=enS (qcI l)[i]:=List.getElem_map _;have f:j<(qcI l)[i].1.length:=by
  rw[List.getElem_map]at c;have:((qcI l)[i].1.map sgS).length=(qcI l)[i].1.length:=List.length_map _;exact this▸c
 have g:((qcI l).map enS)[i].1[j]=sgS ((qcI l)[i].1[j]):=by
  have:(((qcI l).map enS)[i].1)[j]?=((enS (qcI l)[i]).1)[j]?:=by rw[e]
  rw[List.getElem?_eq_getElem c]at this;have k:((enS (qcI l)[i]).1)[j]?=some (sgS ((qcI l)[i].1[j])):=by
   show((qcI l)[i].1.map sgS)[j]?=_;rw[List.getElem?_map,List.getElem?_eq_getElem f];rfl
  rw[k]at this;injection this
 rw[g];have:=(a _ (List.getElem_mem d)).2 _ (List.getElem_mem f);have:=qvZ (qcI l)[i].1[j];exact⟨qtD _,by omega⟩

end
end Go.Proofs.YtpifimohecagoaaGreatDoor
