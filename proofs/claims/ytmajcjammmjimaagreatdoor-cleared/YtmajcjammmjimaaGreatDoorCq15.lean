import Derived.Test.YtmajcjammmjimaaGreatDoorCq14
set_option maxRecDepth 100000
set_option maxHeartbeats 8000000
set_option linter.all false
namespace Go.Proofs.YtmajcjammmjimaaGreatDoor
open Go.Proofs.Tryz
variable{V W:World}{tl:List UInt8}{A j:Nat}{q:Aut}{sv:Value}
section
open Go.RowKit Go.Lib
theorem qnw(x:Nat)(a:x<16)(V:World):(Instr.index 9 (.string ⟨#[48,49,50,51,52,53,54,55,56,57,97,98,99,100,101,102,103,104,105,106,107,108,109,110,111,112,113,114,115,116,117,118,119,120,121,122]⟩) (.int .u64 x)).run prog V=.ok (.int .u8 ((qeY x).toNat:Int)) V:=by
 have h:x=0\/x=1\/x=2\/x=3\/x=4\/x=5\/x=6\/x=7\/x=8\/x=9\/x=10\/x=11\/x=12\/x=13\/x=14\/x=15:=by omega
 rcases h with rfl|rfl|rfl|rfl|rfl|rfl|rfl|rfl|rfl|rfl|rfl|rfl|rfl|rfl|rfl|rfl<;>(show _=_;kernel_rfl)
theorem qzV(a:Nat)(c:a<18446744073709551616):bits .and .u64 (a:Int) 15=((a%16:Nat):Int):=by
 have h:(BitVec.ofNat 64 a&&&BitVec.ofNat 64 15).toNat=a%16:=by
  rw[kdx,kbr,kbr,kaQ (by omega),kaQ (by omega)];exact kcL a 4
 have b:BitVec.ofInt 64 (a:Int)=BitVec.ofNat 64 a:=kbK ..;show IntKind.u64.wrap ((BitVec.ofInt 64 (a:Int)&&&BitVec.ofNat 64 15).toNat:Int)=_;rw[b,h];unfold IntKind.wrap;simp[IntKind.bits,IntKind.signed];omega
theorem qse.cell(h:qse W tl V)(a:j+1+tl.length=65):V.cell? ⟨W.heap.size,j,none⟩=some (.int .u8 0):=by
 have:=qaa h.arr j;rw[this];simp[show j<65-tl.length by omega,List.getElem?_append,qax]
theorem qse.set(h:qse W tl V)(d:j+1+tl.length=65)(b:UInt8):qse W (b::tl) (V.setCell ⟨W.heap.size,j,none⟩ (qax b)):=by
 refine⟨h.below.setCell (kaf _) _,?_,by simp;omega⟩;rw[kaO V _ _ _ _ _ h.arr];have a:65-tl.length=j+1:=by omega
 have c:65-(b::tl).length=j:=by simp;omega
 rw[a,c];congr 1;congr 1;apply kdj;simp only[kbM,kaW,List.map_replicate,kaH,List.replicate_succ'];rw[kap,kcx _ _ (by simp)];simp
theorem qse.str(h:qse W tl V){i c:Nat}(hi:i+tl.length=65):(convert 27 9 (.slice (some ⟨W.heap.size,i,none⟩) tl.length c)).run prog V=.ok (.string ⟨tl.toArray⟩) V:=by
 refine kdy V 27 9 5 ⟨W.heap.size,i,none⟩ c tl underlying27 underlying5 underlying9 ?_;intro j b;have e:(⟨W.heap.size,i,none⟩:Addr).add j=⟨W.heap.size,i+j,none⟩:=by by_cases h:j=0<;>simp[Addr.add,h]
 rw[e];have:=qaa h.arr (i+j);rw[this];have a:65-tl.length=i:=by omega
 rw[a];simp[qax,kas,kab b]
theorem qse.thaw(h:qse W tl V)(j:Nat):V.frozen? ⟨W.heap.size,j,none⟩=false:=by
 have:=h.arr;simp[World.frozen?,this]
theorem qr8(V:World)(N j n:Nat)(h:j+n=65)(c:0<n):(Instr.sliceAt 255 (.pointer (some ⟨N,0,none⟩)) (some (.int .i64 j)) none none).run prog V=.ok (.slice (some ⟨N,j,none⟩) n n) V:=by
 rw[run_sliceAt_array_l V 255 ⟨N,0,none⟩ (by kernel_rfl) .i64 j (by omega) (by show(j:Int)<=65;omega)];have e:prog.arrayLen 255=65:=by kernel_rfl
 have a:(sizeOf (prog.elem 255)).run prog V=.ok 1 V:=by kernel_rfl
 have b:(⟨N,0,none⟩:Addr).add j=⟨N,j,none⟩:=by by_cases h:j=0<;>simp[Addr.add,h]
 rw[a,e];simp only[kaJ,slicedAt,kbp,kdI];rw[kac (by omega),b,show 65-j=n by omega]
theorem qyP(u:Nat)(O:u<18446744073709551616)(W:World)(w:W.cell? ⟨8,15,none⟩=some (.int .u8 4)):Calls prog 129 #[.slice none 0 0,.int .u64 u,.int .i64 16,.bool false,.bool false] W λe s=>e=.returned (.tuple #[.slice none 0 0,.string ⟨(hxL u).toArray⟩])/\Below W.heap.size W s:=by
 have L:8<W.heap.size:=by
  by_cases h:8<W.heap.size
  ·exact h
  simp[World.cell?,h]at w
 have E:=λV=>qtl V;have F:∀V,Below W.heap.size W V->Calls prog 143 #[.int .u64 16] V λe s=>e=.returned (.int .i64 4)/\s=V:=λV I=>qpX V ((I.cell L).trans w);go_enter func129,ntmps129
 go_wp2_with(first
  |(go_at_call 142;refine(E _).mono ?_;rintro e X ⟨rfl,rfl⟩)
  |(go_at_call 143;refine(F _ bwA).mono ?_;rintro e Y ⟨rfl,rfl⟩))
 go_loopg[1,13] 16 (λg x y wr=>∃(a i:Nat) (d:List UInt8),x=.int .u64 a/\y=.int .i64 i/\Hid (i+d.length=65)/\Hid (hxL u=hxL a++d)/\Hid (a<16^g)/\Hid (d.length+g<=16)/\Hid (qse W d wr))
 case atStart =>
  exact⟨u,65,[],rfl,rfl,rfl,(by show _=_;simp),O,kaf 16,⟨bwA,(qac W _).trans (by kernel_rfl),kaY _⟩⟩
 case round =>
  obtain⟨a,i,d,rfl,rfl,f,v,p,q,l⟩:=hrel;obtain⟨j,rfl⟩:∃j,i=j+1:=⟨i-1,by have:=f.out;have:=q.out;omega⟩
  have U:j<65:=by have:=f.out;omega
  have J:a<18446744073709551616:=by
   have m:=p.out;have H:=q.out;have Q:16^gk<=16^16:=kck (by omega) (by omega);omega
  have z:=qab (qzV a J);have S:=l.out.cell f.out;have T:=l.out.thaw j;by_cases t:a<16
  ·have G:decide ((16:Int)<=a)=false:=by simp;omega
   have o:Hid (hxL u=qeY a::d):=by show _=_;rw[v.out,qpl t];rfl
   obtain⟨b,k⟩:∃b,Hid (qeY a=b):=⟨_,rfl⟩
   have M:∀V,(Instr.index 9 (.string ⟨#[48,49,50,51,52,53,54,55,56,57,97,98,99,100,101,102,103,104,105,106,107,108,109,110,111,112,113,114,115,116,117,118,119,120,121,122]⟩) (.int .u64 a)).run prog V=.ok (.int .u8 (b.toNat:Int)) V:=λV=>k.out▸qnw a t V;have N:=λV=>qr8 V W.heap.size j (b::d).length (by have:=f.out;simp;omega) (by simp);have K:(convert 27 9 (.slice (some ⟨W.heap.size,j,none⟩) (b::d).length (b::d).length)).run prog (wr.setCell ⟨W.heap.size,j,none⟩ (.int .u8 (b.toNat:Int)))=.ok (.string ⟨(b::d).toArray⟩) (wr.setCell ⟨W.heap.size,j,none⟩ (.int .u8 (b.toNat:Int))):=(l.out.set f.out b).str (i:=j) (c:=(b::d).length) (by have:=f.out;simp;omega);have D:=qab (l.out.set f.out b);have A:=qab (k.out▸o.out);obtain⟨n,C⟩:∃n,Hid ((b::d).length=n):=⟨_,rfl⟩
   rw[C.out]at N K
   go_wp2_with fail
   refine kaw (kbY results129 _ _ _) rfl ⟨?_,D.out.below⟩;rw[A.out];rfl
  have G:decide ((16:Int)<=a)=true:=by simp;omega
  obtain⟨x,r⟩:∃x,Hid (a%16=x):=⟨_,rfl⟩
  have P:x<16:=by have:=r.out;omega
  obtain⟨b,k⟩:∃b,Hid (qeY x=b):=⟨_,rfl⟩
  have M:∀V,(Instr.index 9 (.string ⟨#[48,49,50,51,52,53,54,55,56,57,97,98,99,100,101,102,103,104,105,106,107,108,109,110,111,112,113,114,115,116,117,118,119,120,121,122]⟩) (.int .u64 x)).run prog V=.ok (.int .u8 (b.toNat:Int)) V:=λV=>k.out▸qnw x P V;have o:Hid (hxL u=hxL (a/16)++b::d):=by show _=_;rw[v.out,quH t,r.out,k.out];simp
  have R:=r.out▸z.out;have B:Hid (16<=a):=by show _<=_;omega
  go_wp2_with fail
  cases gk with
  |zero =>
   have m:=p.out;have H:=B.out;simp at m;omega
  |succ g =>
   go_roundg g
   case measure=>omega
   case rel =>
    refine⟨a/16,j,b::d,by go_num,by go_num,?_,o.out,?_,?_,l.out.set f.out b⟩
    ·show _=_;have:=f.out;simp;omega
    ·show _<_;have m:=p.out;rw[kd5 (by omega)];rw[kce]at m;exact m
    show _<=_;have:=q.out;simp;omega
theorem q0J(u:Nat)(d:u<18446744073709551616)(W:World)(f:W.cell? ⟨8,15,none⟩=some (.int .u8 4)):Calls prog 152 #[.int .u64 u,.int .i64 16] W λe a=>e=.returned (.string ⟨(hxL u).toArray⟩)/\Below W.heap.size W a:=by
 have c:=qyP u d W f;go_enter func152,ntmps152
 go_wp2_with(first|(go_at_call 129;refine c.mono ?_;rintro e g ⟨rfl,b⟩))
 go_ret;exact⟨rfl,b⟩
theorem q0a(u:Nat)(d:u<18446744073709551616)(W:World)(f:W.cell? ⟨8,15,none⟩=some (.int .u8 4)):Calls prog 136 #[.int .u64 u,.int .i64 16] W λe a=>e=.returned (.string ⟨(hxL u).toArray⟩)/\Below W.heap.size W a:=by
 have c:=q0J u d W f;go_enter func136,ntmps136
 go_wp2_with(first|(go_at_call 152;refine c.mono ?_;rintro e g ⟨rfl,b⟩))
 go_ret;exact⟨rfl,b⟩
def qvD(u:Nat):List UInt8:=List.replicate (16-(hxL u).length) 48++hxL u
theorem qs8(u:Nat)(a:u<18446744073709551616):(qvD u).length=16:=by
 have:=qmA 15 u a;simp[qvD];omega
theorem qzU(n:Nat):repeatL [48] n=List.replicate n 48:=by
 induction n with
 |zero=>rfl
 |succ n a=>simp[repeatL,List.replicate_succ]at a ⊢;exact a
theorem qvc(a b:List UInt8):(⟨a.toArray⟩:ByteArray)++⟨b.toArray⟩=⟨(a++b).toArray⟩:=by
 apply kdQ;simp
theorem qoI(u:Nat)(i:u<18446744073709551616)(W:World)(p:W.cell? ⟨8,15,none⟩=some (.int .u8 4)):Calls prog 122 #[.int .u64 u] W λe j=>e=.returned (.string ⟨(qvD u).toArray⟩)/\Below W.heap.size W j:=by
 have c:=q0a u i W p;have o:=qmA 15 u i;obtain⟨l,b⟩:∃l,Hid (hxL u=l):=⟨_,rfl⟩
 rw[b.out]at c o;obtain⟨n,d⟩:∃n,Hid (16-l.length=n):=⟨_,rfl⟩
 have a:Hid (l.length+n=16):=by show _=_;have:=d.out;omega
 obtain⟨r,f⟩:∃r,Hid (repeatL [48] n=r):=⟨_,rfl⟩
 have g:=qab ((qzU n).symm.trans f.out);have k:∀V:World,Calls prog 137 #[.string ⟨#[48]⟩,.int .i64 n] V λe q=>e=.returned (.string ⟨r.toArray⟩)/\Below V.heap.size V q:=λV=>f.out▸Tryz.strings_Repeat ⟨#[48]⟩ n V (by have:=a.out;omega) (by have:=a.out;show 1*n<=_;omega);have v:¬9223372036854775807<r.length+l.length:=by
  have s:=a.out;have t:r.length=n:=by rw[<-g.out];simp
  omega
 have w:(16:Int)-l.length=n:=by have:=a.out;omega
 go_enter func122,ntmps122
 go_wp2_with(first
  |(go_at_call 136;refine c.mono ?_;rintro e x ⟨rfl,h⟩)
  |(go_at_call 137;refine(k _).mono ?_;rintro e y ⟨rfl,m⟩))
 go_ret;refine⟨?_,h.trans (m.mono h.size)⟩;rw[qvc,<-g.out,<-d.out,<-b.out];rfl

end
section
open Go.RowKit
theorem qmR.of_below{W':World}(h:Below W.heap.size W W'):qmR A q sv W W':=⟨h.size,λj a _ _ _ _=>h.block j a⟩
theorem qmR.trans{X:World}(h:qmR A q sv W V)(g:qmR A q sv V X):qmR A q sv W X :=
 ⟨kaj h.size g.size,λj e a b c d=>(g.block j (kai e h.size) a b c d).trans (h.block j e a b c d)⟩
def q0y(W0:World)(A:Nat)(q:Aut)(sts:List ((Nat->Nat)×Int×Int))(sv:Value)(P:Nat->Nat)(x mn:Nat)(W:World)(e:Ending)(W':World):Prop :=
 ∃(i:Nat) (sts':List ((Nat->Nat)×Int×Int)) (sa':Option Addr) (sc':Nat) (nf':Lit->Option Nat) (mn':Nat) (mf':Lit->Option Nat),e=.returned (.int .i64 i)/\qcy W0 A q sts' (.slice sa' sts'.length sc') nf' mn' mf' W'/\qwh q sts' mf'/\mn'<=mn+1/\(∀(j:Nat) (x:(Nat->Nat)×Int×Int),sts[j]?=some x->sts'[j]?=some x)/\sts'.length<=sts.length+1/\∃t Y,sts'[i]?=some t/\WdY q.rs.length q.st (qj0 q.st (q.tk x) P q.rs.length) Y/\(∀r,r<16->t.1 r=Y r)/\qmR A q sv W W'/\qwg sv (.slice sa' sts'.length sc') W
theorem qqR(w:World)(A:Nat)(q:Aut)(c:List ((Nat->Nat)×Int×Int))(H:Option Addr)(o:Nat)(D:Lit->Option Nat)(n:Nat)(m:Lit->Option Nat)(W:World)(ay:qcy w A q c (.slice H c.length o) D n m W)(a8:qwh q c m)(ba:c.length<100000)(bm:n<100000)(f:Nat)(s:(Nat->Nat)×Int×Int)(O:c[f]?=some s)(B:List UInt8)(G:Bool)(hb:B.length<=maxLen)(x:Nat)(hx:qn0 q.lf B G=x)(hxL:x<q.L)(l:Lit)(hl:keyOf prog 267 (.agg (mvA f x))=some l)(hi:m l=none):Calls prog 135 #[.pointer (some ⟨A,0,none⟩),.int .i64 f,.agg #[.string ⟨B.toArray⟩,.bool G]] W (q0y w A q c (.slice H c.length o) s.1 x n W):=by
 have HA:Hid (qcy w A q c (.slice H c.length o) D n m (W.alloc (.cells #[.string ⟨B.toArray⟩,.bool G] 247))):=ay.next bwA
 have HW:Hid (Below W.heap.size W (W.alloc (.cells #[.string ⟨B.toArray⟩,.bool G] 247))):=bwA;have cL:=qfL w A q c _ D n m _ HA.out B G hb;rw[hx]at cL;have ap:=qab a8;go_enter func135,ntmps135
 go_wp2_with(first
  |(go_at_call 150;refine cL.mono ?_;rintro e b ⟨rfl,z⟩;have E:=qab (HA.out.next z);have ag:=qab (HW.out.trans (z.mono HW.out.size))))
 have P:Hid (qcy w A q c (.slice H c.length o) D n m (b.alloc (.cells #[.int .i64 f,.int .i64 x] 267))):=E.out.next bwA
 have ae:Hid ((b.alloc (.cells #[.int .i64 f,.int .i64 x] 267)).heap[b.heap.size]?=some (.cells (mvA f x) 267)):=qac _ _;have ao:Hid (∀g,(Value.slice H c.length o).ownBlock=some g->g<b.heap.size):=λg e=>qjY E.out.states e;have I:Hid (A<b.heap.size/\q.nb<b.heap.size/\q.mb<b.heap.size):=⟨(ltA E.out.row),E.out.numbers.lt,E.out.moves.lt⟩
 have ar:Hid (Below W.heap.size W (b.alloc (.cells #[.int .i64 f,.int .i64 x] 267))):=ag.out.alloc ag.out.size _;generalize b.alloc (.cells #[.int .i64 f,.int .i64 x] 267)=V0 at *;refine rgn (S:=λZ=>Z.cell? ⟨A,22,none⟩=some (.map (some q.mb))/\Z.heap[b.heap.size]?=some (.cells (mvA f x) 267)/\qdo Z 267 q.mb n m) (⟨qaa P.out.row 22,ae.out,P.out.moves⟩) (by kernel_rfl) ?_;intro a;refine tkp 0 16 (.pointer (some ⟨A,0,none⟩)) a ?_;refine tkp 1 17 (.pointer (some ⟨A,0,none⟩)) a ?_;refine tkp 2 18 (.pointer (some ⟨A,22,none⟩)) a ?_;refine tkq 3 19 (.map (some q.mb)) rfl (λZ k=>?y3) a ?_
 case y3=>(have z1:=k.1;go_simp)
 refine tkq 4 20 (.agg (mvA f x)) rfl (λZ k=>?y4) a ?_
 case y4=>exact qjp 267 (.tmp 7) rfl b.heap.size rfl _ _ _ _ k.2.1 underlying267 rfl (by kernel_rfl)
 refine tkq 5 21 (.tuple #[.int .i64 0,.bool false]) rfl (λZ k=>?y5) a ?_
 case y5=>(have z2:=qdQ k.2.2 mvK underlying132 hl;rw[hi]at z2;go_simp)
 refine tkp 6 15 (.tuple #[.int .i64 0,.bool false]) a ?_;refine tkp 7 22 (.int .i64 0) a ?_;refine tkp 8 23 (.bool false) a ?_;refine tkp 9 8 (.int .i64 0) a ?_;refine tkp 10 9 (.bool false) a ?_;refine wdn ?_;go_simp;have Q:=qab (P.out.next (kam _ _).drew);have af:Hid ((World.drew V0).heap[b.heap.size]?=some (.cells (mvA f x) 267)):=ae.out;have au:=qab (ar.out.drew);generalize World.drew V0=V at *;obtain⟨g,bh,bb,bj,bi,hc⟩:=Q.out.state_at O;injection bb with M _ U;subst M;subst U;have ax:V.cell? ⟨A,20,none⟩=some (.slice (some ⟨g,0,none⟩) c.length o):=qaa Q.out.row 20;have d1:V.cell? ⟨b.heap.size,1,none⟩=some (.int .i64 x):=qaa af.out 1;have bk:(f:Int)<(c.length:Int):=by have:=ltL O;omega
 have HC:Hid (∀(j:Nat) (u:Value),(plA s.1)[j]?=some u->V.cell? ⟨g,f*18+j,none⟩=some u):=λj u hu=>hc j u (by
  have hj:=ltA hu;unfold stA;rw[kbN hj];exact hu)
 go_wp2;have a:(λZ:World=>Z.heap[b.heap.size]?=some (.cells (mvA f x) 267)) {V with drawn:=V.drawn+1}:=af.out;have v:Hid (qcy w A q c (.slice (some ⟨g,0,none⟩) c.length o) D n m {V with drawn:=V.drawn+1}):=Q.out.next (kam _ _).drew
 have am:Hid (∀(j:Nat) (u:Value),(plA s.1)[j]?=some u->({V with drawn:=V.drawn+1}:World).cell? ⟨g,f*18+j,none⟩=some u):=HC.out;have bg:({V with drawn:=V.drawn+1}:World).cell? ⟨A,20,none⟩=some (.slice (some ⟨g,0,none⟩) c.length o):=ax;have cA:=qqK {V with drawn:=V.drawn+1} A q.ra q.rc q.rs.length q.st q.tb q.L q.tc q.tk v.out.bits.1 v.out.bits.2 v.out.few.1 v.out.auR v.out.auT s.1 (v.out.here f s O).2 x hxL;refine kaM (S:=λZ=>Z.heap[b.heap.size]?=some (.cells (mvA f x) 267)) (by kernel_rfl) ?_;have ah:Hid (Below W.heap.size W {V with drawn:=V.drawn+1}):=au.out.drew;generalize({V with drawn:=V.drawn+1}:World)=V1 at *;refine tkp 0 26 (.pointer (some ⟨A,0,none⟩)) a ?_;refine tkp 1 27 (.pointer (some ⟨A,0,none⟩)) a ?_;refine tkp 2 28 (.pointer (some ⟨A,0,none⟩)) a ?_;refine tkp 3 29 (.pointer (some ⟨A,0,none⟩)) a ?_;refine tkp 4 30 (.pointer (some ⟨A,20,none⟩)) a ?_;refine tkp 6 32 (.int .i64 f) a ?_;refine tkp 10 36 (.pointer (some ⟨b.heap.size,1,none⟩)) a ?_;refine tkq 11 37 (.int .i64 x) rfl (λZ k=>?y11) a ?_
 case y11=>(have z1:Z.cell? ⟨b.heap.size,1,none⟩=some (.int .i64 x):=qaa k 1;go_simp)
 refine rdq 5 (λK d=>?_);go_simp;refine d.out _ _ a (λ_=>?_);refine rdq 7 (λK d=>?_);go_simp;refine d.out _ _ a (λ_=>?_);refine rdq 8 (λK d=>?_);go_simp;refine d.out _ _ a (λ_=>?_);refine rdq 9 (λK d=>?_);refine ifw (by kernel_rfl) ?_;refine qi4 135 _ rfl g (f*18) rfl (plA s.1) _ am.out underlying135 rfl (qbo s.1) ?_;refine d.out _ _ a (λ_=>?_);refine rdq 12 (λK d=>?_);go_simp;refine cA.mono ?_;rintro e w4 ⟨⟨Y,rfl,hY⟩,z⟩;simp only[];have T:=qab hY;have ak:=qab (v.out.next z);have h:(λZ:World=>Z.heap[b.heap.size]?=some (.cells (mvA f x) 267)) w4:=(z.block _ (ltA a)).trans a;refine d.out _ _ h (λ_=>?_);have ai:Hid (qmR A q (.slice (some ⟨g,0,none⟩) c.length o) W w4):=qmR.of_below (ah.out.trans (z.mono ah.out.size));refine rdq 13 (λK d=>?_);go_simp;refine(qgM w A q c _ o D n m w4 ak.out Y T.out.2.2 ba).mono ?_;rintro e w6 ⟨i,ac,be,bf,bd,rfl,hF,a0,az,a9,a7,t,ht,bc⟩;simp only[];have al:=qab az;have r:(λZ:World=>Z.heap[b.heap.size]?=some (.cells (mvA f x) 267)) w6:=(hF.block _ (ltA h) (λe=>by have:=ao.out _ e.symm;omega) (by have:=I.out.1;omega) (by have:=I.out.2.1;omega) (by have:=I.out.2.2;omega)).trans h;have J:=qab a9;have F:Hid (ac[i]?=some t/\∀ab,ab<16->t.1 ab=Y ab):=⟨ht,bc⟩
 refine d.out _ _ r (λ_=>?_);have aq:=qab (a0.mono ai.out.size);have av:=qab (ai.out.trans hF);refine tkp 14 8 (.int .i64 i) r ?_;refine wdn ?_;go_simp;go_wp2;have R:=qab (al.out.next (kam _ _).drew);have bl:=ltL F.out.1;obtain⟨w7,bn,a6,N⟩:=qmQ R.out.moves mvK underlying132 (by omega) hl i (by omega);obtain⟨C,M,e2⟩:∃C:Lit->Option Nat,C l=some i/\∀y,y≠l->C y=m y:=by
  have:=Classical.propDecidable;exact⟨λy=>if y=l then some i else m y,kag rfl,λy hh=>kac hh⟩
 have ad:=qab (R.out.moved N (a6 C M e2));have an:Hid (qwh q ac C):=by
  intro f2 x2 l2 k2 aj aa;by_cases e:l2=l
  ·subst e;have U:=kaE (M.symm.trans aa);have X:=quQ.inj aj hl;injection X with X;have e5:f2=f/\x2=x:=by
    have:=congrArg Array.toList X;simp[mvA]at this;omega
   rw[e5.1,e5.2,<-U];exact⟨s,t,Y,J.out _ _ O,F.out.1,T.out,F.out.2⟩
  rw[e2 l2 e]at aa;obtain⟨s2,t2,Y2,a1,a2,a3,a4⟩:=ap.out f2 x2 l2 k2 aj aa;exact⟨s2,t2,Y2,J.out _ _ a1,J.out _ _ a2,a3,a4⟩
 have p:(λZ:World=>Z.cell? ⟨A,22,none⟩=some (.map (some q.mb))/\Z.heap[b.heap.size]?=some (.cells (mvA f x) 267)) {w6 with drawn:=w6.drawn+1}:=⟨qaa R.out.row 22,r⟩
 have a5:(λZ:World=>Z.cell? ⟨A,22,none⟩=some (.map (some q.mb))/\Z.heap[b.heap.size]?=some (.cells (mvA f x) 267)) w7:=⟨qaa ad.out.row 22,(N.block b.heap.size (ltA p.2) (by have:=I.out.2.2;simp;omega)).trans p.2⟩
 have aw:=qab (av.out.trans ⟨N.size,λj hj _ _ _ hn=>N.block j hj (by simpa using hn)⟩);refine kaM (S:=λZ=>Z.cell? ⟨A,22,none⟩=some (.map (some q.mb))/\Z.heap[b.heap.size]?=some (.cells (mvA f x) 267)) (by kernel_rfl) ?_;refine tkp 0 40 (.pointer (some ⟨A,0,none⟩)) p ?_;refine tkp 1 41 (.pointer (some ⟨A,0,none⟩)) p ?_;refine tkp 2 42 (.pointer (some ⟨A,22,none⟩)) p ?_;refine tkq 3 43 (.map (some q.mb)) rfl (λZ k=>?y3) p ?_
 case y3=>(have z1:=k.1;go_simp)
 refine tkq 4 44 (.agg (mvA f x)) rfl (λZ k=>?y4) p ?_
 case y4=>exact qjp 267 (.tmp 7) rfl b.heap.size rfl _ _ _ _ k.2 underlying267 rfl (by kernel_rfl)
 refine tkp 5 45 (.int .i64 i) p ?_;refine rdq 6 (λK d=>?_);go_simp;refine d.out _ _ a5 (λ_=>?_);refine wdn ?_;go_simp;go_wp2;go_ret;exact⟨i,ac,be,bf,bd,n+1,C,rfl,ad.out,an.out,kaf _,J.out,a7,t,Y,F.out.1,T.out,F.out.2,aw.out,aq.out⟩
theorem qvX(g:World)(A:Nat)(q:Aut)(a:List ((Nat->Nat)×Int×Int))(m:Option Addr)(n:Nat)(k:Lit->Option Nat)(c:Nat)(b:Lit->Option Nat)(W:World)(h:qcy g A q a (.slice m a.length n) k c b W)(r:qwh q a b)(G:a.length<100000)(F:c<100000)(f:Nat)(s:(Nat->Nat)×Int×Int)(u:a[f]?=some s)(d:List UInt8)(j:Bool)(w:d.length<=maxLen)(x:Nat)(y:qn0 q.lf d j=x)(hxL:x<q.L)(I:q.L<=100000):Calls prog 135 #[.pointer (some ⟨A,0,none⟩),.int .i64 f,.agg #[.string ⟨d.toArray⟩,.bool j]] W (q0y g A q a (.slice m a.length n) s.1 x c W):=by
 have J:=ltL u;obtain⟨l,p⟩:=qyk f x (by omega) (by omega)
 cases o:b l with
 |none=>exact qqR g A q a m n k c b W h r G F f s u d j w x y hxL l p o
 |some i =>
  refine(qot g A q a _ k c b W h f d j w x y l p i o).mono ?_;rintro e H ⟨rfl,v⟩;obtain⟨K,t,Y,z,B,C,D⟩:=r f x l i p o;have e:=kaE (u.symm.trans z);subst e;exact⟨i,a,m,n,k,c,b,rfl,h.next v,r,kda _,λ_ _ E=>E,kda _,t,Y,B,C,D,qmR.of_below v,.inl rfl⟩

end
section
open Go.RowKit Go.Lib
theorem qio(g:Nat)(l:List UInt8)(a:l≠[]):qdC (g+1) l=qjQ (decodeL l).1++qdC g (l.drop (decodeL l).2):=by
 cases l with
 |nil=>exact absurd rfl a
 |cons b t=>rfl
theorem qiM(W:World)(d:Nat)(v:Value)(s:ByteArray)(bs:List UInt8)(hl:bs.length+(jsT s.data.toList).length<=999999999)(h:Own W d v bs):Calls prog 67 #[v,.string s] W λak y=>∃x,ak=.returned x/\Own y d x (bs++jsT s.data.toList)/\Below d W y/\KpU W y:=by
 obtain⟨F,B,C,D,E⟩:=kaF Tryz.infoU8;obtain⟨a0,bc,a1,rfl⟩:=h.2.2;have z:=qab h;have X:s.data.toList.length=s.size:=ka8;have a:Hid (bs.length+2+(qdC s.size s.data.toList).length<=999999999/\jsT s.data.toList=[34]++qdC s.size s.data.toList++[34]):=by
  unfold jsT at hl;rw[X]at hl;refine⟨by simp only[kaa,kah,kay]at hl;omega,?_⟩;unfold jsT;rw[X]
 have a6:bs.length<=999999999:=by omega
 go_enter func67,ntmps67
 go_wp2_with(first
  |(at_builtin;refine kao _ rfl _ _ 27 rfl d 5 F (.int .u8 0) 1 1 underlying27 B C D E rfl (by decide) _ _ _ rfl (z.out.1.alloc _) ⟨W.heap.size,0,none⟩ 1 1 [.int .u8 34] rfl rfl (qag _ _ _) (λu f=>by simp at f;subst f;rfl) (by unfold maxLen;omega) (by omega) (by simp;have:=z.out.2.1;omega) ?_;intro x O m w af;obtain⟨al,aj,rfl⟩:=ownsRow_succ m;have ag:=qab (qa4 ((kam _ _).alloc z.out.2.1 _) (z.out.1.alloc _) w (by simp;have:=z.out.2.1;omega));have n:Hid (Own O d (.slice (some ⟨al,0,none⟩) _ aj) (bs++[34])):=⟨qbQ m rfl,kaj z.out.2.1 ag.out.size,_,_,_,rfl⟩;have aq:=qab ((qeI W _).trans (qeW (z.out.1.alloc _) w))))
 have t:Hid (qip d W O.heap.size s 0 (.slice (some ⟨al,0,none⟩) (bs.length+1) aj) (bs++[34]) (O.iter s 0)):=by
  refine⟨qhl n.out bwA,World.iter_heap _ _ _,ag.out.alloc n.out.2.1 _,n.out.2.1,aq.out.trans (qeI _ _)⟩
 generalize O.iter s 0=W0 at *;generalize O.heap.size=N at *
 go_loopg[0] s.size (λg az wr=>∃(i:Nat) (H:Option Addr) (M I:Nat) (b:List UInt8),az=.slice H M I/\Hid (i<=s.size)/\Hid (s.size<=i+g)/\Hid (qip d W N s i (.slice H M I) b wr)/\Hid ((bs++[34])++qdC s.size s.data.toList=b++qdC g (s.data.toList.drop i)))
 case atStart=>exact⟨0,_,_,_,_,rfl,kaY _,by show _<=_;omega,t,by show _=_;rw[kdD]⟩
 case round =>
  obtain⟨i,H,M,I,b,rfl,ay,J,t,c⟩:=hrel;have R:Hid (b.length<=999999998):=by
   have:=congrArg List.length c.out;have h2:=a.out.1;simp only[kaa,kah,kay]at this;show _<=_;omega
  by_cases h1:i=s.size
  ·have HF:Hid ((bs++[34])++qdC s.size s.data.toList=b):=by
    have h:=c.out;rw[h1,<-X,kcp,qjW,kbj]at h;rw[<-X];exact h
   have ao:=λty=>qeX (P:=prog) wr N s i ty t.out.it (by omega);have ad:=R.out
   go_wp2_with(first
    |(at_builtin;refine kao _ rfl _ _ 27 rfl d 5 F (.int .u8 0) 1 1 underlying27 B C D E rfl (by decide) _ _ _ rfl (t.out.own.1.alloc _) ⟨wr.heap.size,0,none⟩ 1 1 [.int .u8 34] rfl rfl (qag _ _ _) (λu f=>by simp at f;subst f;rfl) (by unfold maxLen;omega) (by omega) (by simp;have:=t.out.own.2.1;omega) ?_;intro x Q m w af;obtain⟨U,T,rfl⟩:=ownsRow_succ m;have j:=qab (t.out.app (l:=[34]) m w)))
   go_ret;have he:bs++jsT s.data.toList=b++[34]:=by rw[a.out.2,<-HF.out];simp
   rw[he];exact⟨_,rfl,j.out.own,j.out.below,j.out.kp⟩
  have hn:i<s.size:=by have:=ay.out;omega
  obtain⟨g,rfl⟩:∃g,gk=g+1:=⟨gk-1,by have:=J.out;omega⟩
  have ao:=λty=>qgW (P:=prog) wr N s i ty t.out.it hn;obtain⟨r,hr⟩:∃r,(Utf8.decode s i).1=r:=⟨_,rfl⟩
  obtain⟨k,V⟩:∃k,(Utf8.decode s i).2=k:=⟨_,rfl⟩
  rw[hr,V]at ao;have bb:r<=1114111:=by rw[<-hr];exact Lib.rune_le s i
  have ae:=Lib.decodeL_drop s i;have an:s.data.toList.drop i≠[]:=by
   intro h;have:=congrArg List.length h;rw[kaR]at this;simp at this;omega
  have HC:Hid (qdC (g+1) (s.data.toList.drop i)=qjQ r++qdC g (s.data.toList.drop (i+k))):=by
   show _=_;rw[qio _ _ an,ae];rw[show(Utf8.decode s i).1=r from hr,show(Utf8.decode s i).2=k from V,kbf]
  have a7:1<=k:=by have:=Lib.decodeL_width (s.data.toList.drop i);rw[ae,V]at this;exact this
  have a8:k<=s.size-i:=by
   have:=Lib.decodeL_le (s.data.toList.drop i) an;rw[ae,V,kaR]at this;omega
  have p:Hid (qip d W N s (i+k) (.slice H M I) b (wr.putObj N (.stringIter s (i+k)))):=t.out.next _
  have G:Hid ((bs++[34])++qdC s.size s.data.toList=(b++qjQ r)++qdC g (s.data.toList.drop (i+k))):=by
   show _=_;rw[c.out,HC.out,kap]
  have Y:Hid (b.length+(qjQ r).length<=999999998):=by
   have:=congrArg List.length G.out;have h2:=a.out.1;simp only[kaa,kah,kay]at this;show _<=_;omega
  generalize wr.putObj N (.stringIter s (i+k))=W2 at *;have ad:=R.out;by_cases ab:r=34\/r=92
  ·rcases ab with rfl|rfl
   ·have q:Hid (qjQ 34=[92,34]):=rfl;have am:=Y.out;have ad:=R.out
    go_wp2_with(first
     |(at_builtin;refine kao _ rfl _ _ 27 rfl d 5 F (.int .u8 0) 1 1 underlying27 B C D E rfl (by decide) _ _ _ rfl (p.out.own.1.alloc _) ⟨W2.heap.size,0,none⟩ 2 2 [.int .u8 92,.int .u8 34] rfl rfl (qag _ _ _) (λu f=>by simp at f;rcases f with rfl|rfl<;>rfl) (by unfold maxLen;omega) (by omega) (by simp;have:=p.out.own.2.1;omega) ?_;intro x Q m w af;obtain⟨U,T,rfl⟩:=ownsRow_succ m;have j:Hid (qip d W N s (i+k) (.slice (some ⟨U,0,none⟩) (b.length+2) T) (b++[92,34]) Q):=p.out.app (l:=[92,34]) m w))
    go_roundg g
    case measure=>omega
    case rel=>exact⟨i+k,_,_,_,_,rfl,by show _<=_;omega,by show _<=_;have:=J.out;omega,j,by have h:=G.out;rw[q.out]at h;exact h⟩
   have q:Hid (qjQ 92=[92,92]):=rfl;have am:=Y.out;have ad:=R.out
   go_wp2_with(first
    |(at_builtin;refine kao _ rfl _ _ 27 rfl d 5 F (.int .u8 0) 1 1 underlying27 B C D E rfl (by decide) _ _ _ rfl (p.out.own.1.alloc _) ⟨W2.heap.size,0,none⟩ 2 2 [.int .u8 92,.int .u8 92] rfl rfl (qag _ _ _) (λu f=>by simp at f;rcases f with rfl|rfl<;>rfl) (by unfold maxLen;omega) (by omega) (by simp;have:=p.out.own.2.1;omega) ?_;intro x Q m w af;obtain⟨U,T,rfl⟩:=ownsRow_succ m;have j:Hid (qip d W N s (i+k) (.slice (some ⟨U,0,none⟩) (b.length+2) T) (b++[92,92]) Q):=p.out.app (l:=[92,92]) m w))
   go_roundg g
   case measure=>omega
   case rel=>exact⟨i+k,_,_,_,_,rfl,by show _<=_;omega,by show _<=_;have:=J.out;omega,j,by have h:=G.out;rw[q.out]at h;exact h⟩
  have a2:((r:Int)==34)=false:=by simp;omega
  have a5:((r:Int)==92)=false:=by simp;omega
  by_cases aa:r<32
  ·have q:Hid (qjQ r=[92,117,48,48]++[qeY (r/16),qeY (r%16)]):=by show _=_;unfold qjQ;rw[kac ab,kag aa];rfl
   have au:(r:Int)<32:=by omega
   have ap:(⟨([92,117,48,48]:List UInt8).toArray⟩:ByteArray).size=4:=rfl
   go_wp2_with(first
    |(at_builtin;refine wpList_append_own_string _ rfl _ _ 27 9 rfl d 5 F underlying27 underlying9 B C D E _ _ _ rfl p.out.own.1 ⟨[92,117,48,48].toArray⟩ rfl (by rw[ap];unfold maxLen;omega) (by rw[ap];omega) p.out.own.2.1 ?_;intro x w5 m ax a9;have j:=qab (p.out.appS m ax);obtain⟨K,n4,e,rfl⟩:=j.out.own.2.2))
   have A:(λ_:World=>True) {w5 with drawn:=w5.drawn+1}:=trivial;have o:=qab j.out.drew;have ac:(b++[92,117,48,48]).length=b.length+4:=by simp
   have am:b.length+6<=999999998:=by have h:=Y.out;rw[q.out]at h;simpa using h
   refine kaM (S:=λ_=>True) (by kernel_rfl) ?_;refine tkp 0 35 (.slice K n4 e) A ?_;refine tkp 1 36 (.int .i32 r) A ?_;refine tkq 2 37 (.int .i32 ((r/16:Nat):Int)) rfl (λZ hZ=>?y2) A ?_
   case y2=>(go_simp)
   refine tkq 3 38 (qax (qeY (r/16))) rfl (λZ hZ=>?y3) A ?_
   case y3=>exact qmO 9 _ _ rfl rfl (by kernel_rfl) (quL (r/16) (by omega) Z)
   refine tkp 4 39 (.int .i32 r) A ?_;refine tkq 5 40 (.int .i32 ((r%16:Nat):Int)) rfl (λZ hZ=>?y5) A ?_
   case y5=>(have z2:=qvK r aa;go_simp)
   refine tkq 6 41 (qax (qeY (r%16))) rfl (λZ hZ=>?y6) A ?_
   case y6=>exact qmO 9 _ _ rfl rfl (by kernel_rfl) (quL (r%16) (by omega) Z)
   refine rdq 7 (λar hK=>?_);refine ifw (by kernel_rfl) ?_;refine qmv (.tmp 38) (.tmp 41) rfl (qeY (r/16)) (qeY (r%16)) (by kernel_rfl) (by kernel_rfl) ?_;refine hK.out _ _ trivial (λ_=>?_);refine rdq 8 (λar hK=>?_);refine ifw (by kernel_rfl) ?_;refine qf8 (.tmp 35) (.tmp 42) 27 rfl d 5 F (.int .u8 0) 1 1 underlying27 B C D E rfl (by decide) (.slice K n4 e) _ _ (by kernel_rfl) (o.out.own.1.alloc _) ⟨w5.heap.size,0,none⟩ 2 2 [qax (qeY (r/16)),qax (qeY (r%16))] (by kernel_rfl) rfl (qag _ _ _) (λu f=>by simp at f;rcases f with rfl|rfl<;>rfl) (by rw[ac];unfold maxLen;omega) (by rw[ac];omega) (by have:=o.out.own.2.1;rw[kad];exact kc0 this) ?_;intro x w6 L av _;obtain⟨g6,ai,rfl⟩:=ownsRow_succ L;have ah:Hid (qip d W N s (i+k) (.slice (some ⟨g6,0,none⟩) ((b++[92,117,48,48]).length+2) ai) ((b++[92,117,48,48])++[qeY (r/16),qeY (r%16)]) w6):=o.out.app (l:=[qeY (r/16),qeY (r%16)]) L av;refine hK.out _ _ trivial (λ_=>?_);refine tkp 9 0 (.slice (some ⟨g6,0,none⟩) ((b++[92,117,48,48]).length+2) ai) trivial ?_;refine wdn ?_;go_simp;go_wp2;go_roundg g
   case measure=>omega
   case rel=>exact⟨i+k,_,_,_,_,rfl,by show _<=_;omega,by show _<=_;have:=J.out;omega,by rw[ac]at ah;exact ah,by have h:=G.out;rw[q.out,<-kap]at h;exact h⟩
  have q:Hid (qjQ r=qbP r):=by show _=_;unfold qjQ;rw[kac ab,kac aa]
  have au:¬(r:Int)<32:=by omega
  have ba:=qcv (r:Int);have cA:=Any.utf8_AppendRune_plain Tryz.lays242 (by kernel_rfl) d (.slice H M I) b.length (b.map qax) (r:Int) (by omega) (by omega) W2 p.out.own.1 (by omega) p.out.own.2.1
  go_wp2_with(first
   |(go_at_call 91;refine cA.mono ?_;rintro ak Q ⟨v3,rfl,L,bd,aw⟩;rw[qii,kaP]at L;have j:=qab (p.out.app (l:=qbP r) L aw);obtain⟨K,n4,e,rfl⟩:=j.out.own.2.2))
  go_roundg g
  case measure=>omega
  case rel=>exact⟨i+k,_,_,_,_,rfl,by show _<=_;omega,by show _<=_;have:=J.out;omega,j,by have h:=G.out;rw[q.out]at h;exact h⟩

end
section
open Go.RowKit
def qpA(hd:Nat->Nat×Nat×Nat)(bs:List UInt8)(lim:Int):Except (Int×Int) (Int×Nat) :=
 match bs[0]? with
 |none=>.error (9,0)
 |some c=>if(hd c.toNat).1=4\/(hd c.toNat).1=5\/(hd c.toNat).1=6 then match qc4 bs lim (hd c.toNat).2.1 1 (hd c.toNat).2.2 with
  |.error e=>.error e
  |.ok (x,p)=>match nbF (hd c.toNat).1 (hd c.toNat).2.1 x p with
   |.error e=>.error e
   |.ok z=>.ok (z,p)
  else .error (0,0)
theorem qoB{hd:Nat->Nat×Nat×Nat}{bs:List UInt8}{lim:Int}{z:Int}{p:Nat}(h:qpA hd bs lim=.ok (z,p)):∃c x,bs[0]?=some c/\((hd c.toNat).1=4\/(hd c.toNat).1=5\/(hd c.toNat).1=6)/\qc4 bs lim (hd c.toNat).2.1 1 (hd c.toNat).2.2=.ok (x,p)/\nbF (hd c.toNat).1 (hd c.toNat).2.1 x p=.ok z:=by
 unfold qpA at h;split at h
 ·cases h
 next c hc =>
 split at h
 ·next hs =>
  split at h
  ·cases h
  next x q hx =>
  split at h
  ·cases h
  next y hy =>
  cases h;exact⟨c,x,hc,hs,hx,hy⟩
 cases h
theorem qlD(bs:List UInt8)(lim:Int)(g:(bs.length:Int)<=lim)(x:Nat):∀(k p a:Nat) (b:List UInt8),bs.drop p=beF x k++b->qc4 bs lim k p a=.ok (a*256^k+x%256^k,p+k)
 |0,p,a,b,_=>by
  unfold qc4;simp[Nat.mod_one]
 |k+1,p,a,b,h=>by
  obtain⟨c,f⟩:=qt3 (show bs.drop p=UInt8.ofNat (x/2^(8*k)%256)::(beF x k++b)from h);have i:p<bs.length:=(kbw.1 c).1;have d:(UInt8.ofNat (x/2^(8*k)%256)).toNat=x/256^k%256:=by
   rw[kbs,Nat.pow_mul,show(2:Nat)^8=256 from rfl,kev]
  rw[qc4,c];simp only[];rw[kac (by omega),qlD bs lim g x k (p+1) _ b f,d];have e:(a*256+x/256^k%256)*256^k+x%256^k=a*256^(k+1)+x%256^(k+1):=by
   rw[Nat.mod_pow_succ,Nat.add_mul,kce,kb9 (x/256^k%256),kdR a 256,kb9 256];omega
  rw[e,show p+1+k=p+(k+1) by omega]
theorem qdc(d:Nat->Nat×Nat×Nat)(c:UInt8)(x k a:Nat)(lim:Int)(z:Int)(g:a=4\/a=5\/a=6)(e:d c.toNat=(a,k,0))(h:x%256^k=x)(f:nbF a k x (1+k:Nat)=.ok z)(i:(k:Int)<lim)(b:∀k,(beF x k).length=k):qpA d (c::beF x k) lim=.ok (z,(c::beF x k).length):=by
 unfold qpA;simp only[kdw];rw[e];rw[kag g];have:=qlD (c::beF x k) lim (by simp only[kah,b];omega) x k 1 0 [] (by simp);simp only[];rw[this];simp only[keh,kaL,h];rw[f];simp only[kah,b,Nat.add_comm]
theorem qjc(b:Nat->Nat×Nat×Nat)(c:UInt8)(x a:Nat)(lim:Int)(z:Int)(f:a=4\/a=5\/a=6)(d:b c.toNat=(a,0,x))(e:nbF a 0 x 1=.ok z):qpA b [c] lim=.ok (z,[c].length):=by
 unfold qpA;simp only[kdw];rw[d];simp only[qc4];rw[kag f];rw[show nbF (a:Int) ((0:Nat):Int) x ((1:Nat):Int)=.ok z from e];rfl
theorem qaY(x:Nat):∀k,(beF x k).length=k
 |0=>rfl
 |k+1=>by rw[beF,kah,qaY x k]
theorem qgO(w:Int)(x:Nat)(p:Int)(h:x<=9223372036854775807):nbF 4 w x p=.ok (x:Int):=by
 unfold nbF;rw[kac (by decide),kac (by omega),kac (by decide)]
theorem qmj(w:Int)(x:Nat)(p:Int)(h:x<=9223372036854775807):nbF 6 w x p=.ok (-1-(x:Int)):=by
 unfold nbF;rw[kac (by decide),kac (by omega),kag (by decide)]
theorem qkn(w:Int)(x:Nat)(p:Int):nbF 5 w x p=.ok (qkZ x w):=by
 unfold nbF;rw[kag (by decide)]
theorem qnV(s x:Nat)(d:s<2)(e:x<24):qdM (UInt8.ofNat (32*s+x)).toNat=(if s=0 then 4 else 6,0,x):=by
 rw[kbs,kaQ (by omega)];have a:(32*s+x)/32=s:=by omega
 have b:(32*s+x)%32=x:=by omega
 unfold qdM;rw[a,b];have c:s=0\/s=1:=by omega
 rw[kac (by omega),kac (by omega),kac (by omega)];rcases c with rfl|rfl
 ·rw[kac (by simp[qnF];omega),kac (by omega)];rfl
 rw[kac (by simp[qnF];omega),kac (by omega)];rfl
theorem qhj(s x:Nat)(f:s<2)(lim:Int)(g:8<lim)(z:Int)(h:x<=9223372036854775807)(a:∀w p,nbF (if s=0 then(4:Nat)else 6:Nat) w x p=.ok z):qpA qdM (qaj s x) lim=.ok (z,(qaj s x).length):=by
 have b:s=0\/s=1:=by omega
 unfold qaj;by_cases c:x<24
 ·rw[kag c];exact qjc qdM _ x _ lim z (by split<;>simp) (qnV s x f c) (a _ _)
 rw[kac c];by_cases d:x<=255
 ·rw[kag d];refine qdc qdM _ x 1 (if s=0 then 4 else 6) lim z (by split<;>simp) ?_ (by omega) (a _ _) (by omega) (qaY x);rcases b with rfl|rfl<;>rfl
 rw[kac d];by_cases c2:x<=65535
 ·rw[kag c2];refine qdc qdM _ x 2 (if s=0 then 4 else 6) lim z (by split<;>simp) ?_ (by omega) (a _ _) (by omega) (qaY x);rcases b with rfl|rfl<;>rfl
 rw[kac c2];by_cases e:x<=4294967295
 ·rw[kag e];refine qdc qdM _ x 4 (if s=0 then 4 else 6) lim z (by split<;>simp) ?_ (by omega) (a _ _) (by omega) (qaY x);rcases b with rfl|rfl<;>rfl
 rw[kac e];refine qdc qdM _ x 8 (if s=0 then 4 else 6) lim z (by split<;>simp) ?_ (by omega) (a _ _) (by omega) (qaY x);rcases b with rfl|rfl<;>rfl
theorem qnX(z:Int)(lim:Int)(a:8<lim)(c : -9223372036854775808<=z)(d:z<=9223372036854775807):qpA qdM (qfw z) lim=.ok (z,(qfw z).length):=by
 unfold qfw;by_cases b:z<0
 ·rw[kag b];refine qhj 1 _ (by decide) lim a z (by omega) λw p=>?_;rw[kac (by decide)];exact(qmj w _ p (by omega)).trans (by congr 1;omega)
 rw[kac b];refine qhj 0 _ (by decide) lim a z (by omega) λw p=>?_;rw[kag rfl];exact(qgO w _ p (by omega)).trans (by congr 1;omega)
theorem q0H(x:Nat):qkZ x (1:Nat)=((x:Int)+128)%256-128:=by
 unfold qkZ;rw[kag (by decide)];have e:IntKind.i8.wrap x=((x:Int)+128)%256-128:=by
  unfold IntKind.wrap;simp only[IntKind.bits,IntKind.signed,kbB];split<;>rename_i h<;>simp at h<;>omega
 rw[e];unfold wrap64;omega
theorem q0C(x:Nat):qkZ x (2:Nat)=((x:Int)+32768)%65536-32768:=by
 unfold qkZ;rw[kac (by decide),kag (by decide)];have e:IntKind.i16.wrap x=((x:Int)+32768)%65536-32768:=by
  unfold IntKind.wrap;simp only[IntKind.bits,IntKind.signed,kbB];split<;>rename_i h<;>simp at h<;>omega
 rw[e];unfold wrap64;omega
theorem q05(x:Nat):qkZ x (4:Nat)=((x:Int)+2147483648)%4294967296-2147483648:=by
 unfold qkZ;rw[kac (by decide),kac (by decide),kag (by decide)];unfold wrap64 wrap32;omega
theorem q0I(x:Nat):qkZ x (8:Nat)=wrap64 x:=by
 unfold qkZ;rw[kac (by decide),kac (by decide),kac (by decide)]
theorem q06(x:Nat):qkZ x 0=wrap64 x:=by
 unfold qkZ;rw[kac (by decide),kac (by decide),kac (by decide)]
theorem qql(x y:Nat):∀k m,k<=m->x%256^m=y%256^m->beF x k=beF y k
 |0,m,_,_=>rfl
 |k+1,m,hk,h=>by
  have a:∀u:Nat,u/2^(8*k)%256=u%256^m/256^k%256:=by
   intro u;rw[Nat.pow_mul,show(2:Nat)^8=256 from rfl];obtain⟨j,rfl⟩:∃j,m=(k+1)+j:=⟨m-(k+1),by omega⟩
   have b:u%256^(k+1+j)/256^k%256=u%256^(k+1+j)%256^(k+1)/256^k:=by
    rw[kce,kde]
   have c:u%256^(k+1+j)%256^(k+1)=u%256^(k+1):=Nat.mod_mod_of_dvd _ ⟨256^j,Nat.pow_add ..⟩;rw[b,c,kce,kde]
  rw[beF,beF,a x,a y,h,qql x y k m (by omega) h]
theorem qdP(z:Int)(k so lim)(c:UInt8)(f:k=1\/k=2\/k=4\/k=8)(a:qcb c.toNat=(so,k,0))(d:so=5)(g:(8:Int)<lim)(b:qkZ ((z%18446744073709551616).toNat%256^k) (k:Nat)=z):qpA qcb (c::beF (z%18446744073709551616).toNat k) lim=.ok (z,(c::beF (z%18446744073709551616).toNat k).length):=by
 subst d;have e:beF (z%18446744073709551616).toNat k=beF ((z%18446744073709551616).toNat%256^k) k:=qql _ _ k k (kaf _) (kev _ _).symm;rw[e];refine qdc qcb c _ k 5 lim z (by simp) a (kev _ _) ?_ (by omega) (qaY _);exact(qkn _ _ _).trans (by rw[b])
theorem qo3(z:Int)(lim:Int)(e:8<lim)(j : -9223372036854775808<=z)(k:z<=9223372036854775807):qpA qcb (qfy z) lim=.ok (z,(qfy z).length):=by
 unfold qfy;by_cases g:z<0
 ·rw[kag g];unfold qbu;by_cases a : -32<=z
  ·rw[kag a];have h:(z%256).toNat=(256+z).toNat:=by omega
   have f:(UInt8.ofNat (z%256).toNat).toNat=(256+z).toNat:=by rw[kbs,h,kaQ (by omega)]
   refine qjc qcb _ (18446744073709551360+(256+z).toNat) 5 lim z (by simp) ?_ ?_
   ·rw[f];unfold qcb;rw[kac (by omega),kac (by omega),kac (by omega),kac (by omega),kac (by omega)]
   have i:wrap64 ((18446744073709551360+(256+z).toNat:Nat):Int)=z:=by
    unfold wrap64;omega
   generalize 18446744073709551360+(256+z).toNat=x at *;rw[<-i,<-q06];exact qkn _ _ _
  rw[kac a];by_cases b : -128<=z
  ·rw[kag b];refine qdP z 1 5 lim 208 (.inl rfl) (by rfl) rfl e ?_;rw[q0H];omega
  rw[kac b];by_cases c2 : -32768<=z
  ·rw[kag c2];refine qdP z 2 5 lim 209 (.inr (.inl rfl)) (by rfl) rfl e ?_;rw[q0C];omega
  rw[kac c2];by_cases c : -2147483648<=z
  ·rw[kag c];refine qdP z 4 5 lim 210 (.inr (.inr (.inl rfl))) (by rfl) rfl e ?_;rw[q05];omega
  rw[kac c];refine qdP z 8 5 lim 211 (.inr (.inr (.inr rfl))) (by rfl) rfl e ?_;rw[q0I];unfold wrap64;omega
 rw[kac g];have d:∀w p,nbF (4:Nat) w z.toNat p=.ok z:=λw p=>(qgO w _ p (by omega)).trans (by congr 1;omega);unfold qbl;by_cases a:z.toNat<128
 ·rw[kag a];have f:(UInt8.ofNat z.toNat).toNat=z.toNat:=by rw[kbs,kaQ (by omega)]
  refine qjc qcb _ z.toNat 4 lim z (by simp) ?_ (d _ _);rw[f];unfold qcb;rw[kag a]
 rw[kac a];by_cases b:z.toNat<=255
 ·rw[kag b];exact qdc qcb _ z.toNat 1 4 lim z (by simp) (by rfl) (by omega) (d _ _) (by omega) (qaY _)
 rw[kac b];by_cases c2:z.toNat<=65535
 ·rw[kag c2];exact qdc qcb _ z.toNat 2 4 lim z (by simp) (by rfl) (by omega) (d _ _) (by omega) (qaY _)
 rw[kac c2];by_cases c:z.toNat<=4294967295
 ·rw[kag c];exact qdc qcb _ z.toNat 4 4 lim z (by simp) (by rfl) (by omega) (d _ _) (by omega) (qaY _)
 rw[kac c];exact qdc qcb _ z.toNat 8 4 lim z (by simp) (by rfl) (by omega) (d _ _) (by omega) (qaY _)

end
end Go.Proofs.YtmajcjammmjimaaGreatDoor
