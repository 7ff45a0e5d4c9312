import Derived.Test.YtcokgepdckkjdaaGreatDoorRq18
import Derived.Test.YtcokgepdckkjdaaGreatDoorRq21
import Derived.Test.YtcokgepdckkjdaaGreatDoorRq20
set_option maxRecDepth 100000
set_option maxHeartbeats 8000000
namespace Go.Proofs.YtcokgepdckkjdaaGreatDoor
open Go.Proofs.Tryz
variable {V W:World}{b bs tl:List UInt8}{i j k n p r st x:Nat}{c c0:UInt8}{ss:List (Nat×List UInt8)}{P:Nat->Bool}{tk:Nat->Nat->Nat}{rs:List (List (Nat×List UInt8)×Int×Int)}{ks:List (List UInt8)}{s:Nat×List UInt8}{Y:Nat->Nat}{l lim:Int}
section
open Go.RowKit Go.Lib
theorem qmi (x:Nat)(a:x<16)(V:World):(Instr.index 9 (.string ⟨#[48,49,50,51,52,53,54,55,56,57,97,98,99,100,101,102,103,104,105,106,107,108,109,110,111,112,113,114,115,116,117,118,119,120,121,122]⟩) (.int .u64 x)).run prog V=.ok (.int .u8 ((qfU x).toNat:Int)) V:=by
 have h:x=0\/x=1\/x=2\/x=3\/x=4\/x=5\/x=6\/x=7\/x=8\/x=9\/x=10\/x=11\/x=12\/x=13\/x=14\/x=15:=by omega
 rcases h with rfl|rfl|rfl|rfl|rfl|rfl|rfl|rfl|rfl|rfl|rfl|rfl|rfl|rfl|rfl|rfl<;>(show _=_;kernel_rfl)
theorem qwS (a:Nat)(c:a<18446744073709551616):bits .and .u64 (a:Int) 15=((a%16:Nat):Int):=by
 have h:(BitVec.ofNat 64 a &&& BitVec.ofNat 64 15).toNat=a%16:=by
  rw[BitVec.toNat_and,BitVec.toNat_ofNat,BitVec.toNat_ofNat,Nat.mod_eq_of_lt (by omega),Nat.mod_eq_of_lt (by omega)];exact Nat.and_two_pow_sub_one_eq_mod a 4
 have b:BitVec.ofInt 64 (a:Int)=BitVec.ofNat 64 a:=BitVec.ofInt_natCast ..;show IntKind.u64.wrap ((BitVec.ofInt 64 (a:Int) &&& BitVec.ofNat 64 15).toNat:Int)=_;rw[b,h];unfold IntKind.wrap;simp[IntKind.bits,IntKind.signed];omega
theorem qqo.cell (h:qqo W tl V)(a:j+1+tl.length=65):V.cell? ⟨W.heap.size,j,none⟩=some (.int .u8 0):=by
 have:=qab h.arr j;rw[this];simp[show j<65-tl.length by omega,List.getElem?_append,qav]
theorem qqo.set (h:qqo W tl V)(d:j+1+tl.length=65)(b:UInt8):qqo W (b::tl) (V.setCell ⟨W.heap.size,j,none⟩ (qav b)):=by
 refine⟨h.below.setCell (Nat.le_refl _) _,?_,by simp;omega⟩;rw[heap_setCell_same V _ _ _ _ _ h.arr];have a:65-tl.length=j+1:=by omega
 have c:65-(b::tl).length=j:=by simp;omega
 rw[a,c];congr 1;congr 1;apply Array.ext';simp only[Array.toList_setIfInBounds,List.map_append,List.map_replicate,List.map_cons,List.replicate_succ'];rw[List.append_assoc,List.set_append_right _ _ (by simp)];simp
theorem qqo.str (h:qqo W tl V){c:Nat}(hi:i+tl.length=65):(convert 66 9 (.slice (some ⟨W.heap.size,i,none⟩) tl.length c)).run prog V=.ok (.string ⟨tl.toArray⟩) V:=by
 refine run_convert_bytes_back V 66 9 5 ⟨W.heap.size,i,none⟩ c tl underlying66 underlying5 underlying9 ?_;intro j b;have e:(⟨W.heap.size,i,none⟩:Addr).add j=⟨W.heap.size,i+j,none⟩:=by by_cases h:j=0<;>simp[Addr.add,h]
 rw[e];have:=qab h.arr (i+j);rw[this];have a:65-tl.length=i:=by omega
 rw[a];simp[qav,List.getElem?_append_right,List.getElem?_eq_getElem b]
theorem qqo.thaw (h:qqo W tl V)(j:Nat):V.frozen? ⟨W.heap.size,j,none⟩=false:=by
 have:=h.arr;simp[World.frozen?,this]
theorem qoe (V:World)(N j n:Nat)(h:j+n=65)(c:0<n):(Instr.sliceAt 314 (.pointer (some ⟨N,0,none⟩)) (some (.int .i64 j)) none none).run prog V=.ok (.slice (some ⟨N,j,none⟩) n n) V:=by
 rw[run_sliceAt_array_l V 314 ⟨N,0,none⟩ (by kernel_rfl) .i64 j (by omega) (by show(j:Int)<=65;omega)];have e:prog.arrayLen 314=65:=by kernel_rfl
 have a:(sizeOf (prog.elem 314)).run prog V=.ok 1 V:=by kernel_rfl
 have b:(⟨N,0,none⟩:Addr).add j=⟨N,j,none⟩:=by by_cases h:j=0<;>simp[Addr.add,h]
 rw[a,e];simp only[Result.andThen_ok,slicedAt,Int.toNat_natCast,Nat.mul_one];rw[if_neg (by omega),b,show 65-j=n by omega]
theorem qvf (u:Nat)(O:u<18446744073709551616)(W:World)(w:W.cell? ⟨8,15,none⟩=some (.int .u8 4)):Calls prog 193 #[.slice none 0 0,.int .u64 u,.int .i64 16,.bool false,.bool false] W fun e s=>e=.returned (.tuple #[.slice none 0 0,.string ⟨(hxL u).toArray⟩])/\Below W.heap.size W s:=by
 have L:8<W.heap.size:=by
  by_cases h:8<W.heap.size
  ·exact h
  simp[World.cell?,h] at w
 have E:=fun V=>qqr V;have F:∀V,Below W.heap.size W V->Calls prog 201 #[.int .u64 16] V fun e s=>e=.returned (.int .i64 4)/\s=V:=fun V I=>qol V ((I.cell L).trans w);go_enter func193,ntmps193
 go_wp2_with (first
  |(go_at_call 200;refine(E _).mono ?_;rintro e X ⟨rfl,rfl⟩)
  |(go_at_call 201;refine(F _ bwA).mono ?_;rintro e Y ⟨rfl,rfl⟩))
 go_loopg [1,13] 16 (fun g x y wr=>∃(a i:Nat) (d:List UInt8),x=.int .u64 a/\y=.int .i64 i/\Hid (i+d.length=65)/\Hid (hxL u=hxL a++d)/\Hid (a<16^g)/\Hid (d.length+g<=16)/\Hid (qqo W d wr))
 case atStart =>
  exact⟨u,65,[],rfl,rfl,rfl,(by show _=_;simp),O,Nat.le_refl 16,⟨bwA,(qac W _).trans (by kernel_rfl),Nat.zero_le _⟩⟩
 case round =>
  obtain⟨a,i,d,rfl,rfl,f,v,p,q,l⟩:=hrel;obtain⟨j,rfl⟩:∃j,i=j+1:=⟨i-1,by have:=f.out;have:=q.out;omega⟩
  have U:j<65:=by have:=f.out;omega
  have J:a<18446744073709551616:=by
   have m:=p.out;have H:=q.out;have Q:16^gk<=16^16:=Nat.pow_le_pow_right (by omega) (by omega);omega
  have z:=qaa (qwS a J);have S:=l.out.cell f.out;have T:=l.out.thaw j;by_cases t:a<16
  ·have G:decide ((16:Int)<=a)=false:=by simp;omega
   have o:Hid (hxL u=qfU a::d):=by show _=_;rw[v.out,qox t];rfl
   obtain⟨b,k⟩:∃b,Hid (qfU a=b):=⟨_,rfl⟩
   have M:∀V,(Instr.index 9 (.string ⟨#[48,49,50,51,52,53,54,55,56,57,97,98,99,100,101,102,103,104,105,106,107,108,109,110,111,112,113,114,115,116,117,118,119,120,121,122]⟩) (.int .u64 a)).run prog V=.ok (.int .u8 (b.toNat:Int)) V:=fun V=>k.out▸qmi a t V;have N:=fun V=>qoe V W.heap.size j (b::d).length (by have:=f.out;simp;omega) (by simp);have K:(convert 66 9 (.slice (some ⟨W.heap.size,j,none⟩) (b::d).length (b::d).length)).run prog (wr.setCell ⟨W.heap.size,j,none⟩ (.int .u8 (b.toNat:Int)))=.ok (.string ⟨(b::d).toArray⟩) (wr.setCell ⟨W.heap.size,j,none⟩ (.int .u8 (b.toNat:Int))):=(l.out.set f.out b).str (i:=j) (c:=(b::d).length) (by have:=f.out;simp;omega);have D:=qaa (l.out.set f.out b);have A:=qaa (k.out▸o.out);obtain⟨n,C⟩:∃n,Hid ((b::d).length=n):=⟨_,rfl⟩
   rw[C.out] at N K
   go_wp2_with fail
   refine bodyPost_ret (results_tmp2 results193 _ _ _) rfl ⟨?_,D.out.below⟩;rw[A.out];rfl
  have G:decide ((16:Int)<=a)=true:=by simp;omega
  obtain⟨x,r⟩:∃x,Hid (a%16=x):=⟨_,rfl⟩
  have P:x<16:=by have:=r.out;omega
  obtain⟨b,k⟩:∃b,Hid (qfU x=b):=⟨_,rfl⟩
  have M:∀V,(Instr.index 9 (.string ⟨#[48,49,50,51,52,53,54,55,56,57,97,98,99,100,101,102,103,104,105,106,107,108,109,110,111,112,113,114,115,116,117,118,119,120,121,122]⟩) (.int .u64 x)).run prog V=.ok (.int .u8 (b.toNat:Int)) V:=fun V=>k.out▸qmi x P V;have o:Hid (hxL u=hxL (a / 16)++b::d):=by show _=_;rw[v.out,qs8 t,r.out,k.out];simp
  have R:=r.out▸z.out;have B:Hid (16<=a):=by show _<=_;omega
  go_wp2_with fail
  cases gk with
  |zero =>
   have m:=p.out;have H:=B.out;simp at m;omega
  |succ g =>
   go_roundg g
   case measure=>omega
   case rel =>
    refine⟨a / 16,j,b::d,by go_num,by go_num,?_,o.out,?_,?_,l.out.set f.out b⟩
    ·show _=_;have:=f.out;simp;omega
    ·show _<_;have m:=p.out;rw[Nat.div_lt_iff_lt_mul (by omega)];rw[Nat.pow_succ] at m;exact m
    show _<=_;have:=q.out;simp;omega
theorem qxC (u:Nat)(d:u<18446744073709551616)(W:World)(f:W.cell? ⟨8,15,none⟩=some (.int .u8 4)):Calls prog 178 #[.int .u64 u,.int .i64 16] W fun e a=>e=.returned (.string ⟨(hxL u).toArray⟩)/\Below W.heap.size W a:=by
 have c:=qvf u d W f;go_enter func178,ntmps178
 go_wp2_with (first|(go_at_call 193;refine c.mono ?_;rintro e g ⟨rfl,b⟩))
 go_ret;exact⟨rfl,b⟩
theorem qwW (u:Nat)(d:u<18446744073709551616)(W:World)(f:W.cell? ⟨8,15,none⟩=some (.int .u8 4)):Calls prog 163 #[.int .u64 u,.int .i64 16] W fun e a=>e=.returned (.string ⟨(hxL u).toArray⟩)/\Below W.heap.size W a:=by
 have c:=qxC u d W f;go_enter func163,ntmps163
 go_wp2_with (first|(go_at_call 178;refine c.mono ?_;rintro e g ⟨rfl,b⟩))
 go_ret;exact⟨rfl,b⟩
def qt4 (u:Nat):List UInt8:=List.replicate (16-(hxL u).length) 48++hxL u
theorem qq2 (u:Nat)(a:u<18446744073709551616):(qt4 u).length=16:=by
 have:=qkD 15 u a;simp[qt4];omega
theorem qxl (n:Nat):repeatL [48] n=List.replicate n 48:=by
 induction n with
 |zero=>rfl
 |succ n a=>simp[repeatL,List.replicate_succ] at a ⊢;exact a
theorem qt1 (a b:List UInt8):(⟨a.toArray⟩:ByteArray)++⟨b.toArray⟩=⟨(a++b).toArray⟩:=by
 apply ByteArray.ext;simp
theorem qm3 (u:Nat)(i:u<18446744073709551616)(W:World)(p:W.cell? ⟨8,15,none⟩=some (.int .u8 4)):Calls prog 140 #[.int .u64 u] W fun e j=>e=.returned (.string ⟨(qt4 u).toArray⟩)/\Below W.heap.size W j:=by
 have c:=qwW u i W p;have o:=qkD 15 u i;obtain⟨l,b⟩:∃l,Hid (hxL u=l):=⟨_,rfl⟩
 rw[b.out] at c o;obtain⟨n,d⟩:∃n,Hid (16-l.length=n):=⟨_,rfl⟩
 have a:Hid (l.length+n=16):=by show _=_;have:=d.out;omega
 obtain⟨r,f⟩:∃r,Hid (repeatL [48] n=r):=⟨_,rfl⟩
 have g:=qaa ((qxl n).symm.trans f.out);have k:∀V:World,Calls prog 164 #[.string ⟨#[48]⟩,.int .i64 n] V fun e q=>e=.returned (.string ⟨r.toArray⟩)/\Below V.heap.size V q:=fun V=>f.out▸Tryz.strings_Repeat ⟨#[48]⟩ n V (by have:=a.out;omega) (by have:=a.out;show 1*n<=_;omega);have v:¬9223372036854775807<r.length+l.length:=by
  have s:=a.out;have t:r.length=n:=by rw[<-g.out];simp
  omega
 have w:(16:Int)-l.length=n:=by have:=a.out;omega
 go_enter func140,ntmps140
 go_wp2_with (first
  |(go_at_call 163;refine c.mono ?_;rintro e x ⟨rfl,h⟩)
  |(go_at_call 164;refine(k _).mono ?_;rintro e y ⟨rfl,m⟩))
 go_ret;refine⟨?_,h.trans (m.mono h.size)⟩;rw[qt1,<-g.out,<-d.out,<-b.out];rfl

end
section
open Go.RowKit Go.Shelf
def qw9 (n:Nat)(s:ByteArray)(w:World)(e:Ending)(w':World):Prop :=
 ∃a m cap x y,e=.returned (.tuple #[.agg (qf5 a m cap x y),.bool (qa9 n s.data.toList)])/\Below w.heap.size w w'/\(qa9 n s.data.toList=true->m=(qdE s.data.toList).1.length/\x=(qdE s.data.toList).2.1/\y=(qdE s.data.toList).2.2/\qkk w' w.heap.size 169 a (((qdE s.data.toList).1.map sgS).flatMap sgC))
theorem qiQ (s:ByteArray)(n:Nat)(w:World)(X:s.size<=2000)(U:qlZ w):Calls prog 85 #[.string s,.int .i64 n] w fun e b=>qw9 n s w e b:=by
 have l:Hid ((prog.info? 164).map (·.size)=some qc2.size):=qdX;have q:=qaa U;obtain⟨g,Z,b0,B,C,V,W,K⟩:=qnX s X;obtain⟨d,f,b1,D,E,ac,ad,M⟩:=qnX Z W;have Y:qa9 n s.data.toList=(qe8 g.data.toList&&(qh5 d.data.toList n&&qeu f != 0)):=by
  rw[<-qn3];unfold qqG;rw[<-B,<-C,<-D,<-E,qwF]
 have m:=qaa Y;have J:Hid (qa9 n s.data.toList=true->qdE s.data.toList=(qiL g.data.toList,qoC d.data.toList,qeu f)):=by
  intro T;have F:=qgV T;rw[<-B,<-C,<-D,<-E] at F;have:=qqd F;rw[qwF] at this;exact this
 have z:=qaa (qtf w);have L:=K _ (q.out.below z.out.below);go_enter func85,ntmps85
 go_wp2_with (fail)
 refine L.mono ?_;rintro e w2 ⟨rfl,P⟩;have A:=qaa (z.out.step P);have N:=M _ (q.out.below A.out.below)
 go_wp2_with (fail)
 refine N.mono ?_;rintro e H ⟨rfl,Q⟩;have r:=qaa (A.out.step Q);have O:=qfN g H V (q.out.below r.out.below)
 go_wp2_with (fail)
 refine O.mono ?_;rintro e w4 ⟨t,u,G,rfl,R,S⟩;have I:=qaa S;have y:=qaa (ltA r.out.res);have a:=qaa (r.out.step R);cases i:qe8 g.data.toList
 ·have c:Hid (qa9 n s.data.toList=false):=by show _=_;rw[m.out,i];rfl
  go_wp2_with (first
   |(go_at_call 111;refine(qcK d n _).mono ?_;rintro e v ⟨rfl,rfl⟩)
   |(go_at_call 112;refine(qcw f _).mono ?_;rintro e x ⟨rfl,rfl⟩)
   |(refine wpList_store_row rfl 164 _ _ rfl w.heap.size qc2 rfl rfl 164 qc2 a.out.res l.out rfl qf2 ?_))
  refine bodyPost_ret (qap results85 _ _ w.heap.size 164 qc2 (0,0) _ rfl (setRow_heap _ _ qc2 _ _ _ a.out.res) underlying164 rfl qdX (.bool false) rfl) rfl ⟨none,0,0,0,0,by rw[c.out];rfl,qah a.out.below (by omega) _,fun e=>by rw[c.out] at e;cases e⟩
 cases k:qh5 d.data.toList n
 ·have c:Hid (qa9 n s.data.toList=false):=by show _=_;rw[m.out,i,k];rfl
  have h:=fun w=>qcK d n w;rw[k] at h
  go_wp2_with (first
   |(go_at_call 111;refine(h _).mono ?_;rintro e v ⟨rfl,rfl⟩)
   |(go_at_call 112;refine(qcw f _).mono ?_;rintro e x ⟨rfl,rfl⟩)
   |(refine wpList_store_row rfl 164 _ _ rfl w.heap.size qc2 rfl rfl 164 qc2 a.out.res l.out rfl qf2 ?_))
  refine bodyPost_ret (qap results85 _ _ w.heap.size 164 qc2 (0,0) _ rfl (setRow_heap _ _ qc2 _ _ _ a.out.res) underlying164 rfl qdX (.bool false) rfl) rfl ⟨none,0,0,0,0,by rw[c.out];rfl,qah a.out.below (by omega) _,fun e=>by rw[c.out] at e;cases e⟩
 have h:=fun w=>qcK d n w;rw[k] at h;have o:=fun w=>qcw f w;cases j:(qeu f != 0)
 ·have c:Hid (qa9 n s.data.toList=false):=by show _=_;rw[m.out,i,k,j];rfl
  rw[j] at o
  go_wp2_with (first
   |(go_at_call 111;refine(h _).mono ?_;rintro e v ⟨rfl,rfl⟩)
   |(go_at_call 112;refine(o _).mono ?_;rintro e x ⟨rfl,rfl⟩)
   |(refine wpList_store_row rfl 164 _ _ rfl w.heap.size qc2 rfl rfl 164 qc2 a.out.res l.out rfl qf2 ?_))
  refine bodyPost_ret (qap results85 _ _ w.heap.size 164 qc2 (0,0) _ rfl (setRow_heap _ _ qc2 _ _ _ a.out.res) underlying164 rfl qdX (.bool false) rfl) rfl ⟨none,0,0,0,0,by rw[c.out];rfl,qah a.out.below (by omega) _,fun e=>by rw[c.out] at e;cases e⟩
 have c:Hid (qa9 n s.data.toList=true):=by show _=_;rw[m.out,i,k,j];rfl
 rw[j] at o;have p:Hid (qdE s.data.toList=(qiL g.data.toList,qoC d.data.toList,qeu f)/\u=(qiL g.data.toList).length/\qkk w4 H.heap.size 169 t (((qiL g.data.toList).map sgS).flatMap sgC)):=⟨J.out c.out,I.out i⟩
 generalize qoC d.data.toList=li at *;generalize qeu f=ai at *
 go_wp2_with (first
  |(go_at_call 111;refine(h _).mono ?_;rintro e v ⟨rfl,rfl⟩)
  |(go_at_call 112;refine(o _).mono ?_;rintro e x ⟨rfl,rfl⟩)
  |(refine wpList_store_row rfl 164 _ _ rfl w.heap.size (qf5 t u G li ai) rfl rfl 164 qc2 a.out.res l.out rfl (qcJ _ _ _ _ _) ?_))
 refine bodyPost_ret (qap results85 _ _ w.heap.size 164 (qf5 t u G li ai) (0,0) _ rfl (setRow_heap _ _ qc2 _ _ _ a.out.res) underlying164 rfl qdX (.bool true) rfl) rfl ⟨_,_,_,_,_,by rw[c.out],qah a.out.below (by omega) _,fun _ => ?_⟩;rw[p.out.1];exact⟨p.out.2.1,rfl,rfl,p.out.2.2.kept fun aa ab fr i j=>⟨by have:=y.out;omega,sx (by have:=y.out;omega) j⟩⟩

end
section
open Go.RowKit
def lbF (dflt:Int):List (List (Nat×List UInt8)×Int×Int)->List (List UInt8×Bool)->Int×Int
 |[],_=>(dflt,1)
 |x::rs,p=>if qwK x.1 p then x.2 else lbF dflt rs p
def PlP (rs:List (List (Nat×List UInt8)×Int×Int))(p:List (List UInt8×Bool))(Y:Nat->Nat):Prop:=∀r (h:r<rs.length),∀k,(Y r).testBit k=plc rs[r].1 p k
theorem qlj (b:∀k,st.testBit k=qgs ss k)(a:∀k,x.testBit k=P k):∀k,wdB st x k=wdP ss P k
 |0=>a 0
 |k+1=>by rw[wdB,wdP,a,b,qlj b a k]
theorem qus {tk:Nat}{t:List UInt8×Bool}(b:∀k,st.testBit k=qgs ss k)(c:∀k,tk.testBit k=qju ss t k)(a:∀k,x.testBit k=P k)(k:Nat):(gon st tk x).testBit k=goP ss t P k:=by
 unfold gon;rw[Nat.testBit_or,Nat.testBit_and,Nat.testBit_shiftLeft,Nat.testBit_and,a,b]
 cases k with
 |zero=>rw[goP];simp
 |succ k =>
  rw[goP,Nat.add_sub_cancel,a,c];simp
theorem qnS (h:r<rs.length)(k:Nat):gB rs r k (fun s=>s.1==1)=qgs rs[r].1 k:=by
 unfold gB qgs;rw[List.getElem?_eq_getElem h];show(match rs[r].1[k]? with|some s=>s.1==1|none=>false)=_;cases rs[r].1[k]? <;> rfl
theorem qsE {a:List UInt8}(h:a∈ks)(i:b∈ks)(e:ks.idxOf a=ks.idxOf b):a=b:=by
 have f:=List.idxOf_lt_length_iff.2 h;have g:=List.idxOf_lt_length_iff.2 i;have c:=List.getElem_idxOf f;have d:=List.getElem_idxOf g;rw[<-c,<-d];simp[e]
theorem qsM (h:s.1=3->s.2∈ks)(i:s.1<=3)(key:List UInt8)(b:Bool):tkX ks s (qlM (fnL ks) key b)=tkS s (key,b):=by
 unfold tkX tkS;split
 ·rfl
 split
 ·rfl
 split
 ·cases b with
  |true=>rfl
  |false =>
   show(((fnL ks (.string key)).getD 0)==1)=false;by_cases a:key∈ks
   ·rw[qes a];simp;omega
   rw[qdP a];rfl
 have g:=h (by omega);rw[qes g]
 cases b with
 |true =>
  show((1:Nat)==2+ks.idxOf s.2)=false;simp;omega
 |false =>
  show(((fnL ks (.string key)).getD 0)==2+ks.idxOf s.2)=(!false&&key==s.2)
  by_cases a:key∈ks
  ·rw[qes a];show(2+ks.idxOf key==2+ks.idxOf s.2)=_;by_cases d:key=s.2
   ·rw[d];simp
   have f:ks.idxOf key≠ks.idxOf s.2:=fun e=>d (qsE a g e);have c:(2+ks.idxOf key==2+ks.idxOf s.2)=false:=by simpa using f
   rw[c];simp[d]
  rw[qdP a];have f:key≠s.2:=fun e=>a (e▸g);have c:((none:Option Nat).getD 0==2+ks.idxOf s.2)=false:=by simp;omega
  rw[c];simp[f]
theorem qsQ (key:List UInt8)(b:Bool):qlM (fnL ks) key b<2+ks.length:=by
 unfold qlM;split
 ·omega
 by_cases a:key∈ks
 ·rw[qes a];have:=List.idxOf_lt_length_iff.2 a;show 2+ks.idxOf key<_;omega
 rw[qdP a];show 0<_;omega
theorem qty (h:r<rs.length)(c:∀s∈rs[r].1,s.1<=3/\(s.1=3->s.2∈ks))(key:List UInt8)(a:Bool)(k:Nat):gB rs r k (fun s=>tkX ks s (qlM (fnL ks) key a))=qju rs[r].1 (key,a) k:=by
 unfold gB qju;rw[List.getElem?_eq_getElem h];show(match rs[r].1[k]? with|some s=>tkX ks s (qlM (fnL ks) key a)|none=>false)=_
 cases d:rs[r].1[k]? with
 |none=>rfl
 |some s =>
  have b:=c s (List.mem_of_getElem? d);exact qsM b.2 b.1 key a
theorem qpa {st:Nat->Nat}(b:LyD rs ks st tk)(a:WdY rs.length st (one rs.length) Y):PlP rs [] Y:=by
 intro r h k;rw[a.1 r h k];have c:∀k,(st r).testBit k=qgs rs[r].1 k:=fun k=>(b.s r k).trans (qnS h k);have d:∀k,(one rs.length r).testBit k=(k==0):=by
  intro k;unfold one;rw[if_pos h]
  cases k with
  |zero=>rfl
  |succ k=>rw[Nat.testBit_succ];simp
 rw[qlj c d k];rfl
theorem qr7 {st:Nat->Nat}(b:LyD rs ks st tk)(d:∀r (h:r<rs.length),∀s∈rs[r].1,s.1<=3/\(s.1=3->s.2∈ks)){P:Nat->Nat}{p:List (List UInt8×Bool)}(e:PlP rs p P)(key:List UInt8)(a:Bool)(f:WdY rs.length st (qhV st (tk (qlM (fnL ks) key a)) P rs.length) Y):PlP rs ((key,a)::p) Y:=by
 intro r h k;rw[f.1 r h k];have c:∀k,(st r).testBit k=qgs rs[r].1 k:=fun k=>(b.s r k).trans (qnS h k);have g:∀k,(tk (qlM (fnL ks) key a) r).testBit k=qju rs[r].1 (key,a) k:=fun k=>(b.t _ r k).trans (qty h (d r h) key a k);have i:∀k,(qhV st (tk (qlM (fnL ks) key a)) P rs.length r).testBit k=goP rs[r].1 (key,a) (plc rs[r].1 p) k:=by
  intro k;unfold qhV;rw[if_pos h];exact qus c g (e r h) k
 rw[qlj c i k];rfl
theorem qsv {p:List (List UInt8×Bool)}{X:Nat->Nat}(h:PlP rs p Y)(c:rs.length<=16)(a:∀r,r<16->X r=Y r):PlP rs p X:=by
 intro r b k;rw[a r (by omega)];exact h r b k
theorem qpS (a:Int)(p:List (List UInt8×Bool))(Y:Nat->Nat):∀(rs:List (List (Nat×List UInt8)×Int×Int)) (o:Nat),(∀r (h:r<rs.length),∀k,(Y (o+r)).testBit k=plc rs[r].1 p.reverse k)->jdg a rs Y o=lbF a rs p
 |[],_,_=>rfl
 |x::rs,o,h=>by
  have b:=h 0 (by simp) x.1.length;rw[jdg,lbF];have e:(Y o).testBit x.1.length=qwK x.1 p:=b.trans (qrX x.1 p);rw[e,qpS a p Y rs (o+1) (fun r c k=>by
   have:=h (r+1) (by simpa using c) k;rw[show o+1+r=o+(r+1) by omega,this];rfl)]
theorem qtm {p:List (List UInt8×Bool)}(h:PlP rs p.reverse Y)(a:Int):jdg a rs Y 0=lbF a rs p :=
 qpS a p Y rs 0 (fun r b k=>by rw[Nat.zero_add];exact h r b k)
theorem qrI (h:b∈ks):b∈qhw ks s:=by
 unfold qhw;split
 ·exact List.mem_append_left _ h
 exact h
theorem qfQ:∀(ss:List (Nat×List UInt8)) (ks:List (List UInt8)),b∈ks->b∈ss.foldl qhw ks
 |[],_,h=>h
 |_::ss,_,h=>qfQ ss _ (qrI h)
theorem qjC:∀(ss:List (Nat×List UInt8)) (ks:List (List UInt8)) (s:Nat×List UInt8),s∈ss->s.1=3->s.2∈ss.foldl qhw ks
 |x::ss,ks,s,b,h3=>by
  rcases List.mem_cons.1 b with rfl|b
  ·refine qfQ ss _ ?_;unfold qhw;by_cases a:s.2∈ks
   ·rw[if_neg (fun h=>h.2 a)];exact a
   rw[if_pos ⟨h3,a⟩];simp
  exact qjC ss _ s b h3
theorem qjX:∀(rs:List (List (Nat×List UInt8)×Int×Int)) (ks:List (List UInt8)),b∈ks->b∈rs.foldl qsz ks
 |[],_,h=>h
 |r::rs,_,h=>qjX rs _ (qfQ r.1 _ h)
theorem qjM:∀(rs:List (List (Nat×List UInt8)×Int×Int)) (ks:List (List UInt8)) (r:List (Nat×List UInt8)×Int×Int),r∈rs->∀s∈r.1,s.1=3->s.2∈rs.foldl qsz ks
 |x::rs,ks,r,a,s,hs,h3=>by
  rcases List.mem_cons.1 a with rfl|a
  ·exact qjX rs _ (qjC r.1 ks s hs h3)
  exact qjM rs _ r a s hs h3
theorem qjl (h:i<rs.length)(a:j<rs[i].1.length)(b:rs[i].1[j].1=3):rs[i].1[j].2∈qcl rs :=
 qjM rs [] rs[i] (List.getElem_mem h) _ (List.getElem_mem a) b
theorem qmg:∀(rs:List (List (Nat×List UInt8)×Int×Int)) (ks:List (List UInt8)),(∀r∈rs,r.1.length<=8)->(rs.foldl qsz ks).length<=ks.length+8*rs.length
 |[],_,_=>by simp
 |r::rs,ks,h=>by
  have b:=qmg rs (qsz ks r) (fun x a=>h x (List.mem_cons_of_mem _ a));have c:(qsz ks r).length<=ks.length+r.1.length:=ql6 r.1 ks;have d:=h r (by simp);rw[List.foldl_cons,List.length_cons];omega
theorem ql4 (d:rs.length<=16)(a:∀i (h:i<rs.length),rs[i].1.length<=8):(qcl rs).length<=128:=by
 have h:=qmg rs [] (fun r c=>by
  obtain⟨i,b,rfl⟩:=List.getElem_of_mem c;exact a i b)
 unfold qcl;simp at h;omega

end
section
open Go.RowKit Go.Lib
def qxP (c:UInt8):Nat:=if c.toNat<128 then 1 else if c.toNat<194 then 0 else if c.toNat<224 then 2 else if c.toNat<240 then 3 else if c.toNat<245 then 4 else 0
def qxO (c:UInt8):Nat:=if c.toNat<194 then 0 else if c.toNat=224 then 160 else if c.toNat=240 then 144 else if c.toNat<245 then 128 else 0
def qxR (c:UInt8):Nat:=if c.toNat<194 then 0 else if c.toNat=237 then 159 else if c.toNat=244 then 143 else if c.toNat<245 then 191 else 0
theorem q2r:(List.range 256).all (fun x=>(let c:=UInt8.ofNat x;decide ((szU c=0↔qxP c=1)/\(szU c=1↔qxP c=0)/\(2<=qxP c->szU c=qxP c/\loU c=qxO c/\hiU c=qxR c/\128<=qxO c)/\qxP c<=4)))=true:=by kernel_rfl
theorem qzx (c:UInt8):(szU c=0↔qxP c=1)/\(szU c=1↔qxP c=0)/\(2<=qxP c->szU c=qxP c/\loU c=qxO c/\hiU c=qxR c/\128<=qxO c)/\qxP c<=4:=by
 have h:=List.all_eq_true.1 q2r c.toNat (List.mem_range.2 c.toNat_lt);have a:=of_decide_eq_true h;rw[UInt8.ofNat_toNat] at a;exact a
def qyp (c0:UInt8)(j:Nat)(c:UInt8):Bool:=(j==1&&(decide (c.toNat<qxO c0)||decide (qxR c0<c.toNat)))||(decide (1<j)&&(decide (c.toNat<128)||decide (191<c.toNat)))
def q1y (bs:List UInt8)(n p:Nat)(c0:UInt8):Nat->Nat->Nat×Bool
 |0,_=>(qxP c0,true)
 |g+1,j=>if n<=p+j then (j,false) else match bs[p+j]? with
  |none=>(j,false)
  |some c=>if qyp c0 j c=true then (j,false) else q1y bs n p c0 g (j+1)
def qgB (bs:List UInt8)(n p:Nat)(c0:UInt8):Nat×Bool:=if qxP c0=0 then (0,false) else q1y bs n p c0 (qxP c0-1) 1
theorem q0e (a c:UInt8):qyp a 1 c=true↔(c.toNat<qxO a\/qxR a<c.toNat):=by
 unfold qyp;simp
theorem qy4 (a c:UInt8)(j:Nat)(d:1<j):qyp a j c=true↔(c.toNat<128\/191<c.toNat):=by
 unfold qyp;have b:(j==1)=false:=by simp;omega
 rw[b,decide_eq_true d];simp
theorem q2W (a:UInt8)(l:List UInt8)(c:UInt8)(e:l.length+1<qxP a):qc1 (a::l) c=if qyp a (l.length+1) c=true then 0 else if l.length+2=qxP a then 2 else 1:=by
 obtain⟨_,_,g,m⟩:=qzx a;obtain⟨f,j,k,n⟩:=g (by omega)
 match l,e with
 |[],e =>
  show qc1 [a] c=if qyp a 1 c=true then 0 else if 2=qxP a then 2 else 1;simp only[qc1,f,j,k];by_cases b:c.toNat<qxO a\/qxR a<c.toNat
  ·rw[if_pos b,if_pos ((q0e a c).2 b)]
  rw[if_neg b,if_neg (fun h=>b ((q0e a c).1 h))];by_cases d:qxP a=2
  ·rw[if_pos d,if_pos d.symm]
  rw[if_neg d,if_neg (fun h=>d h.symm)]
 |[b1],e =>
  show qc1 [a,b1] c=if qyp a 2 c=true then 0 else if 3=qxP a then 2 else 1;simp only[qc1,f];by_cases b:c.toNat<128\/191<c.toNat
  ·rw[if_pos b,if_pos ((qy4 a c 2 (by decide)).2 b)]
  rw[if_neg b,if_neg (fun h=>b ((qy4 a c 2 (by decide)).1 h))];by_cases d:qxP a=3
  ·rw[if_pos d,if_pos d.symm]
  rw[if_neg d,if_neg (fun h=>d h.symm)]
 |[b1,b2],e =>
  show qc1 [a,b1,b2] c=if qyp a 3 c=true then 0 else if 4=qxP a then 2 else 1;have i:4=qxP a:=by
   have:3<qxP a:=e;omega
  simp only[qc1];by_cases b:c.toNat<128\/191<c.toNat
  ·rw[if_pos b,if_pos ((qy4 a c 3 (by decide)).2 b)]
  rw[if_neg b,if_neg (fun h=>b ((qy4 a c 3 (by decide)).1 h)),if_pos i]
 |_::_::_::l,e=>simp only[List.length_cons] at e;omega
theorem q1q (c:UInt8):qc1 [] c=if qxP c=0 then 0 else if qxP c=1 then 2 else 1:=by
 obtain⟨d,e,f,g⟩:=qzx c;simp only[qc1];by_cases a:qxP c=0
 ·rw[if_pos a];have:=e.2 a;rw[if_neg (by omega),if_pos this]
 rw[if_neg a];by_cases b:qxP c=1
 ·rw[if_pos b,if_pos (d.2 b)]
 rw[if_neg b,if_neg (fun h=>b (d.1 h)),if_neg (fun h=>a (e.1 h))]
theorem q2w (a c:UInt8)(j:Nat)(e:2<=qxP a)(g:1<=j)(h:c.toNat<32):qyp a j c=true:=by
 obtain⟨_,_,d,_⟩:=qzx a;have f:=(d e).2.2.2;unfold qyp;by_cases b:j=1
 ·subst b;simp;omega
 simp;omega
def qyE (bs:List UInt8)(p k:Nat):List UInt8:=(bs.drop p).take k
theorem q0z (h:bs[p+k]? = some c):qyE bs p (k+1)=qyE bs p k++[c]:=by
 unfold qyE;rw[List.take_add_one,List.getElem?_drop,h];rfl
theorem qzF (h:p+k<=bs.length):(qyE bs p k).length=k:=by
 unfold qyE;rw[List.length_take,List.length_drop];omega
theorem q2x (h:bs[p]? = some c):qyE bs p 1=[c]:=by
 have:=q0z (bs:=bs) (p:=p) (k:=0) (c:=c) (by simpa using h);rw[this];simp[qyE]
theorem q1B (h:bs[p]? = some c)(e:1<=k)(f:p+k<=bs.length):∃l,qyE bs p k=c::l/\l.length+1=k:=by
 have a:=ltL h;have b:=(List.getElem?_eq_some_iff.1 h).2;obtain⟨k,rfl⟩:∃d,k=d+1:=⟨k-1,by omega⟩
 refine⟨(bs.drop (p+1)).take k,?_,?_⟩
 ·unfold qyE;rw[List.drop_eq_getElem_cons a,List.take_succ_cons,b]
 rw[List.length_take,List.length_drop];omega
theorem q0h (o:Lm bs l lim)(A:(n:Int)=min (bs.length:Int) lim)(q:bs[p]? = some c0)(a:List UInt8):∀(g j f:Nat),1<=j->j+g=qxP c0->InR bs lim (p+j)->bs.length+1<=p+j+f ->
  match q1y bs n p c0 g j with
  |(k,true)=>k=qxP c0/\InR bs lim (p+k)/\qfe bs lim f (p+j) (a++qyE bs p j) (if g=0 then a.length+j else a.length)=qfe bs lim (f-g) (p+k) (a++qyE bs p k) (a++qyE bs p k).length
  |(k,false)=>k<=qxP c0/\InR bs lim (p+k)/\qfe bs lim f (p+j) (a++qyE bs p j) (if g=0 then a.length+j else a.length)=.error (qr0 bs l (p+k) 9)
 |0,j,f,hj,hg,hi,_=>by
  rw[q1y];simp only[];have y:j=qxP c0:=by omega
  subst y;refine⟨trivial,hi,?_⟩;rw[if_pos trivial,List.length_append,qzF hi.1];rfl
 |g+1,j,f,hj,hg,hi,hf=>by
  obtain⟨f,rfl⟩:∃v,f=v+1:=⟨f-1,by have:=hi.1;omega⟩
  rw[q1y];by_cases u:n<=p+j
  ·rw[if_pos u];simp only[];refine⟨by omega,hi,?_⟩;rw[if_neg (by omega),qfe]
   cases b:bs[p+j]? with
   |none=>simp only[];rw[qyc hi.1 b]
   |some c =>
    have r:=ltL b;have d:((p+j:Nat):Int)=lim:=by have:=hi.2;omega
    simp only[];rw[if_pos d,qxW o b d]
  rw[if_neg u];have r:p+j<bs.length:=by omega
  have b:=List.getElem?_eq_getElem r;obtain⟨c,x⟩:∃c,c=bs[p+j]:=⟨_,rfl⟩
  rw[<-x] at b;rw[b];simp only[];have d:¬((p+j:Nat):Int)=lim:=by omega
  obtain⟨t,C,D⟩:=q1B q hj (by omega);have e:=q2W c0 t c (by omega);have hcut:(a++qyE bs p j).drop a.length=c0::t:=by rw[List.drop_left,C]
  rw[<-hcut,D,show t.length+2=j+1 by omega] at e;have z:(a++qyE bs p j).length=a.length+j:=by rw[List.length_append,qzF (by omega)]
  by_cases i:qyp c0 j c=true
  ·rw[if_pos i];simp only[];refine⟨by omega,hi,?_⟩;rw[if_neg (by omega),qfe,b];simp only[];rw[if_pos i] at e;rw[if_neg d,if_neg (by omega),if_neg (by omega),qxN o hi b d];by_cases m:c.toNat<32
   ·rw[if_pos m]
   rw[if_neg m,if_pos e]
  rw[if_neg i];rw[if_neg i] at e;have m:¬c.toNat<32:=fun h=>i (q2w c0 c j (by omega) hj h);have E:=q0h o A q a g (j+1) f (by omega) (by omega) (qxG hi b d) (by omega);have B:qfe bs lim (f+1) (p+j) (a++qyE bs p j) (if g+1=0 then a.length+j else a.length)=qfe bs lim f (p+(j+1)) (a++qyE bs p (j+1)) (if g=0 then a.length+(j+1) else a.length):=by
   rw[if_neg (by omega),qfe,b];simp only[];rw[if_neg d,if_neg (by omega),if_neg (by omega),if_neg m,e,z];have w:¬(if j+1=qxP c0 then 2 else 1)=0:=by split<;>decide
   rw[if_neg w,q0z b,List.append_assoc];by_cases s:g=0
   ·rw[if_pos (show j+1=qxP c0 by omega),if_pos rfl,if_pos s];rfl
   rw[if_neg (show ¬j+1=qxP c0 by omega),if_neg (by decide),if_neg s];rfl
  rw[B,show f+1-(g+1)=f-g by omega];exact E
theorem q13 (o:Lm bs l lim)(x:(n:Int)=min (bs.length:Int) lim)(hi:InR bs lim p)(e:bs[p]? = some c0)(m:¬(p:Int)=lim)(t:¬c0.toNat=34)(u:¬c0.toNat=92)(v:¬c0.toNat<32)(d:List UInt8)(g:Nat)(z:bs.length+1<=p+g):match qgB bs n p c0 with
  |(k,true)=>1<=k/\InR bs lim (p+k)/\k<=g/\qfe bs lim g p d d.length=qfe bs lim (g-k) (p+k) (d++qyE bs p k) (d++qyE bs p k).length
  |(k,false)=>InR bs lim (p+k)/\qfe bs lim g p d d.length=.error (qr0 bs l (p+k) 9):=by
 have B:=ltL e;have w:qc1 (d.drop d.length) c0=qc1 [] c0:=by rw[List.drop_length]
 obtain⟨g,rfl⟩:∃s,g=s+1:=⟨g-1,by omega⟩
 have i:qfe bs lim (g+1) p d d.length=if qc1 [] c0=0 then .error (9,(p:Int)) else qfe bs lim g (p+1) (d++[c0]) (if qc1 [] c0=2 then d.length+1 else d.length):=by
  conv=>lhs;rw[qfe,e]
  simp only[];rw[if_neg m,if_neg (fun h=>t h.1),if_neg (fun h=>u h.1),if_neg v,w]
 unfold qgB;rw[q1q] at i;by_cases j:qxP c0=0
 ·rw[if_pos j];simp only[];rw[if_pos j] at i;simp only[Nat.add_zero];refine⟨hi,?_⟩;rw[i,qxN o hi e m];rfl
 rw[if_neg j];rw[if_neg j] at i;have y:qfe bs lim (g+1) p d d.length=qfe bs lim g (p+1) (d++qyE bs p 1) (if qxP c0-1=0 then d.length+1 else d.length):=by
  rw[i,if_neg (by split<;>decide),q2x e];by_cases q:qxP c0=1
  ·rw[if_pos q,if_pos rfl,if_pos (by omega)]
  rw[if_neg q,if_neg (by decide),if_neg (by omega)]
 have A:=(qzx c0).2.2.2;have f:=q0h o x e d (qxP c0-1) 1 g (Nat.le_refl _) (by omega) (qxG hi e m) (by omega);rw[<-y] at f;generalize q1y bs n p c0 (qxP c0-1) 1=r at f ⊢;obtain⟨k,b⟩:=r;cases b
 ·exact⟨f.2.1,f.2.2⟩
 simp only[] at f ⊢;obtain⟨a,b,c⟩:=f;have:=b.1;refine⟨by omega,b,by omega,?_⟩;rw[c,show g-(qxP c0-1)=g+1-k by omega]

theorem q2m (w:World)(v:Int)(b:UInt8)(a:v=b.toNat):(convert 66 9 (.slice (some ⟨w.heap.size,0,none⟩) 1 1)).run prog (w.alloc (.cells #[.int .u8 v] 5))=.ok (.string ⟨#[b]⟩) (w.alloc (.cells #[.int .u8 v] 5)):=by
 subst a;exact q2j _ _ b (qab (qac w _) 0)
theorem q3l (s n:Nat)(h:¬n<24):qaj s n=UInt8.ofNat (32*s+24+ixN n)::beF n (2^ixN n):=by
 unfold qaj ixN;rw[if_neg h];by_cases a:n<256
 ·rw[if_pos (by omega),if_pos a]
 rw[if_neg (by omega),if_neg a];by_cases b:n<65536
 ·rw[if_pos (by omega),if_pos b]
 rw[if_neg (by omega),if_neg b];by_cases c:n<4294967296
 ·rw[if_pos (by omega),if_pos c]
 rw[if_neg (by omega),if_neg c]
theorem qxM (W:World)(s n:Nat)(N:s<=7)(H:n<=9223372036854775807):Calls prog 49 #[.int .i64 s,.int .i64 n] W fun e A=>e=.returned (qyh (qaj s n))/\Below W.heap.size W A:=by
 by_cases r:n<24
 ·obtain⟨u,f⟩:∃u,UInt8.ofNat (32*s+n)=u:=⟨_,rfl⟩
  have k:Hid (qaj s n=[u]):=by show _=_;unfold qaj;rw[if_pos r,f]
  rw[k.out];have M:=q2m W ((s:Int)*32+n) u (by rw[<-f,u8n _ (by omega)];omega);have F:(n:Int)<24:=by omega
  go_enter func49,ntmps49;go_wp2;go_ret;exact⟨rfl,bwA⟩
 obtain⟨m,p⟩:∃m,ixN n=m:=⟨_,rfl⟩
 have t:=p▸q2L n;obtain⟨u,f⟩:∃u,UInt8.ofNat (32*s+24+m)=u:=⟨_,rfl⟩
 have v:Hid ((u.toNat:Int)=(s:Int)*32+(24+m:Nat)):=by show _=_;rw[<-f,u8n _ (by omega)];omega
 have k:Hid (qaj s n=[u]++beF n (2^m)):=by show _=_;rw[q3l s n r,p,f];rfl
 rw[k.out];have o:=fun V=>q1c V (n:Int);rw[Int.toNat_natCast,p] at o;have q:=fun V=>q0k (2^m) n V H (q1m (Nat.le_refl m) t).2;have E:¬(1+(beF n (2^m)).length>9223372036854775807):=by rw[qzl];have:=(q1m (Nat.le_refl m) t).2;omega
 obtain⟨c,l⟩:∃c:Nat,Hid (2^m=c):=⟨_,show _=_ from rfl⟩
 rw[l.out] at o q E ⊢;have F:¬(n:Int)<24:=by omega
 go_enter func49,ntmps49
 go_wp2_with (first|(go_at_call 52;refine(o _).mono ?_;rintro e I ⟨rfl,C⟩))
 go_loopg [6,7] m (fun g J K wr=>∃j d:Nat,J=.int .i64 ((24+j:Nat):Int)/\K=.int .i64 d/\wr=I/\Hid (j+g=m)/\Hid (d=2^j))
 case atStart=>exact⟨0,1,rfl,rfl,rfl,by show _=_;omega,rfl⟩
 case round =>
  obtain⟨j,d,rfl,rfl,rfl,h,i⟩:=hrel;have D:j<=3:=by have:=h.out;omega
  have L:d<=8:=by rw[i.out];exact(q1m (Nat.le_refl j) D).2
  cases gk with
  |zero =>
   obtain rfl:j=m:=h.out;have G:¬(d:Int)<(c:Int):=by
    have:=i.out;have:=l.out;omega
   have w:Hid (IntKind.i64.wrap ((s:Int)*32)=(s:Int)*32):=w64 _ (by omega);have x:Hid (IntKind.i64.wrap ((s:Int)*32+(24+j:Nat))=u.toNat):=by show _=_;rw[v.out];exact w64 _ (by omega)
   have z:Hid (IntKind.u8.wrap (u.toNat:Int)=u.toNat):=w8 _ (by have:=u.toNat_lt;omega)
   go_wp2_with fail
   refine rgn (S:=fun _=>True) trivial (by kernel_rfl) ?_;intro b;refine tkk 0 26 (.int .i64 s) (by kernel_rfl) iQ3 b ?_;refine tk 1 27 (.int .i64 ((s:Int)*32)) rfl (by kernel_rfl) iQ3 (fun Z _ => ?y1) b ?_
   case y1=>(go_simp<;>exact w.out)
   refine tkk 2 28 (.int .i64 ((24+j:Nat):Int)) (by kernel_rfl) iQ3 b ?_;refine tk 3 29 (.int .i64 u.toNat) rfl (by kernel_rfl) iQ3 (fun Z _ => ?y2) b ?_
   case y2=>(go_simp<;>exact x.out)
   refine tk 4 30 (.int .u8 u.toNat) rfl (by kernel_rfl) iQ3 (fun Z _ => ?y3) b ?_
   case y3=>(go_simp<;>exact z.out)
   refine tkk 7 33 (.int .i64 n) (by kernel_rfl) iQ3 b ?_;refine tkk 8 34 (.int .i64 c) (by kernel_rfl) iQ3 b ?_;refine tri 9 5 6 35 31 32 54 (qyh (beF n c)) u ⟨rfl,rfl,rfl⟩ rfl (by kernel_rfl) (fun _ _ _=>⟨by kernel_rfl,by kernel_rfl,by kernel_rfl⟩) (fun _=>⟨by kernel_rfl,by kernel_rfl⟩) q (fun _ _=>trivial) (fun V y B => ?_);refine tk 10 36 (qyh ([u]++beF n c)) rfl (by kernel_rfl) iQ3 (fun Z _ => ?y5) b ?_
   case y5=>(unfold qyh;go_simp;exact qyf [u] _)
   refine tkk 11 4 (qyh ([u]++beF n c)) (by kernel_rfl) iQ3 b ?_;refine wpAnyH_done (by kernel_rfl) ?_ _;go_wp2;go_ret;exact⟨rfl,q3g C B⟩
  |succ g =>
   have G:(d:Int)<(c:Int):=by
    have e:=h.out;have:=Nat.pow_lt_pow_right (a:=2) (by decide) (show j<m by omega);rw[l.out,<-i.out] at this;omega
   go_wp2;go_roundg g
   case measure=>omega
   case rel=>exact⟨j+1,d*2,by go_num,by go_num,rfl,by show _=_;have:=h.out;omega,by show _=_;rw[i.out,Nat.pow_succ]⟩

end
end Go.Proofs.YtcokgepdckkjdaaGreatDoor
