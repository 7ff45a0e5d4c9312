import Derived.Test.YtcokgepdckkjdaaGreatDoorRq22
set_option maxRecDepth 100000
set_option maxHeartbeats 8000000
namespace Go.Proofs.YtcokgepdckkjdaaGreatDoor
open Go.Proofs.Tryz
variable {W:World}{n:Nat}{s:ByteArray}
section
open Go.RowKit Go.Lib
def kyB (key:Int)(i:Nat):Nat:=(key / 2^(8*i)%256).toNat
theorem qw4 (key:Int)(i:Nat):kyB key i<256:=by unfold kyB;omega
def kyS (key:Int):Nat->Nat
 |0=>14695981039346656037
 |k+1=>wmF (kyS key k) (kyB key k)
theorem qs6 (key:Int):∀k,kyS key k<18446744073709551616
 |0=>by show 14695981039346656037<_;omega
 |k+1=>qkj _ _
def quX (s:Nat):List UInt8->Nat
 |[]=>s
 |b::t=>quX (wmF s b.toNat) t
theorem qoH:∀(l:List UInt8) (s:Nat),s<18446744073709551616->quX s l<18446744073709551616
 |[],_,h=>h
 |_::t,_,_=>qoH t _ (qkj _ _)
def qs5 (key:Int)(label:Nat)(l:List UInt8):List UInt8:=qt4 (quX (wmF (kyS key 8) label) l)
theorem qc8 {base:Nat}{v:Value}{bs:List UInt8}(h:Own W base v bs):∃d a,v=.slice d bs.length a/\qa4 W d bs:=by
 have e:=h;obtain⟨⟨l,b⟩,_,_⟩:=h;rcases b with ⟨rfl,b⟩|⟨g,a,k,rfl,_,j,m,n,_⟩
 ·refine⟨none,0,by rw[b],⟨fun i c=>by omega,by omega⟩⟩
 have f:=qcB e;refine⟨_,a,rfl,⟨fun i c=>⟨g,0,rfl,(ltA j),by rw[Nat.zero_add];exact f.2 i c⟩,by omega⟩⟩
theorem qrx (key:Int)(k:Nat)(W:World):Calls prog 139 #[.int .u64 (kyS key k),.int .u8 (key / 2^(8*k)%256)] W fun e a=>e=.returned (.int .u64 (kyS key (k+1)))/\a=W:=by
 have h:=qi5 (kyS key k) (kyB key k) (qs6 key k) (qw4 key k) W;have e:((kyB key k:Nat):Int)=key / 2^(8*k)%256:=by unfold kyB;omega
 rw[e] at h;exact h
theorem qoN (key:Int)(f:Nat)(Y:f<256)(k:Nat)(W:World)(F:Nat->Prop)(x:Value)(d:DataW Unit)(hF:∀j,F j->j<W.heap.size)(h:qai k W F x d)(A:(qaU k d).length<=999999999)(B:W.cell? ⟨8,15,none⟩=some (.int .u8 4)):Calls prog 119 #[.int .i64 key,.int .i64 f,x] W fun e i=>e=.returned (.string ⟨(qs5 key f (qaU k d)).toArray⟩)/\Below W.heap.size W i:=by
 have U:8<W.heap.size:=by
  by_cases h:8<W.heap.size
  ·exact h
  simp[World.cell?,h] at B
 have J:=fun k V=>qrx key k V;have K:=fun V=>qi5 (kyS key 8) f (qs6 key 8) Y V;have r:=qej k W F x d hF h A;have I:∀V u,Below W.heap.size W V->u<18446744073709551616->Calls prog 140 #[.int .u64 (u:Nat)] V fun e i=>e=.returned (.string ⟨(qt4 u).toArray⟩)/\Below V.heap.size V i:=fun V u Q hu=>qm3 u hu V ((Q.cell U).trans B);obtain⟨t,y,rfl⟩:=h.iface;obtain⟨a,D⟩:∃a,Hid (qaU k d=a):=⟨_,rfl⟩
 rw[D.out] at r A ⊢;have H:Calls prog 93 #[.int .i64 2,.iface t y] W fun e i=>∃m o,e=.returned (.slice m a.length o)/\Hid (qa4 i m a)/\Below W.heap.size W i:=r.mono (by
  rintro e w' ⟨ab,rfl,Z,O⟩;obtain⟨m,o,rfl,R⟩:=qc8 Z;exact⟨m,o,rfl,R,O⟩)
 obtain⟨S,l⟩:∃S,Hid (quX (wmF (kyS key 8) f) a=S):=⟨_,rfl⟩
 have G:Hid (qs5 key f a=qt4 S):=by show qt4 _=_;rw[l.out]
 have n:Hid (wmF (kyS key 8) f<18446744073709551616):=qkj _ _;rw[G.out];go_enter func119,ntmps119
 go_wp2_with fail
 go_loopg [7,11] 8 (fun g x y wr=>∃(k:Nat),Hid (k+g=8)/\x=.int .u64 (kyS key k)/\y=.int .i64 k/\W=wr)
 case atStart =>
  exact⟨0,rfl,rfl,rfl,rfl⟩
 case round =>
  obtain⟨k,b,rfl,rfl,rfl⟩:=hrel
  cases gk with
  |zero =>
   have w:k=8:=by have:=b.out;omega
   subst w
   go_wp2_with (first
    |(go_at_call 139;refine(K _).mono ?_;rintro e w2 ⟨rfl,rfl⟩)
    |(go_at_call 93;refine H.mono ?_;rintro e w3 ⟨m,o,rfl,C,p⟩))
   go_loopg [7,29] a.length (fun g x y wr=>∃(k s:Nat),Hid (k+g=a.length)/\x=.int .u64 s/\y=.int .i64 k/\Hid (quX s (a.drop k)=S)/\Hid (s<18446744073709551616)/\w3=wr)
   case atStart=>exact⟨0,_,(by show _=_;omega),rfl,rfl,l,n,rfl⟩
   case round =>
    obtain⟨k,s,b,rfl,rfl,l,n,rfl⟩:=hrel
    cases gk with
    |zero =>
     have X:¬(k:Int)<a.length:=by have:=b.out;omega
     have v:s=S:=by
      have:=l.out;rw[List.drop_of_length_le (by have:=b.out;omega)] at this;exact this
     subst v;have c:=I _ s p n.out
     go_wp2_with (first
      |(go_at_call 140;refine c.mono ?_;rintro e w5 ⟨rfl,P⟩))
     go_ret;exact⟨rfl,p.trans (P.mono p.size)⟩
    |succ g =>
     have z:k<a.length:=by have:=b.out;omega
     have X:(k:Int)<a.length:=by omega
     obtain⟨b0,off,M,e2,N⟩:=C.out.at_ k z;subst M;have q:=l.out;rw[List.drop_eq_getElem_cons z] at q;obtain⟨c,T⟩:∃c,a[k]=c:=⟨_,rfl⟩
     rw[T] at N q;have L:=fun V=>qi5 s c.toNat n.out (UInt8.toNat_lt c) V;have E:Hid (quX (wmF s c.toNat) (a.drop (k+1))=S):=q
     go_wp2_with (first
      |(go_at_call 139;refine(L _).mono ?_;rintro e w5 ⟨rfl,rfl⟩))
     go_roundg g
     case measure=>omega
     case rel=>exact⟨k+1,_,(by show _=_;have:=b.out;omega),rfl,by go_num,E,qkj _ _,rfl⟩
  |succ g =>
   have w:k<8:=by have:=b.out;omega
   have aa:(k:Int)<8:=by omega
   have c:=J k
   go_wp2_with (first
    |(go_at_call 139;refine(c _).mono ?_;rintro e w2 ⟨rfl,rfl⟩))
   go_roundg g
   case measure=>omega
   case rel=>exact⟨k+1,(by show _=_;have:=b.out;omega),rfl,by go_num,rfl⟩

end
section
open Go.RowKit Go.Shelf
section
attribute [local go_sem] Oper.semAt_some
theorem qnv:∀(q r:List (List UInt8)) (i:Nat),q.all (qa9 n)=true->i+q.length<=16->qaW n (q++r) i=qaW n r (i+q.length)
 |[],r,i,_,_=>rfl
 |x::q,r,i,h,hl=>by
  rw[List.all_cons,Bool.and_eq_true] at h;rw[List.length_cons] at hl;rw[List.cons_append,qaW,if_pos ⟨h.1,by omega⟩,qnv q r (i+1) h.2 (by omega),List.length_cons];congr 1;omega
def qez (n:Nat)(l:List UInt8):Int:=if 0<=qa3 n l then 6 else 0
def qka (n:Nat)(l:List UInt8):Int:=if 0<=qa3 n l then qa3 n l else 0
structure RdX (w:World)(n:Nat)(pre:List Str)(c:Code)(W:World):Prop where
 ret:c=.ret
 below:Below w.heap.size w W
 r0:Boxed W (w.heap.size+1) 88 (.slice none 0 0)
 r1:Boxed W (w.heap.size+2) 33 (.int .i64 6)
 bad:∃q x,pre=q++[x]/\Boxed W (w.heap.size+3) 3 (.int .i64 (q.length:Nat))/\(q.map lst).all (qa9 n)=true/\q.length<=16/\¬(qa9 n (lst x)=true/\q.length<16)
 size:w.heap.size+8<=W.heap.size
theorem RdX.own {w:World}{pre:List Str}{c:Code}{W':World}{row:Nat}(h:RdX w n pre c W)(a:W.grownBy W' (some row))(j:w.heap.size+4<=row):RdX w n pre c W':=by
 obtain⟨q,x,e,d,b,f,g⟩:=h.bad;exact⟨h.ret,h.below.trans ⟨a.os,a.tape,a.output,a.size,fun i k=>a.block i (by have:=h.size;omega) (by intro e;injection e with e;omega)⟩,h.r0.kept a (by intro e;injection e with e;omega),h.r1.kept a (by intro e;injection e with e;omega),⟨q,x,e,d.kept a (by intro e;injection e with e;omega),b,f,g⟩,Nat.le_trans h.size a.size⟩
theorem qoF {N k:Nat}(W:World)(a:N<=W.heap.size)(b:k+3<=W.heap.size):Tr N k W W.drew:=Tr.below' (Below.refl _ _).drew a b
theorem Tryz.infoRule2:(prog.info? 164).map (fun i=>(i.zero,i.size,i.bytes))=some (some (.agg qc2),3,40):=by kernel_rfl
theorem qv3 {hs:s.size<=2000}{xs:List Str}(e:¬s.size=0)(h:xs.map lst=qal 10 (lst ⟨s,hs⟩))(c:xs.length<=16)(b:(xs.map lst).all (qa9 n)=true):qa3 n s.data.toList = -1:=by
 have a:qal 10 s.data.toList=xs.map lst:=h.symm;have d:s.data.toList.length=s.size:=Array.length_toList;unfold qa3;rw[if_neg (by omega),if_neg (by omega),a];have:=qnv (n:=n) (xs.map lst) [] 0 b (by rw[List.length_map];omega);rw[List.append_nil] at this;rw[this];rfl
theorem qxv {hs:s.size<=2000}{q:List Str}{x:Str}{r:List (List UInt8)}(f:¬s.size=0)(h:qal 10 (lst ⟨s,hs⟩)=(q++[x]).map lst++r)(b:(q.map lst).all (qa9 n)=true)(e:q.length<=16)(c:¬(qa9 n (lst x)=true/\q.length<16)):qa3 n s.data.toList=q.length:=by
 have a:qal 10 s.data.toList=(q++[x]).map lst++r:=h;have d:s.data.toList.length=s.size:=Array.length_toList;unfold qa3;rw[if_neg (by omega),if_neg (by omega),a,List.map_append,List.append_assoc,qnv (q.map lst) _ 0 b (by rw[List.length_map];omega)];simp only[List.map_cons,List.map_nil,List.cons_append,List.nil_append,List.length_map,Nat.zero_add];rw[qaW,if_neg c]
theorem qo3 (w:World)(n:Nat)(s:ByteArray)(a:World)(b:((((((((w.alloc (.cells #[.int .i64 n] 3)).alloc (.cells #[.slice none 0 0] 88)).alloc (.cells #[.int .i64 0] 33)).alloc (.cells #[.int .i64 0] 3)).alloc (.cells #[.slice none 0 0] 88)).alloc (.cells #[.string s] 9)).alloc (.cells #[.string ⟨#[10]⟩] 9)).alloc (.cells #[.int .i64 0] 3))=a):qfY (w.heap.size+5) 10 a s:=by
 subst b;generalize hA:((((w.alloc (.cells #[.int .i64 n] 3)).alloc (.cells #[.slice none 0 0] 88)).alloc (.cells #[.int .i64 0] 33)).alloc (.cells #[.int .i64 0] 3)).alloc (.cells #[.slice none 0 0] 88)=A;have c:w.heap.size+5=A.heap.size:=by rw[<-hA];simp
 rw[c];refine⟨?_,?_,?_⟩
 ·exact((Below.heap_alloc _ _ _ (by simp;omega)).trans (Below.heap_alloc _ _ _ (by simp))).trans (qac A _)
 ·refine(Below.heap_alloc _ _ _ (by simp)).trans ?_;have:=qac (A.alloc (.cells #[.string s] 9)) (.cells #[.string ⟨#[10]⟩] 9);rwa [World.size_alloc] at this
 have:=qac ((A.alloc (.cells #[.string s] 9)).alloc (.cells #[.string ⟨#[10]⟩] 9)) (.cells #[.int .i64 0] 3);rwa [World.size_alloc,World.size_alloc] at this
theorem qfR (w:World)(n:Nat)(e:Int):((((w.alloc (.cells #[.int .i64 n] 3)).alloc (.cells #[.slice none 0 0] 88)).alloc (.cells #[.int .i64 e] 33)).alloc (.cells #[.int .i64 0] 3)).cell? ⟨w.heap.size+1,0,none⟩=some (.slice none 0 0) /\
  ((((w.alloc (.cells #[.int .i64 n] 3)).alloc (.cells #[.slice none 0 0] 88)).alloc (.cells #[.int .i64 e] 33)).alloc (.cells #[.int .i64 0] 3)).cell? ⟨w.heap.size+1+1,0,none⟩=some (.int .i64 e) /\
  ((((w.alloc (.cells #[.int .i64 n] 3)).alloc (.cells #[.slice none 0 0] 88)).alloc (.cells #[.int .i64 e] 33)).alloc (.cells #[.int .i64 0] 3)).cell? ⟨w.heap.size+1+1+1,0,none⟩=some (.int .i64 0):=by
 refine⟨?_,?_,?_⟩
 ·have:=Boxed.new (w.alloc (.cells #[.int .i64 n] 3)) 88 (.slice none 0 0);rw[World.size_alloc] at this;exact((this.alloc _).alloc _).cell
 ·have:=Boxed.new ((w.alloc (.cells #[.int .i64 n] 3)).alloc (.cells #[.slice none 0 0] 88)) 33 (.int .i64 e);rw[World.size_alloc,World.size_alloc] at this;exact(this.alloc _).cell
 have:=Boxed.new (((w.alloc (.cells #[.int .i64 n] 3)).alloc (.cells #[.slice none 0 0] 88)).alloc (.cells #[.int .i64 e] 33)) 3 (.int .i64 0);rw[World.size_alloc,World.size_alloc,World.size_alloc] at this;exact this.cell
end

end
section
open Go.RowKit Go.Lib
theorem qnf (g:Nat)(l:List UInt8)(a:l≠[]):qd5 (g+1) l=qmw (decodeL l).1++qd5 g (l.drop (decodeL l).2):=by
 cases l with
 |nil=>exact absurd rfl a
 |cons b t=>rfl
theorem qil (W:World)(d:Nat)(v:Value)(s:ByteArray)(bs:List UInt8)(hl:bs.length+(jsT s.data.toList).length<=999999999)(h:Own W d v bs):Calls prog 143 #[v,.string s] W fun ak K=>∃x,ak=.returned x/\Own K d x (bs++jsT s.data.toList)/\Below d W K/\KpU W K:=by
 obtain⟨G,C,D,E,F⟩:=info_parts Tryz.infoU8;obtain⟨a0,bc,a1,rfl⟩:=h.2.2;have z:=qaa h;have Y:s.data.toList.length=s.size:=Array.length_toList;have c:Hid (bs.length+2+(qd5 s.size s.data.toList).length<=999999999/\jsT s.data.toList=[34]++qd5 s.size s.data.toList++[34]):=by
  unfold jsT at hl;rw[Y] at hl;refine⟨by simp only[List.length_append,List.length_cons,List.length_nil] at hl;omega,?_⟩;unfold jsT;rw[Y]
 have a6:bs.length<=999999999:=by omega
 go_enter func143,ntmps143
 go_wp2_with (first
  |(at_builtin;refine wpList_append_own _ rfl _ _ 66 rfl d 5 G (.int .u8 0) 1 1 underlying66 C D E F rfl (by decide) _ _ _ rfl (z.out.1.alloc _) ⟨W.heap.size,0,none⟩ 1 1 [.int .u8 34] rfl rfl (qag _ _ _) (fun u f=>by simp at f;subst f;rfl) (by unfold maxLen;omega) (by omega) (by simp;have:=z.out.2.1;omega) ?_;intro x Q m w af;obtain⟨al,aj,rfl⟩:=ownsRow_succ m;have ag:=qaa (qaz ((Below.refl _ _).alloc z.out.2.1 _) (z.out.1.alloc _) w (by simp;have:=z.out.2.1;omega));have o:Hid (Own Q d (.slice (some ⟨al,0,none⟩) _ aj) (bs++[34])):=⟨qbG m rfl,Nat.le_trans z.out.2.1 ag.out.size,_,_,_,rfl⟩;have aq:=qaa ((qed W _).trans (qek (z.out.1.alloc _) w))))
 have t:Hid (qgU d W Q.heap.size s 0 (.slice (some ⟨al,0,none⟩) (bs.length+1) aj) (bs++[34]) (Q.iter s 0)):=by
  refine⟨qgt o.out bwA,World.iter_heap _ _ _,ag.out.alloc o.out.2.1 _,o.out.2.1,aq.out.trans (qed _ _)⟩
 generalize Q.iter s 0=W0 at *;generalize Q.heap.size=N at *
 go_loopg [0] s.size (fun g az wr=>∃(i:Nat) (I:Option Addr) (O J:Nat) (b:List UInt8),az=.slice I O J/\Hid (i<=s.size)/\Hid (s.size<=i+g)/\Hid (qgU d W N s i (.slice I O J) b wr)/\Hid ((bs++[34])++qd5 s.size s.data.toList=b++qd5 g (s.data.toList.drop i)))
 case atStart=>exact⟨0,_,_,_,_,rfl,Nat.zero_le _,by show _<=_;omega,t,by show _=_;rw[List.drop_zero]⟩
 case round =>
  obtain⟨i,I,O,J,b,rfl,ay,L,t,n⟩:=hrel;have T:Hid (b.length<=999999998):=by
   have:=congrArg List.length n.out;have h2:=c.out.1;simp only[List.length_append,List.length_cons,List.length_nil] at this;show _<=_;omega
  by_cases h1:i=s.size
  ·have HF:Hid ((bs++[34])++qd5 s.size s.data.toList=b):=by
    have h:=n.out;rw[h1,<-Y,List.drop_length,qoY,List.append_nil] at h;rw[<-Y];exact h
   have ao:=fun ty=>qeb (P:=prog) wr N s i ty t.out.it (by omega);have ad:=T.out
   go_wp2_with (first
    |(at_builtin;refine wpList_append_own _ rfl _ _ 66 rfl d 5 G (.int .u8 0) 1 1 underlying66 C D E F rfl (by decide) _ _ _ rfl (t.out.own.1.alloc _) ⟨wr.heap.size,0,none⟩ 1 1 [.int .u8 34] rfl rfl (qag _ _ _) (fun u f=>by simp at f;subst f;rfl) (by unfold maxLen;omega) (by omega) (by simp;have:=t.out.own.2.1;omega) ?_;intro x R m w af;obtain⟨V,U,rfl⟩:=ownsRow_succ m;have j:=qaa (t.out.app (l:=[34]) m w)))
   go_ret;have he:bs++jsT s.data.toList=b++[34]:=by rw[c.out.2,<-HF.out];simp
   rw[he];exact⟨_,rfl,j.out.own,j.out.below,j.out.kp⟩
  have hn:i<s.size:=by have:=ay.out;omega
  obtain⟨g,rfl⟩:∃g,gk=g+1:=⟨gk-1,by have:=L.out;omega⟩
  have ao:=fun ty=>qgz (P:=prog) wr N s i ty t.out.it hn;obtain⟨r,hr⟩:∃r,(Utf8.decode s i).1=r:=⟨_,rfl⟩
  obtain⟨k,X⟩:∃k,(Utf8.decode s i).2=k:=⟨_,rfl⟩
  rw[hr,X] at ao;have bb:r<=1114111:=by rw[<-hr];exact Lib.rune_le s i
  have ae:=Lib.decodeL_drop s i;have an:s.data.toList.drop i≠[]:=by
   intro h;have:=congrArg List.length h;rw[List.length_drop] at this;simp at this;omega
  have HC:Hid (qd5 (g+1) (s.data.toList.drop i)=qmw r++qd5 g (s.data.toList.drop (i+k))):=by
   show _=_;rw[qnf _ _ an,ae];rw[show(Utf8.decode s i).1=r from hr,show(Utf8.decode s i).2=k from X,List.drop_drop]
  have a7:1<=k:=by have:=Lib.decodeL_width (s.data.toList.drop i);rw[ae,X] at this;exact this
  have a8:k<=s.size-i:=by
   have:=Lib.decodeL_le (s.data.toList.drop i) an;rw[ae,X,List.length_drop] at this;omega
  have p:Hid (qgU d W N s (i+k) (.slice I O J) b (wr.putObj N (.stringIter s (i+k)))):=t.out.next _
  have H:Hid ((bs++[34])++qd5 s.size s.data.toList=(b++qmw r)++qd5 g (s.data.toList.drop (i+k))):=by
   show _=_;rw[n.out,HC.out,List.append_assoc]
  have a:Hid (b.length+(qmw r).length<=999999998):=by
   have:=congrArg List.length H.out;have h2:=c.out.1;simp only[List.length_append,List.length_cons,List.length_nil] at this;show _<=_;omega
  generalize wr.putObj N (.stringIter s (i+k))=W2 at *;have ad:=T.out;by_cases ab:r=34\/r=92
  ·rcases ab with rfl|rfl
   ·have q:Hid (qmw 34=[92,34]):=rfl;have am:=a.out;have ad:=T.out
    go_wp2_with (first
     |(at_builtin;refine wpList_append_own _ rfl _ _ 66 rfl d 5 G (.int .u8 0) 1 1 underlying66 C D E F rfl (by decide) _ _ _ rfl (p.out.own.1.alloc _) ⟨W2.heap.size,0,none⟩ 2 2 [.int .u8 92,.int .u8 34] rfl rfl (qag _ _ _) (fun u f=>by simp at f;rcases f with rfl|rfl<;>rfl) (by unfold maxLen;omega) (by omega) (by simp;have:=p.out.own.2.1;omega) ?_;intro x R m w af;obtain⟨V,U,rfl⟩:=ownsRow_succ m;have j:Hid (qgU d W N s (i+k) (.slice (some ⟨V,0,none⟩) (b.length+2) U) (b++[92,34]) R):=p.out.app (l:=[92,34]) m w))
    go_roundg g
    case measure=>omega
    case rel=>exact⟨i+k,_,_,_,_,rfl,by show _<=_;omega,by show _<=_;have:=L.out;omega,j,by have h:=H.out;rw[q.out] at h;exact h⟩
   have q:Hid (qmw 92=[92,92]):=rfl;have am:=a.out;have ad:=T.out
   go_wp2_with (first
    |(at_builtin;refine wpList_append_own _ rfl _ _ 66 rfl d 5 G (.int .u8 0) 1 1 underlying66 C D E F rfl (by decide) _ _ _ rfl (p.out.own.1.alloc _) ⟨W2.heap.size,0,none⟩ 2 2 [.int .u8 92,.int .u8 92] rfl rfl (qag _ _ _) (fun u f=>by simp at f;rcases f with rfl|rfl<;>rfl) (by unfold maxLen;omega) (by omega) (by simp;have:=p.out.own.2.1;omega) ?_;intro x R m w af;obtain⟨V,U,rfl⟩:=ownsRow_succ m;have j:Hid (qgU d W N s (i+k) (.slice (some ⟨V,0,none⟩) (b.length+2) U) (b++[92,92]) R):=p.out.app (l:=[92,92]) m w))
   go_roundg g
   case measure=>omega
   case rel=>exact⟨i+k,_,_,_,_,rfl,by show _<=_;omega,by show _<=_;have:=L.out;omega,j,by have h:=H.out;rw[q.out] at h;exact h⟩
  have a2:((r:Int)==34)=false:=by simp;omega
  have a5:((r:Int)==92)=false:=by simp;omega
  by_cases aa:r<32
  ·have q:Hid (qmw r=[92,117,48,48]++[qfU (r / 16),qfU (r%16)]):=by show _=_;unfold qmw;rw[if_neg ab,if_pos aa];rfl
   have au:(r:Int)<32:=by omega
   have ap:(⟨([92,117,48,48]:List UInt8).toArray⟩:ByteArray).size=4:=rfl
   go_wp2_with (first
    |(at_builtin;refine wpList_append_own_string _ rfl _ _ 66 9 rfl d 5 G underlying66 underlying9 C D E F _ _ _ rfl p.out.own.1 ⟨[92,117,48,48].toArray⟩ rfl (by rw[ap];unfold maxLen;omega) (by rw[ap];omega) p.out.own.2.1 ?_;intro x w5 m ax a9;have j:=qaa (p.out.appS m ax);obtain⟨e,n4,c4,rfl⟩:=j.out.own.2.2))
   have A:(fun _:World=>True) {w5 with drawn:=w5.drawn+1}:=trivial;have y:=qaa j.out.drew;have ac:(b++[92,117,48,48]).length=b.length+4:=by simp
   have am:b.length+6<=999999998:=by have h:=a.out;rw[q.out] at h;simpa using h
   refine wp_region_held (S:=fun _=>True) (by kernel_rfl) ?_;refine tkH 0 35 (.slice e n4 c4) rfl (by kernel_rfl) (fun _ _ _ h=>h) (fun Z B=>by kernel_rfl) A ?_;refine tkH 1 36 (.int .i32 r) rfl (by kernel_rfl) (fun _ _ _ h=>h) (fun Z B=>by kernel_rfl) A ?_;refine tkH 2 37 (.int .i32 ((r / 16:Nat):Int)) rfl (by kernel_rfl) (fun _ _ _ h=>h) (fun Z B => ?y2) A ?_
   case y2=>(go_simp)
   refine tkH 3 38 (qav (qfU (r / 16))) rfl (by kernel_rfl) (fun _ _ _ h=>h) (fun Z B => ?y3) A ?_
   case y3=>exact qlX 9 _ _ rfl rfl (by kernel_rfl) (qs3 (r / 16) (by omega) Z)
   refine tkH 4 39 (.int .i32 r) rfl (by kernel_rfl) (fun _ _ _ h=>h) (fun Z B=>by kernel_rfl) A ?_;refine tkH 5 40 (.int .i32 ((r%16:Nat):Int)) rfl (by kernel_rfl) (fun _ _ _ h=>h) (fun Z B => ?y5) A ?_
   case y5=>(have z2:=qu2 r aa;go_simp)
   refine tkH 6 41 (qav (qfU (r%16))) rfl (by kernel_rfl) (fun _ _ _ h=>h) (fun Z B => ?y6) A ?_
   case y6=>exact qlX 9 _ _ rfl rfl (by kernel_rfl) (qs3 (r%16) (by omega) Z)
   refine rdS 7 rfl (by kernel_rfl) (fun ar hK => ?_);refine ifw (by kernel_rfl) ?_;refine qkT (.tmp 38) (.tmp 41) rfl (qfU (r / 16)) (qfU (r%16)) (by kernel_rfl) (by kernel_rfl) ?_;refine hK.out _ _ trivial (fun _ => ?_);refine rdS 8 rfl (by kernel_rfl) (fun ar hK => ?_);refine ifw (by kernel_rfl) ?_;refine qeN (.tmp 35) (.tmp 42) 66 rfl d 5 G (.int .u8 0) 1 1 underlying66 C D E F rfl (by decide) (.slice e n4 c4) _ _ (by kernel_rfl) (y.out.own.1.alloc _) ⟨w5.heap.size,0,none⟩ 2 2 [qav (qfU (r / 16)),qav (qfU (r%16))] (by kernel_rfl) rfl (qag _ _ _) (fun u f=>by simp at f;rcases f with rfl|rfl<;>rfl) (by rw[ac];unfold maxLen;omega) (by rw[ac];omega) (by have:=y.out.own.2.1;rw[World.size_alloc];exact Nat.le_succ_of_le this) ?_;intro x w6 M av _;obtain⟨g6,ai,rfl⟩:=ownsRow_succ M;have ah:Hid (qgU d W N s (i+k) (.slice (some ⟨g6,0,none⟩) ((b++[92,117,48,48]).length+2) ai) ((b++[92,117,48,48])++[qfU (r / 16),qfU (r%16)]) w6):=y.out.app (l:=[qfU (r / 16),qfU (r%16)]) M av;refine hK.out _ _ trivial (fun _ => ?_);refine tkH 9 0 (.slice (some ⟨g6,0,none⟩) ((b++[92,117,48,48]).length+2) ai) rfl (by kernel_rfl) (fun _ _ _ h=>h) (fun Z B=>by kernel_rfl) trivial ?_;refine wpAnyH_done (by kernel_rfl) ?_ _;go_simp;go_wp2;go_roundg g
   case measure=>omega
   case rel=>exact⟨i+k,_,_,_,_,rfl,by show _<=_;omega,by show _<=_;have:=L.out;omega,by rw[ac] at ah;exact ah,by have h:=H.out;rw[q.out,<-List.append_assoc] at h;exact h⟩
  have q:Hid (qmw r=qcD r):=by show _=_;unfold qmw;rw[if_neg ab,if_neg aa]
  have au:¬(r:Int)<32:=by omega
  have ba:=qcg (r:Int);have cA:=Any.utf8_AppendRune_plain Tryz.lays242 (by kernel_rfl) d (.slice I O J) b.length (b.map qav) (r:Int) (by omega) (by omega) W2 p.out.own.1 (by omega) p.out.own.2.1
  go_wp2_with (first
   |(go_at_call 167;refine cA.mono ?_;rintro ak R ⟨v3,rfl,M,bd,aw⟩;rw[qhx,List.length_map] at M;have j:=qaa (p.out.app (l:=qcD r) M aw);obtain⟨e,n4,c4,rfl⟩:=j.out.own.2.2))
  go_roundg g
  case measure=>omega
  case rel=>exact⟨i+k,_,_,_,_,rfl,by show _<=_;omega,by show _<=_;have:=L.out;omega,j,by have h:=H.out;rw[q.out] at h;exact h⟩

end
end Go.Proofs.YtcokgepdckkjdaaGreatDoor
