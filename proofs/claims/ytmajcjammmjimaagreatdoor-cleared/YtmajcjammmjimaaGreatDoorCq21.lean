import Derived.Test.YtmajcjammmjimaaGreatDoorCq15
import Derived.Test.YtmajcjammmjimaaGreatDoorCq20
set_option maxRecDepth 100000
set_option maxHeartbeats 8000000
set_option linter.all false
namespace Go.Proofs.YtmajcjammmjimaaGreatDoor
open Go.Proofs.Tryz
variable{V W w2:World}{A L j k lm r tb x:Nat}{sv:Value}{b:List UInt8}{q:Aut}{Y st:Nat->Nat}{tk:Nat->Nat->Nat}{ks:List (List UInt8)}{ss:List (Nat×List UInt8)}{P:Nat->Bool}{rs:List (List (Nat×List UInt8)×Int×Int)}{s:Nat×List UInt8}{p:List (List UInt8×Bool)}
section
open Go.RowKit Go.Lib
def kyB(key:Int)(i:Nat):Nat:=(key/2^(8*i)%256).toNat
theorem qzf(a:Int)(i:Nat):kyB a i<256:=by unfold kyB;omega
def kyS(key:Int):Nat->Nat
 |0=>14695981039346656037
 |k+1=>wmF (kyS key k) (kyB key k)
theorem quE(a:Int):∀k,kyS a k<18446744073709551616
 |0=>by show 14695981039346656037<_;omega
 |k+1=>qkX _ _
def qxA(s:Nat):List UInt8->Nat
 |[]=>s
 |b::t=>qxA (wmF s b.toNat) t
theorem qrQ:∀(l:List UInt8) (s:Nat),s<18446744073709551616->qxA s l<18446744073709551616
 |[],_,h=>h
 |_::t,_,_=>qrQ t _ (qkX _ _)
def quz(key:Int)(label:Nat)(l:List UInt8):List UInt8:=qvD (qxA (wmF (kyS key 8) label) l)
theorem qcw{base:Nat}{v:Value}{bs:List UInt8}(h:Own W base v bs):∃d a,v=.slice d bs.length a/\qau W d bs:=by
 have e:=h;obtain⟨⟨l,b⟩,_,_⟩:=h;rcases b with⟨rfl,b⟩|⟨g,a,k,rfl,_,j,m,n,_⟩
 ·refine⟨none,0,by rw[b],⟨λi c=>by omega,by omega⟩⟩
 have f:=qcN e;refine⟨_,a,rfl,⟨λi c=>⟨g,0,rfl,(ltA j),by rw[kaL];exact f.2 i c⟩,by omega⟩⟩
theorem qtT(a:Int)(k:Nat)(W:World):Calls prog 121 #[.int .u64 (kyS a k),.int .u8 (a/2^(8*k)%256)] W λe b=>e=.returned (.int .u64 (kyS a (k+1)))/\b=W:=by
 have h:=qjk (kyS a k) (kyB a k) (quE a k) (qzf a k) W;have e:((kyB a k:Nat):Int)=a/2^(8*k)%256:=by unfold kyB;omega
 rw[e]at h;exact h
theorem qpJ(b:Int)(i:Nat)(Z:i<256)(k:Nat)(W:World)(F:Nat->Prop)(x:Value)(d:DataW Unit)(hF:∀j,F j->j<W.heap.size)(h:qah k W F x d)(B:(qbc k d).length<=999999999)(C:W.cell? ⟨8,15,none⟩=some (.int .u8 4)):Calls prog 106 #[.int .i64 b,.int .i64 i,x] W λe l=>e=.returned (.string ⟨(quz b i (qbc k d)).toArray⟩)/\Below W.heap.size W l:=by
 have X:8<W.heap.size:=by
  by_cases h:8<W.heap.size
  ·exact h
  simp[World.cell?,h]at C
 have K:=λk V=>qtT b k V;have L:=λV=>qjk (kyS b 8) i (quE b 8) Z V;have w:=qeH k W F x d hF h B;have J:∀V u,Below W.heap.size W V->u<18446744073709551616->Calls prog 122 #[.int .u64 (u:Nat)] V λe l=>e=.returned (.string ⟨(qvD u).toArray⟩)/\Below V.heap.size V l:=λV u R hu=>qoI u hu V ((R.cell X).trans C);obtain⟨t,y,rfl⟩:=h.iface;obtain⟨a,E⟩:∃a,Hid (qbc k d=a):=⟨_,rfl⟩
 rw[E.out]at w B ⊢;have I:Calls prog 34 #[.int .i64 2,.iface t y] W λe l=>∃n p,e=.returned (.slice n a.length p)/\Hid (qau l n a)/\Below W.heap.size W l:=w.mono (by
  rintro e w' ⟨ab,rfl,v,P⟩;obtain⟨n,p,rfl,T⟩:=qcw v;exact⟨n,p,rfl,T,P⟩)
 obtain⟨S,m⟩:∃S,Hid (qxA (wmF (kyS b 8) i) a=S):=⟨_,rfl⟩
 have H:Hid (quz b i a=qvD S):=by show qvD _=_;rw[m.out]
 have o:Hid (wmF (kyS b 8) i<18446744073709551616):=qkX _ _;rw[H.out];go_enter func106,ntmps106
 go_wp2_with fail
 go_loopg[7,11] 8 (λg x y wr=>∃(k:Nat),Hid (k+g=8)/\x=.int .u64 (kyS b k)/\y=.int .i64 k/\W=wr)
 case atStart =>
  exact⟨0,rfl,rfl,rfl,rfl⟩
 case round =>
  obtain⟨k,f,rfl,rfl,rfl⟩:=hrel
  cases gk with
  |zero =>
   have z:k=8:=by have:=f.out;omega
   subst z
   go_wp2_with(first
    |(go_at_call 121;refine(L _).mono ?_;rintro e w2 ⟨rfl,rfl⟩)
    |(go_at_call 34;refine I.mono ?_;rintro e w3 ⟨n,p,rfl,D,q⟩))
   go_loopg[7,29] a.length (λg x y wr=>∃(k s:Nat),Hid (k+g=a.length)/\x=.int .u64 s/\y=.int .i64 k/\Hid (qxA s (a.drop k)=S)/\Hid (s<18446744073709551616)/\w3=wr)
   case atStart=>exact⟨0,_,(by show _=_;omega),rfl,rfl,m,o,rfl⟩
   case round =>
    obtain⟨k,s,f,rfl,rfl,m,o,rfl⟩:=hrel
    cases gk with
    |zero =>
     have Y:¬(k:Int)<a.length:=by have:=f.out;omega
     have hs:s=S:=by
      have:=m.out;rw[kca (by have:=f.out;omega)]at this;exact this
     subst hs;have c:=J _ s q o.out
     go_wp2_with(first
      |(go_at_call 122;refine c.mono ?_;rintro e w5 ⟨rfl,Q⟩))
     go_ret;exact⟨rfl,q.trans (Q.mono q.size)⟩
    |succ g =>
     have A:k<a.length:=by have:=f.out;omega
     have Y:(k:Int)<a.length:=by omega
     obtain⟨b0,off,N,e2,O⟩:=D.out.at_ k A;subst N;have r:=m.out;rw[ka6 A]at r;obtain⟨c,U⟩:∃c,a[k]=c:=⟨_,rfl⟩
     rw[U]at O r;have M:=λV=>qjk s c.toNat o.out (UInt8.toNat_lt c) V;have G:Hid (qxA (wmF s c.toNat) (a.drop (k+1))=S):=r
     go_wp2_with(first
      |(go_at_call 121;refine(M _).mono ?_;rintro e w5 ⟨rfl,rfl⟩))
     go_roundg g
     case measure=>omega
     case rel=>exact⟨k+1,_,(by show _=_;have:=f.out;omega),rfl,by go_num,G,qkX _ _,rfl⟩
  |succ g =>
   have z:k<8:=by have:=f.out;omega
   have aa:(k:Int)<8:=by omega
   have c:=K k
   go_wp2_with(first
    |(go_at_call 121;refine(c _).mono ?_;rintro e w2 ⟨rfl,rfl⟩))
   go_roundg g
   case measure=>omega
   case rel=>exact⟨k+1,(by show _=_;have:=f.out;omega),rfl,by go_num,rfl⟩

end
section
open Go.RowKit
theorem qr3(q:Aut)(st:Nat->Nat)(b a:Value):(qj9 q st b a)[0]?=some (.slice q.ra q.rs.length q.rc):=by kernel_rfl
theorem qcx.low{W0:World}(h:qcx W A tb L q sv st tk V)(a:Below W0.heap.size W0 W)(c:W0.heap.size<=A):Below W0.heap.size W0 V :=
 ⟨h.os.trans a.os,h.tape.trans a.tape,h.output.trans a.output,kaj a.size h.size,λi b=>(h.block i (kai b a.size) (by omega)).trans (a.block i b)⟩
theorem qcx.names(h:qcx W A tb L q sv st tk V)(b:ImK W lm ks)(d:A≠lm):ImK V lm ks :=
 b.kept (row:=some A) ⟨h.os,h.tape,h.output,h.size,λi a c=>h.block i a (by simpa using c)⟩ (by simpa using d.symm)
theorem qcx.c2(h:qcx W A tb L q sv st tk V):V.cell? ⟨A,2,none⟩=some (.map (some q.lm)):=(kbg V A 2 _ _ _ h.row).trans (qq1 _ _ _ _)
theorem qcx.c19(h:qcx W A tb L q sv st tk V):V.cell? ⟨A,19,none⟩=some (.slice (some ⟨tb,0,none⟩) L L):=(kbg V A 19 _ _ _ h.row).trans (qrn _ _ _ _)
theorem qcx.cs(h:qcx W A tb L q sv st tk V)(r:Nat)(a:r<16):V.cell? ⟨A,3+r,none⟩=some (.int .u16 (st r))/\V.frozen? ⟨A,3+r,none⟩=false :=
 ⟨(kbg V A (3+r) _ _ _ h.row).trans (qx1 _ _ _ _ r a),kaK V A (3+r) _ _ h.row⟩
theorem qcx.ct(h:qcx W A tb L q sv st tk V)(x r:Nat)(d:x<L)(c:r<16):V.cell? ⟨tb,x*16+r,none⟩=some (.int .u16 (tk x r))/\V.frozen? ⟨tb,x*16+r,none⟩=false:=by
 obtain⟨e,a,b⟩:=h.tks;exact⟨(kbg V tb (x*16+r) _ _ _ a).trans (b.at_ x r d c),kaK V tb (x*16+r) _ _ a⟩
theorem qtB(st:Nat->Nat)(k j:Nat):(λi=>if i=k then st k|||2^j else st i)=stU st k j true:=by
 funext i;unfold stU;by_cases h:i=k
 ·subst h;rw[kag rfl,kag ⟨rfl,rfl⟩]
 rw[kac h,kac (λe=>h e.1)]
theorem qeM(st:Nat->Nat)(k j:Nat):stU st k j false=st:=by
 funext i;unfold stU;rw[kac (by simp)]
theorem qcx.alike{tk':Nat->Nat->Nat}(h:qcx W A tb L q sv st tk V)(f:∀x r,x<L->tk' x r=tk x r):qcx W A tb L q sv st tk' V:=by
 obtain⟨b,c,d,e⟩:=h.tks;exact⟨h.row,⟨b,c,d,λx r a g=>by rw[f x r a];exact e x r a g⟩,h.os,h.tape,h.output,h.size,h.block⟩
def tk1(tk:Nat->Nat->Nat)(x k j:Nat):Nat->Nat->Nat:=λy i=>if y=x/\i=k then tk x k|||2^j else tk y i
theorem qcx.one(h:qcx W A tb L q sv st tk V)(b:A≠tb)(c:W.heap.size<=tb)(x k j:Nat)(d:x<L)(a:k<16):qcx W A tb L q sv st (tk1 tk x k j) (V.drew.setCell ⟨tb,x*16+k,none⟩ (.int .u16 ((tk x k|||2^j:Nat):Int))):=h.took b c x k (tk x k|||2^j) d a
def tkm(tk:Nat->Nat->Nat)(m k j:Nat):Nat->Nat->Nat:=λy=>if y<m then stU (tk y) k j true else tk y
theorem qtr(tk:Nat->Nat->Nat)(k j:Nat):tkm tk 0 k j=tk:=by
 funext y;unfold tkm;rw[kac (by omega)]
theorem qsW(tk:Nat->Nat->Nat)(m k j:Nat):tk1 (tkm tk m k j) m k j=tkm tk (m+1) k j:=by
 funext y i;unfold tk1 tkm;by_cases h:y=m
 ·subst h;rw[kag (by omega:y<y+1)];by_cases a:i=k
  ·subst a;rw[kag ⟨rfl,rfl⟩,kac (by omega:¬y<y)];unfold stU;rw[kag ⟨rfl,rfl⟩]
  rw[kac (λe=>a e.2),kac (by omega:¬y<y)];unfold stU;rw[kac (λe=>a e.1)]
 rw[kac (λe=>h e.1)];by_cases b:y<m
 ·rw[kag b,kag (by omega:y<m+1)]
 rw[kac b,kac (by omega:¬y<m+1)]
theorem qu1(tk:Nat->Nat->Nat)(x k j:Nat)(y:Nat):tk1 tk x k j y=stU (tk y) k j (y==x):=by
 funext i;unfold tk1 stU;by_cases h:y=x
 ·subst h;by_cases a:i=k
  ·subst a;rw[kag ⟨rfl,rfl⟩,kag ⟨rfl,by simp⟩]
  rw[kac (λe=>a e.2),kac (λe=>a e.1)]
 rw[kac (λe=>h e.1),kac (λe=>h (by simpa using e.2))]

theorem qwl(h:qcx W A tb L q sv st tk V)(b:A≠tb)(a:k<16)(c:w2=V.drew.setCell ⟨A,3+k,none⟩ (.int .u16 ((st k|||2^j:Nat):Int))):qcx W A tb L q sv (stU st k j true) tk w2:=by
 rw[c,<-qtB];exact h.stays b k (st k|||2^j) a
theorem qm0(h:qcx W A tb L q sv st tk V)(b:A≠tb)(d:W.heap.size<=tb){o:Nat}(f:x<L)(a:k<16)(c:o=x*16)(e:w2=V.drew.setCell ⟨tb,o+k,none⟩ (.int .u16 ((tk x k|||2^j:Nat):Int))):qcx W A tb L q sv st (tk1 tk x k j) w2:=by
 rw[e,c];exact h.one b d x k j f a
def qyQ(W:World)(A:Nat)(q:Aut)(sv:Value)(ks:List (List UInt8))(e:Ending)(W':World):Prop :=
 e=.returned (.tuple #[])/\∃tb st tk,W.heap.size<=tb/\qcx W A tb (2+ks.length) q sv st tk W'/\LyD q.rs ks st tk
theorem qgB(H W:World)(A:Nat)(q:Aut)(l:Value)(ks:List (List UInt8))(a4:Below H.heap.size H W)(K:W.heap[A]?=some (.cells (qj9 q (λ_=>0) (.slice none 0 0) l) 139))(ak:H.heap.size<=A)(hn:q.rs.length<=16)(h8:∀i (h:i<q.rs.length),q.rs[i].1.length<=8)(a6:∀i (h:i<q.rs.length) j (Y:j<q.rs[i].1.length),q.rs[i].1[j].1<=3/\q.rs[i].1[j].2.length<=1000000000)(hr:qep H q.ra q.rs)(hm:ImK W q.lm ks)(an:ks.length<=128)(a5:∀i (h:i<q.rs.length) j (Y:j<q.rs[i].1.length),q.rs[i].1[j].1=3->q.rs[i].1[j].2∈ks)(bm:A≠q.lm):Calls prog 57 #[.pointer (some ⟨A,0,none⟩)] W (qyQ W A q l ks):=by
 have c2:=(kbg W A 2 _ _ _ K).trans (qq1 _ _ _ _);have bp:=hm.len underlying130;have af:=qab K;have bl:=kaK W A 19 _ _ K;have c19:=(kbg W A 19 _ _ _ K).trans (qrn _ _ _ _);have HR:=qab hr;have ah:=qab a4;have HM:=qab hm;have be:=qab a6;have bd:=qab a5;have H8:=qab h8;have ay:=qab (qzR ks.length an);have bf:=qab an;clear K hr a4 hm a6 a5 h8 an;go_enter func57,ntmps57;have bt:=ay.out;have lA:=ltA af.out;have bz:A≠W.heap.size:=by omega
 have ap:Hid ((W.alloc (.cells (madeCells (plA zPl) ((2+ks.length)*16)) 135)).setCell ⟨A,19,none⟩ (.slice (some ⟨W.heap.size,0,none⟩) (2+ks.length) (2+ks.length))=(W.setCell ⟨A,19,none⟩ (.slice (some ⟨W.heap.size,0,none⟩) (2+ks.length) (2+ks.length))).alloc (.cells (madeCells (plA zPl) ((2+ks.length)*16)) 135)):=by show _=_;go_simp
 have av:Hid (qcx W A W.heap.size (2+ks.length) q l (λ_=>0) (λ_ _=>0) ((W.setCell ⟨A,19,none⟩ (.slice (some ⟨W.heap.size,0,none⟩) (2+ks.length) (2+ks.length))).alloc (.cells (madeCells (plA zPl) ((2+ks.length)*16)) 135))):=by
  have h:=qnZ (L:=2+ks.length) af.out;rw[ap.out]at h;exact h
 have c0:=(kbg _ A 0 _ _ _ af.out).trans (qr3 _ _ _ _);obtain⟨ra,ae⟩:∃ra,Hid (q.ra=ra):=⟨_,rfl⟩
 rw[ae.out]at c0;have a1:Hid (qep H ra q.rs):=by rw[<-ae.out];exact HR.out
 clear HR ae;go_wp2;clear c2 bp bl c19 c0 bt ay ap;obtain⟨L,P⟩:∃L,Hid (L=2+ks.length):=⟨_,rfl⟩
 obtain⟨c,G⟩:∃c,Hid (W.heap.size<=c/\c=W.heap.size):=⟨_,kaf _,rfl⟩
 have V:A≠c:=by have:=G.out.2;omega
 have aw:Hid (qcx W A c L q l (λ_=>0) (λ_ _=>0) ((W.setCell ⟨A,19,none⟩ (.slice (some ⟨W.heap.size,0,none⟩) (2+ks.length) (2+ks.length))).alloc (.cells (madeCells (plA zPl) ((2+ks.length)*16)) 135))):=by
  rw[P.out,G.out.2];exact av.out
 clear av;generalize(W.setCell ⟨A,19,none⟩ (.slice (some ⟨W.heap.size,0,none⟩) (2+ks.length) (2+ks.length))).alloc (.cells (madeCells (plA zPl) ((2+ks.length)*16)) 135)=V00 at *
 go_loopg[22] q.rs.length (λaj z wr=>∃(k:Nat) (a:Nat->Nat) (tk:Nat->Nat->Nat),z=.int .i64 k/\Hid (k+aj=q.rs.length)/\Hid (qcx W A c L q l a tk wr)/\Hid (LyM q.rs ks k 0 a tk))
 case atStart=>exact⟨0,_,_,rfl,by show _=_;omega,aw,qqt _ _⟩
 case round =>
  clear aw;obtain⟨k,a,tk,rfl,hg,Q,HK⟩:=hrel
  cases gk with
  |zero =>
   have bq:¬(k:Int)<(q.rs.length:Int):=by have:=hg.out;omega
   go_wp2;go_end0;refine⟨rfl,c,a,tk,G.out.1,?_,HK.out.done (by have:=hg.out;omega)⟩;rw[<-P.out];exact Q.out
  |succ aj =>
   have N:k<q.rs.length:=by have:=hg.out;omega
   have bq:(k:Int)<(q.rs.length:Int):=by omega
   obtain⟨bk,off,pa,pc,rfl,hb,e0,e1,X,bv⟩:=(a1.out.below (Q.out.low ah.out ak)).at_ k N;have a2:Hid (qlT H pa q.rs[k].1):=by
    obtain⟨b',b6,b8,b9,al,bn,f0,f1,f2,bu⟩:=a1.out.at_ k N;injection al with al;injection al with hab1 hab2;subst hab1;subst hab2;have I:=((Q.out.low ah.out ak).cell (p:=⟨bk,off+k*3,none⟩) bn).trans f0;rw[e0]at I;injection I with I;injection I with I _ _;subst I;exact bu
   have bo:=H8.out k N;have o:k<16:=by omega
   have ar:Hid (∀j (Y:j<q.rs[k].1.length),(q.rs[k].1[j].1<=3/\q.rs[k].1[j].2.length<=1000000000)/\(q.rs[k].1[j].1=3->q.rs[k].1[j].2∈ks)):=λj Y=>⟨be.out k N j Y,bd.out k N j Y⟩
   have a0:=qab (kab N);have az:Hid (qcx W A c L q l a tk (wr.alloc (.cells #[.slice pa q.rs[k].1.length pc,.int .i64 q.rs[k].2.1,.int .i64 q.rs[k].2.2] 178))):=Q.out.next bwA
   clear bv;go_wp2;clear e0 e1 X Q;generalize wr.alloc (.cells #[.slice pa q.rs[k].1.length pc,.int .i64 q.rs[k].2.1,.int .i64 q.rs[k].2.2] 178)=V0 at *;generalize q.rs[k]=R at *;obtain⟨F,lb,ac⟩:=R;dsimp only at a2 bo ar
   go_loopg[30] F.length (λJ z ai=>∃(j:Nat) (a:Nat->Nat) (tk:Nat->Nat->Nat),z=.int .i64 j/\Hid (j+J=F.length)/\Hid (qcx W A c L q l a tk ai)/\Hid (LyM q.rs ks k j a tk))
   case atStart=>exact⟨0,a,tk,rfl,by show _=_;omega,az,HK⟩
   case round =>
    clear az HK;obtain⟨j,a,tk,rfl,E,C,y⟩:=hrel
    cases gk with
    |zero =>
     have br:¬(j:Int)<(F.length:Int):=by have:=E.out;omega
     go_wp2;go_roundg aj
     case measure=>omega
     case rel=>exact⟨k+1,a,tk,by go_num,by show _=_;have:=hg.out;omega,C,y.out.rule a0.out (by have:=E.out;show F.length<=j;omega)⟩
    |succ J =>
     have am:j<F.length:=by have:=E.out;omega
     have br:(j:Int)<(F.length:Int):=by omega
     obtain⟨b2,b7,rfl,b4,s0,s1⟩:=(a2.out.below (C.out.low ah.out ak)).at_ j am;obtain⟨⟨a7,a8⟩,bb⟩:=ar.out j am;have bg:=qab (kab am);have au:=qab a8;have ax:=qab bb;have aq:=qab a7;have ab:j<16:=by omega
     clear a8 bb a7;generalize F[j]=sg at *;have n:Hid (qcx W A c L q l a tk (wr.alloc (.cells #[.int .i64 sg.1,.string ⟨sg.2.toArray⟩] 183))):=C.out.next bwA
     have ad:=y.out.lt H8.out;have bh:=qab ad.1;have ag:=qab ad.2;clear ad;have w:=qab (y.out.place a0.out bg.out);have bi:Hid (c<wr.heap.size):=by
      obtain⟨bx,h1,_⟩:=C.out.tks;exact ltA h1
     obtain⟨O,d⟩:=sg;have g:Hid ((wr.alloc (.cells #[.int .i64 O,.string ⟨d.toArray⟩] 183)).heap[wr.heap.size]?=some (.cells #[.int .i64 O,.string ⟨d.toArray⟩] 183)):=qac _ _;dsimp only at au ax aq;have U:=C.out.c19;have b0:=ltA C.out.row;have b1:(1:Int)<(L:Int):=by have:=P.out;omega
     have b3:L<=130:=by have:=P.out;have:=bf.out;omega
     clear C y;rcases(by have:=aq.out;omega:O=0\/O=1\/O=2\/O=3)with rfl|rfl|rfl|rfl
     ·have D:Hid (LyM q.rs ks k (j+1) a (λx=>stU (tk x) k j true)):=by
       have h:=w.out;have e:stU a k j (((0,d):Nat×List UInt8).1==1)=a:=qeM a k j;rw[e]at h;exact h
      clear w;go_wp2;generalize wr.alloc (.cells #[.int .i64 ((0:Nat):Int),.string ⟨d.toArray⟩] 183)=V1 at *
      go_loopg[44] L (λg3 z ai=>∃m:Nat,z=.int .i64 m/\Hid (m+g3=L)/\Hid (qcx W A c L q l a (tkm tk m k j) ai))
      case atStart=>exact⟨0,rfl,by show _=_;omega,by rw[qtr];exact n⟩
      case round =>
       clear n g U;obtain⟨m,rfl,aa,T⟩:=hrel
       cases gk with
       |zero =>
        have bs:¬(m:Int)<(L:Int):=by have:=aa.out;omega
        have v:Hid (qcx W A c L q l a (λx=>stU (tk x) k j true) wr):=T.out.alike λx ca hx=>by
         unfold tkm;rw[kag (by have:=aa.out;omega)]
        clear T;go_wp2;go_roundg J
        case measure=>omega
        case rel=>exact⟨j+1,a,_,by go_num,by show _=_;have:=E.out;omega,v,D⟩
       |succ g3 =>
        have ba:m<L:=by have:=aa.out;omega
        have bs:(m:Int)<(L:Int):=by omega
        have U:=T.out.c19;obtain⟨ct,u⟩:=T.out.ct m k ba o;have a9:tkm tk m k j m k<65536:=by
         unfold tkm;rw[kac (by omega)];have:=ag.out m k;omega
        have t:=qdy wr c (m*16) (tkm tk m k j m k) k j o ab a9 ct u;clear ct u a9
        go_wp2_with(first
         |(go_at_call 83;refine t.mono ?_;clear t;rintro e b ⟨rfl,s⟩;have v:=qab (qm0 T.out V G.out.1 ba o rfl s);clear s U))
        go_roundg g3
        case measure=>omega
        case rel=>exact⟨m+1,by go_num,by show _=_;have:=aa.out;omega,by rw[<-qsW];exact v⟩
     ·have D:Hid (LyM q.rs ks k (j+1) (stU a k j true) tk):=by
       have h:=w.out;have e:(λx=>stU (tk x) k j (tkX ks (1,d) x))=tk:=by
        funext x;exact qeM (tk x) k j
       rw[e]at h;exact h
      obtain⟨ct,u⟩:=n.out.cs k o;have t:=qdy _ A 3 (a k) k j o ab (by have:=bh.out k;omega) ct u;clear w ct u
      go_wp2_with(first
       |(go_at_call 83;refine t.mono ?_;clear t;rintro e b ⟨rfl,s⟩;have v:=qab (qwl n.out V o s);clear s U n))
      go_roundg J
      case measure=>omega
      case rel=>exact⟨j+1,_,tk,by go_num,by show _=_;have:=E.out;omega,v,D⟩
     ·have D:Hid (LyM q.rs ks k (j+1) a (tk1 tk 1 k j)):=by
       have h:=w.out;have e:(λx=>stU (tk x) k j (tkX ks (2,d) x))=tk1 tk 1 k j:=by
        funext x;exact(qu1 tk 1 k j x).symm
       have X:stU a k j (((2,d):Nat×List UInt8).1==1)=a:=qeM a k j;rw[e,X]at h;exact h
      obtain⟨ct,u⟩:=n.out.ct 1 k (by omega) o;have t:=qdy _ c 16 (tk 1 k) k j o ab (by have:=ag.out 1 k;omega) ct u;clear w ct u
      go_wp2_with(first
       |(go_at_call 83;refine t.mono ?_;clear t;rintro e b ⟨rfl,s⟩;have v:Hid (qcx W A c L q l a (tk1 tk 1 k j) b):=qm0 n.out V G.out.1 (by omega) o rfl s;clear s U n))
      go_roundg J
      case measure=>omega
      case rel=>exact⟨j+1,a,_,by go_num,by show _=_;have:=E.out;omega,v,D⟩
     obtain⟨x,HX⟩:∃x,Hid (x=(fnL ks (.string d)).getD 0):=⟨_,rfl⟩
     have bj:Hid (x<L):=by
      have h:=ax.out rfl;show x<L;rw[HX.out,qeR h,P.out];have:=kcm.2 h;show 2+ks.idxOf d<_;omega
     have D:Hid (LyM q.rs ks k (j+1) a (tk1 tk x k j)):=by
      have h:=w.out;have e:(λao=>stU (tk ao) k j (tkX ks (3,d) ao))=tk1 tk x k j:=by
       funext ao;rw[qu1,HX.out];rfl
      have X:stU a k j (((3,d):Nat×List UInt8).1==1)=a:=qeM a k j;rw[e,X]at h;exact h
     have hxL:=bj.out;have b5:(x:Int)<(L:Int):=by omega
     clear w;go_wp2;generalize wr.alloc (.cells #[.int .i64 ((3:Nat):Int),.string ⟨d.toArray⟩] 183)=V1 at *;generalize wr.heap.size=M at *;refine rgn (S:=λZ=>(∃tk,qcx W A c L q l a tk Z)/\Z.heap[M]?=some (.cells #[.int .i64 ((3:Nat):Int),.string ⟨d.toArray⟩] 183)) (⟨⟨tk,n.out.next (kam _ _).drew⟩,g.out⟩) (by kernel_rfl) ?_;intro f;refine tkp 0 77 (.pointer (some ⟨A,0,none⟩)) f ?_;refine tkp 1 78 (.pointer (some ⟨A,0,none⟩)) f ?_;refine tkp 2 79 (.pointer (some ⟨A,19,none⟩)) f ?_;refine tkq 3 80 (.slice (some ⟨c,0,none⟩) L L) rfl (λZ B=>?y3) f ?_
     case y3=>(obtain⟨bc,r⟩:=B.1;have z1:=r.c19;go_simp)
     refine tkp 4 81 (.pointer (some ⟨A,0,none⟩)) f ?_;refine tkp 5 82 (.pointer (some ⟨A,0,none⟩)) f ?_;refine tkp 6 83 (.pointer (some ⟨A,2,none⟩)) f ?_;refine tkq 7 84 (.map (some q.lm)) rfl (λZ B=>?y7) f ?_
     case y7=>(obtain⟨bc,r⟩:=B.1;have z1:=r.c2;go_simp)
     refine tkp 8 85 (.pointer (some ⟨M,1,none⟩)) f ?_;refine tkq 9 86 (.string ⟨d.toArray⟩) rfl (λZ B=>?y9) f ?_
     case y9=>(have z1:=qaa B.2 1;go_simp)
     refine tkq 10 87 (.int .i64 x) rfl (λZ B=>?y10) f ?_
     case y10=>(obtain⟨bc,r⟩:=B.1;have z3:=qgK (r.names HM.out bm).im stK underlying130 (qne d au.out);rw[<-HX.out]at z3;go_simp)
     refine tkq 11 88 (.pointer (some ⟨c,x*16,none⟩)) rfl (λZ B=>?y11) f ?_
     case y11=>(go_simp)
     refine tkp 12 89 (.int .i64 k) f ?_;refine tkp 13 90 (.int .i64 j) f ?_;obtain⟨ct,u⟩:=(n.out.next (kam _ _).drew).ct x k hxL o;have t:=qdy _ c (x*16) (tk x k) k j o ab (by have:=ag.out x k;omega) ct u;clear ct u;refine rdq 14 (λbw hK=>?_);go_simp;refine t.mono ?_;clear t;rintro e b ⟨rfl,s⟩;have v:=qab (qm0 (n.out.next (kam _ _).drew) V G.out.1 hxL o rfl s);have a3:(λZ:World=>(∃tk,qcx W A c L q l a tk Z)/\Z.heap[M]?=some (.cells #[.int .i64 ((3:Nat):Int),.string ⟨d.toArray⟩] 183)) b:=⟨⟨_,v.out⟩,by rw[s];exact(kaG _ _ _ _ (by have:=bi.out;simp;omega)).trans g.out⟩
     clear s n g;refine hK.out _ _ a3 (λ_=>?_);clear hK f a3;refine wdn ?_;go_simp;go_wp2;go_roundg J
     case measure=>omega
     case rel=>exact⟨j+1,a,_,by go_num,by show _=_;have:=E.out;omega,v,D⟩

def lbF(dflt:Int):List (List (Nat×List UInt8)×Int×Int)->List (List UInt8×Bool)->Int×Int
 |[],_=>(dflt,1)
 |x::rs,p=>if qx8 x.1 p then x.2 else lbF dflt rs p
def PlP(rs:List (List (Nat×List UInt8)×Int×Int))(p:List (List UInt8×Bool))(Y:Nat->Nat):Prop:=∀r (h:r<rs.length),∀k,(Y r).testBit k=plc rs[r].1 p k
theorem ql5{st:Nat}(b:∀k,st.testBit k=qgY ss k)(a:∀k,x.testBit k=P k):∀k,wdB st x k=wdP ss P k
 |0=>a 0
 |k+1=>by rw[wdB,wdP,a,b,ql5 b a k]
theorem qv5{st tk:Nat}{t:List UInt8×Bool}(b:∀k,st.testBit k=qgY ss k)(c:∀k,tk.testBit k=qkx ss t k)(a:∀k,x.testBit k=P k)(k:Nat):(gon st tk x).testBit k=goP ss t P k:=by
 unfold gon;rw[kdF,kd7,kd6,kd7,a,b]
 cases k with
 |zero=>rw[goP];simp
 |succ k =>
  rw[goP,kct,a,c];simp
theorem qrs(h:r<rs.length)(k:Nat):gB rs r k (λs=>s.1==1)=qgY rs[r].1 k:=by
 unfold gB qgY;rw[kab h];show(match rs[r].1[k]? with|some s=>s.1==1|none=>false)=_;cases rs[r].1[k]? <;> rfl
theorem qwd{a:List UInt8}(h:a∈ks)(i:b∈ks)(e:ks.idxOf a=ks.idxOf b):a=b:=by
 have f:=kcm.2 h;have g:=kcm.2 i;have c:=kdU f;have d:=kdU g;rw[<-c,<-d];simp[e]
theorem qwU(h:s.1=3->s.2∈ks)(j:s.1<=3)(a:List UInt8)(c:Bool):tkX ks s (qn0 (fnL ks) a c)=tkS s (a,c):=by
 unfold tkX tkS;split
 ·rfl
 split
 ·rfl
 split
 ·cases c with
  |true=>rfl
  |false =>
   show(((fnL ks (.string a)).getD 0)==1)=false;by_cases b:a∈ks
   ·rw[qeR b];simp;omega
   rw[qeo b];rfl
 have i:=h (by omega);rw[qeR i]
 cases c with
 |true =>
  show((1:Nat)==2+ks.idxOf s.2)=false;simp;omega
 |false =>
  show(((fnL ks (.string a)).getD 0)==2+ks.idxOf s.2)=(!false&&a==s.2)
  by_cases b:a∈ks
  ·rw[qeR b];show(2+ks.idxOf a==2+ks.idxOf s.2)=_;by_cases f:a=s.2
   ·rw[f];simp
   have g:ks.idxOf a≠ks.idxOf s.2:=λe=>f (qwd b i e);have d:(2+ks.idxOf a==2+ks.idxOf s.2)=false:=by simpa using g
   rw[d];simp[f]
  rw[qeo b];have g:a≠s.2:=λe=>b (e▸i);have d:((none:Option Nat).getD 0==2+ks.idxOf s.2)=false:=by simp;omega
  rw[d];simp[g]
theorem qw4(b:List UInt8)(c:Bool):qn0 (fnL ks) b c<2+ks.length:=by
 unfold qn0;split
 ·omega
 by_cases a:b∈ks
 ·rw[qeR a];have:=kcm.2 a;show 2+ks.idxOf b<_;omega
 rw[qeo a];show 0<_;omega
theorem qw7(h:r<rs.length)(d:∀s∈rs[r].1,s.1<=3/\(s.1=3->s.2∈ks))(b:List UInt8)(a:Bool)(k:Nat):gB rs r k (λs=>tkX ks s (qn0 (fnL ks) b a))=qkx rs[r].1 (b,a) k:=by
 unfold gB qkx;rw[kab h];show(match rs[r].1[k]? with|some s=>tkX ks s (qn0 (fnL ks) b a)|none=>false)=_
 cases e:rs[r].1[k]? with
 |none=>rfl
 |some s =>
  have c:=d s (kcU e);exact qwU c.2 c.1 b a
theorem qqe(b:LyD rs ks st tk)(a:WdY rs.length st (one rs.length) Y):PlP rs [] Y:=by
 intro r h k;rw[a.1 r h k];have c:∀k,(st r).testBit k=qgY rs[r].1 k:=λk=>(b.s r k).trans (qrs h k);have d:∀k,(one rs.length r).testBit k=(k==0):=by
  intro k;unfold one;rw[kag h]
  cases k with
  |zero=>rfl
  |succ k=>rw[Nat.testBit_succ];simp
 rw[ql5 c d k];rfl
theorem qth(c:LyD rs ks st tk)(e:∀r (h:r<rs.length),∀s∈rs[r].1,s.1<=3/\(s.1=3->s.2∈ks)){P:Nat->Nat}(f:PlP rs p P)(b:List UInt8)(a:Bool)(g:WdY rs.length st (qj0 st (tk (qn0 (fnL ks) b a)) P rs.length) Y):PlP rs ((b,a)::p) Y:=by
 intro r h k;rw[g.1 r h k];have d:∀k,(st r).testBit k=qgY rs[r].1 k:=λk=>(c.s r k).trans (qrs h k);have i:∀k,(tk (qn0 (fnL ks) b a) r).testBit k=qkx rs[r].1 (b,a) k:=λk=>(c.t _ r k).trans (qw7 h (e r h) b a k);have j:∀k,(qj0 st (tk (qn0 (fnL ks) b a)) P rs.length r).testBit k=goP rs[r].1 (b,a) (plc rs[r].1 p) k:=by
  intro k;unfold qj0;rw[kag h];exact qv5 d i (f r h) k
 rw[ql5 d j k];rfl
theorem quF{X:Nat->Nat}(h:PlP rs p Y)(c:rs.length<=16)(a:∀r,r<16->X r=Y r):PlP rs p X:=by
 intro r b k;rw[a r (by omega)];exact h r b k
theorem qq6(a:Int)(p:List (List UInt8×Bool))(Y:Nat->Nat):∀(rs:List (List (Nat×List UInt8)×Int×Int)) (o:Nat),(∀r (h:r<rs.length),∀k,(Y (o+r)).testBit k=plc rs[r].1 p.reverse k)->jdg a rs Y o=lbF a rs p
 |[],_,_=>rfl
 |x::rs,o,h=>by
  have b:=h 0 (by simp) x.1.length;rw[jdg,lbF];have e:(Y o).testBit x.1.length=qx8 x.1 p:=b.trans (qtX x.1 p);rw[e,qq6 a p Y rs (o+1) (λr c k=>by
   have:=h (r+1) (by simpa using c) k;rw[show o+1+r=o+(r+1) by omega,this];rfl)]
theorem qwi(h:PlP rs p.reverse Y)(a:Int):jdg a rs Y 0=lbF a rs p :=
 qq6 a p Y rs 0 (λr b k=>by rw[kaL];exact h r b k)
theorem qtS(h:b∈ks):b∈qhZ ks s:=by
 unfold qhZ;split
 ·exact List.mem_append_left _ h
 exact h
theorem qg4:∀(ss:List (Nat×List UInt8)) (ks:List (List UInt8)),b∈ks->b∈ss.foldl qhZ ks
 |[],_,h=>h
 |_::ss,_,h=>qg4 ss _ (qtS h)
theorem qkk:∀(ss:List (Nat×List UInt8)) (ks:List (List UInt8)) (s:Nat×List UInt8),s∈ss->s.1=3->s.2∈ss.foldl qhZ ks
 |x::ss,ks,s,b,h3=>by
  rcases kbR.1 b with rfl|b
  ·refine qg4 ss _ ?_;unfold qhZ;by_cases a:s.2∈ks
   ·rw[kac (λh=>h.2 a)];exact a
   rw[kag ⟨h3,a⟩];simp
  exact qkk ss _ s b h3
theorem qkF:∀(rs:List (List (Nat×List UInt8)×Int×Int)) (ks:List (List UInt8)),b∈ks->b∈rs.foldl qup ks
 |[],_,h=>h
 |r::rs,_,h=>qkF rs _ (qg4 r.1 _ h)
theorem qko:∀(rs:List (List (Nat×List UInt8)×Int×Int)) (ks:List (List UInt8)) (r:List (Nat×List UInt8)×Int×Int),r∈rs->∀s∈r.1,s.1=3->s.2∈rs.foldl qup ks
 |x::rs,ks,r,a,s,hs,h3=>by
  rcases kbR.1 a with rfl|a
  ·exact qkF rs _ (qkk r.1 ks s hs h3)
  exact qko rs _ r a s hs h3
theorem qkP{i:Nat}(h:i<rs.length)(a:j<rs[i].1.length)(b:rs[i].1[j].1=3):rs[i].1[j].2∈qc0 rs :=
 qko rs [] rs[i] (kbC h) _ (kbC a) b
theorem qnx:∀(rs:List (List (Nat×List UInt8)×Int×Int)) (ks:List (List UInt8)),(∀r∈rs,r.1.length<=8)->(rs.foldl qup ks).length<=ks.length+8*rs.length
 |[],_,_=>by simp
 |r::rs,ks,h=>by
  have b:=qnx rs (qup ks r) (λx a=>h x (ka9 _ a));have c:(qup ks r).length<=ks.length+r.1.length:=qmZ r.1 ks;have d:=h r (by simp);rw[kbT,kah];omega
theorem qnn(d:rs.length<=16)(a:∀i (h:i<rs.length),rs[i].1.length<=8):(qc0 rs).length<=128:=by
 have h:=qnx rs [] (λr c=>by
  obtain⟨i,b,rfl⟩:=kbv c;exact a i b)
 unfold qc0;simp at h;omega

structure q0x(W:World)(rs:List (List (Nat×List UInt8)×Int×Int))(dflt:Int)(A:Nat)(q:Aut)(sts:List ((Nat->Nat)×Int×Int))(sa:Option Addr)(sc:Nat)(nf:Lit->Option Nat)(mf:Lit->Option Nat)(W':World):Prop where
 au:qcy W A q sts (.slice sa sts.length sc) nf 0 mf W'
 ers:q.rs=rs
 edf:q.dflt=dflt
 elf:q.lf=fnL (qc0 rs)
 eL:q.L=2+(qc0 rs).length
 ly:LyD rs (qc0 rs) q.st q.tk
 mv:qwh q sts mf
 few:sts.length<=1
 first:∃t Y,sts[0]?=some t/\WdY rs.length q.st (one rs.length) Y/\∀r,r<16->t.1 r=Y r
def qu9(W:World)(rs:List (List (Nat×List UInt8)×Int×Int))(dflt:Int)(e:Ending)(W':World):Prop :=
 ∃A q sts sa sc nf mf,e=.returned (.pointer (some ⟨A,0,none⟩))/\q0x W rs dflt A q sts sa sc nf mf W'
def w3M(W:World):World:=((W.alloc (.map #[] 0)).alloc (.map #[] 0)).alloc (.map #[] 0)
theorem qj2(W:World):(w3M W).heap.size=W.heap.size+3:=by simp[w3M]
theorem q07(W:World)(a:TypeId)(b:Nat)(e:W.heap.size<=b)(f:b<W.heap.size+3):qdo (w3M W) a b 0 (λ_=>none):=by
 have c:(W.alloc (.map #[] 0)).heap.size=W.heap.size+1:=by simp
 have d:((W.alloc (.map #[] 0)).alloc (.map #[] 0)).heap.size=W.heap.size+2:=by simp
 rcases(by omega:b=W.heap.size\/b=W.heap.size+1\/b=W.heap.size+2)with rfl|rfl|rfl
 ·exact((qmd W a).kept (kbd _ _ none) (by simp)).kept (kbd _ _ none) (by simp)
 ·have h:=(qmd (W.alloc (.map #[] 0)) a).kept (kbd _ (.map #[] 0) none) (by simp);rw[c]at h;exact h
 have h:=qmd ((W.alloc (.map #[] 0)).alloc (.map #[] 0)) a;rw[d]at h;exact h
theorem q0s(W:World)(b:Nat)(d:W.heap.size<=b)(e:b<W.heap.size+3):ImK (w3M W) b []:=by
 have a:(W.alloc (.map #[] 0)).heap.size=W.heap.size+1:=by simp
 have c:((W.alloc (.map #[] 0)).alloc (.map #[] 0)).heap.size=W.heap.size+2:=by simp
 rcases(by omega:b=W.heap.size\/b=W.heap.size+1\/b=W.heap.size+2)with rfl|rfl|rfl
 ·exact((qjb W).kept (kbd _ _ none) (by simp)).kept (kbd _ _ none) (by simp)
 ·have h:=(qjb (W.alloc (.map #[] 0))).kept (kbd _ (.map #[] 0) none) (by simp);rw[a]at h;exact h
 have h:=qjb ((W.alloc (.map #[] 0)).alloc (.map #[] 0));rw[c]at h;exact h
def q0(ra:Option Addr)(rc:Nat)(rs:List (List (Nat×List UInt8)×Int×Int))(dflt:Int)(lm nb mb:Nat):Aut :=
 {ra:=ra,rc:=rc,rs:=rs,dflt:=dflt,lm:=lm,ln:=0,lf:=λ_=>none,st:=λ_=>0,tb:=0,L:=0,tc:=0,tk:=λ_ _=>0,nb:=nb,mb:=mb}
def q1(ra:Option Addr)(rc:Nat)(rs:List (List (Nat×List UInt8)×Int×Int))(dflt:Int)(lm nb mb:Nat)(st:Nat->Nat)(tb:Nat)(tk:Nat->Nat->Nat):Aut :=
 {ra:=ra,rc:=rc,rs:=rs,dflt:=dflt,lm:=lm,ln:=(qc0 rs).length,lf:=fnL (qc0 rs),st:=st,tb:=tb,L:=2+(qc0 rs).length,tc:=2+(qc0 rs).length,tk:=tk,nb:=nb,mb:=mb}
theorem LyD.lt(h:LyD rs ks st tk)(b:∀i (h:i<rs.length),rs[i].1.length<=8):(∀r,st r<256)/\∀x r,tk x r<256 :=
 ⟨λr=>qsS λp a=>by rw[h.s,qmL b r p a],λx r=>qsS λp a=>by rw[h.t,qmL b r p a]⟩
theorem qvw{V0 V1 V2 V3:World}{ra:Option Addr}{rc:Nat}{dflt:Int}{nb mb:Nat}(I:qep W ra rs)(H:rs.length<=16)(r:∀i (h:i<rs.length),rs[i].1.length<=8)(O:A=W.heap.size+3)(q:W.heap.size<=lm/\lm<W.heap.size+3)(d:W.heap.size<=nb/\nb<W.heap.size+3)(e:W.heap.size<=mb/\mb<W.heap.size+3)(o:lm≠nb)(p:lm≠mb)(z:nb≠mb)(f:V0=(w3M W).alloc (.cells (qj9 (q0 ra rc rs dflt lm nb mb) (λ_=>0) (.slice none 0 0) (.slice none 0 0)) 139))(c:qsf V0 lm (qc0 rs) V1)(R:V1.heap.size<=tb)(D:qcx V1 A tb (2+(qc0 rs).length) (q0 ra rc rs dflt lm nb mb) (.slice none 0 0) st tk V2)(C:LyD rs (qc0 rs) st tk)(B:Below V2.heap.size V2 V3):qcy W A (q1 ra rc rs dflt lm nb mb st tb tk) [] (.slice none 0 0) (λ_=>none) 0 (λ_=>none) V3:=by
 have P:V0.heap.size=W.heap.size+4:=by rw[f,kad,qj2]
 have Q:=c.but.size;have a:=D.next B
 have u:Below W.heap.size W V0:=by
  rw[f];exact(((bwA).alloc (by simp) _).alloc (by simp;omega) _).alloc (by simp;omega) _
 have v:=c.but.low u q.1;have w:=a.low v (by omega);have F:(w3M W).grownBy V0 none:=by rw[f];exact kbd _ _ none
 have G:V0.grownBy V1 (some lm):=⟨c.but.os,c.but.tape,c.but.output,c.but.size,λi j k=>c.but.block i j (by simpa using k)⟩
 have s:V1.grownBy V3 (some A):=⟨a.os,a.tape,a.output,a.size,λi j k=>a.block i j (by simpa using k)⟩
 have t:∀n b,W.heap.size<=b->b<W.heap.size+3->b≠lm->qdo V3 n b 0 (λ_=>none):=λn b J K L =>
  (((q07 W n b J K).kept F (by simp)).kept G (by simpa using L)).kept s (by simp;omega)
 obtain⟨y,M,N⟩:=a.tks;refine⟨?_,I,⟨H,r⟩,w,?_,⟨y,M,N.at_⟩,kaV _ _ _ _,t _ nb d.1 d.2 o.symm,t _ mb e.1 e.2 p.symm,?_,?_,?_,C.lt r,?_,?_,λl i h=>by cases h⟩
 ·rw[qtZ];exact a.row
 ·exact(c.names.kept s (by simp;omega)).im
 ·exact⟨by omega,q.1,show W.heap.size<=tb by omega,d.1,e.1⟩
 ·refine⟨show A≠lm by omega,show A≠tb by omega,show A≠nb by omega,show A≠mb by omega,show lm≠tb by omega,o,p,show tb≠nb by omega,show tb≠mb by omega,z⟩
 ·intro g E;cases E
 ·intro i x m;simp at m
 intro i x m;simp at m

theorem qxJ(h:qcx W A tb L q sv st tk V):AuR V A q.ra q.rc q.rs.length st :=
 ⟨(ltA h.row),(kbg V A 0 _ _ _ h.row).trans (qr3 _ _ _ _),λr a=>(h.cs r a).1⟩
theorem qwm(e:Option Addr)(f:Nat)(rs:List (List (Nat×List UInt8)×Int×Int))(a:Int)(b d c:Nat):qj9 (q0 e f rs a b d c) (λ_=>0) (.slice none 0 0) (.slice none 0 0)=#[.slice e rs.length f,.int .i64 a,.map (some b),.int .u16 0,.int .u16 0,.int .u16 0,.int .u16 0,.int .u16 0,.int .u16 0,.int .u16 0,.int .u16 0,.int .u16 0,.int .u16 0,.int .u16 0,.int .u16 0,.int .u16 0,.int .u16 0,.int .u16 0,.int .u16 0,.slice none 0 0,.slice none 0 0,.map (some d),.map (some c)]:=by kernel_rfl
theorem q0o(V:World):(Instr.makeMap 130 none).run prog V=.ok (.map (some V.heap.size)) (V.alloc (.map #[] 0)):=by kernel_rfl
theorem q0l(V:World):(Instr.makeMap 131 none).run prog V=.ok (.map (some V.heap.size)) (V.alloc (.map #[] 0)):=by kernel_rfl
theorem q0n(V:World):(Instr.makeMap 132 none).run prog V=.ok (.map (some V.heap.size)) (V.alloc (.map #[] 0)):=by kernel_rfl
theorem ql2(W:World)(b:Option Addr)(d:Nat)(rs:List (List (Nat×List UInt8)×Int×Int))(c:Int)(hr:qep W b rs)(n:rs.length<=16)(V:∀i (h:i<rs.length),rs[i].1.length<=8)(ab:∀i (h:i<rs.length) j (o:j<rs[i].1.length),rs[i].1[j].1<=3/\rs[i].1[j].2.length<=1000000000):Calls prog 36 #[.slice b rs.length d,.int .i64 c] W (qu9 W rs c):=by
 have q:=qab hr;have g:=qab V;have u:=qab ab;have m1:=q0o;have m2:=q0l;have m3:=q0n;have J:Hid (∃a,a=((((W.alloc (.map #[] 0)).alloc (.map #[] 0)).alloc (.map #[] 0)).alloc (.cells #[.slice b rs.length d,.int .i64 c,.map (some W.heap.size),.int .u16 0,.int .u16 0,.int .u16 0,.int .u16 0,.int .u16 0,.int .u16 0,.int .u16 0,.int .u16 0,.int .u16 0,.int .u16 0,.int .u16 0,.int .u16 0,.int .u16 0,.int .u16 0,.int .u16 0,.int .u16 0,.slice none 0 0,.slice none 0 0,.map (some (W.heap.size+1)),.map (some (W.heap.size+1+1))] 139))/\a=(w3M W).alloc (.cells (qj9 (q0 b d rs c W.heap.size (W.heap.size+1) (W.heap.size+1+1)) (λ_=>0) (.slice none 0 0) (.slice none 0 0)) 139)):=⟨_,rfl,by rw[qwm];rfl⟩
 obtain⟨a,k,l⟩:=J.out;have m:=qab l;have v:Hid (a.heap.size=W.heap.size+4):=by show _=_;rw[m.out,kad,qj2]
 have s:Hid (Below W.heap.size W a):=by
  show Below _ _ _;rw[m.out];exact(((bwA).alloc (by simp) _).alloc (by simp;omega) _).alloc (by simp;omega) _
 have r:Hid (a.heap[W.heap.size+3]?=some (.cells (qj9 (q0 b d rs c W.heap.size (W.heap.size+1) (W.heap.size+1+1)) (λ_=>0) (.slice none 0 0) (.slice none 0 0)) 139)):=by
  show _=_;rw[m.out];have:=qac (w3M W) (.cells (qj9 (q0 b d rs c W.heap.size (W.heap.size+1) (W.heap.size+1+1)) (λ_=>0) (.slice none 0 0) (.slice none 0 0)) 139);rw[qj2]at this;exact this
 have H:Hid (ImK a W.heap.size []):=by
  show ImK _ _ _;rw[m.out];exact(q0s W W.heap.size (kaf _) (by omega)).kept (kbd _ _ none) (by simp)
 have Q:=qhp W a (W.heap.size+1+1+1) W.heap.size b d rs s.out (by have:=v.out;omega) (by omega) (kaf _) n g.out (λi h j o=>(u.out i h j o).2) ((kbg a _ 0 _ _ _ r.out).trans (qr3 _ _ _ _)) ((kbg a _ 2 _ _ _ r.out).trans (qq1 _ _ _ _)) q.out H.out;go_enter func36,ntmps36
 go_wp2_with(fail)
 rw[<-k];refine Q.mono ?_;rintro e L ⟨rfl,p⟩;have G:=qab p;have Z:=p.but.low s.out (kaf _);have ac:=(p.but.block (W.heap.size+3) (by have:=v.out;omega) (by omega)).trans r.out;have P:=qgB W L (W.heap.size+1+1+1) (q0 b d rs c W.heap.size (W.heap.size+1) (W.heap.size+1+1)) (.slice none 0 0) (qc0 rs) Z ac (by omega) n g.out u.out q.out p.names (qnn n g.out) (λi h j o U=>qkP h o U) (by show W.heap.size+1+1+1≠W.heap.size;omega)
 go_wp2_with(fail)
 refine P.mono ?_;rintro e M ⟨rfl,tb,D,tk,ad,y,w⟩;have F:=qab y;have I:=qab ad;have t:Hid (LyD rs (qc0 rs) D tk):=w;have R:=qrI M (W.heap.size+1+1+1) b d rs.length D (w.lt g.out).1 n (qxJ y)
 go_wp2_with(fail)
 refine R.mono ?_;rintro e N ⟨⟨Y,rfl,z⟩,f⟩;have K:=qab z;have aa:=qvw q.out n g.out (A:=W.heap.size+1+1+1) rfl ⟨kaf _,by omega⟩ ⟨by omega,by omega⟩ ⟨by omega,by omega⟩ (by omega) (by omega) (by omega) m.out G.out I.out F.out t.out f;have S:=qgM W _ _ [] none 0 _ 0 _ N aa Y z.2.2 (by simp)
 go_wp2_with(fail)
 refine S.mono ?_;rintro e O ⟨i,af,sa,sc,nf,rfl,_,_,X,_,B,x,C,ae⟩;have E:Hid (qu9 W rs c (.returned (.pointer (some ⟨W.heap.size+1+1+1,0,none⟩))) O):=by
  refine⟨_,_,_,_,_,_,_,rfl,⟨X,rfl,rfl,rfl,rfl,t.out,?_,by simpa using B,x,Y,?_,K.out,ae⟩⟩
  ·intro ag x ai ah _ h;cases h
  have:i<af.length:=ltL C;have T:i=0:=by simp at B;omega
  rw[<-T];exact C
 go_wp2;go_ret;exact E.out

end
end Go.Proofs.YtmajcjammmjimaaGreatDoor
