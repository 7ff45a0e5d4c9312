import Derived.Test.YtcokgepdckkjdaaGreatDoorRq48
set_option maxRecDepth 100000
set_option maxHeartbeats 8000000
namespace Go.Proofs.YtcokgepdckkjdaaGreatDoor
open Go.Proofs.Tryz
variable {bs:List UInt8}{g p:Nat}{c:UInt8}{V W:World}{A:Array Value}
section
open Go.RowKit Go.Lib
theorem qyx (k:Nat)(W:World)(bs:List UInt8)(fm d l lim:Int)(i:Nat)(b:Int)(c:UInt8)(g:bs[i]? = some c)(o:¬(i:Int)=lim)(n:Lm bs l lim)(hi:InR bs lim i)(j:d<=b):Calls prog 73 #[.agg (inA bs fm d l),.int .i64 i,.int .i64 b] W (qxJ k bs lim W (.error (11,(i:Int)))):=by
 have u:decide (d<=b)=true:=by simpa using j
 have f:∀V,Calls prog 31 #[.agg #[.string ⟨bs.toArray⟩,.int .i64 fm,.int .i64 d,.int .i64 l],.int .i64 i,.int .i64 11] V fun e q=>e=.returned (.agg (qqp (11,(i:Int))))/\Below V.heap.size V q:=fun V=>by
  have h:=qyn V bs fm d l i 11;rw[qxN n hi g o] at h;exact h
 have p:=qzA W bs fm d l;clear g o n hi j;unfold inA;go_enter func73,ntmps73
 go_wp2_with (first
  |(go_at_call 31;refine ck4 (f _) p.out.next (fun _ h=>h.box) ?_;clear f;intro v a r s c2 t)
  |((with_reducible refine zT 6 17 rfl rfl (W.heap.size+1) (th0) ?_ ?_);exact⟨rfl,rfl,a.out.th,thg⟩)
  |((with_reducible refine zF 8 20 rfl rfl (W.heap.size+2) (11,(i:Int)) ?_ ?_);exact⟨rfl,rfl,qxT a.out bwR _⟩))
 have m:=qxK a.out bwR (th0) (11,(i:Int));refine eoT results73 m (.int .i64 0) rfl rfl rfl rfl ⟨m.2.2,?_⟩;exact⟨.error (11,(i:Int)),.inl rfl,_,_,_,_,_,_,_,_,_,_,rfl⟩
theorem q2u (s:Src)(c:UInt8)(p:Nat):Bad (nmS s c p):=qqA _ _
theorem q1t {l:Int}(a:bs[p]? = some c)(h:qcQ c=false):qyS bs l p=false:=by
 unfold qyS;rw[a];simp only[];rw[h,Bool.and_false]
theorem q02 (h:qcQ c=true):48<=(c.toNat:Int)/\(c.toNat:Int)<=57:=of_decide_eq_true h
theorem q27 (h:¬qcQ c=true):(c.toNat:Int)<48\/57<(c.toNat:Int):=by
 have b:¬(48<=(c.toNat:Int)/\(c.toNat:Int)<=57):=fun a=>h (decide_eq_true a);omega
theorem q0K (W:World)(bs:List UInt8)(fm d l lim:Int)(i:Nat)(c:UInt8)(j:bs[i]? = some c)(A:c.toNat=45\/qcQ c=true)(t:¬(i:Int)=lim)(k:Lm bs l lim)(hi:InR bs lim i)(n:bs.length<=281474976710656)(s:Src)(w:s.bs=bs)(y:s.lim=lim):Calls prog 74 #[.agg (inA bs fm d l),.int .i64 i] W fun e m=>qzM bs lim (nmS s c (i+1)) e/\Below W.heap.size W m:=by
 subst w;subst y;unfold nmS qg4;simp only[];have o:=qxG hi j t;by_cases b:c.toNat=45
 ·rw[if_pos b];have p:∀x,qyS s.bs l (i+1)=false->qr0 s.bs l (i+1) 9=x->Calls prog 74 #[.agg (inA s.bs fm d l),.int .i64 i] W fun e m=>qzM s.bs s.lim (.error x) e/\Below W.heap.size W m:=fun x u v=>(qzC W s.bs fm d l i c j b n x u v).mono fun e m h=>⟨⟨.error x,.inl rfl,(fun z q e=>by cases e),h.1⟩,h.2⟩
  cases a:s.bs[i+1]? with
  |none =>
   simp only[];exact p _ (q0s (qxX a)) (qyc o.1 a 9)
  |some r =>
   simp only[];by_cases g:((i+1:Nat):Int)=s.lim
   ·rw[if_pos g];exact p _ (q0s (qxZ k a g)) (qxW k a g 9)
   rw[if_neg g];by_cases f:qcQ r=true
   ·rw[if_pos f];have h:=q0t W s.bs fm d l s.lim i (i+1) _ true c r j (.inl ⟨rfl,b,rfl,rfl⟩) a f g k o n;unfold sgn at h;simp only[if_true] at h;exact h
   rw[if_neg f];exact p _ (q1t a (by simpa using f)) (qxN k o a g 9)
 rw[if_neg b];have f:qcQ c=true:=A.resolve_left b;have h:=q0t W s.bs fm d l s.lim i i _ false c c j (.inr ⟨rfl,b,rfl,rfl⟩) j f t k hi n;unfold sgn at h;simp only[Bool.false_eq_true,if_false] at h;exact h
theorem q1x {lim depth:Int}{nm:UInt8->Nat->Except (Int×Int) (Int×Nat)}{wi:Nat}(b:(p:Int)=lim)(a:p<bs.length):thJ bs lim depth nm (g+1) wi p=.error (8,(p:Int)):=by
 rw[thJ,List.getElem?_eq_getElem a];simp only[];rw[if_pos b]
theorem qzi (s:Src)(fm l:Int)(k:Lm s.bs l s.lim)(t:s.bs.length<=281474976710656)(E:s.lim<=200000000)(J:s.depth<=100000):∀(g a:Nat) (W:World) (i:Nat),(a:Int)<=s.depth->s.depth<a+g->InR s.bs s.lim i ->
  Calls prog 45 #[.agg (inA s.bs fm s.depth l),.int .i64 i,.int .i64 a] W (qxJ g s.bs s.lim W (thJ s.bs s.lim s.depth (nmS s) g a i))
 |0,a,W,i,m,n,_=>absurd n (by omega)
 |g+1,a,W,i,m,n,hi=>by
  have U:∀p,(a:Int)+1<=s.depth->Bad (thJ s.bs s.lim s.depth (nmS s) g (a+1) p):=fun p h=>qnJ s.bs s.lim s.depth (nmS s) (fun c p=>q2u s c p) g (a+1) p (by omega) (by omega);have X:(a:Int)<s.depth->∀p:Nat,(p:Int)=s.lim->p<s.bs.length->thJ s.bs s.lim s.depth (nmS s) g (a+1) p=.error (8,(p:Int)):=fun h p y z=>by
   obtain⟨T,rfl⟩:∃T,g=T+1:=⟨g-1,by omega⟩
   exact q1x y z
  rw[thJ]
  cases b:s.bs[i]? with
  |none=>exact qzD g W s.bs fm s.depth l s.lim i a _ (qyc hi.1 b 9) (qz9 _) (.inl (qxX b))
  |some c =>
   simp only[];by_cases d:(i:Int)=s.lim
   ·rw[if_pos d];exact qzD g W s.bs fm s.depth l s.lim i a _ (qxW k b d 9) (qz9 _) (.inl (qxZ k b d))
   rw[if_neg d];have o:=qyb k hi b d;have R:∀(w:UInt8) (xs:List UInt8) (S:Int) (L:DataW Unit),c=w->(w.toNat,(w::xs).toArray,S)∈([(110,#[110,117,108,108],0),(102,#[102,97,108,115,101],1),(116,#[116,114,117,101],2)]:List (Nat×Array UInt8×Int))->(∀B:World,qxY 1 B (fun j=>W.heap.size<=j/\j<B.heap.size) (.agg (thA S 0 ⟨#[]⟩ qxE qxE)) L)->(w::xs).length<=10->Calls prog 45 #[.agg (inA s.bs fm s.depth l),.int .i64 i,.int .i64 a] W (qxJ (g+1) s.bs s.lim W (match qaT s.bs s.lim xs (i+1) with
     |.error e=>.error e
     |.ok (_,q)=>.ok (L,q))):=fun w xs S L m n y z=>by
    have C:=fun V=>qyH V s.bs fm s.depth l s.lim i (w::xs) (Nat.le_trans z (by decide)) k hi t;rw[q1k (xs:=xs) b d m] at C
    cases v:qaT s.bs s.lim xs (i+1) with
    |error f =>
     rw[v] at C;exact qz7 g W s.bs fm s.depth l s.lim i a c b o _ _ _ _ _ (by rw[m]) n C (qz9 f)
    |ok r =>
     obtain⟨ab,q⟩:=r;rw[v] at C;exact qz7 g W s.bs fm s.depth l s.lim i a c b o _ _ _ _ _ (by rw[m]) n C (q1Y (qyr xs (i+1) q (qxG hi b d) v).2 y)
   unfold qqi;by_cases O:c.toNat=110
   ·rw[if_pos O];exact R 110 [117,108,108] 0 _ (by apply UInt8.toNat_inj.1;rw[O];rfl) (by decide) (fun _=>rfl) (by decide)
   rw[if_neg O];by_cases P:c.toNat=116
   ·rw[if_pos P];exact R 116 [114,117,101] 2 _ (by apply UInt8.toNat_inj.1;rw[P];rfl) (by decide) (fun _=>rfl) (by decide)
   rw[if_neg P];by_cases N:c.toNat=102
   ·rw[if_pos N];exact R 102 [97,108,115,101] 1 _ (by apply UInt8.toNat_inj.1;rw[N];rfl) (by decide) (fun _=>rfl) (by decide)
   rw[if_neg N];by_cases H:c.toNat=34
   ·rw[if_pos H];have F:=fun V=>qyk V s.bs fm s.depth l s.lim i k (qxG hi b d) t E
    cases v:qfe s.bs s.lim (s.bs.length+1-(i+1)) (i+1) [] 0 with
    |error f =>
     rw[v] at F;exact q0m g W s.bs fm s.depth l s.lim i a c b o _ _ _ H F (qz9 f)
    |ok r =>
     obtain⟨x,q⟩:=r;rw[v] at F;exact q0m g W s.bs fm s.depth l s.lim i a c b o _ _ _ H F (q1Y (qyJ _ (i+1) [] 0 x q (qxG hi b d) v) fun _=>rfl)
   rw[if_neg H];have M:((i+1:Nat):Int)-1=(i:Int):=by omega
   by_cases I:c.toNat=91
   ·rw[if_pos I];refine qyK g W s.bs fm s.depth l s.lim i a c b o (.inl ⟨.inl I,fun V => ?_⟩);by_cases D:(a:Int)=s.depth
    ·rw[if_pos D,M];exact qyx (g+1) V s.bs fm s.depth l s.lim i a c b d k hi (by omega)
    rw[if_neg D];exact qyX g V s.bs fm s.depth l s.lim i a c b I d k hi t E (by omega) (by omega) J _ (fun p=>U p (by omega)) (X (by omega)) (fun p x q h=>qov s _ _ _ _ _ h) (fun K p _ Q=>qzi s fm l k t E J g (a+1) K p (by omega) (by omega) Q)
   rw[if_neg I];by_cases G:c.toNat=123
   ·rw[if_pos G];refine qyK g W s.bs fm s.depth l s.lim i a c b o (.inl ⟨.inr G,fun V => ?_⟩);by_cases D:(a:Int)=s.depth
    ·rw[if_pos D,M];exact qyx (g+1) V s.bs fm s.depth l s.lim i a c b d k hi (by omega)
    rw[if_neg D];exact qzj g V s.bs fm s.depth l s.lim i a c b G d k hi t E (by omega) (by omega) J _ (fun p=>U p (by omega)) (X (by omega)) (fun p x q h=>qov s _ _ _ _ _ h) (fun K p Q=>qzi s fm l k t E J g (a+1) K p (by omega) (by omega) Q)
   rw[if_neg G];by_cases A:c.toNat=45\/qcQ c=true
   ·rw[if_pos A];have Y:∀V,Calls prog 74 #[.agg (inA s.bs fm s.depth l),.int .i64 i] V fun e B=>qzM s.bs s.lim (nmS s c (i+1)) e/\Below V.heap.size V B:=fun V=>q0K V s.bs fm s.depth l s.lim i c b A d k hi t s rfl rfl;refine qyK g W s.bs fm s.depth l s.lim i a c b o (.inr ⟨A.imp id fun h=>by have:=q02 h;omega,fun V=>(Y V).mono fun e B h => ?_⟩);obtain⟨⟨r',m,n,y⟩,z⟩:=h
    cases r' with
    |error f=>exact⟨z,.error f,q1D m,_,_,_,_,_,_,_,_,_,_,y⟩
    |ok x=>exact⟨z,.ok (.lit (.int .i64 x.1),x.2),q2v m,(n _ _ rfl).1,_,_,_,_,_,_,_,_,_,y,q0N ⟨rfl,(n _ _ rfl).2⟩⟩
   rw[if_neg A,M];have aa:¬c.toNat=45:=fun h=>A (.inl h);have u:¬qcQ c=true:=fun h=>A (.inr h);have Z:=qxN k hi b d 9;exact qzD g W s.bs fm s.depth l s.lim i a _ Z (qz9 _) (.inr ⟨o,c,b,fun x hx=>by simp at hx;omega,by have:=q27 u;omega⟩)

theorem q2E (k:Nat)(W:World)(bs:List UInt8)(fm d l lim:Int)(i:Nat)(r:Except (Int×Int) (DataW Unit×Nat))(G:fm=1)(C:∀V,Calls prog 45 #[.agg (inA bs fm d l),.int .i64 i,.int .i64 0] V (qxJ k bs lim V r)):Calls prog 30 #[.agg (inA bs fm d l),.int .i64 i] W (qxJ k bs lim W r):=by
 have S:(fm==1)=true:=by simpa using G
 have B:Hid (∀V,Calls prog 45 #[.agg #[.string ⟨bs.toArray⟩,.int .i64 fm,.int .i64 d,.int .i64 l],.int .i64 i,.int .i64 0] V (qxJ k bs lim V r)):=C;have O:=qzA W bs fm d l;have J:∀A,(((W.alloc (.cells A 77)).alloc (.cells th0 55)).alloc (.cells (qqp (0,0)) 57)).heap.size=W.heap.size+3:=fun A=>by simp
 clear G C;unfold inA;go_enter func30,ntmps30
 go_wp2_with fail
 refine(B.out _).mono ?_;rintro e K I;obtain⟨Q,x,t,v,s,m,o,p,n,w,u,z,F,H,rfl,b,hF⟩:=qyu I;have g:=qaa (O.out.next Q);have N:=qaa H;have M:=qaa hF;have L:Hid (∀a q,x=.ok (a,q)->InR bs lim q/\z=(q:Int)/\F=(0,0)/\qxY k K (fun j=>W.heap.size+3<=j/\j<K.heap.size) (.agg (thA t v s (.slice m o p) (.slice n w u))) a):=fun a q h=>⟨(b a q h).1,(b a q h).2.1,(b a q h).2.2.1,(b a q h).2.2.2.same (fun j c=>⟨by have P:=c.1;have D:=J #[.string ⟨bs.toArray⟩,.int .i64 fm,.int .i64 d,.int .i64 l];unfold th0 thA qxE qqp at D;simp only[World.size_alloc] at P D;omega,c.2⟩) (fun _ _=>rfl)⟩
 clear I H hF b B J;simp only[]
 go_wp2_with (first
  |((with_reducible refine zT 4 13 rfl rfl (W.heap.size+1) (thA t v s (.slice m o p) (.slice n w u)) ?_ ?_);exact⟨rfl,rfl,g.out.th,thg⟩)
  |((with_reducible refine zF 6 15 rfl rfl (W.heap.size+2) (F) ?_ ?_);exact⟨rfl,rfl,qxT g.out bwR _⟩))
 have E:=qxK g.out bwR (thA t v s (.slice m o p) (.slice n w u)) (F);refine eoT results30 E (.int .i64 z) rfl rfl rfl rfl ⟨E.2.2,x,N.out,?_⟩
 cases x with
 |error f =>
  obtain rfl:=M.out f rfl;exact⟨_,_,_,_,_,_,_,_,_,_,rfl⟩
 |ok y =>
  obtain⟨a,q⟩:=y;obtain⟨R,rfl,rfl,b⟩:=L.out a q rfl;refine⟨R,_,_,_,_,_,_,_,_,_,rfl,b.same (fun j c=>⟨by have:=c.1;omega,by simpa using c.2⟩) (fun j c => ?_)⟩;rw[setRow_other _ _ _ _ (by omega),setRow_other _ _ _ _ (by omega)]
theorem q11 (bs:List UInt8)(a b c:Int):(inA [] 0 0 0).size=(inA bs a b c).size:=rfl
theorem q2F (bs:List UInt8)(a b c:Int):(inA bs a b c).all (·.oneCell')=true:=by simp[inA,Value.oneCell']

def skP (fm:Int)(bs:List UInt8)(l:Int)(p:Nat):Nat:=if fm=1 then skR bs l (bs.length+1-p) p else p
theorem qys (fm:Int)(bs:List UInt8)(l:Int)(p:Nat)(hi:InR bs l p):(spO fm bs l p=.ok ((),skP fm bs l p)/\InR bs l (skP fm bs l p)/\p<=skP fm bs l p)\/(spO fm bs l p=.error (8,(skP fm bs l p:Int))/\(skP fm bs l p:Int)=l/\skP fm bs l p<bs.length):=by
 unfold spO skP;by_cases h:fm=1
 ·rw[if_pos h,if_pos h];rcases qyV (l:=l) (lim:=l) (fun _ _=>Iff.rfl) (bs.length+1-p) p hi with ⟨q,a,b,c,d,_⟩|⟨q,a,b,c,d⟩
  ·rw[b];exact .inl ⟨a,c,d⟩
  rw[b];exact .inr ⟨a,c,d⟩
 rw[if_neg h,if_neg h];exact .inl ⟨rfl,hi,Nat.le_refl _⟩
theorem q2s (fm:Int)(bs:List UInt8)(d l:Int)(p:Nat)(e:(p:Int)=l)(c:p<bs.length):thO fm bs d l p=.error (8,(p:Int)):=by
 have a:∀b,thB b bs l d (d.toNat+1) 0 p=.error (8,(p:Int)):=fun b=>by
  rw[thB,List.getElem?_eq_getElem c];simp only[];rw[if_pos e]
 unfold thO;split
 ·exact q1x e c
 split
 ·exact a _
 exact a _
theorem q01 (C:Nat->DataW Unit->Nat)(fm:Int)(bs:List UInt8)(d l:Int)(H:0<=l)(E:∀p y q,thO fm bs d l p=.ok (y,q)->q<=bs.length->∀k,C k y<=400*q){r':Except (Int×Int) (DataW Unit×Nat)}(o:qyi bs l (thO fm bs d l (skP fm bs l 0)) r'):(∀f,r'=.error f->qgE fm bs d l=.error f)/\(∀j q,r'=.ok (j,q)->InR bs l q->InR bs l (skP fm bs l q)/\(skP fm bs l q<bs.length->qgE fm bs d l=.error (qr0 bs l (skP fm bs l q) 9))/\(¬skP fm bs l q<bs.length->qgE fm bs d l=.ok j/\(bs.length:Int)<=l/\∀k,C k j<=400*bs.length)):=by
 have G:InR bs l 0:=⟨Nat.zero_le _,H⟩
 have n:Lm bs l l:=fun _ _=>Iff.rfl;rcases qys fm bs l 0 G with ⟨s,A,_⟩|⟨s,A,D⟩
 ·generalize skP fm bs l 0=p0 at *;have a:qgE fm bs d l=match thO fm bs d l p0 with
    |.error e=>.error e
    |.ok (d,p1)=>match spO fm bs l p1 with
     |.error e=>.error e
     |.ok (_,p2)=>match qqn ⟨none,bs,0,0,l,p2,0⟩ with
      |.error e=>.error e
      |.ok _=>.ok d:=by
   unfold qgE qnZ;rw[s];rfl
  refine⟨fun f v => ?_,fun j q w c => ?_⟩
  ·subst v;rcases o with h|⟨q,_,_,_,x,h⟩
   ·rw[a,h]
   cases h
  subst w;rcases o with h|⟨L,B,t,m,x,g⟩
  ·rw[h] at a;simp only[] at a;have F:=E _ _ _ h c.1;rcases qys fm bs l q c with ⟨z,b,i⟩|⟨z,b,i⟩
   ·rw[z] at a;simp only[] at a;generalize skP fm bs l q=p2 at *;refine⟨b,fun I => ?_,fun M => ?_⟩
    ·rw[a];unfold qqn;have u:=List.getElem?_eq_getElem I;simp only[u];by_cases r:(p2:Int)=l
     ·rw[if_pos r,qxW n u r]
     rw[if_neg r,qxN n b u r]
    have J:bs[p2]? = none:=List.getElem?_eq_none (by omega);rw[a];unfold qqn;simp only[J];refine⟨trivial,?_,fun k => ?_⟩
    ·have:=b.2;have:=b.1;omega
    have:=F k;have:=c.1;omega
   rw[z] at a;simp only[] at a;generalize skP fm bs l q=p2 at *;refine⟨⟨by omega,by omega⟩,fun _ => ?_,fun h=>absurd i h⟩;rw[a,qxW n (List.getElem?_eq_getElem i) b]
  injection g with g;injection g with e1 e2;subst e2;rw[B] at a;simp only[] at a;have e:skP fm bs l q=q:=by
   rcases qys fm bs l q c with ⟨_,b,i⟩|⟨_,b,i⟩
   ·have:=b.2;omega
   omega
  rw[e];refine⟨c,fun _ => ?_,fun h=>absurd m h⟩;rw[a,qxW n (List.getElem?_eq_getElem m) t]
 have K:=q2s fm bs d l _ A D;have a:qgE fm bs d l=.error (8,(skP fm bs l 0:Int)):=by
  unfold qgE qnZ;rw[s]
 generalize skP fm bs l 0=p0 at *;rw[K] at o;refine⟨fun f v => ?_,fun j q w c => ?_⟩
 ·subst v;rcases o with h|⟨q,_,_,_,x,h⟩
  ·injection h with h;subst h;exact a
  cases h
 subst w;rcases o with h|⟨L,B,t,m,x,g⟩
 ·cases h
 injection g with g;injection g with e1 e2;subst e2;have e:skP fm bs l q=q:=by
  rcases qys fm bs l q c with ⟨_,b,i⟩|⟨_,b,i⟩
  ·have:=b.2;omega
  omega
 rw[e];refine⟨c,fun _ => ?_,fun h=>absurd m h⟩;rw[a,qxW n (List.getElem?_eq_getElem m) t,show(p0:Int)=q by omega]

structure q1M (W:World)(A:Array Value)(V:World):Prop where
 th:V.heap[W.heap.size]? = some (.cells th0 55)
 flt:V.heap[W.heap.size+1]? = some (.cells (qqp (0,0)) 57)
 box:V.heap[W.heap.size+2]? = some (.cells A 77)
 below:Below W.heap.size W V
theorem q1M.next {V':World}(h:q1M W A V)(a:Below V.heap.size V V'):q1M W A V' :=
 ⟨(a.block _ (ltA h.th)).trans h.th,(a.block _ (ltA h.flt)).trans h.flt,(a.block _ (ltA h.box)).trans h.box,h.below.trans (a.mono h.below.size)⟩
theorem q1M.drew (h:q1M W A V):q1M W A V.drew:=⟨h.th,h.flt,h.box,h.below.drew⟩
theorem q2S (W:World)(A B:Array Value):q1M W A ((((W.alloc (.cells th0 55)).alloc (.cells (qqp (0,0)) 57)).alloc (.cells B 77)).setRow (W.heap.size+2) A):=by
 have c:(W.alloc (.cells th0 55)).heap.size=W.heap.size+1:=by simp
 have d:((W.alloc (.cells th0 55)).alloc (.cells (qqp (0,0)) 57)).heap.size=W.heap.size+2:=by simp
 have b:=qac ((W.alloc (.cells th0 55)).alloc (.cells (qqp (0,0)) 57)) (.cells B 77);have a:=qac (W.alloc (.cells th0 55)) (.cells (qqp (0,0)) 57);rw[d] at b;rw[c] at a;refine⟨sx (by omega) ((Below.heap_alloc _ _ _ (by omega)).trans ((Below.heap_alloc _ _ _ (by omega)).trans (qac W _))),sx (by omega) ((Below.heap_alloc _ _ _ (by omega)).trans a),setRow_heap _ _ _ _ _ _ b,qah (((bwA).alloc (by omega) _).alloc (by omega) _) (by omega) _⟩
theorem q24 (V:World)(a b:Nat)(x y:Array Value):((V.setRow a x).setRow b y).heap.size=V.heap.size:=by simp[World.setRow]
theorem q2K (W:World)(B:Array Value):(((W.alloc (.cells th0 55)).alloc (.cells (qqp (0,0)) 57)).alloc (.cells B 77)).heap[W.heap.size+2]? = some (.cells B 77):=by
 have h:=qac ((W.alloc (.cells th0 55)).alloc (.cells (qqp (0,0)) 57)) (.cells B 77);rwa [show((W.alloc (.cells th0 55)).alloc (.cells (qqp (0,0)) 57)).heap.size=W.heap.size+2 by simp] at h
theorem q1M.fin (h:q1M W A V)(T:Array Value)(x:Int×Int):((V.setRow W.heap.size T).setRow (W.heap.size+1) (qqp x)).heap[W.heap.size]? = some (.cells T 55)/\((V.setRow W.heap.size T).setRow (W.heap.size+1) (qqp x)).heap[W.heap.size+1]? = some (.cells (qqp x) 57)/\Below W.heap.size W ((V.setRow W.heap.size T).setRow (W.heap.size+1) (qqp x)) :=
 ⟨sx (by omega) (setRow_heap _ _ _ _ _ _ h.th),setRow_heap _ _ _ _ _ _ (sx (by omega) h.flt),qah (qah h.below (by omega) _) (by omega) _⟩
theorem q3o {fn:Func}{p q:Tmp}{A:Act}{w:World}{g2:Nat}{k n:Int}{s:ByteArray}{ks vs:Value}{F:Int×Int}{R:Ending->World->Prop}{B:Prop}(h:fn.results=#[.cell p 55,.cell q 57])(a:w.heap[g]? = some (.cells (thA k n s ks vs) 55)/\w.heap[g2]? = some (.cells (qqp F) 57)/\B)(c:A.tmps.getD p undef=.pointer (some ⟨g,0,none⟩))(d:A.tmps.getD q undef=.pointer (some ⟨g2,0,none⟩))(b:A.defers=[])(e:R (.returned (.tuple #[.agg (thA k n s ks vs),.agg (qqp F)])) w):bodyPost prog fn R .ret A w :=
 bodyPost_ret (qzU h _ _ g g2 _ _ _ _ _ _ _ _ c a.1 underlying55 rfl (qyd _ _ _ _ _) d a.2.1 underlying57 rfl (qxL _)) b e
def q1V (szP:Nat->DataW Unit->Nat)(k:Nat)(bs:List UInt8)(l:Int)(W:World)(r:Except (Int×Int) (DataW Unit))(e:Ending)(W':World):Prop :=
 Below W.heap.size W W'/\match r with
 |.ok dd=>(∃kd n s a i j b p m,e=.returned (.tuple #[.agg (thA kd n s (.slice a i j) (.slice b p m)),.agg (qqp (0,0))])/\qxY k W' (fun j=>W.heap.size<=j/\j<W'.heap.size) (.agg (thA kd n s (.slice a i j) (.slice b p m))) dd)/\(bs.length:Int)<=l/\∀k,szP k dd<=400*bs.length
 |.error f=>e=.returned (.tuple #[.agg th0,.agg (qqp f)])
theorem q0M (af:Nat->DataW Unit->Nat)(W:World)(fm d l:Int)(bs:List UInt8)(r:fm=1)(ae:0<=l)(hb:bs.length<=281474976710656)(hG:∀p y q,thO fm bs d l p=.ok (y,q)->q<=bs.length->∀a8,af a8 y<=400*q)(ao:∀P pl,qgE fm bs d l=.error (P,pl)->P≠0)(ak:∀V p,InR bs l p->Calls prog 30 #[.agg (inA bs fm d l),.int .i64 p] V (qxJ (d.toNat+1) bs l V (thO fm bs d l p))):Calls prog 19 #[.int .i64 fm,.int .i64 d,.int .i64 l,.string ⟨bs.toArray⟩] W (q1V af (d.toNat+1) bs l W (qgE fm bs d l)):=by
 have ar:InR bs l (skP fm bs l 0):=by
  rcases qys fm bs l 0 ⟨Nat.zero_le _,ae⟩ with ⟨_,h,_⟩|⟨_,h1,Q⟩
  ·exact h
  exact⟨by omega,by omega⟩
 have aa:Hid (∀r',qyi bs l (thO fm bs d l (skP fm bs l 0)) r'->_):=fun r' h=>q01 af fm bs d l ae hG (r':=r') h;have Z:Hid (∀P pl,qgE fm bs d l=.error (P,pl)->P≠0):=ao;have cT:=fun V=>ak V (skP fm bs l 0) ar;have cS:∀(V:World) (i:Nat),fm=1->i<=bs.length->Calls prog 29 #[.agg #[.string ⟨bs.toArray⟩,.int .i64 fm,.int .i64 d,.int .i64 l],.int .i64 i] V fun e G=>e=.returned (.int .i64 (skP fm bs l i))/\Below V.heap.size V G:=fun V i h1 Q=>by
  have h:=qyt V bs fm d l i hb Q;unfold skP;rw[if_pos h1];exact h
 have ag:Hid (∀(V:World) (i:Nat),Calls prog 31 #[.agg #[.string ⟨bs.toArray⟩,.int .i64 fm,.int .i64 d,.int .i64 l],.int .i64 i,.int .i64 9] V fun e G=>e=.returned (.agg (qqp (qr0 bs l i 9)))/\Below V.heap.size V G):=fun V i=>q09 bs fm d l V i 9;generalize qgE fm bs d l=R at *;obtain⟨T,ab⟩:∃T,Hid (skP fm bs l 0=T):=⟨_,show _=_ from rfl⟩
 rw[ab.out] at cT aa;have e1:(fm==1)=true:=by simpa using r
 have az:=qaa r;have aj:∀V,Calls prog 29 #[.agg #[.string ⟨bs.toArray⟩,.int .i64 fm,.int .i64 d,.int .i64 l],.int .i64 0] V fun e G=>e=.returned (.int .i64 T)/\Below V.heap.size V G:=fun V=>by
  have h:=cS V 0 r (Nat.zero_le _);rw[ab.out] at h;exact h
 have ah:Hid (∀V,Calls prog 30 #[.agg #[.string ⟨bs.toArray⟩,.int .i64 fm,.int .i64 d,.int .i64 l],.int .i64 T] V (qxJ (d.toNat+1) bs l V (thO fm bs d l T))):=cT;have ay:Hid (∀(V:World) (i:Nat),i<=bs.length->Calls prog 29 #[.agg #[.string ⟨bs.toArray⟩,.int .i64 fm,.int .i64 d,.int .i64 l],.int .i64 i] V fun e G=>e=.returned (.int .i64 (skP fm bs l i))/\Below V.heap.size V G):=fun V i h=>cS V i az.out h;clear cT ar ab r cS ae ak hG ao;go_enter func19,ntmps19
 go_wp2_with (first
  |((with_reducible refine wpList_store_row rfl 77 (.tmp 10) (.tmp 18) rfl (W.heap.size+2) (inA bs fm d l) ?hx ?hy 77 (inA [] 0 0 0) ?hg ?hi ?hs ?h1 ?_);(case hx=>exact rfl);(case hy=>exact rfl);(case hg=>exact q2K W _);(case hi=>exact qz5);(case hs=>exact q11 _ _ _ _);(case h1=>exact q2F _ _ _ _);refine nmd ?_;intro V0 E0;have N:=qaa (E0▸q2S W _ _);clear E0;have b:=qab N.out.box 0;have c:=qab N.out.box 1;have c2:=qab N.out.box 2;have g:=qab N.out.box 3;unfold inA at b c c2 g)
  |(go_at_call 29;refine(aj _).mono ?_;clear aj b c c2 g;rintro e w2 ⟨rfl,al⟩;have J:=qaa (N.out.next al);clear al;have b:=qab J.out.box 0;have c:=qab J.out.box 1;have c2:=qab J.out.box 2;have g:=qab J.out.box 3;unfold inA at b c c2 g))
 refine(ah.out _).mono ?_;clear b c c2 g;rintro e a aw;obtain⟨am,r',A,C,s,u,w,x,v,D,B,ba,F,au,rfl,hA,hF⟩:=qyu aw;have U:=qaa (J.out.next am);obtain⟨hE,hO⟩:=aa.out r' au;have a3:Hid (W.heap.size+3<=a.heap.size):=ltA U.out.box;have a2:Hid (W.heap.size+3<=w2.heap.size):=ltA J.out.box;clear aw au aa ah am;simp only[]
 cases r' with
 |error a4 =>
  obtain rfl:=hF a4 rfl;obtain rfl:=hE F rfl;have a9:(F.1==0)=false:=by simpa using Z.out F.1 F.2 rfl
  clear hA hF hE hO Z
  go_wp2_with (first
   |((with_reducible refine zT 12 27 rfl rfl (a.heap.size) (thA A C s (.slice u w x) (.slice v D B)) ?_ ?_);exact⟨rfl,rfl,(qxQ a _ _).1,thg⟩)
   |((with_reducible refine zF 13 29 rfl rfl (a.heap.size+1) F ?_ ?_);exact⟨rfl,rfl,sx (by omega) (qxQ a _ _).2⟩;refine nmd ?_;intro t m;have n:=qaa (m▸U.out.next (qye _ _ _ _ _));have I:Hid (t.heap[a.heap.size+1]? = some (.cells (qqp F) 57)):=m▸q0L;clear m;have f:t.cell? ⟨a.heap.size+1,0,none⟩=some (.int .i64 F.1):=qab I.out 0))
  have hM:=a3.out;refine rgn (S:=fun ad=>ad.heap[a.heap.size+1]? = some (.cells (qqp F) 57)) I.out (by kernel_rfl) ?_;intro hS;refine tk 0 33 (.agg th0) rfl (by kernel_rfl) iQ3 (fun ad _ => ?y0) hS ?_
  case y0=>(unfold th0 thA qxE;go_simp)
  refine tk 1 34 (.agg (qqp F)) rfl (by kernel_rfl) iQ3 (fun ad hZ=>yF 13 hZ rfl rfl) hS ?_;have aq:=sx (cs:=th0) (show a.heap.size+1≠W.heap.size by omega) hS;refine sTh 2 8 33 W.heap.size th0 (by kernel_rfl) n.out.drew.th thg aq ?_;refine sF 3 9 34 (W.heap.size+1) F (by kernel_rfl) (sx (by omega) n.out.drew.flt) (sx (by omega) aq) ?_;refine wpAnyH_done (by kernel_rfl) ?_ _;go_simp;go_wp2;have r:=n.out.drew.fin th0 F;exact q3o results19 r rfl rfl rfl ⟨r.2.2,rfl⟩
 |ok y =>
  obtain⟨dd,q⟩:=y;obtain⟨z,rfl,rfl,ap⟩:=hA dd q rfl;obtain⟨a5,Y,X⟩:=hO dd q rfl z;have HA:Hid (qxY (d.toNat+1) a (fun j=>W.heap.size+3<=j/\j<a.heap.size) (.agg (thA A C s (.slice u w x) (.slice v D B))) dd):=ap.same (fun j K=>⟨by have:=a2.out;omega,K.2⟩) (fun _ _=>rfl);have a7:=z.1;clear hA hF hE hO Z ap;have O:=fun V=>ay.out V q a7;obtain⟨H,a0⟩:∃H,Hid (skP fm bs l q=H):=⟨_,show _=_ from rfl⟩
  rw[a0.out] at O a5 Y X;by_cases av:H<bs.length
  ·obtain rfl:=Y av;have a6:(H:Int)<(bs.length:Int):=by omega
   have cB:=fun V=>ag.out V H;generalize qr0 bs l H 9=F at *;clear Y X HA z
   go_wp2_with (first
    |((with_reducible refine zT 12 27 rfl rfl (a.heap.size) (thA A C s (.slice u w x) (.slice v D B)) ?_ ?_);exact⟨rfl,rfl,(qxQ a _ _).1,thg⟩)
    |((with_reducible refine zF 13 29 rfl rfl (a.heap.size+1) (0,0) ?_ ?_);exact⟨rfl,rfl,sx (by omega) (qxQ a _ _).2⟩;refine nmd ?_;intro t m;have n:=qaa (m▸U.out.next (qye _ _ _ _ _));have I:Hid (t.heap[a.heap.size+1]? = some (.cells (qqp (0,0)) 57)):=m▸q0L;have M:Hid (t.heap[a.heap.size]? = some (.cells (thA A C s (.slice u w x) (.slice v D B)) 55)):=m▸q23;have L:=qaa (m▸qye _ _ _ _ _);clear m;have f:t.cell? ⟨a.heap.size+1,0,none⟩=some (.int .i64 0):=qab I.out 0;have b:=qab n.out.box 0;have c:=qab n.out.box 1;have c2:=qab n.out.box 2;have g:=qab n.out.box 3;unfold inA at b c c2 g)
    |(go_at_call 29;refine(O _).mono ?_;clear O b c c2 g f;rintro e w6 ⟨rfl,E⟩;have o:=qaa (n.out.next E);have k:=qaa (L.out.trans (E.mono L.out.size));have ai:=qaa ((E.block _ (ltA M.out)).trans M.out);clear E;have b:=qab o.out.box 0;have c:=qab o.out.box 1;have c2:=qab o.out.box 2;have g:=qab o.out.box 3;unfold inA at b c c2 g)
    |(go_at_call 31;refine(cB _).mono ?_;clear cB b c c2 g;rintro e w7 ⟨rfl,an⟩;have ac:=qaa (o.out.next an);clear an)
    |((with_reducible refine zT 8 44 rfl rfl W.heap.size th0 ?_ ?_);exact⟨rfl,rfl,ac.out.th,thg⟩)
    |((with_reducible refine zF 9 47 rfl rfl (W.heap.size+1) F ?_ ?_);exact⟨rfl,rfl,sx (by omega) ac.out.flt⟩))
   have r:=ac.out.fin th0 F;exact q3o results19 r rfl rfl rfl ⟨r.2.2,rfl⟩
  obtain⟨rfl,h6,h7⟩:=X av;have ax:=qaa (And.intro h6 h7);have a6:¬(H:Int)<(bs.length:Int):=by omega
  clear Y X h6 h7 z ag
  go_wp2_with (first
   |((with_reducible refine zT 12 27 rfl rfl (a.heap.size) (thA A C s (.slice u w x) (.slice v D B)) ?_ ?_);exact⟨rfl,rfl,(qxQ a _ _).1,thg⟩)
   |((with_reducible refine zF 13 29 rfl rfl (a.heap.size+1) (0,0) ?_ ?_);exact⟨rfl,rfl,sx (by omega) (qxQ a _ _).2⟩;refine nmd ?_;intro t m;have n:=qaa (m▸U.out.next (qye _ _ _ _ _));have I:Hid (t.heap[a.heap.size+1]? = some (.cells (qqp (0,0)) 57)):=m▸q0L;have M:Hid (t.heap[a.heap.size]? = some (.cells (thA A C s (.slice u w x) (.slice v D B)) 55)):=m▸q23;have L:=qaa (m▸qye _ _ _ _ _);clear m;have f:t.cell? ⟨a.heap.size+1,0,none⟩=some (.int .i64 0):=qab I.out 0;have b:=qab n.out.box 0;have c:=qab n.out.box 1;have c2:=qab n.out.box 2;have g:=qab n.out.box 3;unfold inA at b c c2 g)
   |(go_at_call 29;refine(O _).mono ?_;clear O b c c2 g f;rintro e w6 ⟨rfl,E⟩;have o:=qaa (n.out.next E);have k:=qaa (L.out.trans (E.mono L.out.size));have ai:=qaa ((E.block _ (ltA M.out)).trans M.out);clear E;have b:=qab o.out.box 0;have c:=qab o.out.box 1;have c2:=qab o.out.box 2;have g:=qab o.out.box 3;unfold inA at b c c2 g)
   |((with_reducible refine wpList_load_row rfl 55 (.tmp 12) rfl (a.heap.size) ?hx 55 (thA A C s (.slice u w x) (.slice v D B)) (0,0) _ ?hg underlying55 rfl ?hi ?_);(case hx=>exact rfl);(case hg=>exact ai.out);(case hi=>exact qyd _ _ _ _ _))
   |((with_reducible refine zT 8 48 rfl rfl W.heap.size (thA A C s (.slice u w x) (.slice v D B)) ?_ ?_);exact⟨rfl,rfl,o.out.th,thg⟩)
   |((with_reducible refine zF 9 49 rfl rfl (W.heap.size+1) (0,0) ?_ ?_);exact⟨rfl,rfl,sx (by omega) o.out.flt⟩))
  have r:=o.out.fin (thA A C s (.slice u w x) (.slice v D B)) (0,0);refine q3o results19 r rfl rfl rfl ⟨r.2.2,⟨_,_,_,_,_,_,_,_,_,rfl,?_⟩,ax.out⟩;refine HA.out.same (fun j K=>⟨by omega,?_⟩) (fun j K => ?_)
  rotate_left
  ·have h1:=k.out.size;have Q:=K.2;show j<((w6.setRow W.heap.size (thA A C s (.slice u w x) (.slice v D B))).setRow (W.heap.size+1) (qqp (0,0))).heap.size;rw[q24];omega
  have h1:=K.1;have Q:=K.2;exact(sx (show j≠W.heap.size+1 by omega) (sx (show j≠W.heap.size by omega) rfl)).trans (k.out.block j Q)

end
end Go.Proofs.YtcokgepdckkjdaaGreatDoor
