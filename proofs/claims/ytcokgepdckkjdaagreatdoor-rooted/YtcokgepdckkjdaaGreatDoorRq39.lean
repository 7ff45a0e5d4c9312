import Derived.Test.YtcokgepdckkjdaaGreatDoorRq14
set_option maxRecDepth 100000
set_option maxHeartbeats 8000000
namespace Go.Proofs.YtcokgepdckkjdaaGreatDoor
open Go.Proofs.Tryz
variable {bs:List UInt8}{l lim z:Int}{m:Bool}{R:Except (Int×Int) (Nat×Nat)}{k num p:Nat}
section
open Go.RowKit
def sgn (m:Bool)(r:Except (Int×Int) (Nat×Nat)):Except (Int×Int) (Int×Nat):=match r with
 |.ok (x,p)=>.ok (if m=true then -(x:Int) else (x:Int),p)
 |.error e=>.error e
def qzM (bs:List UInt8)(lim:Int)(r:Except (Int×Int) (Int×Nat))(e:Ending):Prop:=∃r',qyi bs lim r r'/\(∀z q,r'=.ok (z,q)->InR bs lim q /\ -9223372036854775808<=z/\z<=9223372036854775807)/\q3t r' e
theorem q1r {f:Int×Int}(h:R=.error f):qzM bs lim (sgn m R) (.returned (.tuple #[.agg th0,.int .i64 0,.agg (qqp f)])):=⟨.error f,.inl (by rw[h];rfl),(fun z q e=>by cases e),rfl⟩
theorem q2l (h:R=.ok (num,k))(hi:InR bs lim k)(c:z=if m=true then -(num:Int) else (num:Int))(a : -9223372036854775808<=z)(b:z<=9223372036854775807):qzM bs lim (sgn m R) (.returned (.tuple #[.agg (thA 3 z ⟨#[]⟩ qxE qxE),.int .i64 k,.agg (qqp (0,0))])) :=
 ⟨.ok (z,k),.inl (by rw[h,c];rfl),(fun d q e=>by injection e with e;injection e with e1 e2;subst e1;subst e2;exact⟨hi,a,b⟩),rfl⟩
theorem q2T (h:R=.error (8,(k:Int)))(d:(k:Int)=lim)(c:k<bs.length)(a : -9223372036854775808<=z)(b:z<=9223372036854775807):qzM bs lim (sgn m R) (.returned (.tuple #[.agg (thA 3 z ⟨#[]⟩ qxE qxE),.int .i64 k,.agg (qqp (0,0))])) :=
 ⟨.ok (z,k),.inr ⟨k,by rw[h];rfl,d,c,_,rfl⟩,(fun f q e=>by injection e with e;injection e with e1 e2;subst e1;subst e2;exact⟨⟨by omega,by omega⟩,a,b⟩),rfl⟩
theorem q0s (h:qxS bs l p=false):qyS bs l p=false:=by
 unfold qxS at h;unfold qyS
 cases a:bs[p]? with
 |none=>rfl
 |some c =>
  simp only[];rw[decide_eq_true (ltL a),Bool.true_and] at h;rw[h];rfl
theorem q2n (bs:List UInt8)(lim:Int)(a:Nat)(z:Bool)(k num:Nat)(d:k<=bs.length):qfi bs lim a z (bs.length+1-k) k num=match bs[k]? with
  |none=>.ok (num,k)
  |some c=>if (k:Int)=lim then .error (8,(k:Int)) else
   if qcQ c=true then (if z=true then .error (9,(k:Int)) else if (a-(c.toNat-48)) / 10<num then .error (10,(k:Int)) else qfi bs lim a z (bs.length+1-(k+1)) (k+1) (num*10+(c.toNat-48)))
   else if c.toNat=46\/c.toNat=101\/c.toNat=69 then .error (10,(k:Int)) else .ok (num,k):=by
 obtain⟨g,b⟩:∃g,bs.length+1-k=g+1:=⟨bs.length-k,by omega⟩
 rw[b,qfi,show bs.length+1-(k+1)=g by omega];cases bs[k]? <;> rfl
theorem q0o {c:UInt8}(b:Lm bs l lim)(hi:InR bs lim p)(h:bs[p]? = some c)(f:¬(p:Int)=lim):qyS bs l p=qcQ c:=by
 have a:=ltL h;have d:=b p a;have e:=hi.2;unfold qyS;rw[h];simp only[];rw[decide_eq_true (p:=(p:Int)<l) (by omega),Bool.true_and]
theorem qzC (W:World)(bs:List UInt8)(fm d l:Int)(i:Nat)(c:UInt8)(f:bs[i]? = some c)(r:c.toNat=45)(v:bs.length<=281474976710656)(x:Int×Int)(o:qyS bs l (i+1)=false)(p:qr0 bs l (i+1) 9=x):Calls prog 74 #[.agg (inA bs fm d l),.int .i64 i] W fun e a=>q3t (.error x) e/\Below W.heap.size W a:=by
 have w:=ltL f;have y:=qxF bs i c f;have u:((c.toNat:Int)==45)=true:=by rw[r];rfl
 have n:∀V,Calls prog 100 #[.agg #[.string ⟨bs.toArray⟩,.int .i64 fm,.int .i64 d,.int .i64 l],.int .i64 ((i:Int)+1)] V fun e a=>e=.returned (.bool false)/\Below V.heap.size V a:=fun V=>by
  have:=qzz V bs fm d l (i+1);rw[o] at this;exact this
 have m:∀V,Calls prog 31 #[.agg #[.string ⟨bs.toArray⟩,.int .i64 fm,.int .i64 d,.int .i64 l],.int .i64 ((i:Int)+1),.int .i64 9] V fun e a=>e=.returned (.agg (qqp x))/\Below V.heap.size V a:=fun V=>by
  have:=qyn V bs fm d l (i+1) 9;rw[p] at this;exact this
 have s:=qzA W bs fm d l;clear f r o p;unfold inA;go_enter func74,ntmps74
 go_wp2_with (first
  |(go_at_call 100;refine ck4 (n _) s.out.next (fun _ h=>h.box) ?_;clear n;intro z t g j c2 k)
  |(go_at_call 31;refine ck4 (m _) t.out.next (fun _ h=>h.box) ?_;clear m g j c2 k;intro A b g j c2 k)
  |((with_reducible refine stT 4 23 rfl rfl (W.heap.size+1) (th0) ?_ ?_ ?_ ?_ ?_);exact rfl;exact rfl;exact b.out.th;exact thg)
  |((with_reducible refine stF 6 26 rfl rfl (W.heap.size+2) (x) ?_ ?_ ?_ ?_);exact rfl;exact rfl;exact qxT b.out bwR _))
 have q:=qxK b.out bwR (th0) (x);refine eoT results74 q _ rfl rfl rfl rfl ⟨?_,q.2.2⟩;rfl
def NmW (bs:List UInt8)(l lim:Int)(m:Bool)(B f k num:Nat)(ch:UInt8)(R:Except (Int×Int) (Nat×Nat)):Prop :=
 (qyS bs l k=false/\qxS bs l k=false/\(∀z:Int,z=(if m=true then -(num:Int) else (num:Int)) -> -9223372036854775808<=z->z<=9223372036854775807->qzM bs lim (sgn m R) (.returned (.tuple #[.agg (thA 3 z ⟨#[]⟩ qxE qxE),.int .i64 k,.agg (qqp (0,0))]))))\/(qyS bs l k=false/\qxS bs l k=true/\∃cc,bs[k]? = some cc/\((cc.toNat:Int)==46)=false/\((cc.toNat:Int)==101)=false/\((cc.toNat:Int)==69)=false/\(∀z:Int,z=(if m=true then -(num:Int) else (num:Int)) -> -9223372036854775808<=z->z<=9223372036854775807->qzM bs lim (sgn m R) (.returned (.tuple #[.agg (thA 3 z ⟨#[]⟩ qxE qxE),.int .i64 k,.agg (qqp (0,0))]))))\/(qyS bs l k=false/\qxS bs l k=true/\∃cc,bs[k]? = some cc/\((cc.toNat:Int)==46)=true/\qr0 bs l k 10=(10,(k:Int))/\qzM bs lim (sgn m R) (.returned (.tuple #[.agg th0,.int .i64 0,.agg (qqp (10,(k:Int)))])))\/(qyS bs l k=false/\qxS bs l k=true/\∃cc,bs[k]? = some cc/\((cc.toNat:Int)==46)=false/\((cc.toNat:Int)==101)=true/\qr0 bs l k 10=(10,(k:Int))/\qzM bs lim (sgn m R) (.returned (.tuple #[.agg th0,.int .i64 0,.agg (qqp (10,(k:Int)))])))\/(qyS bs l k=false/\qxS bs l k=true/\∃cc,bs[k]? = some cc/\((cc.toNat:Int)==46)=false/\((cc.toNat:Int)==101)=false/\((cc.toNat:Int)==69)=true/\qr0 bs l k 10=(10,(k:Int))/\qzM bs lim (sgn m R) (.returned (.tuple #[.agg th0,.int .i64 0,.agg (qqp (10,(k:Int)))])))\/(qyS bs l k=true/\∃cc,bs[k]? = some cc/\48<=(cc.toNat:Int)/\(cc.toNat:Int)<=57/\(f:Int)<(k:Int)/\((ch.toNat:Int)==48)=true/\qr0 bs l k 9=(9,(k:Int))/\qzM bs lim (sgn m R) (.returned (.tuple #[.agg th0,.int .i64 0,.agg (qqp (9,(k:Int)))])))\/(qyS bs l k=true/\∃cc,bs[k]? = some cc/\48<=(cc.toNat:Int)/\(cc.toNat:Int)<=57/\(f:Int)<(k:Int)/\((ch.toNat:Int)==48)=false /\ -(num:Int)<(-9223372036854775808+((cc.toNat:Int)-48)).tdiv 10/\qr0 bs l k 10=(10,(k:Int))/\qzM bs lim (sgn m R) (.returned (.tuple #[.agg th0,.int .i64 0,.agg (qqp (10,(k:Int)))])))\/(qyS bs l k=true/\∃cc,bs[k]? = some cc/\48<=(cc.toNat:Int)/\(cc.toNat:Int)<=57/\(f:Int)<(k:Int)/\((ch.toNat:Int)==48)=false/\¬-(num:Int)<(-9223372036854775808+((cc.toNat:Int)-48)).tdiv 10/\m=false/\(-(num:Int)*10-((cc.toNat:Int)-48) == -9223372036854775808)=true /\ -9223372036854775808 <= -(num:Int)*10 /\ -9223372036854775808 <= -(num:Int)*10-((cc.toNat:Int)-48)/\qr0 bs l k 10=(10,(k:Int))/\qzM bs lim (sgn m R) (.returned (.tuple #[.agg th0,.int .i64 0,.agg (qqp (10,(k:Int)))])))\/(qyS bs l k=true/\∃cc,bs[k]? = some cc/\48<=(cc.toNat:Int)/\(cc.toNat:Int)<=57/\decide ((f:Int)<(k:Int))=false/\(k:Int)<=(f:Int)/\¬-(num:Int)<(-9223372036854775808+((cc.toNat:Int)-48)).tdiv 10 /\ -9223372036854775808 <= -(num:Int)*10 /\ -9223372036854775808 <= -(num:Int)*10-((cc.toNat:Int)-48)/\(m=false->(-(num:Int)*10-((cc.toNat:Int)-48) == -9223372036854775808)=false)/\num*10+(cc.toNat-48)<=B/\InR bs lim (k+1)/\qfi bs lim B (ch.toNat==48) (bs.length+1-(k+1)) (k+1) (num*10+(cc.toNat-48))=R)\/(qyS bs l k=true/\∃cc,bs[k]? = some cc/\48<=(cc.toNat:Int)/\(cc.toNat:Int)<=57/\(f:Int)<(k:Int)/\((ch.toNat:Int)==48)=false/\¬-(num:Int)<(-9223372036854775808+((cc.toNat:Int)-48)).tdiv 10 /\ -9223372036854775808 <= -(num:Int)*10 /\ -9223372036854775808 <= -(num:Int)*10-((cc.toNat:Int)-48)/\(m=false->(-(num:Int)*10-((cc.toNat:Int)-48) == -9223372036854775808)=false)/\num*10+(cc.toNat-48)<=B/\InR bs lim (k+1)/\qfi bs lim B (ch.toNat==48) (bs.length+1-(k+1)) (k+1) (num*10+(cc.toNat-48))=R)
theorem q17 {B f:Nat}{ch:UInt8}(y:(m=true/\B=9223372036854775808)\/(m=false/\B=9223372036854775807))(S:num<=B)(u:Lm bs l lim)(hi:InR bs lim k)(J:bs[f]? = some ch)(K:qcQ ch=true)(M:¬(f:Int)=lim)(Q:f<=k)(I:qfi bs lim B (ch.toNat==48) (bs.length+1-(f+1)) (f+1) (ch.toNat-48)=R)(N:(k=f/\num=0)\/(f<k/\qfi bs lim B (ch.toNat==48) (bs.length+1-k) k num=R)):NmW bs l lim m B f k num ch R:=by
 have w:k=f->bs[k]? = some ch:=fun h=>by rw[h];exact J
 have j:¬k=f->R=_:=fun h=>by
  rcases N with a|a
  ·omega
  exact a.2.symm.trans (q2n bs lim B (ch.toNat==48) k num hi.1)
 cases c:bs[k]? with
 |none =>
  have g:=j fun h=>by rw[w h] at c;cases c
  rw[c] at g;exact .inl ⟨q0s (qxX c),qxX c,fun z h a o=>q2l g hi h a o⟩
 |some b =>
  rw[c] at j;simp only[] at j;by_cases i:(k:Int)=lim
  ·have g:=j fun h=>M (by rw[<-h];exact i);rw[if_pos i] at g;exact .inl ⟨q0s (qxZ u c i),qxZ u c i,fun z h a o=>q2T g i (ltL c) a o⟩
  have n:=q0o u hi c i;have q:=fun e=>qxN u hi c i e;have v:=qyb u hi c i;rw[if_neg i] at j;cases d:qcQ b
  ·have g:=j fun h=>by
    have a:=w h;rw[c] at a;injection a with a;rw[a,K] at d;cases d
   rw[if_neg (by rw[d];decide)] at g;by_cases D:b.toNat=46\/b.toNat=101\/b.toNat=69
   ·rw[if_pos D] at g;have r:=q1r (bs:=bs) (lim:=lim) (m:=m) g;by_cases P:b.toNat=46
    ·exact .inr (.inr (.inl ⟨n.trans d,v,b,c,by simp;omega,q 10,r⟩))
    by_cases O:b.toNat=101
    ·exact .inr (.inr (.inr (.inl ⟨n.trans d,v,b,c,by simp;omega,by simp;omega,q 10,r⟩)))
    exact .inr (.inr (.inr (.inr (.inl ⟨n.trans d,v,b,c,by simp;omega,by simp;omega,by simp;omega,q 10,r⟩))))
   rw[if_neg D] at g;exact .inr (.inl ⟨n.trans d,v,b,c,by simp;omega,by simp;omega,by simp;omega,fun z h a o=>q2l g hi h a o⟩)
  rw[if_pos d] at j;obtain⟨s,t⟩:=of_decide_eq_true (by unfold qcQ at d;exact d);have x:=q2I num (b.toNat-48) (by omega);rw[show((b.toNat-48:Nat):Int)=(b.toNat:Int)-48 by omega] at x;by_cases H:f<k/\ch.toNat=48
  ·have a:=j (by omega);rw[if_pos (by simp[H.2])] at a;exact .inr (.inr (.inr (.inr (.inr (.inl ⟨n.trans d,b,c,s,t,by omega,by simp;omega,q 9,q1r a⟩)))))
  have G:f<k->¬(ch.toNat==48)=true:=fun h a=>H ⟨h,by simpa using a⟩;by_cases F:(B-(b.toNat-48)) / 10<num
  ·have L:f<k:=by omega
   have a:=j (by omega);rw[if_neg (G L),if_pos F] at a;have r:=q1r (bs:=bs) (lim:=lim) (m:=m) a;by_cases p : -(num:Int)<(-9223372036854775808+((b.toNat:Int)-48)).tdiv 10
   ·exact .inr (.inr (.inr (.inr (.inr (.inr (.inl ⟨n.trans d,b,c,s,t,by omega,by simp;omega,p,q 10,r⟩))))))
   have o:¬(9223372036854775808-(b.toNat-48)) / 10<num:=fun h=>p (x.2 h);exact .inr (.inr (.inr (.inr (.inr (.inr (.inr (.inl ⟨n.trans d,b,c,s,t,by omega,by simp;omega,p,y.elim (fun h=>by omega) (fun h=>h.1),by simp;omega,by omega,by omega,q 10,r⟩)))))))
  have o:¬(9223372036854775808-(b.toNat-48)) / 10<num:=by omega
  have p:¬-(num:Int)<(-9223372036854775808+((b.toNat:Int)-48)).tdiv 10:=fun h=>o (x.1 h);have C:qfi bs lim B (ch.toNat==48) (bs.length+1-(k+1)) (k+1) (num*10+(b.toNat-48))=R:=by
   by_cases h:k=f
   ·have a:=w h;rw[c] at a;injection a with a;rw[show num=0 by omega,a,h,Nat.zero_mul,Nat.zero_add];exact I
   have a:=j h;rw[if_neg (G (by omega)),if_neg F] at a;exact a.symm
  have A:m=false->(-(num:Int)*10-((b.toNat:Int)-48) == -9223372036854775808)=false:=fun h=>y.elim (fun a=>by rw[h] at a;cases a.1) (fun a=>by simp;omega);have E:=qxG hi c i;by_cases h:f<k
  ·exact .inr (.inr (.inr (.inr (.inr (.inr (.inr (.inr (.inr (⟨n.trans d,b,c,s,t,by omega,by simp;omega,p,by omega,by omega,A,by omega,E,C⟩)))))))))
  exact .inr (.inr (.inr (.inr (.inr (.inr (.inr (.inr (.inl ⟨n.trans d,b,c,s,t,by simp;omega,by omega,p,by omega,by omega,A,by omega,E,C⟩))))))))
theorem q0t (W:World)(bs:List UInt8)(fm d l lim:Int)(i f B:Nat)(m:Bool)(c t:UInt8)(S:bs[i]? = some c)(v:(m=true/\c.toNat=45/\f=i+1/\B=9223372036854775808)\/(m=false/\¬c.toNat=45/\f=i/\B=9223372036854775807))(z:bs[f]? = some t)(T:qcQ t=true)(X:¬(f:Int)=lim)(Y:Lm bs l lim)(hi:InR bs lim f)(hb:bs.length<=281474976710656):Calls prog 74 #[.agg (inA bs fm d l),.int .i64 i] W fun e y=>qzM bs lim (sgn m (qfi bs lim B (t.toNat==48) (bs.length+1-(f+1)) (f+1) (t.toNat-48))) e/\Below W.heap.size W y:=by
 obtain⟨R,J⟩:∃R,Hid (qfi bs lim B (t.toNat==48) (bs.length+1-(f+1)) (f+1) (t.toNat-48)=R):=⟨_,show _=_ from rfl⟩
 rw[J.out];have aw:=ltL S;have ar:=ltL z;have ao:=qxF bs i c S;have ax:=fun V=>qxF bs f t z V;have w:=qaa hi;have ab:=qaa (fun k num A hn hi h=>q17 (k:=k) (num:=num) (m:=m) (v.imp (fun h=>⟨h.1,h.2.2.2⟩) (fun h=>⟨h.1,h.2.2.2⟩)) hn Y hi z T X A J.out h);have K:∀V (k:Nat),Calls prog 100 #[.agg #[.string ⟨bs.toArray⟩,.int .i64 fm,.int .i64 d,.int .i64 l],.int .i64 k] V fun e y=>e=.returned (.bool (qyS bs l k))/\Below V.heap.size V y:=fun V k=>qzz V bs fm d l k;have cH:=q0H bs fm d l;have cB:=q09 bs fm d l;have ad:∀V,Calls prog 100 #[.agg #[.string ⟨bs.toArray⟩,.int .i64 fm,.int .i64 d,.int .i64 l],.int .i64 (f:Int)] V fun e y=>e=.returned (.bool true)/\Below V.heap.size V y:=fun V=>by
  have:=K V f;rw[q0o Y hi z X,T] at this;exact this
 have x:=qzA W bs fm d l;clear S z T X Y hi J;unfold inA;rcases v with ⟨rfl,v,U,Q⟩|⟨rfl,v,U,Q⟩
 have ak:((c.toNat:Int)==45)=true:=(by rw[v];rfl);rotate_left
 have ak:=nec (c:=c) 45 (by omega);rotate_left
 all_goals
  have HB:=qaa Q;have aa:=qaa (show _=(f:Int) from(congrArg Nat.cast U).symm);clear v U Q;go_enter func74,ntmps74
  go_wp2_with fail
  first
   |rw[show(i:Int)+1=(f:Int) from aa.out]
   |rw[show(i:Int)=(f:Int) from aa.out]
  refine ckB (ad _) x.out.next ?_
  clear ad;intro w2 am o;obtain⟨q,r,c2,s⟩:=qya o.out.box
  go_wp2_with fail
  clear q r c2 s am x
  go_loopg [1,9] (bs.length+1-f) (fun aj zi zn wr=>∃k num:Nat,zi=.int .i64 k/\zn=.int .i64 (-(num:Int))/\Hid (bs.length+1<=k+aj)/\Hid (f<=k)/\Hid (num<=B)/\Hid (RTh W (inA bs fm d l) wr)/\Hid (InR bs lim k)/\Hid ((k=f/\num=0)\/(f<k/\qfi bs lim B (t.toNat==48) (bs.length+1-k) k num=R)))
  case atStart=>exact⟨f,0,rfl,rfl,by show _<=_;omega,Nat.le_refl _,Nat.zero_le _,o,w,.inl ⟨rfl,rfl⟩⟩
  case round =>
   clear o w;obtain⟨k,num,rfl,rfl,hg,A,ah,x,w,HP⟩:=hrel;have a0:=w.out.1;have a1:=ah.out;have aq:=HB.out;obtain⟨q,r,c2,s⟩:=qya x.out.box;have L:=fun V=>K V k;have M:=fun V=>cH V k;rcases ab.out k num A.out ah.out w.out HP.out with ⟨j,C,p⟩|⟨j,C,n,b,O,ae,al,p⟩|⟨j,C,n,b,O,u,p⟩|⟨j,C,n,b,O,ae,u,p⟩|⟨j,C,n,b,O,ae,al,u,p⟩|⟨j,n,b,F,G,Z,g,u,p⟩|⟨j,n,b,F,G,Z,g,P,u,p⟩|⟨j,n,b,F,G,Z,g,P,ap,H,af,ag,u,p⟩|⟨j,n,b,F,G,au,av,P,af,ag,H,D,E,I⟩|⟨j,n,b,F,G,Z,g,P,af,ag,H,D,E,I⟩
   all_goals
    rw[j] at L
    try rw[C] at M
    try (have ay:=qxF bs k n b;have az:=ltL b)
    try (have ac:=q0U fm d u)
    try have HV:=qaa p
    try have ai:=qaa I
    try have E:=qaa E
    try have D:=qaa D
    try have H:=H rfl
    try clear p
    try clear I b
    clear K cH cB HP ao j ab
    try cases ap
   all_goals
    go_wp2_with (first
     |(go_at_call 100;refine ck4 (L _) x.out.next (fun _ h=>h.box) ?_;clear L q r c2 s;intro w2 o q r c2 s;have a:=o)
     |(go_at_call 43;refine ck4 (M _) o.out.next (fun _ h=>h.box) ?_;clear M q r c2 s a;intro w3 a q r c2 s;have o:=a)
     |(go_at_call 31;refine ck4 (ac _) o.out.next (fun _ h=>h.box) ?_;clear ac q r c2 s a;intro w4 a q r c2 s)
     |((with_reducible refine stT 4 _ rfl rfl (W.heap.size+1) (th0) ?_ ?_ ?_ ?_ ?_);exact rfl;exact rfl;exact a.out.th;exact thg)
     |((with_reducible refine stT 4 _ rfl rfl (W.heap.size+1) (thA 3 (-(num:Int)) ⟨#[]⟩ qxE qxE) ?_ ?_ ?_ ?_ ?_);exact rfl;exact rfl;exact a.out.th;exact thg)
     |((with_reducible refine stT 4 _ rfl rfl (W.heap.size+1) (thA 3 (num:Int) ⟨#[]⟩ qxE qxE) ?_ ?_ ?_ ?_ ?_);exact rfl;exact rfl;exact a.out.th;exact thg)
     |((with_reducible refine stF 6 _ rfl rfl (W.heap.size+2) (0,0) ?_ ?_ ?_ ?_);exact rfl;exact rfl;exact qxT a.out bwR _)
     |((with_reducible refine stF 6 _ rfl rfl (W.heap.size+2) (9,(k:Int)) ?_ ?_ ?_ ?_);exact rfl;exact rfl;exact qxT a.out bwR _)
     |((with_reducible refine stF 6 _ rfl rfl (W.heap.size+2) (10,(k:Int)) ?_ ?_ ?_ ?_);exact rfl;exact rfl;exact qxT a.out bwR _))
    try exact eoT results74 (qxK a.out bwR _ _) _ rfl rfl rfl rfl ⟨HV.out,(qxK a.out bwR _ _).2.2⟩
    try exact eoT results74 (qxK a.out bwR _ _) _ rfl rfl rfl rfl ⟨HV.out _ rfl (by omega) (by omega),(qxK a.out bwR _ _).2.2⟩
   all_goals
    obtain⟨N,an⟩:∃N,gk=N+1:=⟨gk-1,by have:=hg.out;omega⟩
    subst an;go_roundg N
    case measure=>omega
    case rel=>exact⟨k+1,num*10+(n.toNat-48),by go_num,congrArg (Value.int .i64) (by omega),by show _<=_;have:=hg.out;omega,by show _<=_;have:=A.out;omega,D,o,E,.inr ⟨by have:=A.out;omega,ai.out⟩⟩

end
end Go.Proofs.YtcokgepdckkjdaaGreatDoor
