import Derived.Test.YtpifimohecagoaaGreatDoorPq23
set_option maxRecDepth 100000
set_option maxHeartbeats 8000000
namespace Go.Proofs.YtpifimohecagoaaGreatDoor
open Go.Proofs.Tryz
variable{n p q r so:Nat}{e lim:Int}{bs ch l t:List UInt8}{rd rd':Nat->Except (Int×Int) (DataW Unit×Nat)}{c:UInt8}{hd:Nat->Nat×Nat×Nat}
section
open Go.RowKit Go.Lib
theorem qij(g:Nat)(l:List UInt8)(a:l≠[]):qd0 (g+1) l=qjF (decodeL l).1++qd0 g (l.drop (decodeL l).2):=by
 cases l with
 |nil=>exact absurd rfl a
 |cons b t=>rfl
theorem qjk(W:World)(d:Nat)(v:Value)(s:ByteArray)(bs:List UInt8)(hl:bs.length+(jsT s.data.toList).length<=999999999)(h:Own W d v bs):Calls prog 104 #[v,.string s] W λak y=>∃x,ak=.returned x/\Own y d x (bs++jsT s.data.toList)/\Below d W y/\KpU W y:=by
 obtain⟨F,B,C,D,E⟩:=info_parts Tryz.infoU8;obtain⟨a0,bc,a1,rfl⟩:=h.2.2;have z:=qab h;have X:s.data.toList.length=s.size:=Array.length_toList;have a:Hid (bs.length+2+(qd0 s.size s.data.toList).length<=999999999/\jsT s.data.toList=[34]++qd0 s.size s.data.toList++[34]):=by
  unfold jsT at hl;rw[X]at hl;refine⟨by simp only[List.length_append,List.length_cons,List.length_nil]at hl;omega,?_⟩;unfold jsT;rw[X]
 have a6:bs.length<=999999999:=by omega
 go_enter func104,ntmps104
 go_wp2_with(first
  |(at_builtin;refine wpList_append_own _ rfl _ _ 35 rfl d 5 F (.int .u8 0) 1 1 underlying35 B C D E rfl (by decide) _ _ _ rfl (z.out.1.alloc _) ⟨W.heap.size,0,none⟩ 1 1 [.int .u8 34] rfl rfl (qag _ _ _) (λu f=>by simp at f;subst f;rfl) (by unfold maxLen;omega) (by omega) (by simp;have:=z.out.2.1;omega) ?_;intro x O m w af;obtain⟨al,aj,rfl⟩:=ownsRow_succ m;have ag:=qab (qa3 ((Below.refl _ _).alloc z.out.2.1 _) (z.out.1.alloc _) w (by simp;have:=z.out.2.1;omega));have n:Hid (Own O d (.slice (some ⟨al,0,none⟩) _ aj) (bs++[34])):=⟨qbR m rfl,Nat.le_trans z.out.2.1 ag.out.size,_,_,_,rfl⟩;have aq:=qab ((qeK W _).trans (qe8 (z.out.1.alloc _) w))))
 have t:Hid (qiy d W O.heap.size s 0 (.slice (some ⟨al,0,none⟩) (bs.length+1) aj) (bs++[34]) (O.iter s 0)):=by
  refine⟨qgx n.out bwA,World.iter_heap _ _ _,ag.out.alloc n.out.2.1 _,n.out.2.1,aq.out.trans (qeK _ _)⟩
 generalize O.iter s 0=W0 at *;generalize O.heap.size=N at *
 go_loopg[0] s.size (λg az wr=>∃(i:Nat) (H:Option Addr) (M I:Nat) (b:List UInt8),az=.slice H M I/\Hid (i<=s.size)/\Hid (s.size<=i+g)/\Hid (qiy d W N s i (.slice H M I) b wr)/\Hid ((bs++[34])++qd0 s.size s.data.toList=b++qd0 g (s.data.toList.drop i)))
 case atStart=>exact⟨0,_,_,_,_,rfl,Nat.zero_le _,by show _<=_;omega,t,by show _=_;rw[List.drop_zero]⟩
 case round =>
  obtain⟨i,H,M,I,b,rfl,ay,J,t,c⟩:=hrel;have R:Hid (b.length<=999999998):=by
   have:=congrArg List.length c.out;have h2:=a.out.1;simp only[List.length_append,List.length_cons,List.length_nil]at this;show _<=_;omega
  by_cases h1:i=s.size
  ·have HF:Hid ((bs++[34])++qd0 s.size s.data.toList=b):=by
    have h:=c.out;rw[h1,<-X,List.drop_length,qle,List.append_nil]at h;rw[<-X];exact h
   have ao:=λty=>qeB (P:=prog) wr N s i ty t.out.it (by omega);have ad:=R.out
   go_wp2_with(first
    |(at_builtin;refine wpList_append_own _ rfl _ _ 35 rfl d 5 F (.int .u8 0) 1 1 underlying35 B C D E rfl (by decide) _ _ _ rfl (t.out.own.1.alloc _) ⟨wr.heap.size,0,none⟩ 1 1 [.int .u8 34] rfl rfl (qag _ _ _) (λu f=>by simp at f;subst f;rfl) (by unfold maxLen;omega) (by omega) (by simp;have:=t.out.own.2.1;omega) ?_;intro x Q m w af;obtain⟨U,T,rfl⟩:=ownsRow_succ m;have j:=qab (t.out.app (l:=[34]) m w)))
   go_ret;have he:bs++jsT s.data.toList=b++[34]:=by rw[a.out.2,<-HF.out];simp
   rw[he];exact⟨_,rfl,j.out.own,j.out.below,j.out.kp⟩
  have hn:i<s.size:=by have:=ay.out;omega
  obtain⟨g,rfl⟩:∃g,gk=g+1:=⟨gk-1,by have:=J.out;omega⟩
  have ao:=λty=>qg6 (P:=prog) wr N s i ty t.out.it hn;obtain⟨r,hr⟩:∃r,(Utf8.decode s i).1=r:=⟨_,rfl⟩
  obtain⟨k,V⟩:∃k,(Utf8.decode s i).2=k:=⟨_,rfl⟩
  rw[hr,V]at ao;have bb:r<=1114111:=by rw[<-hr];exact Lib.rune_le s i
  have ae:=Lib.decodeL_drop s i;have an:s.data.toList.drop i≠[]:=by
   intro h;have:=congrArg List.length h;rw[List.length_drop]at this;simp at this;omega
  have HC:Hid (qd0 (g+1) (s.data.toList.drop i)=qjF r++qd0 g (s.data.toList.drop (i+k))):=by
   show _=_;rw[qij _ _ an,ae];rw[show(Utf8.decode s i).1=r from hr,show(Utf8.decode s i).2=k from V,List.drop_drop]
  have a7:1<=k:=by have:=Lib.decodeL_width (s.data.toList.drop i);rw[ae,V]at this;exact this
  have a8:k<=s.size-i:=by
   have:=Lib.decodeL_le (s.data.toList.drop i) an;rw[ae,V,List.length_drop]at this;omega
  have p:Hid (qiy d W N s (i+k) (.slice H M I) b (wr.putObj N (.stringIter s (i+k)))):=t.out.next _
  have G:Hid ((bs++[34])++qd0 s.size s.data.toList=(b++qjF r)++qd0 g (s.data.toList.drop (i+k))):=by
   show _=_;rw[c.out,HC.out,List.append_assoc]
  have Y:Hid (b.length+(qjF r).length<=999999998):=by
   have:=congrArg List.length G.out;have h2:=a.out.1;simp only[List.length_append,List.length_cons,List.length_nil]at this;show _<=_;omega
  generalize wr.putObj N (.stringIter s (i+k))=W2 at *;have ad:=R.out;by_cases ab:r=34\/r=92
  ·rcases ab with rfl|rfl
   ·have q:Hid (qjF 34=[92,34]):=rfl;have am:=Y.out;have ad:=R.out
    go_wp2_with(first
     |(at_builtin;refine wpList_append_own _ rfl _ _ 35 rfl d 5 F (.int .u8 0) 1 1 underlying35 B C D E rfl (by decide) _ _ _ rfl (p.out.own.1.alloc _) ⟨W2.heap.size,0,none⟩ 2 2 [.int .u8 92,.int .u8 34] rfl rfl (qag _ _ _) (λu f=>by simp at f;rcases f with rfl|rfl<;>rfl) (by unfold maxLen;omega) (by omega) (by simp;have:=p.out.own.2.1;omega) ?_;intro x Q m w af;obtain⟨U,T,rfl⟩:=ownsRow_succ m;have j:Hid (qiy d W N s (i+k) (.slice (some ⟨U,0,none⟩) (b.length+2) T) (b++[92,34]) Q):=p.out.app (l:=[92,34]) m w))
    go_roundg g
    case measure=>omega
    case rel=>exact⟨i+k,_,_,_,_,rfl,by show _<=_;omega,by show _<=_;have:=J.out;omega,j,by have h:=G.out;rw[q.out]at h;exact h⟩
   have q:Hid (qjF 92=[92,92]):=rfl;have am:=Y.out;have ad:=R.out
   go_wp2_with(first
    |(at_builtin;refine wpList_append_own _ rfl _ _ 35 rfl d 5 F (.int .u8 0) 1 1 underlying35 B C D E rfl (by decide) _ _ _ rfl (p.out.own.1.alloc _) ⟨W2.heap.size,0,none⟩ 2 2 [.int .u8 92,.int .u8 92] rfl rfl (qag _ _ _) (λu f=>by simp at f;rcases f with rfl|rfl<;>rfl) (by unfold maxLen;omega) (by omega) (by simp;have:=p.out.own.2.1;omega) ?_;intro x Q m w af;obtain⟨U,T,rfl⟩:=ownsRow_succ m;have j:Hid (qiy d W N s (i+k) (.slice (some ⟨U,0,none⟩) (b.length+2) T) (b++[92,92]) Q):=p.out.app (l:=[92,92]) m w))
   go_roundg g
   case measure=>omega
   case rel=>exact⟨i+k,_,_,_,_,rfl,by show _<=_;omega,by show _<=_;have:=J.out;omega,j,by have h:=G.out;rw[q.out]at h;exact h⟩
  have a2:((r:Int)==34)=false:=by simp;omega
  have a5:((r:Int)==92)=false:=by simp;omega
  by_cases aa:r<32
  ·have q:Hid (qjF r=[92,117,48,48]++[qeu (r/16),qeu (r%16)]):=by show _=_;unfold qjF;rw[if_neg ab,if_pos aa];rfl
   have au:(r:Int)<32:=by omega
   have ap:(⟨([92,117,48,48]:List UInt8).toArray⟩:ByteArray).size=4:=rfl
   go_wp2_with(first
    |(at_builtin;refine wpList_append_own_string _ rfl _ _ 35 9 rfl d 5 F underlying35 underlying9 B C D E _ _ _ rfl p.out.own.1 ⟨[92,117,48,48].toArray⟩ rfl (by rw[ap];unfold maxLen;omega) (by rw[ap];omega) p.out.own.2.1 ?_;intro x w5 m ax a9;have j:=qab (p.out.appS m ax);obtain⟨K,n4,e,rfl⟩:=j.out.own.2.2))
   have A:(λ_:World=>True) {w5 with drawn:=w5.drawn+1}:=trivial;have o:=qab j.out.drew;have ac:(b++[92,117,48,48]).length=b.length+4:=by simp
   have am:b.length+6<=999999998:=by have h:=Y.out;rw[q.out]at h;simpa using h
   refine wp_region_held (S:=λ_=>True) (by kernel_rfl) ?_;refine tkp 0 35 (.slice K n4 e) A ?_;refine tkp 1 36 (.int .i32 r) A ?_;refine tkq 2 37 (.int .i32 ((r/16:Nat):Int)) rfl (λZ hZ=>?y2) A ?_
   case y2=>(go_simp)
   refine tkq 3 38 (qax (qeu (r/16))) rfl (λZ hZ=>?y3) A ?_
   case y3=>exact qnr 9 _ _ rfl rfl (by kernel_rfl) (quB (r/16) (by omega) Z)
   refine tkp 4 39 (.int .i32 r) A ?_;refine tkq 5 40 (.int .i32 ((r%16:Nat):Int)) rfl (λZ hZ=>?y5) A ?_
   case y5=>(have z2:=qvj r aa;go_simp)
   refine tkq 6 41 (qax (qeu (r%16))) rfl (λZ hZ=>?y6) A ?_
   case y6=>exact qnr 9 _ _ rfl rfl (by kernel_rfl) (quB (r%16) (by omega) Z)
   refine rdq 7 (λar hK=>?_);refine ifw (by kernel_rfl) ?_;refine ql7 (.tmp 38) (.tmp 41) rfl (qeu (r/16)) (qeu (r%16)) (by kernel_rfl) (by kernel_rfl) ?_;refine hK.out _ _ trivial (λ_=>?_);refine rdq 8 (λar hK=>?_);refine ifw (by kernel_rfl) ?_;refine qf9 (.tmp 35) (.tmp 42) 35 rfl d 5 F (.int .u8 0) 1 1 underlying35 B C D E rfl (by decide) (.slice K n4 e) _ _ (by kernel_rfl) (o.out.own.1.alloc _) ⟨w5.heap.size,0,none⟩ 2 2 [qax (qeu (r/16)),qax (qeu (r%16))] (by kernel_rfl) rfl (qag _ _ _) (λu f=>by simp at f;rcases f with rfl|rfl<;>rfl) (by rw[ac];unfold maxLen;omega) (by rw[ac];omega) (by have:=o.out.own.2.1;rw[World.size_alloc];exact Nat.le_succ_of_le this) ?_;intro x w6 L av _;obtain⟨g6,ai,rfl⟩:=ownsRow_succ L;have ah:Hid (qiy d W N s (i+k) (.slice (some ⟨g6,0,none⟩) ((b++[92,117,48,48]).length+2) ai) ((b++[92,117,48,48])++[qeu (r/16),qeu (r%16)]) w6):=o.out.app (l:=[qeu (r/16),qeu (r%16)]) L av;refine hK.out _ _ trivial (λ_=>?_);refine tkp 9 0 (.slice (some ⟨g6,0,none⟩) ((b++[92,117,48,48]).length+2) ai) trivial ?_;refine wdn ?_;go_simp;go_wp2;go_roundg g
   case measure=>omega
   case rel=>exact⟨i+k,_,_,_,_,rfl,by show _<=_;omega,by show _<=_;have:=J.out;omega,by rw[ac]at ah;exact ah,by have h:=G.out;rw[q.out,<-List.append_assoc]at h;exact h⟩
  have q:Hid (qjF r=qbN r):=by show _=_;unfold qjF;rw[if_neg ab,if_neg aa]
  have au:¬(r:Int)<32:=by omega
  have ba:=qcl (r:Int);have cA:=Any.utf8_AppendRune_plain Tryz.lays242 (by kernel_rfl) d (.slice H M I) b.length (b.map qax) (r:Int) (by omega) (by omega) W2 p.out.own.1 (by omega) p.out.own.2.1
  go_wp2_with(first
   |(go_at_call 127;refine cA.mono ?_;rintro ak Q ⟨v3,rfl,L,bd,aw⟩;rw[qix,List.length_map]at L;have j:=qab (p.out.app (l:=qbN r) L aw);obtain⟨K,n4,e,rfl⟩:=j.out.own.2.2))
  go_roundg g
  case measure=>omega
  case rel=>exact⟨i+k,_,_,_,_,rfl,by show _<=_;omega,by show _<=_;have:=J.out;omega,j,by have h:=G.out;rw[q.out]at h;exact h⟩

def Tm{α:Type}(s:Prop)(n p:Nat)(M:α->Nat->Prop)(r r':Except (Int×Int) (α×Nat)):Prop :=
 match r with
 |.ok (x,q)=>p<=q/\q<=n/\M x q/\(r'=.ok (x,q)\/(¬s/\q=n))
 |.error (e,pl)=>pl<=(n:Int)/\(r'=.error (e,pl)\/pl=n)/\(p=n->pl=n)
theorem Tm.ok{α:Type}{s:Prop}{M:α->Nat->Prop}{x:α}(a:p<=q)(b:q<=n)(c:M x q):Tm s n p M (.ok (x,q)) (.ok (x,q)):=⟨a,b,c,.inl rfl⟩
theorem Tm.last{α:Type}{M:α->Nat->Prop}{x:α}{r':Except (Int×Int) (α×Nat)}(h:p=n)(a:M x p):Tm False n p M (.ok (x,p)) r':=⟨Nat.le_refl _,Nat.le_of_eq h,a,.inr ⟨id,h⟩⟩
theorem Tm.err{α:Type}{s:Prop}{M:α->Nat->Prop}{pl:Int}(a:pl<=n)(b:p=n->pl=n):Tm s n p M (.error (e,pl)) (.error (e,pl)):=⟨a,.inl rfl,b⟩
theorem Tm.stop{α:Type}{s:Prop}{M:α->Nat->Prop}{r':Except (Int×Int) (α×Nat)}(h:p=n):Tm s n p M (.error (e,(p:Int))) r':=⟨by omega,.inr (by omega),λ_=>by omega⟩
theorem Tm.from_{α:Type}{s:Prop}{M:α->Nat->Prop}{r r':Except (Int×Int) (α×Nat)}(h:Tm s n q M r r')(b:p<=q)(c:q<=n):Tm s n p M r r':=by
 rcases r with⟨e,d⟩|⟨x,y⟩
 ·exact⟨h.1,h.2.1,λa=>h.2.2 (by omega)⟩
 exact⟨Nat.le_trans b h.1,h.2⟩
theorem Tm.any{α:Type}{s:Prop}{M:α->Nat->Prop}{r r1 r2:Except (Int×Int) (α×Nat)}(h:Tm s n n M r r1):Tm False n n M r r2:=by
 rcases r with⟨e,a⟩|⟨x,y⟩
 ·exact⟨h.1,.inr (h.2.2 rfl),h.2.2⟩
 exact⟨h.1,h.2.1,h.2.2.1,.inr ⟨id,Nat.le_antisymm h.2.1 h.1⟩⟩
theorem Tm.with_{α:Type}{s:Prop}{M M':α->Nat->Prop}{r r':Except (Int×Int) (α×Nat)}(h:Tm s n p M r r')(a:∀x q,p<=q->q<=n->M x q->M' x q):Tm s n p M' r r':=by
 rcases r with⟨e,b⟩|⟨x,y⟩
 ·exact h
 exact⟨h.1,h.2.1,a x y h.1 h.2.1 h.2.2.1,h.2.2.2⟩
theorem Tm.bind{α β:Type}{s:Prop}{M:α->Nat->Prop}{M2:β->Nat->Prop}{r r':Except (Int×Int) (α×Nat)}{R R':Except (Int×Int) (β×Nat)}(h:Tm s n p M r r')(j:∀e,r=.error e->R=.error e)(k:∀e,r'=.error e->R'=.error e)(l:∀x q,p<=q->q<=n->M x q->r=.ok (x,q)->∃c,(r'=.ok (x,q)->R'=c)/\Tm False n q M2 R c):Tm False n p M2 R R':=by
 rcases r with⟨e,m⟩|⟨x,q⟩
 ·obtain⟨b,a,d⟩:=h;rw[j _ rfl];refine⟨b,?_,d⟩;rcases a with rfl|a
  ·exact .inl (k _ rfl)
  exact .inr a
 obtain⟨b,a,d,i⟩:=h;obtain⟨c,g,f⟩:=l x q b a d rfl;rcases i with rfl|⟨_,rfl⟩
 ·rw[g rfl];exact f.from_ b a
 exact f.any.from_ b a
theorem Tm.bindS{α β:Type}{s:Prop}{M:α->Nat->Prop}{M2:β->Nat->Prop}{r r':Except (Int×Int) (α×Nat)}{R R':Except (Int×Int) (β×Nat)}(h:Tm True n p M r r')(f:∀e,r=.error e->R=.error e)(g:∀e,r'=.error e->R'=.error e)(i:∀x q,p<=q->q<=n->M x q->r=.ok (x,q)->r'=.ok (x,q)->Tm s n p M2 R R'):Tm s n p M2 R R':=by
 rcases r with⟨e,j⟩|⟨x,q⟩
 ·obtain⟨b,a,c⟩:=h;rw[f _ rfl];refine⟨b,?_,c⟩;rcases a with rfl|a
  ·exact .inl (g _ rfl)
  exact .inr a
 obtain⟨b,a,c,d⟩:=h;rcases d with rfl|⟨d,_⟩
 ·exact i x q b a c rfl rfl
 exact absurd trivial d
theorem Tm.at_{α:Type}{s:Prop}{M:α->Nat->Prop}{r0 r1:Except (Int×Int) (α×Nat)}{G G':UInt8->Except (Int×Int) (α×Nat)}(g:p<=bs.length)(d:p=bs.length->∀f,Tm s bs.length p M r0 f)(h:∀c,bs[p]?=some c->p<bs.length->Tm s bs.length p M (G c) (G' c)):Tm s bs.length p M (match(generalizing:=false) bs[p]? with|none=>r0|some c=>if(p:Int)=lim then .error (8,(p:Int))else G c) (match(generalizing:=false) (bs++t)[p]? with|none=>r1|some c=>if(p:Int)=lim then .error (8,(p:Int))else G' c):=by
 by_cases a:p<bs.length
 ·have e:(bs++t)[p]?=bs[p]?:=List.getElem?_append_left a;obtain⟨c,b⟩:∃c,bs[p]?=some c:=⟨_,List.getElem?_eq_getElem a⟩
  rw[e,b];dsimp only;split
  ·exact Tm.err (by omega) (by omega)
  exact h c b a
 have e:bs[p]?=none:=List.getElem?_eq_none (by omega);rw[e];exact d (by omega) _
theorem Tm.byte{α:Type}{s:Prop}{M:α->Nat->Prop}{G G':UInt8->Except (Int×Int) (α×Nat)}(a:p<=bs.length)(h:∀c,bs[p]?=some c->p<bs.length->Tm s bs.length p M (G c) (G' c)):Tm s bs.length p M (match(generalizing:=false) bs[p]? with|none=>.error (9,(p:Int))|some c=>if(p:Int)=lim then .error (8,(p:Int))else G c) (match(generalizing:=false) (bs++t)[p]? with|none=>.error (9,(p:Int))|some c=>if(p:Int)=lim then .error (8,(p:Int))else G' c):=Tm.at_ a (λe _=>Tm.stop e) h
theorem Tm.ite{α:Type}{s:Prop}{M:α->Nat->Prop}{c:Prop}[Decidable c]{a b a' b':Except (Int×Int) (α×Nat)}(d:c->Tm s n p M a a')(e:¬c->Tm s n p M b b'):Tm s n p M (if c then a else b) (if c then a' else b'):=by
 by_cases h:c
 ·rw[if_pos h,if_pos h];exact d h
 rw[if_neg h,if_neg h];exact e h
theorem qul(bs t:List UInt8)(lim:Int):∀(g a p:Nat),p<=bs.length->bs.length<g+p->(bs++t).length<a+p->Tm False bs.length p (λ_ _=>True) (spF bs lim g p) (spF (bs++t) lim a p)
 |0,_,p,h1,h2,_=>by omega
 |g+1,0,p,h1,_,h3=>by rw[List.length_append]at h3;omega
 |g+1,a+1,p,h1,h2,h3=>by
  unfold spF;refine Tm.at_ h1 (λe _=>Tm.last e trivial) (λc d b=>Tm.ite (λ_=>?_) (λ_=>Tm.ok (Nat.le_refl _) h1 trivial));exact(qul bs t lim g a (p+1) b (by omega) (by omega)).from_ (by omega) b
theorem qiz(bs t:List UInt8)(lim:Int)(p:Nat)(h:p<=bs.length):Tm False bs.length p (λ_ _=>True) (spF bs lim (bs.length+1-p) p) (spF (bs++t) lim ((bs++t).length+1-p) p):=qul bs t lim _ _ p h (by omega) (by rw[List.length_append];omega)
theorem qlO(bs t:List UInt8)(lim:Int)(b:Nat)(z:Bool):∀(g a p d:Nat),p<=bs.length->bs.length<g+p->(bs++t).length<a+p->Tm False bs.length p (λ_ _=>True) (qeQ bs lim b z g p d) (qeQ (bs++t) lim b z a p d)
 |0,_,p,_,h1,h2,_=>by omega
 |g+1,0,p,_,h1,_,h3=>by rw[List.length_append]at h3;omega
 |g+1,a+1,p,d,h1,h2,h3=>by
  unfold qeQ;refine Tm.at_ h1 (λe _=>Tm.last e trivial) (λc h f=>Tm.ite (λ_=>Tm.ite (λ_=>Tm.err (by omega) (by omega)) (λ_=>Tm.ite (λ_=>Tm.err (by omega) (by omega)) (λ_=>?_))) (λ_=>Tm.ite (λ_=>Tm.err (by omega) (by omega)) (λ_=>Tm.ok (Nat.le_refl _) h1 trivial)));exact(qlO bs t lim b z g a (p+1) _ f (by omega) (by omega)).from_ (by omega) f
theorem qvd(bs t:List UInt8)(lim:Int)(c:UInt8)(p:Nat)(h:p<=bs.length):Tm False bs.length p (λ_ _=>True) (qeq ⟨none,bs,0,0,lim,p,0⟩ c) (qeq ⟨none,bs++t,0,0,lim,p,0⟩ c):=by
 unfold qeq;refine Tm.ite (λ_=>Tm.byte h (λc e d=>Tm.ite (λ_=>?_) (λ_=>Tm.err (by show(p:Int)<=_;omega) (by show _->(p:Int)=_;omega)))) (λ_=>?_)
 ·refine Tm.from_ (q:=p+1) ?_ (by omega) d;refine Tm.bind (qlO bs t lim 9223372036854775808 (c.toNat==48) (bs.length+1-(p+1)) ((bs++t).length+1-(p+1)) (p+1) (c.toNat-48) d (by omega) (by rw[List.length_append];omega)) (λ_ z=>by rw[z]) (λ_ z=>by rw[z]) (λx q _ a _ b=>⟨_,λz=>by rw[z],?_⟩);rw[b];refine Tm.ok (Nat.le_refl _) a trivial
 refine Tm.bind (qlO bs t lim 9223372036854775807 (c.toNat==48) (bs.length+1-p) ((bs++t).length+1-p) p (c.toNat-48) h (by omega) (by rw[List.length_append];omega)) (λ_ z=>by rw[z]) (λ_ z=>by rw[z]) (λx q _ a _ b=>⟨_,λz=>by rw[z],?_⟩);rw[b];refine Tm.ok (Nat.le_refl _) a trivial
theorem qdd(bs t:List UInt8)(lim:Int):∀(a:List UInt8) (p:Nat),p<=bs.length->Tm True bs.length p (λ_ q=>q=p+a.length) (qaQ bs lim a p) (qaQ (bs++t) lim a p)
 |[],p,h=>Tm.ok (Nat.le_refl _) h rfl
 |x::a,p,h=>by
  unfold qaQ;refine Tm.byte h (λc d b=>Tm.ite (λ_=>?_) (λ_=>Tm.err (by omega) (by omega)));exact((qdd bs t lim a (p+1) b).with_ (λ_ q _ _ e=>by rw[List.length_cons];omega)).from_ (by omega) b
theorem qma(bs t:List UInt8)(lim:Int):∀(k p a:Nat),p<=bs.length->Tm True bs.length p (λ_ q=>q=p+k) (qfK bs lim k p a) (qfK (bs++t) lim k p a)
 |0,p,a,h=>Tm.ok (Nat.le_refl _) h rfl
 |k+1,p,a,h=>by
  unfold qfK;refine Tm.byte h (λc f b=>?_)
  cases qpc c with
  |none=>exact Tm.err (by omega) (by omega)
  |some d=>exact((qma bs t lim k (p+1) _ b).with_ (λ_ q _ _ e=>by omega)).from_ (by omega) b
theorem qtp(bs t:List UInt8)(lim:Int)(p:Nat)(h:p<=bs.length):Tm True bs.length p (λ_ q=>p+4<=q) (qfs bs lim p) (qfs (bs++t) lim p):=by
 unfold qfs;refine Tm.bindS (qma bs t lim 4 p 0 h) (λ_ z=>by rw[z]) (λ_ z=>by rw[z]) (λx q _ c e b a=>?_);rw[b,a];refine Tm.ite (λ_=>Tm.err (by omega) (by omega)) (λ_=>Tm.ite (λ_=>?_) (λ_=>Tm.ok (by omega) c (by omega)));refine Tm.from_ (q:=q) ?_ (by omega) c;refine Tm.bindS (qdd bs t lim [92,117] q c) (λ_ z=>by rw[z]) (λ_ z=>by rw[z]) (λ_ d _ g f b a=>?_);rw[b,a];dsimp only;have f:d=q+2:=f;refine Tm.from_ (q:=d) ?_ (by omega) g;refine Tm.bindS (qma bs t lim 4 d 0 g) (λ_ z=>by rw[z]) (λ_ z=>by rw[z]) (λy k _ i j b a=>?_);rw[b,a];refine Tm.ite (λ_=>Tm.ok (by omega) i (by omega)) (λ_=>Tm.err (by omega) (by omega))
theorem qwO(bs t:List UInt8)(lim:Int)(p:Nat)(h:p<=bs.length):Tm True bs.length p (λ_ q=>p+1<=q) (qlo bs lim p) (qlo (bs++t) lim p):=by
 unfold qlo;refine Tm.byte h (λc b a=>?_)
 repeat' refine Tm.ite (λ_=>Tm.ok (by omega) a (Nat.le_refl _)) (λ_=>?_)
 refine Tm.ite (λ_=>?_) (λ_=>Tm.err (by omega) (by omega));exact((qtp bs t lim (p+1) a).with_ (λ_ q _ _ e=>by omega)).from_ (by omega) a
theorem qiT(bs t:List UInt8)(lim:Int):∀(g a p:Nat) (d:List UInt8) (h:Nat),p<=bs.length->bs.length<g+p->(bs++t).length<a+p->Tm True bs.length p (λl q=>l.length+4*p+4<=d.length+4*q) (qcT bs lim g p d h) (qcT (bs++t) lim a p d h)
 |0,_,p,_,_,h1,h2,_=>by omega
 |g+1,0,p,_,_,h1,_,h3=>by rw[List.length_append]at h3;omega
 |g+1,a+1,p,d,h,h1,h2,h3=>by
  unfold qcT;refine Tm.byte h1 (λc m b=>Tm.ite (λ_=>Tm.ok (by omega) b (by omega)) (λ_=>Tm.ite (λ_=>?_) (λ_=>Tm.ite (λ_=>Tm.err (by omega) (by omega)) (λ_=>Tm.ite (λ_=>Tm.err (by omega) (by omega)) (λ_=>?_)))))
  ·refine Tm.from_ (q:=p+1) ?_ (by omega) b;refine Tm.bindS (qwO bs t lim (p+1) b) (λ_ z=>by rw[z]) (λ_ z=>by rw[z]) (λr q _ i e k j=>?_);rw[k,j];dsimp only;refine Tm.from_ (q:=q) ?_ (by omega) i;refine(qiT bs t lim g a q _ _ i (by omega) (by omega)).with_ (λl y _ _ f=>?_);have:=qcl r;rw[List.length_append]at f;omega
  refine((qiT bs t lim g a (p+1) _ _ b (by omega) (by omega)).with_ (λl y _ _ f=>?_)).from_ (by omega) b;rw[List.length_append]at f;simp only[List.length_cons,List.length_nil]at f;omega
def szF:Nat->DataW Unit->Nat
 |0,_=>0
 |k+1,d=>match d with
  |.agg ds=>200+(ds.map λd=>30+szF k d).sum
  |.map es=>200+(es.map λe=>100+6*(qaG e.1).length+szF k e.2).sum
  |.lit (.string l)=>200+6*l.length
  |.ptr (.lit (.string l))=>200+6*l.length
  |_=>200
def SzT(p:Nat)(d:DataW Unit)(q:Nat):Prop:=∀k,szF k d+30+400*p<=400*q
def TmR(n:Nat)(rd rd':Nat->Except (Int×Int) (DataW Unit×Nat)):Prop:=∀p,p<=n->Tm False n p (SzT p) (rd p) (rd' p)
def sqL(k:Nat)(ds:List (DataW Unit)):Nat:=(ds.map λd=>30+szF k d).sum
def sqE(k:Nat)(es:List (Lit×DataW Unit)):Nat:=(es.map λe=>100+6*(qaG e.1).length+szF k e.2).sum
theorem qjh(k:Nat)(a:List (DataW Unit))(d:DataW Unit):sqL k (a++[d])=sqL k a+(30+szF k d):=by unfold sqL;simp
theorem qnz(k:Nat)(a:List (Lit×DataW Unit))(l:List UInt8)(d:DataW Unit):sqE k (a++[(.string l,d)])=sqE k a+(100+6*l.length+szF k d):=by unfold sqE;simp[qaG]
def Gth{α:Type}(μ:Nat->α->Nat)(a:α)(p:Nat)(b:α)(q:Nat):Prop:=∀k,μ k b+400*p<=μ k a+400*q
theorem qoZ{α:Type}(bs t:List UInt8)(lim:Int)(μ:Nat->α->Nat)(itF j:α->Nat->Except (Int×Int) (α×Nat))(last:Nat)(hi:∀a p,p<=bs.length->Tm False bs.length p (Gth μ a p) (itF a p) (j a p)):∀(g h p:Nat) (d:α),p<=bs.length->bs.length<g+p->(bs++t).length<h+p->Tm False bs.length p (Gth μ d p) (qfQ bs lim itF last g p d) (qfQ (bs++t) lim j last h p d)
 |0,_,p,_,h1,h2,_=>by omega
 |g+1,0,p,_,h1,_,h3=>by rw[List.length_append]at h3;omega
 |g+1,h+1,p,d,h1,h2,h3=>by
  unfold qfQ;refine Tm.bind (qiz bs t lim p h1) (λ_ z=>by rw[z]) (λ_ z=>by rw[z]) (λ_ r v n _ f=>⟨_,λz=>by rw[z],?_⟩);rw[f];dsimp only;refine Tm.bind (hi d r n) (λ_ z=>by rw[z]) (λ_ z=>by rw[z]) (λm s w o l f=>⟨_,λz=>by rw[z],?_⟩);rw[f];dsimp only;refine Tm.bind (qiz bs t lim s o) (λ_ z=>by rw[z]) (λ_ z=>by rw[z]) (λ_ u x q _ f=>⟨_,λz=>by rw[z],?_⟩);rw[f];dsimp only;refine Tm.byte q (λc A i=>Tm.ite (λ_=>Tm.ok (by omega) i (λk=>by have:=l k;omega)) (λ_=>Tm.ite (λ_=>?_) (λ_=>Tm.err (by omega) (by omega))));exact((qoZ bs t lim μ itF j last hi g h (u+1) m i (by omega) (by omega)).with_ (λb y _ _ e k=>by have:=e k;have:=l k;omega)).from_ (by omega) i
theorem qq6{α:Type}(bs t:List UInt8)(lim:Int)(μ:Nat->α->Nat)(itF g:α->Nat->Except (Int×Int) (α×Nat))(last:Nat)(hi:∀a p,p<=bs.length->Tm False bs.length p (Gth μ a p) (itF a p) (g a p))(p:Nat)(d:α)(j:p<=bs.length):Tm False bs.length p (Gth μ d p) (qdV bs lim itF last p d) (qdV (bs++t) lim g last p d):=by
 unfold qdV;refine Tm.bind (qiz bs t lim p j) (λ_ z=>by rw[z]) (λ_ z=>by rw[z]) (λ_ f n i _ m=>⟨_,λz=>by rw[z],?_⟩);rw[m];dsimp only;have h:Tm False bs.length f (Gth μ d p) (qfQ bs lim itF last (bs.length+1-f) f d) (qfQ (bs++t) lim g last ((bs++t).length+1-f) f d):=(qoZ bs t lim μ itF g last hi _ _ f d i (by omega) (by rw[List.length_append];omega)).with_ (λb y _ _ e k=>by have:=e k;omega);refine Tm.at_ i (λe q=>?_) (λc o l=>Tm.ite (λ_=>Tm.ok (by omega) l (λk=>by omega)) (λ_=>h));subst e;exact h.any
theorem qyl(c:TmR n rd rd')(a:List (DataW Unit))(p:Nat)(h:p<=n):Tm False n p (Gth sqL a p) (liJ rd a p) (liJ rd' a p):=by
 unfold liJ;refine Tm.bind (c p h) (λ_ z=>by rw[z]) (λ_ z=>by rw[z]) (λd q _ b e f=>⟨_,λz=>by rw[z],?_⟩);rw[f];refine Tm.ok (Nat.le_refl _) b (λk=>by have:=e k;rw[qjh];omega)
theorem qxe(bs t:List UInt8)(lim:Int)(ks:List (List UInt8))(p:Nat)(h:p<=bs.length):Tm True bs.length p (λl q=>l.length+4*p+8<=4*q) (qlm bs lim ks p) (qlm (bs++t) lim ks p):=by
 unfold qlm;refine Tm.bindS (qdd bs t lim [34] p h) (λ_ z=>by rw[z]) (λ_ z=>by rw[z]) (λ_ q _ c e b a=>?_);rw[b,a];dsimp only;have e:q=p+1:=e;refine Tm.from_ (q:=q) ?_ (by omega) c;refine Tm.bindS (qiT bs t lim (bs.length+1-q) ((bs++t).length+1-q) q [] 0 c (by omega) (by rw[List.length_append];omega)) (λ_ z=>by rw[z]) (λ_ z=>by rw[z]) (λl r _ f d b a=>?_);rw[b,a];dsimp only;rw[List.length_nil]at d;exact Tm.ite (λ_=>Tm.err (by omega) (by omega)) (λ_=>Tm.ok (by omega) f (by omega))
def szM(k:Nat)(a:List (List UInt8)×List (Lit×DataW Unit)):Nat:=sqE k a.2
theorem qxC(bs t:List UInt8)(lim:Int)(m:TmR bs.length rd rd')(a:List (List UInt8)×List (Lit×DataW Unit))(p:Nat)(h:p<=bs.length):Tm False bs.length p (Gth szM a p) (enJ bs lim rd a p) (enJ (bs++t) lim rd' a p):=by
 unfold enJ;refine Tm.bind (qxe bs t lim a.1 p h) (λ_ z=>by rw[z]) (λ_ z=>by rw[z]) (λl n _ e s b=>⟨_,λz=>by rw[z],?_⟩);rw[b];dsimp only;refine Tm.bind (qiz bs t lim n e) (λ_ z=>by rw[z]) (λ_ z=>by rw[z]) (λ_ o _ f _ b=>⟨_,λz=>by rw[z],?_⟩);rw[b];dsimp only;refine Tm.bind (qdd bs t lim [58] o f) (λ_ z=>by rw[z]) (λ_ z=>by rw[z]) (λ_ q _ g _ b=>⟨_,λz=>by rw[z],?_⟩);rw[b];dsimp only;refine Tm.bind (qiz bs t lim q g) (λ_ z=>by rw[z]) (λ_ z=>by rw[z]) (λ_ r _ i _ b=>⟨_,λz=>by rw[z],?_⟩);rw[b];dsimp only;refine Tm.bind (m r i) (λ_ z=>by rw[z]) (λ_ z=>by rw[z]) (λd u _ j c b=>⟨_,λz=>by rw[z],?_⟩);rw[b];refine Tm.ok (Nat.le_refl _) j (λk=>?_);have:=c k;unfold szM;rw[qnz];omega
theorem qcA{d:DataW Unit}(h:∀k,szF (k+1) d=200)(a:p<q):SzT p d q:=λk=>by
 cases k with
 |zero=>show 0+30+_<=_;omega
 |succ k=>rw[h k];omega
theorem qrg(a:l.length+4*(p+1)<=4*q):SzT p (.lit (.string l)) q:=λk=>by
 cases k with
 |zero=>show 0+30+_<=_;omega
 |succ k=>show 200+6*l.length+30+_<=_;omega
theorem qtV(a:l.length+4*(p+1)<=4*q):SzT p (.ptr (.lit (.string l))) q:=λk=>by
 cases k with
 |zero=>show 0+30+_<=_;omega
 |succ k=>show 200+6*l.length+30+_<=_;omega
theorem qp7{ds:List (DataW Unit)}(b:p<r)(a:r<=q)(h:Gth sqL [] r ds q):SzT p (.agg ds) q:=λk=>by
 cases k with
 |zero=>show 0+30+_<=_;omega
 |succ k =>
  have:=h k;show 200+sqL k ds+30+_<=_;have e:sqL k []=0:=rfl;omega
theorem quK{es:List (Lit×DataW Unit)}(b:p<r)(a:r<=q)(h:Gth sqE [] r es q):SzT p (.map es) q:=λk=>by
 cases k with
 |zero=>show 0+30+_<=_;omega
 |succ k =>
  have:=h k;show 200+sqE k es+30+_<=_;have e:sqE k []=0:=rfl;omega
theorem quW(bs t:List UInt8)(lim depth:Int)(wi:Nat)(g:¬(wi:Int)=depth->TmR bs.length rd rd')(c:UInt8)(p:Nat)(h:p+1<=bs.length):Tm False bs.length p (SzT p) (qjC bs lim depth wi rd (λc p=>qeq ⟨none,bs,0,0,lim,p,0⟩ c) c (p+1)) (qjC (bs++t) lim depth wi rd' (λc p=>qeq ⟨none,bs++t,0,0,lim,p,0⟩ c) c (p+1)):=by
 unfold qjC;refine Tm.ite (λ_=>?_) (λ_=>Tm.ite (λ_=>?_) (λ_=>Tm.ite (λ_=>?_) (λ_=>Tm.ite (λ_=>?_) (λ_=>Tm.ite (λ_=>?_) (λ_=>Tm.ite (λ_=>?_) (λ_=>Tm.ite (λ_=>?_) (λ_=>?_)))))))
 ·refine Tm.from_ (q:=p+1) ?_ (by omega) h;refine Tm.bind (qdd bs t lim _ (p+1) h) (λ_ z=>by rw[z]) (λ_ z=>by rw[z]) (λ_ q d a _ b=>⟨_,λz=>by rw[z],?_⟩);rw[b];refine Tm.ok (Nat.le_refl _) a (qcA (λ_=>rfl) (by omega))
 ·refine Tm.from_ (q:=p+1) ?_ (by omega) h;refine Tm.bind (qdd bs t lim _ (p+1) h) (λ_ z=>by rw[z]) (λ_ z=>by rw[z]) (λ_ q d a _ b=>⟨_,λz=>by rw[z],?_⟩);rw[b];refine Tm.ok (Nat.le_refl _) a (qcA (λ_=>rfl) (by omega))
 ·refine Tm.from_ (q:=p+1) ?_ (by omega) h;refine Tm.bind (qdd bs t lim _ (p+1) h) (λ_ z=>by rw[z]) (λ_ z=>by rw[z]) (λ_ q d a _ b=>⟨_,λz=>by rw[z],?_⟩);rw[b];refine Tm.ok (Nat.le_refl _) a (qcA (λ_=>rfl) (by omega))
 ·refine Tm.from_ (q:=p+1) ?_ (by omega) h;refine Tm.bind (qiT bs t lim (bs.length+1-(p+1)) ((bs++t).length+1-(p+1)) (p+1) [] 0 h (by omega) (by rw[List.length_append];omega)) (λ_ z=>by rw[z]) (λ_ z=>by rw[z]) (λl q d a e b=>⟨_,λz=>by rw[z],?_⟩);rw[b];refine Tm.ok (Nat.le_refl _) a (qrg ?_);rw[List.length_nil]at e;omega
 ·refine Tm.ite (λ_=>Tm.err (by omega) (by omega)) (λf=>?_);refine Tm.from_ (q:=p+1) ?_ (by omega) h;refine Tm.bind (qq6 bs t lim sqL _ _ 93 (qyl (g f)) (p+1) [] h) (λ_ z=>by rw[z]) (λ_ z=>by rw[z]) (λi q d a e b=>⟨_,λz=>by rw[z],?_⟩);rw[b];refine Tm.ok (Nat.le_refl _) a (qp7 (Nat.lt_succ_self p) d e)
 ·refine Tm.ite (λ_=>Tm.err (by omega) (by omega)) (λf=>?_);refine Tm.from_ (q:=p+1) ?_ (by omega) h;refine Tm.bind (qq6 bs t lim szM _ _ 125 (qxC bs t lim (g f)) (p+1) ([],[]) h) (λ_ z=>by rw[z]) (λ_ z=>by rw[z]) (λj q d a e b=>⟨_,λz=>by rw[z],?_⟩);rw[b];refine Tm.ok (Nat.le_refl _) a (quK (Nat.lt_succ_self p) d e)
 ·dsimp only;refine Tm.from_ (q:=p+1) ?_ (by omega) h;refine Tm.bind (qvd bs t lim c (p+1) h) (λ_ z=>by rw[z]) (λ_ z=>by rw[z]) (λz q d a _ b=>⟨_,λz=>by rw[z],?_⟩);rw[b];refine Tm.ok (Nat.le_refl _) a (qcA (λ_=>rfl) (by omega))
 exact Tm.err (by omega) (by omega)
theorem qx8(bs t:List UInt8)(lim depth:Int)(g:Nat):∀(a:Nat),(a:Int)<=depth->depth<a+g->TmR bs.length (thJ bs lim depth (λc p=>qeq ⟨none,bs,0,0,lim,p,0⟩ c) g a) (thJ (bs++t) lim depth (λc p=>qeq ⟨none,bs++t,0,0,lim,p,0⟩ c) g a):=by
 induction g with
 |zero=>intro a b d;omega
 |succ g h =>
  intro a b d p f;unfold thJ;refine Tm.byte f (λc i e=>?_);exact quW bs t lim depth a (λj=>h (a+1) (by omega) (by omega)) c p e
theorem qmn(bs t:List UInt8)(lim:Int):∀(k p a:Nat),p<=bs.length->Tm True bs.length p (λ_ q=>q=p+k) (qc2 bs lim k p a) (qc2 (bs++t) lim k p a)
 |0,p,a,h=>Tm.ok (Nat.le_refl _) h rfl
 |k+1,p,a,h=>by
  unfold qc2;refine Tm.byte h (λc d b=>?_);exact((qmn bs t lim k (p+1) _ b).with_ (λ_ q _ _ e=>by omega)).from_ (by omega) b
theorem qqs(bs t:List UInt8)(lim:Int):∀(k p:Nat) (b:List UInt8),p<=bs.length->Tm True bs.length p (λl q=>l.length+p=b.length+q) (qgp bs lim k p b) (qgp (bs++t) lim k p b)
 |0,p,a,h=>Tm.ok (Nat.le_refl _) h rfl
 |k+1,p,b,h=>by
  unfold qgp;refine Tm.byte h (λc f d=>?_);refine((qqs bs t lim k (p+1) _ d).with_ (λ_ q _ _ e=>?_)).from_ (by omega) d;rw[List.length_append,List.length_cons,List.length_nil]at e;omega
theorem qmu(bs t:List UInt8)(lim:Int)(d:Nat):∀(k p:Nat) (a:List UInt8) (b:Nat),d<=p->p<=bs.length->(d=p->b=a.length)->Tm True bs.length d (λl q=>l.length+p=a.length+q) (qdk bs lim k p a b) (qdk (bs++t) lim k p a b)
 |0,p,a,b,h0,h,hw=>by
  unfold qdk;exact Tm.ite (λ_=>Tm.ok h0 h rfl) (λi=>Tm.err (by omega) (λe=>absurd (hw (by omega)) i))
 |k+1,p,a,b,h0,h,hw=>by
  unfold qdk;by_cases f:p<bs.length
  ·have e:(bs++t)[p]?=bs[p]?:=List.getElem?_append_left f;obtain⟨c,g⟩:∃c,bs[p]?=some c:=⟨_,List.getElem?_eq_getElem f⟩
   rw[e,g];refine Tm.ite (λ_=>Tm.err (by omega) (by omega)) (λ_=>Tm.ite (λ_=>Tm.err (by omega) (by omega)) (λ_=>?_));refine(qmu bs t lim d k (p+1) _ _ (by omega) f (by omega)).with_ (λl q _ _ e=>?_);rw[List.length_append,List.length_cons,List.length_nil]at e;omega
  have e:bs[p]?=none:=List.getElem?_eq_none (by omega);rw[e];exact⟨by omega,.inr (by omega),λ_=>by omega⟩
theorem qv1(d:Nat->Nat×Nat×Nat)(bs t:List UInt8)(lim:Int)(ks:List (List UInt8))(p:Nat)(h:p<=bs.length):Tm True bs.length p (λl q=>l.length+p+1<=q) (qes d bs lim ks p) (qes d (bs++t) lim ks p):=by
 unfold qes;refine Tm.byte h (λc k f=>Tm.ite (λ_=>?_) (λ_=>Tm.err (by omega) (by omega)));refine Tm.bindS ((qmn bs t lim _ (p+1) _ f).from_ (Nat.le_succ p) f) (λ_ z=>by rw[z]) (λ_ z=>by rw[z]) (λx q _ i e b a=>?_);rw[b,a];dsimp only;refine Tm.bindS (qmu bs t lim p x q [] 0 (by omega) i (λ_=>rfl)) (λ_ z=>by rw[z]) (λ_ z=>by rw[z]) (λl r _ j g b a=>?_);rw[b,a];dsimp only;rw[List.length_nil]at g;exact Tm.ite (λ_=>Tm.err (by omega) (by omega)) (λ_=>Tm.ok (by omega) j (by omega))
theorem qkT(a:TmR n rd rd'):∀(k p:Nat) (acc:List (DataW Unit)),p<=n->Tm False n p (Gth sqL acc p) (qbn rd k p acc) (qbn rd' k p acc)
 |0,p,acc,h=>Tm.ok (Nat.le_refl _) h (λ_=>Nat.le_refl _)
 |k+1,p,acc,h=>by
  unfold qbn;refine Tm.bind (a p h) (λ_ z=>by rw[z]) (λ_ z=>by rw[z]) (λd q _ g e i=>⟨_,λz=>by rw[z],?_⟩);rw[i];dsimp only;refine(qkT a k q _ g).with_ (λb y _ _ c j=>?_);have l:=e j;have f:=c j;rw[qjh]at f;omega
theorem qhi{kf kf':List (List UInt8)->Nat->Except (Int×Int) (List UInt8×Nat)}(f:∀a p,p<=n->Tm True n p (λl q=>l.length+p+1<=q) (kf a p) (kf' a p))(g:TmR n rd rd'):∀(k p:Nat) (a:List (List UInt8)) (acc:List (Lit×DataW Unit)),p<=n->Tm False n p (Gth sqE acc p) (qa7 kf rd k p a acc) (qa7 kf' rd' k p a acc)
 |0,p,a,acc,h=>Tm.ok (Nat.le_refl _) h (λ_=>Nat.le_refl _)
 |k+1,p,a,acc,h=>by
  unfold qa7;refine Tm.bind (f a p h) (λ_ z=>by rw[z]) (λ_ z=>by rw[z]) (λl q _ o t c=>⟨_,λz=>by rw[z],?_⟩);rw[c];dsimp only;refine Tm.bind (g q o) (λ_ z=>by rw[z]) (λ_ z=>by rw[z]) (λd r _ s e c=>⟨_,λz=>by rw[z],?_⟩);rw[c];dsimp only;refine(qhi f g k r _ _ s).with_ (λb y _ _ i j=>?_);have u:=e j;have m:=i j;rw[qnz]at m;omega
theorem qrv(n p:Nat)(c w:Int)(x q:Nat)(a:p<q)(b:q<=n){R:Except (Int×Int) (DataW Unit×Nat)}(h:R=match nbF c w x q with|.error e=>.error e|.ok z=>.ok (.lit (.int .i64 z),q)):Tm False n p (SzT p) R R:=by
 rw[h];unfold nbF;by_cases d:(c==5)=true
 ·rw[if_pos d];exact Tm.ok (by omega) b (qcA (λ_=>rfl) a)
 rw[if_neg d];by_cases f:9223372036854775807<x
 ·rw[if_pos f];exact Tm.err (by omega) (by omega)
 rw[if_neg f];by_cases g:(c==6)=true
 ·rw[if_pos g];exact Tm.ok (by omega) b (qcA (λ_=>rfl) a)
 rw[if_neg g];exact Tm.ok (by omega) b (qcA (λ_=>rfl) a)
theorem qvc(bs t:List UInt8)(lim:Int){li li':Nat->Nat->Except (Int×Int) (List (DataW Unit)×Nat)}{ma ma':Nat->Nat->Except (Int×Int) (List (Lit×DataW Unit)×Nat)}(g w x p q:Nat)(b:p<q)(a:q<=bs.length)(h:g=9->Tm False bs.length q (Gth sqL [] q) (li x q) (li' x q))(i:g=10->Tm False bs.length q (Gth sqE [] q) (ma x q) (ma' x q)):Tm False bs.length p (SzT p) (qgr bs lim li ma g w x q) (qgr (bs++t) lim li' ma' g w x q):=by
 unfold qgr;split
 ·exact Tm.ok (by omega) a (qcA (λ_=>rfl) b)
 ·exact Tm.ok (by omega) a (qcA (λ_=>rfl) b)
 ·exact qrv _ p 4 w x q b a rfl
 ·exact qrv _ p 5 w x q b a rfl
 ·exact qrv _ p 6 w x q b a rfl
 ·refine Tm.from_ (q:=q) ?_ (by omega) a;refine Tm.bind (qqs bs t lim x q [] a) (λ_ z=>by rw[z]) (λ_ z=>by rw[z]) (λl r f c e d=>⟨_,λz=>by rw[z],?_⟩);rw[d];dsimp only;rw[List.length_nil]at e;exact Tm.ok (by omega) c (qtV (by omega))
 ·refine Tm.from_ (q:=q) ?_ (by omega) a;refine Tm.bind (qmu bs t lim q x q [] 0 (Nat.le_refl _) a (λ_=>rfl)) (λ_ z=>by rw[z]) (λ_ z=>by rw[z]) (λl r f c e d=>⟨_,λz=>by rw[z],?_⟩);rw[d];dsimp only;rw[List.length_nil]at e;exact Tm.ok (by omega) c (qrg (by omega))
 ·refine Tm.from_ (q:=q) ?_ (by omega) a;refine Tm.bind (h rfl) (λ_ z=>by rw[z]) (λ_ z=>by rw[z]) (λj r f c e d=>⟨_,λz=>by rw[z],?_⟩);rw[d];refine Tm.ok (by omega) c (qp7 b f e)
 ·refine Tm.from_ (q:=q) ?_ (by omega) a;refine Tm.bind (i rfl) (λ_ z=>by rw[z]) (λ_ z=>by rw[z]) (λk r f c e d=>⟨_,λz=>by rw[z],?_⟩);rw[d];refine Tm.ok (by omega) c (quK b f e)
 exact Tm.ok (by omega) a (qcA (λ_=>rfl) b)
theorem quG(b:Nat->Nat×Nat×Nat)(bs t:List UInt8)(lim depth:Int)(g:Nat):∀(a:Nat),(a:Int)<=depth->depth<a+g->TmR bs.length (thB b bs lim depth g a) (thB b (bs++t) lim depth g a):=by
 induction g with
 |zero=>intro a j l;omega
 |succ g s =>
  intro a j l p m;unfold thB;refine Tm.byte m (λc u i=>Tm.ite (λ_=>Tm.err (by omega) (by omega)) (λ_=>Tm.ite (λ_=>Tm.err (by omega) (by omega)) (λn=>?_)));have h:(b c.toNat).1=9\/(b c.toNat).1=10->TmR bs.length (thB b bs lim depth g (a+1)) (thB b (bs++t) lim depth g (a+1)):=λd=>by
   have:¬(a:Int)=depth:=λe=>n ⟨d,e⟩;exact s (a+1) (by omega) (by omega)
  refine Tm.bindS ((qmn bs t lim _ (p+1) _ i).from_ (Nat.le_succ p) i) (λ_ z=>by rw[z]) (λ_ z=>by rw[z]) (λx q _ f e r o=>?_);rw[r,o];dsimp only;exact qvc bs t lim _ _ x p q (by omega) f (λd=>qkT (h (.inl d)) x q [] f) (λk=>qhi (qv1 b bs t lim) (h (.inr k)) x q [] [] f)
def dcP(n:Nat)(r:Except (Int×Int) (DataW Unit)):Except (Int×Int) (DataW Unit×Nat):=match r with
 |.error e=>.error e
 |.ok d=>.ok (d,n)
theorem qwr(bs t:List UInt8)(lim:Int){sp sp':Nat->Except (Int×Int) (Unit×Nat)}{th th':Nat->Except (Int×Int) (DataW Unit×Nat)}(h:∀p,p<=bs.length->Tm False bs.length p (λ_ _=>True) (sp p) (sp' p))(n:TmR bs.length th th'):Tm False bs.length 0 (λd _=>∀k,szF k d+30<=400*bs.length) (dcP bs.length (qoT sp th bs lim)) (dcP bs.length (qoT sp' th' (bs++t) lim)):=by
 unfold qoT;refine Tm.bind (h 0 (Nat.zero_le _)) (λ_ z=>by rw[z];rfl) (λ_ z=>by rw[z];rfl) (λ_ o _ j _ b=>⟨_,λz=>by rw[z],?_⟩);rw[b];dsimp only;refine Tm.bind (n o j) (λ_ z=>by rw[z];rfl) (λ_ z=>by rw[z];rfl) (λd q _ l i b=>⟨_,λz=>by rw[z],?_⟩);rw[b];dsimp only;refine Tm.bind (h q l) (λ_ z=>by rw[z];rfl) (λ_ z=>by rw[z];rfl) (λ_ a _ r _ b=>⟨_,λz=>by rw[z],?_⟩);rw[b];dsimp only;unfold qsf;dsimp only;by_cases g:a<bs.length
 ·have e:(bs++t)[a]?=bs[a]?:=List.getElem?_append_left g;obtain⟨c,m⟩:∃c,bs[a]?=some c:=⟨_,List.getElem?_eq_getElem g⟩
  rw[e,m];dsimp only;by_cases f:(a:Int)=lim
  ·rw[if_pos f];exact Tm.err (by omega) (by omega)
  rw[if_neg f];exact Tm.err (by omega) (by omega)
 have e:bs[a]?=none:=List.getElem?_eq_none (by omega);obtain rfl:a=bs.length:=by omega
 rw[e];exact⟨Nat.le_refl _,Nat.le_refl _,λk=>(by have:=i k;omega),.inr ⟨id,rfl⟩⟩
theorem qwF(b:Int)(bs t:List UInt8)(d lim:Int)(c:0<=d):Tm False bs.length 0 (λd _=>∀k,szF k d+30<=400*bs.length) (dcP bs.length (qgn b bs d lim)) (dcP bs.length (qgn b (bs++t) d lim)):=by
 unfold qgn;refine qwr bs t lim (λp a=>?_) (λp a=>?_)
 ·unfold spO;exact Tm.ite (λ_=>qiz bs t lim p a) (λ_=>Tm.ok (Nat.le_refl _) a trivial)
 unfold thO;exact Tm.ite (λ_=>qx8 bs t lim d (d.toNat+1) 0 (by omega) (by omega) p a) (λ_=>Tm.ite (λ_=>quG qdO bs t lim d (d.toNat+1) 0 (by omega) (by omega) p a) (λ_=>quG qcb bs t lim d (d.toNat+1) 0 (by omega) (by omega) p a))
theorem qkq(a:Int)(bs:List UInt8)(d lim:Int)(b:0<=d){x:DataW Unit}(h:qgn a bs d lim=.ok x)(k:Nat):szF k x+30<=400*bs.length:=by
 have:=qwF a bs [] d lim b;rw[h]at this;exact this.2.2.1 k

def ChT(c0:UInt8)(l:List UInt8):Prop:=∀(j:Nat) (c:UInt8),l[j]?=some c->qbH c0 (j+1) c=false
def Ch(ch:List UInt8):Prop:=∃c0 l,ch=c0::l/\l.length+1=qcO c0/\ChT c0 l
def Vt(l:List UInt8):Prop:=∃chs:List (List UInt8),(∀ch∈chs,Ch ch)/\l=chs.flatten
def Pd(p:List UInt8):Prop:=p=[]\/∃c0 l,p=c0::l/\l.length+1<qcO c0/\ChT c0 l
theorem qnh:Vt []:=⟨[],(λ_ h=>by cases h),rfl⟩
theorem qm5(h:Vt l)(d:Ch ch):Vt (l++ch):=by
 obtain⟨b,c,rfl⟩:=h;refine⟨b++[ch],λx a=>?_,by simp⟩;rcases List.mem_append.1 a with a|a
 ·exact c x a
 rw[List.mem_singleton.1 a];exact d
theorem qns{c0:UInt8}(h:ChT c0 l)(d:qbH c0 (l.length+1) c=false):ChT c0 (l++[c]):=by
 intro j x a;by_cases b:j<l.length
 ·exact h j x (by rwa[List.getElem?_append_left b]at a)
 have:=ltL a;rw[List.length_append,List.length_singleton]at this;obtain rfl:j=l.length:=by omega
 rw[List.getElem?_append_right (Nat.le_refl _),Nat.sub_self]at a;injection a with a;rwa[<-a]
theorem qrj{p:List UInt8}(h:Pd p)(a:¬qbC p c=0):(qbC p c=2/\Ch (p++[c]))\/(¬qbC p c=2/\Pd (p++[c])):=by
 rcases h with rfl|⟨b,l,rfl,m,k⟩
 ·rw[qdr]at a ⊢;by_cases g:qcO c=0
  ·rw[if_pos g]at a;exact absurd rfl a
  rw[if_neg g];by_cases d:qcO c=1
  ·rw[if_pos d];exact .inl ⟨rfl,c,[],rfl,d.symm,λj x f=>by cases f⟩
  rw[if_neg d];exact .inr ⟨by decide,.inr ⟨c,[],rfl,by simp;omega,λj x f=>by cases f⟩⟩
 rw[qke b l c m]at a ⊢;cases e:qbH b (l.length+1) c
 ·rw[if_neg (by simp)];by_cases i:l.length+2=qcO b
  ·rw[if_pos i];exact .inl ⟨rfl,b,l++[c],rfl,by simp;omega,qns k e⟩
  rw[if_neg i];exact .inr ⟨by decide,.inr ⟨b,l++[c],rfl,by simp;omega,qns k e⟩⟩
 rw[e,if_pos rfl]at a;exact absurd rfl a
theorem qak{r:List UInt8}(h:bs.drop p=c::r):bs[p]?=some c/\bs.drop (p+1)=r/\p<bs.length:=by
 have b:p<bs.length:=by
  have:=congrArg List.length h;rw[List.length_drop,List.length_cons]at this;omega
 have a:=List.drop_eq_getElem_cons b;rw[h]at a;injection a with a h3;exact⟨by rw[List.getElem?_eq_getElem b,a],h3.symm,b⟩
theorem qnA(bs:List UInt8)(lim:Int):∀(k p:Nat) (a b:List UInt8) (l:List UInt8) (q:Nat),Vt a->Pd b->qdk bs lim k p (a++b) a.length=.ok (l,q)->Vt l
 |0,p,a,b,l,q,h1,h2,h=>by
  rw[qdk]at h;split at h
  ·next e =>
   rw[List.length_append]at e;have:b=[]:=List.eq_nil_of_length_eq_zero (by omega);subst this;rw[List.append_nil]at h;cases h;exact h1
  cases h
 |k+1,p,a,b,l,q,h1,h2,h=>by
  rw[qdk]at h;split at h
  ·cases h
  next c hc =>
  rw[List.drop_left]at h;split at h
  ·cases h
  split at h
  ·cases h
  next ha =>
  rw[List.append_assoc]at h;rcases qrj h2 ha with⟨e,g⟩|⟨e,i⟩
  ·rw[if_pos e]at h;have d:(a++b).length+1=(a++(b++[c])).length:=by simp;omega
   rw[d,<-List.append_nil (a++(b++[c]))]at h;have f:(a++(b++[c])++[]).length=(a++(b++[c])).length:=by simp
   rw[f]at h;exact qnA bs lim k (p+1) (a++(b++[c])) [] l q (qm5 h1 g) (.inl rfl) h
  rw[if_neg e]at h;exact qnA bs lim k (p+1) a (b++[c]) l q h1 i h
theorem qmW(bs:List UInt8)(lim:Int)(q:(bs.length:Int)<=lim)(b:UInt8)(d:List UInt8)(k:Nat)(rest:List UInt8):∀(m a:List UInt8) (p:Nat),m≠[]->a.length+m.length+1=qcO b->ChT b (a++m)->bs.drop p=m++rest->qdk bs lim (m.length+k) p (d++b::a) d.length=qdk bs lim k (p+m.length) (d++b::(a++m)) (d++b::(a++m)).length
 |[],_,_,h,_,_,_=>absurd rfl h
 |c::m,a,p,_,hk,ht,hd=>by
  obtain⟨n,o,r⟩:=qak hd;have i:qbH b (a.length+1) c=false:=ht a.length c (by rw[List.getElem?_append_right (Nat.le_refl _),Nat.sub_self];rfl);have j:a.length+1<qcO b:=by simp at hk;omega
  rw[show(c::m).length+k=m.length+k+1 by simp;omega,qdk,n];simp only[];rw[if_neg (by omega),List.drop_left];have l:d++b::a++[c]=d++b::(a++[c]):=by simp
  have g:a++[c]++m=a++c::m:=by simp
  rw[l];by_cases f:m=[]
  ·subst f;have e:qbC (b::a) c=2:=by rw[qke b a c j,i,if_neg (by simp),if_pos (by simp at hk;omega)]
   rw[e,if_neg (by decide),if_pos rfl];have:(d++b::a).length+1=(d++b::(a++[c])).length:=by simp;omega
   rw[this];simp
  have s:=List.length_pos_iff.2 f;have e:qbC (b::a) c=1:=by rw[qke b a c j,i,if_neg (by simp),if_neg (by simp at hk;omega)]
  have:=qmW bs lim q b d k rest m (a++[c]) (p+1) f (by simp at hk ⊢;omega) (by rw[g];exact ht) o;rw[g]at this;rw[e,if_neg (by decide),if_neg (by decide),this,show p+1+m.length=p+(c::m).length by simp;omega]
theorem qyc(bs:List UInt8)(lim:Int)(j:(bs.length:Int)<=lim)(g:Ch ch)(b:List UInt8)(k p:Nat)(rest:List UInt8)(h:bs.drop p=ch++rest):qdk bs lim (ch.length+k) p b b.length=qdk bs lim k (p+ch.length) (b++ch) (b++ch).length:=by
 obtain⟨a,l,rfl,i,m⟩:=g;obtain⟨c,f,n⟩:=qak h;rw[show(a::l).length+k=l.length+k+1 by simp;omega,qdk,c];simp only[];rw[if_neg (by omega),List.drop_length];by_cases c:qcO a=1
 ·have:l=[]:=List.eq_nil_of_length_eq_zero (by omega);subst this;have d:qbC [] a=2:=by rw[qdr,if_neg (by omega),if_pos c]
  rw[d,if_neg (by decide),if_pos rfl];simp
 have d:qbC [] a=1:=by rw[qdr,if_neg (by omega),if_neg c]
 rw[d,if_neg (by decide),if_neg (by decide)];have:=qmW bs lim j a b k rest l [] (p+1) (by intro e;subst e;simp at i;omega) (by simp;omega) m f;rw[this,show p+1+l.length=p+(a::l).length by simp;omega];rfl
theorem qu2(bs:List UInt8)(lim:Int)(a:(bs.length:Int)<=lim)(rest:List UInt8):∀(chs:List (List UInt8)) (acc:List UInt8) (p:Nat),(∀ch∈chs,Ch ch)->bs.drop p=chs.flatten++rest->qdk bs lim chs.flatten.length p acc acc.length=.ok (acc++chs.flatten,p+chs.flatten.length)
 |[],acc,p,_,_=>by
  show qdk bs lim 0 p acc acc.length=_;rw[qdk,if_pos rfl];simp
 |ch::chs,acc,p,h,hd=>by
  have e:(ch::chs).flatten=ch++chs.flatten:=rfl;rw[e]at hd ⊢;rw[List.append_assoc]at hd;rw[List.length_append,qyc bs lim a (h ch (List.mem_cons_self ..)) acc chs.flatten.length p _ hd,qu2 bs lim a rest chs (acc++ch) (p+ch.length) (λx b=>h x (List.mem_cons_of_mem _ b)) (by rw[<-List.drop_drop,hd,List.drop_left])];rw[List.append_assoc,Nat.add_assoc]
theorem qnm(d:(bs.length:Int)<=lim){rest:List UInt8}(h:Vt l)(c:bs.drop p=l++rest):qdk bs lim l.length p [] 0=.ok (l,p+l.length):=by
 obtain⟨a,b,rfl⟩:=h;exact qu2 bs lim d rest a [] p b c

end
section
open Go.RowKit
def qrh(hd:Nat->Nat×Nat×Nat)(bs:List UInt8)(lim:Int):Except (Int×Int) (Int×Nat) :=
 match bs[0]? with
 |none=>.error (9,0)
 |some c=>if(hd c.toNat).1=4\/(hd c.toNat).1=5\/(hd c.toNat).1=6 then match qc2 bs lim (hd c.toNat).2.1 1 (hd c.toNat).2.2 with
  |.error e=>.error e
  |.ok (x,p)=>match nbF (hd c.toNat).1 (hd c.toNat).2.1 x p with
   |.error e=>.error e
   |.ok z=>.ok (z,p)
  else .error (0,0)
theorem qoK{z:Int}(h:qrh hd bs lim=.ok (z,p)):∃c x,bs[0]?=some c/\((hd c.toNat).1=4\/(hd c.toNat).1=5\/(hd c.toNat).1=6)/\qc2 bs lim (hd c.toNat).2.1 1 (hd c.toNat).2.2=.ok (x,p)/\nbF (hd c.toNat).1 (hd c.toNat).2.1 x p=.ok z:=by
 unfold qrh at h;split at h
 ·cases h
 next c hc =>
 split at h
 ·next hs =>
  split at h
  ·cases h
  next x q hx =>
  split at h
  ·cases h
  next y hy =>
  cases h;exact⟨c,x,hc,hs,hx,hy⟩
 cases h
theorem qmh(bs:List UInt8)(lim:Int)(g:(bs.length:Int)<=lim)(x:Nat):∀(k p a:Nat) (b:List UInt8),bs.drop p=beF x k++b->qc2 bs lim k p a=.ok (a*256^k+x%256^k,p+k)
 |0,p,a,b,_=>by
  unfold qc2;simp[Nat.mod_one]
 |k+1,p,a,b,h=>by
  obtain⟨c,f⟩:=qtk (show bs.drop p=UInt8.ofNat (x/2^(8*k)%256)::(beF x k++b)from h);have i:p<bs.length:=(List.getElem?_eq_some_iff.1 c).1;have d:(UInt8.ofNat (x/2^(8*k)%256)).toNat=x/256^k%256:=by
   rw[UInt8.toNat_ofNat',Nat.pow_mul,show(2:Nat)^8=256 from rfl,Nat.mod_mod]
  rw[qc2,c];simp only[];rw[if_neg (by omega),qmh bs lim g x k (p+1) _ b f,d];have e:(a*256+x/256^k%256)*256^k+x%256^k=a*256^(k+1)+x%256^(k+1):=by
   rw[Nat.mod_pow_succ,Nat.add_mul,Nat.pow_succ,Nat.mul_comm (x/256^k%256),Nat.mul_assoc a 256,Nat.mul_comm 256];omega
  rw[e,show p+1+k=p+(k+1) by omega]
theorem qcZ(d:Nat->Nat×Nat×Nat)(c:UInt8)(x k a:Nat)(lim:Int)(z:Int)(g:a=4\/a=5\/a=6)(e:d c.toNat=(a,k,0))(h:x%256^k=x)(f:nbF a k x (1+k:Nat)=.ok z)(i:(k:Int)<lim)(b:∀k,(beF x k).length=k):qrh d (c::beF x k) lim=.ok (z,(c::beF x k).length):=by
 unfold qrh;simp only[List.getElem?_cons_zero];rw[e];rw[if_pos g];have:=qmh (c::beF x k) lim (by simp only[List.length_cons,b];omega) x k 1 0 [] (by simp);simp only[];rw[this];simp only[Nat.zero_mul,Nat.zero_add,h];rw[f];simp only[List.length_cons,b,Nat.add_comm]
theorem qiY(b:Nat->Nat×Nat×Nat)(c:UInt8)(x a:Nat)(lim:Int)(z:Int)(f:a=4\/a=5\/a=6)(d:b c.toNat=(a,0,x))(e:nbF a 0 x 1=.ok z):qrh b [c] lim=.ok (z,[c].length):=by
 unfold qrh;simp only[List.getElem?_cons_zero];rw[d];simp only[qc2];rw[if_pos f];rw[show nbF (a:Int) ((0:Nat):Int) x ((1:Nat):Int)=.ok z from e];rfl
theorem qbe(x:Nat):∀k,(beF x k).length=k
 |0=>rfl
 |k+1=>by rw[beF,List.length_cons,qbe x k]
theorem qhm(w:Int)(x:Nat)(p:Int)(h:x<=9223372036854775807):nbF 4 w x p=.ok (x:Int):=by
 unfold nbF;rw[if_neg (by decide),if_neg (by omega),if_neg (by decide)]
theorem qlx(w:Int)(x:Nat)(p:Int)(h:x<=9223372036854775807):nbF 6 w x p=.ok (-1-(x:Int)):=by
 unfold nbF;rw[if_neg (by decide),if_neg (by omega),if_pos (by decide)]
theorem qkw(w:Int)(x:Nat)(p:Int):nbF 5 w x p=.ok (qkN x w):=by
 unfold nbF;rw[if_pos (by decide)]
theorem qnP(s x:Nat)(d:s<2)(e:x<24):qdO (UInt8.ofNat (32*s+x)).toNat=(if s=0 then 4 else 6,0,x):=by
 rw[UInt8.toNat_ofNat',Nat.mod_eq_of_lt (by omega)];have a:(32*s+x)/32=s:=by omega
 have b:(32*s+x)%32=x:=by omega
 unfold qdO;rw[a,b];have c:s=0\/s=1:=by omega
 rw[if_neg (by omega),if_neg (by omega),if_neg (by omega)];rcases c with rfl|rfl
 ·rw[if_neg (by simp[qmU];omega),if_neg (by omega)];rfl
 rw[if_neg (by simp[qmU];omega),if_neg (by omega)];rfl
theorem qgO(s x:Nat)(f:s<2)(lim:Int)(g:8<lim)(z:Int)(h:x<=9223372036854775807)(a:∀w p,nbF (if s=0 then(4:Nat)else 6:Nat) w x p=.ok z):qrh qdO (qaj s x) lim=.ok (z,(qaj s x).length):=by
 have b:s=0\/s=1:=by omega
 unfold qaj;by_cases c:x<24
 ·rw[if_pos c];exact qiY qdO _ x _ lim z (by split<;>simp) (qnP s x f c) (a _ _)
 rw[if_neg c];by_cases d:x<=255
 ·rw[if_pos d];refine qcZ qdO _ x 1 (if s=0 then 4 else 6) lim z (by split<;>simp) ?_ (by omega) (a _ _) (by omega) (qbe x);rcases b with rfl|rfl<;>rfl
 rw[if_neg d];by_cases c2:x<=65535
 ·rw[if_pos c2];refine qcZ qdO _ x 2 (if s=0 then 4 else 6) lim z (by split<;>simp) ?_ (by omega) (a _ _) (by omega) (qbe x);rcases b with rfl|rfl<;>rfl
 rw[if_neg c2];by_cases e:x<=4294967295
 ·rw[if_pos e];refine qcZ qdO _ x 4 (if s=0 then 4 else 6) lim z (by split<;>simp) ?_ (by omega) (a _ _) (by omega) (qbe x);rcases b with rfl|rfl<;>rfl
 rw[if_neg e];refine qcZ qdO _ x 8 (if s=0 then 4 else 6) lim z (by split<;>simp) ?_ (by omega) (a _ _) (by omega) (qbe x);rcases b with rfl|rfl<;>rfl
theorem qop(z:Int)(lim:Int)(a:8<lim)(c : -9223372036854775808<=z)(d:z<=9223372036854775807):qrh qdO (qfm z) lim=.ok (z,(qfm z).length):=by
 unfold qfm;by_cases b:z<0
 ·rw[if_pos b];refine qgO 1 _ (by decide) lim a z (by omega) λw p=>?_;rw[if_neg (by decide)];exact(qlx w _ p (by omega)).trans (by congr 1;omega)
 rw[if_neg b];refine qgO 0 _ (by decide) lim a z (by omega) λw p=>?_;rw[if_pos rfl];exact(qhm w _ p (by omega)).trans (by congr 1;omega)
theorem q0u(x:Nat):qkN x (1:Nat)=((x:Int)+128)%256-128:=by
 unfold qkN;rw[if_pos (by decide)];have e:IntKind.i8.wrap x=((x:Int)+128)%256-128:=by
  unfold IntKind.wrap;simp only[IntKind.bits,IntKind.signed,Bool.true_and];split<;>rename_i h<;>simp at h<;>omega
 rw[e];unfold wrap64;omega
theorem q03(x:Nat):qkN x (2:Nat)=((x:Int)+32768)%65536-32768:=by
 unfold qkN;rw[if_neg (by decide),if_pos (by decide)];have e:IntKind.i16.wrap x=((x:Int)+32768)%65536-32768:=by
  unfold IntKind.wrap;simp only[IntKind.bits,IntKind.signed,Bool.true_and];split<;>rename_i h<;>simp at h<;>omega
 rw[e];unfold wrap64;omega
theorem q0q(x:Nat):qkN x (4:Nat)=((x:Int)+2147483648)%4294967296-2147483648:=by
 unfold qkN;rw[if_neg (by decide),if_neg (by decide),if_pos (by decide)];unfold wrap64 wrap32;omega
theorem q0w(x:Nat):qkN x (8:Nat)=wrap64 x:=by
 unfold qkN;rw[if_neg (by decide),if_neg (by decide),if_neg (by decide)]
theorem q01(x:Nat):qkN x 0=wrap64 x:=by
 unfold qkN;rw[if_neg (by decide),if_neg (by decide),if_neg (by decide)]
theorem qpR(x y:Nat):∀k m,k<=m->x%256^m=y%256^m->beF x k=beF y k
 |0,m,_,_=>rfl
 |k+1,m,hk,h=>by
  have a:∀u:Nat,u/2^(8*k)%256=u%256^m/256^k%256:=by
   intro u;rw[Nat.pow_mul,show(2:Nat)^8=256 from rfl];obtain⟨j,rfl⟩:∃j,m=(k+1)+j:=⟨m-(k+1),by omega⟩
   have b:u%256^(k+1+j)/256^k%256=u%256^(k+1+j)%256^(k+1)/256^k:=by
    rw[Nat.pow_succ,Nat.mod_mul_right_div_self]
   have c:u%256^(k+1+j)%256^(k+1)=u%256^(k+1):=Nat.mod_mod_of_dvd _ ⟨256^j,Nat.pow_add ..⟩;rw[b,c,Nat.pow_succ,Nat.mod_mul_right_div_self]
  rw[beF,beF,a x,a y,h,qpR x y k m (by omega) h]
theorem qdH(z:Int)(k so lim)(c:UInt8)(f:k=1\/k=2\/k=4\/k=8)(a:qcb c.toNat=(so,k,0))(d:so=5)(g:(8:Int)<lim)(b:qkN ((z%18446744073709551616).toNat%256^k) (k:Nat)=z):qrh qcb (c::beF (z%18446744073709551616).toNat k) lim=.ok (z,(c::beF (z%18446744073709551616).toNat k).length):=by
 subst d;have e:beF (z%18446744073709551616).toNat k=beF ((z%18446744073709551616).toNat%256^k) k:=qpR _ _ k k (Nat.le_refl _) (Nat.mod_mod _ _).symm;rw[e];refine qcZ qcb c _ k 5 lim z (by simp) a (Nat.mod_mod _ _) ?_ (by omega) (qbe _);exact(qkw _ _ _).trans (by rw[b])
theorem qo9(z:Int)(lim:Int)(e:8<lim)(j : -9223372036854775808<=z)(k:z<=9223372036854775807):qrh qcb (qeW z) lim=.ok (z,(qeW z).length):=by
 unfold qeW;by_cases g:z<0
 ·rw[if_pos g];unfold qbs;by_cases a : -32<=z
  ·rw[if_pos a];have h:(z%256).toNat=(256+z).toNat:=by omega
   have f:(UInt8.ofNat (z%256).toNat).toNat=(256+z).toNat:=by rw[UInt8.toNat_ofNat',h,Nat.mod_eq_of_lt (by omega)]
   refine qiY qcb _ (18446744073709551360+(256+z).toNat) 5 lim z (by simp) ?_ ?_
   ·rw[f];unfold qcb;rw[if_neg (by omega),if_neg (by omega),if_neg (by omega),if_neg (by omega),if_neg (by omega)]
   have i:wrap64 ((18446744073709551360+(256+z).toNat:Nat):Int)=z:=by
    unfold wrap64;omega
   generalize 18446744073709551360+(256+z).toNat=x at *;rw[<-i,<-q01];exact qkw _ _ _
  rw[if_neg a];by_cases b : -128<=z
  ·rw[if_pos b];refine qdH z 1 5 lim 208 (.inl rfl) (by rfl) rfl e ?_;rw[q0u];omega
  rw[if_neg b];by_cases c2 : -32768<=z
  ·rw[if_pos c2];refine qdH z 2 5 lim 209 (.inr (.inl rfl)) (by rfl) rfl e ?_;rw[q03];omega
  rw[if_neg c2];by_cases c : -2147483648<=z
  ·rw[if_pos c];refine qdH z 4 5 lim 210 (.inr (.inr (.inl rfl))) (by rfl) rfl e ?_;rw[q0q];omega
  rw[if_neg c];refine qdH z 8 5 lim 211 (.inr (.inr (.inr rfl))) (by rfl) rfl e ?_;rw[q0w];unfold wrap64;omega
 rw[if_neg g];have d:∀w p,nbF (4:Nat) w z.toNat p=.ok z:=λw p=>(qhm w _ p (by omega)).trans (by congr 1;omega);unfold qbm;by_cases a:z.toNat<128
 ·rw[if_pos a];have f:(UInt8.ofNat z.toNat).toNat=z.toNat:=by rw[UInt8.toNat_ofNat',Nat.mod_eq_of_lt (by omega)]
  refine qiY qcb _ z.toNat 4 lim z (by simp) ?_ (d _ _);rw[f];unfold qcb;rw[if_pos a]
 rw[if_neg a];by_cases b:z.toNat<=255
 ·rw[if_pos b];exact qcZ qcb _ z.toNat 1 4 lim z (by simp) (by rfl) (by omega) (d _ _) (by omega) (qbe _)
 rw[if_neg b];by_cases c2:z.toNat<=65535
 ·rw[if_pos c2];exact qcZ qcb _ z.toNat 2 4 lim z (by simp) (by rfl) (by omega) (d _ _) (by omega) (qbe _)
 rw[if_neg c2];by_cases c:z.toNat<=4294967295
 ·rw[if_pos c];exact qcZ qcb _ z.toNat 4 4 lim z (by simp) (by rfl) (by omega) (d _ _) (by omega) (qbe _)
 rw[if_neg c];exact qcZ qcb _ z.toNat 8 4 lim z (by simp) (by rfl) (by omega) (d _ _) (by omega) (qbe _)

end
section
open Go.RowKit Go.Lib
def HdR(hd:Nat->Nat×Nat×Nat)(H:List UInt8)(so n:Nat):Prop:=∃c t w a,H=c::t/\hd c.toNat=(so,w,a)/\t.length=w/\∀(bs:List UInt8) (lim:Int) (p:Nat) (rest:List UInt8),(bs.length:Int)<=lim->bs.drop p=t++rest->qc2 bs lim w p a=.ok (n,p+w)
theorem qdF(h:hd c.toNat=(so,0,n)):HdR hd [c] so n :=
 ⟨c,[],0,n,rfl,h,rfl,λ_ _ _ _ _ _=>rfl⟩
theorem qc5{k:Nat}(h:hd c.toNat=(so,k,0))(d:n%256^k=n):HdR hd (c::beF n k) so n :=
 ⟨c,_,k,0,rfl,h,qbe n k,λa e p f b hd=>by
  have:=qmh a e b n k p 0 f hd;rw[this,d,Nat.zero_mul,Nat.zero_add]⟩
theorem quU(s x:Nat)(c:s<=5)(d:x<24):qdO (UInt8.ofNat (32*s+x)).toNat=(qmU s,0,x):=by
 rw[UInt8.toNat_ofNat',Nat.mod_eq_of_lt (by omega)];have a:(32*s+x)/32=s:=by omega
 have b:(32*s+x)%32=x:=by omega
 unfold qdO;rw[a,b,if_neg (by omega),if_neg (by omega),if_neg (by omega),if_neg ?_,if_neg (by omega)];rintro(h|h)
 ·unfold qmU at h
  repeat' split at h
  all_goals omega
 omega
theorem qgh(s n:Nat)(a:s=0\/s=1\/s=2\/s=3\/s=4\/s=5)(e:n<18446744073709551616):HdR qdO (qaj s n) (qmU s) n:=by
 unfold qaj;by_cases b:n<24
 ·rw[if_pos b];exact qdF (quU s n (by omega) b)
 rw[if_neg b];by_cases c:n<=255
 ·rw[if_pos c];exact qc5 (by rcases a with rfl|rfl|rfl|rfl|rfl|rfl<;>rfl) (by omega)
 rw[if_neg c];by_cases c2:n<=65535
 ·rw[if_pos c2];exact qc5 (by rcases a with rfl|rfl|rfl|rfl|rfl|rfl<;>rfl) (by omega)
 rw[if_neg c2];by_cases d:n<=4294967295
 ·rw[if_pos d];exact qc5 (by rcases a with rfl|rfl|rfl|rfl|rfl|rfl<;>rfl) (by omega)
 rw[if_neg d];exact qc5 (by rcases a with rfl|rfl|rfl|rfl|rfl|rfl<;>rfl) (by omega)
theorem qpD{a b:Nat}(c:a+n<b)(d:b<=192)(h:∀x,a<=x->x<b->qcb x=(so,0,x-a)):HdR qcb [UInt8.ofNat (a+n)] so n:=by
 refine qdF ?_;rw[UInt8.toNat_ofNat',Nat.mod_eq_of_lt (by omega),h _ (by omega) c,show a+n-a=n by omega]
theorem qsI(n:Nat)(f:n<4294967296):HdR qcb (qa1 n) 8 n:=by
 unfold qa1;by_cases a:n<32
 ·rw[if_pos a];exact qpD (b:=192) (by omega) (by omega) λx e d=>by unfold qcb;rw[if_neg (by omega),if_neg (by omega),if_neg (by omega),if_pos d]
 rw[if_neg a];by_cases c:n<=255
 ·rw[if_pos c];exact qc5 rfl (by omega)
 rw[if_neg c];by_cases c2:n<=65535
 ·rw[if_pos c2];exact qc5 rfl (by omega)
 rw[if_neg c2];exact qc5 rfl (by omega)
theorem qt1(n:Nat)(b:n<4294967296):HdR qcb (qbu n) 7 n:=by
 unfold qbu;by_cases a:n<=255
 ·rw[if_pos a];exact qc5 rfl (by omega)
 rw[if_neg a];by_cases c2:n<=65535
 ·rw[if_pos c2];exact qc5 rfl (by omega)
 rw[if_neg c2];exact qc5 rfl (by omega)
theorem qsO(n:Nat)(e:n<4294967296):HdR qcb (qbp n) 9 n:=by
 unfold qbp;by_cases a:n<16
 ·rw[if_pos a];exact qpD (b:=160) (by omega) (by omega) λx d c=>by unfold qcb;rw[if_neg (by omega),if_neg (by omega),if_pos c]
 rw[if_neg a];by_cases c2:n<=65535
 ·rw[if_pos c2];exact qc5 rfl (by omega)
 rw[if_neg c2];exact qc5 rfl (by omega)
theorem qsD(n:Nat)(e:n<4294967296):HdR qcb (qbo n) 10 n:=by
 unfold qbo;by_cases a:n<16
 ·rw[if_pos a];exact qpD (b:=144) (by omega) (by omega) λx d c=>by unfold qcb;rw[if_neg (by omega),if_pos c]
 rw[if_neg a];by_cases c2:n<=65535
 ·rw[if_pos c2];exact qc5 rfl (by omega)
 rw[if_neg c2];exact qc5 rfl (by omega)
theorem qkR(bs d:List UInt8)(lim e:Int)(l:(bs.length:Int)<=lim)(r f:List UInt8):∀(t:List UInt8) (p b a x q:Nat),bs.drop p=t++r->d.drop b=t++f->qc2 d e t.length b a=.ok (x,q)->qc2 bs lim t.length p a=.ok (x,p+t.length)
 |[],p,b,a,x,q,_,_,h=>by
  cases h;rfl
 |c::t,p,b,a,x,q,h1,h2,h=>by
  obtain⟨g,i,m⟩:=qak h1;obtain⟨j,k,n⟩:=qak h2;rw[List.length_cons,qc2,j]at h;simp only[]at h;split at h
  ·cases h
  rw[List.length_cons,qc2,g];simp only[];rw[if_neg (by omega),qkR bs d lim e l r f t (p+1) (b+1) _ x q i k h,show p+1+t.length=p+(t.length+1) by omega]
def NmR(hd:Nat->Nat×Nat×Nat)(N:List UInt8)(z:Int):Prop:=∃c t so w a x,N=c::t/\hd c.toNat=(so,w,a)/\(so=4\/so=5\/so=6)/\t.length=w/\(∀(bs:List UInt8) (lim:Int) (p:Nat) (rest:List UInt8),(bs.length:Int)<=lim->bs.drop p=t++rest->qc2 bs lim w p a=.ok (x,p+w))/\∀q,nbF so w x q=.ok z

end
end Go.Proofs.YtpifimohecagoaaGreatDoor
