import Derived.Test.YtpifimohecagoaaGreatDoorPq24
set_option maxRecDepth 100000
set_option maxHeartbeats 8000000
namespace Go.Proofs.YtpifimohecagoaaGreatDoor
open Go.Proofs.Tryz
variable{rd:Nat->Except (Int×Int) (DataW Unit×Nat)}{bs:List UInt8}{lim:Int}
section
open Go.RowKit
def Bad{α:Type}(r:Except (Int×Int) α):Prop:=∀en pl,r=.error (en,pl)->en≠0/\en≠14
theorem qjw(bs:List UInt8)(lim:Int):∀(k p a:Nat),Bad (qc2 bs lim k p a)
 |0,p,a,en,pl,h=>by rw[qc2]at h;cases h
 |k+1,p,a,en,pl,h=>by
  rw[qc2]at h
  repeat' split at h
  all_goals first|(injection h with h;injection h with h1 h2;omega)|exact qjw bs lim k _ _ en pl h
theorem ql5(a w:Int)(x:Nat)(p:Int):Bad (nbF a w x p):=λb c h=>by
 unfold nbF at h
 repeat' split at h
 all_goals first|(injection h with h;injection h with h1 h2;omega)|cases h
theorem qmV(bs:List UInt8)(lim:Int):∀(k p:Nat) (a:List UInt8),Bad (qgp bs lim k p a)
 |0,p,a,en,pl,h=>by rw[qgp]at h;cases h
 |k+1,p,a,en,pl,h=>by
  rw[qgp]at h
  repeat' split at h
  all_goals first|(injection h with h;injection h with h1 h2;omega)|exact qmV bs lim k _ _ en pl h
theorem qi0(bs:List UInt8)(lim:Int):∀(k p:Nat) (a:List UInt8) (b:Nat),Bad (qdk bs lim k p a b)
 |0,p,a,b,en,pl,h=>by
  rw[qdk]at h;split at h
  ·cases h
  injection h with h;injection h with h1 h2;omega
 |k+1,p,a,b,en,pl,h=>by
  rw[qdk]at h;split at h
  ·injection h with h;injection h with h1 h2;omega
  split at h
  ·injection h with h;injection h with h1 h2;omega
  split at h
  ·injection h with h;injection h with h1 h2;omega
  exact qi0 bs lim k _ _ _ en pl h
theorem qsB(c:Nat->Nat×Nat×Nat)(bs:List UInt8)(lim:Int)(ks:List (List UInt8))(p:Nat):Bad (qes c bs lim ks p):=λa b h=>by
 unfold qes at h;split at h
 ·injection h with h;injection h with h1 h2;omega
 split at h
 ·injection h with h;injection h with h1 h2;omega
 split at h
 ·split at h
  ·next e he=>injection h with h;subst h;exact qjw bs lim _ _ _ a b he
  split at h
  ·next e he=>injection h with h;subst h;exact qi0 bs lim _ _ _ _ a b he
  split at h
  ·injection h with h;injection h with h1 h2;omega
  cases h
 injection h with h;injection h with h1 h2;omega
theorem qif(a:∀p,Bad (rd p)):∀(n p:Nat) (acc:List (DataW Unit)),Bad (qbn rd n p acc)
 |0,p,acc,en,pl,h=>by rw[qbn]at h;cases h
 |n+1,p,acc,en,pl,h=>by
  rw[qbn]at h;split at h
  ·next e he=>injection h with h;subst h;exact a _ en pl he
  exact qif a n _ _ en pl h
theorem qf0{kf:List (List UInt8)->Nat->Except (Int×Int) (List UInt8×Nat)}(b:∀a p,Bad (kf a p))(c:∀p,Bad (rd p)):∀(n p:Nat) (a:List (List UInt8)) (acc:List (Lit×DataW Unit)),Bad (qa7 kf rd n p a acc)
 |0,p,a,acc,en,pl,h=>by rw[qa7]at h;cases h
 |n+1,p,a,acc,en,pl,h=>by
  rw[qa7]at h;split at h
  ·next e he=>injection h with h;subst h;exact b _ _ en pl he
  split at h
  ·next e he=>injection h with h;subst h;exact c _ en pl he
  exact qf0 b c n _ _ _ en pl h
theorem qsx{li:Nat->Nat->Except (Int×Int) (List (DataW Unit)×Nat)}{ma:Nat->Nat->Except (Int×Int) (List (Lit×DataW Unit)×Nat)}{so w x q:Nat}(c:so=9->∀x q,Bad (li x q))(d:so=10->∀x q,Bad (ma x q)):Bad (qgr bs lim li ma so w x q):=λa b h=>by
 unfold qgr at h;split at h
 ·cases h
 ·cases h
 ·split at h
  ·next e he=>injection h with h;subst h;exact ql5 _ _ _ _ a b he
  cases h
 ·split at h
  ·next e he=>injection h with h;subst h;exact ql5 _ _ _ _ a b he
  cases h
 ·split at h
  ·next e he=>injection h with h;subst h;exact ql5 _ _ _ _ a b he
  cases h
 ·split at h
  ·next e he=>injection h with h;subst h;exact qmV _ _ _ _ _ a b he
  cases h
 ·split at h
  ·next e he=>injection h with h;subst h;exact qi0 _ _ _ _ _ _ a b he
  cases h
 ·split at h
  ·next e he=>injection h with h;subst h;exact c rfl _ _ a b he
  cases h
 ·split at h
  ·next e he=>injection h with h;subst h;exact d rfl _ _ a b he
  cases h
 cases h
theorem qlS(b:Nat->Nat×Nat×Nat)(bs:List UInt8)(lim depth:Int):∀(g a p:Nat),(a:Int)<=depth->depth<a+g->Bad (thB b bs lim depth g a p)
 |0,a,p,h1,h2,_,_,_=>by omega
 |g+1,a,p,h1,h2,en,pl,h=>by
  cases d:bs[p]? with
  |none =>
   unfold thB at h;rw[d]at h;injection h with h;injection h with h3 h4;omega
  |some c =>
   by_cases i:(p:Int)=lim
   ·unfold thB at h;rw[d]at h;simp only[]at h;rw[if_pos i]at h;injection h with h;injection h with h3 h4;omega
   rw[qeF d i rfl]at h;split at h
   ·injection h with h;injection h with h3 h4;omega
   split at h
   ·injection h with h;injection h with h3 h4;omega
   next hn =>
   split at h
   ·next e he=>injection h with h;subst h;exact qjw _ _ _ _ _ en pl he
   have j:¬(a:Int)=depth->∀q,Bad (thB b bs lim depth g (a+1) q):=λn q=>qlS b bs lim depth g (a+1) q (by omega) (by omega);exact qsx (λl x q=>qif (j (λf=>hn ⟨.inl l,f⟩)) _ _ _) (λk x q=>qf0 (λm p=>qsB b bs lim m p) (j (λf=>hn ⟨.inr k,f⟩)) _ _ _ _) en pl h
theorem qez(bs:List UInt8)(lim:Int):∀(k p:Nat),Bad (spF bs lim k p)
 |0,p,en,pl,h=>by rw[spF]at h;cases h
 |k+1,p,en,pl,h=>by
  rw[spF]at h;split at h
  ·cases h
  split at h
  ·injection h with h;injection h with h1 h2;omega
  split at h
  ·exact qez bs lim k _ en pl h
  cases h
theorem qcs(bs:List UInt8)(lim:Int):∀(l:List UInt8) (p:Nat),Bad (qaQ bs lim l p)
 |[],p,en,pl,h=>by rw[qaQ]at h;cases h
 |x::xs,p,en,pl,h=>by
  rw[qaQ]at h;split at h
  ·injection h with h;injection h with h1 h2;omega
  split at h
  ·injection h with h;injection h with h1 h2;omega
  split at h
  ·exact qcs bs lim xs _ en pl h
  injection h with h;injection h with h1 h2;omega
theorem qj1(bs:List UInt8)(lim:Int):∀(k p a:Nat),Bad (qfK bs lim k p a)
 |0,p,a,en,pl,h=>by rw[qfK]at h;cases h
 |k+1,p,a,en,pl,h=>by
  rw[qfK]at h;split at h
  ·injection h with h;injection h with h1 h2;omega
  split at h
  ·injection h with h;injection h with h1 h2;omega
  split at h
  ·injection h with h;injection h with h1 h2;omega
  exact qj1 bs lim k _ _ en pl h
theorem qrI(bs:List UInt8)(lim:Int)(p:Nat):Bad (qfs bs lim p):=λa b h=>by
 unfold qfs at h;split at h
 ·next e he=>injection h with h;subst h;exact qj1 _ _ _ _ _ a b he
 split at h
 ·injection h with h;injection h with h1 h2;omega
 split at h
 ·split at h
  ·next e he=>injection h with h;subst h;exact qcs _ _ _ _ a b he
  split at h
  ·next e he=>injection h with h;subst h;exact qj1 _ _ _ _ _ a b he
  split at h
  ·cases h
  injection h with h;injection h with h1 h2;omega
 cases h
theorem qtG(bs:List UInt8)(lim:Int)(p:Nat):Bad (qlo bs lim p):=λa b h=>by
 unfold qlo at h;split at h
 ·injection h with h;injection h with h1 h2;omega
 split at h
 ·injection h with h;injection h with h1 h2;omega
 repeat' split at h
 all_goals first|(injection h with h;injection h with h1 h2;omega)|exact qrI _ _ _ a b h|cases h
theorem qgm(bs:List UInt8)(lim:Int):∀(g p:Nat) (a:List UInt8) (b:Nat),Bad (qcT bs lim g p a b)
 |0,p,a,b,en,pl,h=>by rw[qcT]at h;injection h with h;injection h with h1 h2;omega
 |g+1,p,a,b,en,pl,h=>by
  rw[qcT]at h;split at h
  ·injection h with h;injection h with h1 h2;omega
  split at h
  ·injection h with h;injection h with h1 h2;omega
  split at h
  ·cases h
  split at h
  ·split at h
   ·next e he=>injection h with h;subst h;exact qtG _ _ _ en pl he
   exact qgm bs lim g _ _ _ en pl h
  split at h
  ·injection h with h;injection h with h1 h2;omega
  split at h
  ·injection h with h;injection h with h1 h2;omega
  exact qgm bs lim g _ _ _ en pl h
theorem qiE(bs:List UInt8)(lim:Int)(b:Nat)(z:Bool):∀(g p a:Nat),Bad (qeQ bs lim b z g p a)
 |0,p,a,en,pl,h=>by unfold qeQ at h;cases h
 |g+1,p,a,en,pl,h=>by
  unfold qeQ at h;split at h
  ·cases h
  split at h
  ·injection h with h;injection h with h1 h2;omega
  split at h
  ·split at h
   ·injection h with h;injection h with h1 h2;omega
   split at h
   ·injection h with h;injection h with h1 h2;omega
   exact qiE bs lim b z g _ _ en pl h
  split at h
  ·injection h with h;injection h with h1 h2;omega
  cases h
theorem qsj(s:Src)(c:UInt8):Bad (qeq s c):=λa b h=>by
 unfold qeq at h;split at h
 ·split at h
  ·injection h with h;injection h with h1 h2;omega
  split at h
  ·injection h with h;injection h with h1 h2;omega
  split at h
  ·split at h
   ·cases h
   next e he=>injection h with h;subst h;exact qiE _ _ _ _ _ _ _ a b he
  injection h with h;injection h with h1 h2;omega
 split at h
 ·cases h
 next e he=>injection h with h;subst h;exact qiE _ _ _ _ _ _ _ a b he
theorem qiV{α:Type}{itF:α->Nat->Except (Int×Int) (α×Nat)}{last:Nat}(b:∀a p,Bad (itF a p)):∀(g p:Nat) (a:α),Bad (qfQ bs lim itF last g p a)
 |0,p,a,en,pl,h=>by rw[qfQ]at h;injection h with h;injection h with h1 h2;omega
 |g+1,p,a,en,pl,h=>by
  rw[qfQ]at h;split at h
  ·next e he=>injection h with h;subst h;exact qez _ _ _ _ en pl he
  split at h
  ·next e he=>injection h with h;subst h;exact b _ _ en pl he
  split at h
  ·next e he=>injection h with h;subst h;exact qez _ _ _ _ en pl he
  split at h
  ·injection h with h;injection h with h1 h2;omega
  split at h
  ·injection h with h;injection h with h1 h2;omega
  split at h
  ·cases h
  split at h
  ·exact qiV b g _ _ en pl h
  injection h with h;injection h with h1 h2;omega
theorem qn6{α:Type}{itF:α->Nat->Except (Int×Int) (α×Nat)}{last:Nat}(d:∀a p,Bad (itF a p))(p:Nat)(a:α):Bad (qdV bs lim itF last p a):=λb c h=>by
 unfold qdV at h;split at h
 ·next e he=>injection h with h;subst h;exact qez _ _ _ _ b c he
 split at h
 ·exact qiV d _ _ _ b c h
 split at h
 ·injection h with h;injection h with h1 h2;omega
 split at h
 ·cases h
 exact qiV d _ _ _ b c h
theorem qvQ(c:∀p,Bad (rd p))(a:List (DataW Unit))(p:Nat):Bad (liJ rd a p):=λb d h=>by
 unfold liJ at h;split at h
 ·next e he=>injection h with h;subst h;exact c _ b d he
 cases h
theorem qt3(bs:List UInt8)(lim:Int)(ks:List (List UInt8))(p:Nat):Bad (qlm bs lim ks p):=λa b h=>by
 unfold qlm at h;split at h
 ·next e he=>injection h with h;subst h;exact qcs _ _ _ _ a b he
 split at h
 ·next e he=>injection h with h;subst h;exact qgm _ _ _ _ _ _ a b he
 split at h
 ·injection h with h;injection h with h1 h2;omega
 cases h
theorem qwi(d:∀p,Bad (rd p))(a:List (List UInt8)×List (Lit×DataW Unit))(p:Nat):Bad (enJ bs lim rd a p):=λb c h=>by
 unfold enJ at h;split at h
 ·next e he=>injection h with h;subst h;exact qt3 _ _ _ _ b c he
 split at h
 ·next e he=>injection h with h;subst h;exact qez _ _ _ _ b c he
 split at h
 ·next e he=>injection h with h;subst h;exact qcs _ _ _ _ b c he
 split at h
 ·next e he=>injection h with h;subst h;exact qez _ _ _ _ b c he
 split at h
 ·next e he=>injection h with h;subst h;exact d _ b c he
 cases h
theorem qt5{depth:Int}{wi:Nat}{nm:UInt8->Nat->Except (Int×Int) (Int×Nat)}{c:UInt8}{p:Nat}(d:¬(wi:Int)=depth->∀p,Bad (rd p))(f:∀c p,Bad (nm c p)):Bad (qjC bs lim depth wi rd nm c p):=λa b h=>by
 unfold qjC at h;split at h
 ·split at h
  ·next e he=>injection h with h;subst h;exact qcs _ _ _ _ a b he
  cases h
 split at h
 ·split at h
  ·next e he=>injection h with h;subst h;exact qcs _ _ _ _ a b he
  cases h
 split at h
 ·split at h
  ·next e he=>injection h with h;subst h;exact qcs _ _ _ _ a b he
  cases h
 split at h
 ·split at h
  ·next e he=>injection h with h;subst h;exact qgm _ _ _ _ _ _ a b he
  cases h
 split at h
 ·split at h
  ·injection h with h;injection h with h1 h2;omega
  next hn =>
  split at h
  ·next e he=>injection h with h;subst h;exact qn6 (qvQ (d hn)) _ _ a b he
  cases h
 split at h
 ·split at h
  ·injection h with h;injection h with h1 h2;omega
  next hn =>
  split at h
  ·next e he=>injection h with h;subst h;exact qn6 (qwi (d hn)) _ _ a b he
  cases h
 split at h
 ·split at h
  ·next e he=>injection h with h;subst h;exact f _ _ a b he
  cases h
 injection h with h;injection h with h1 h2;omega
theorem qpA(bs:List UInt8)(lim depth:Int)(nm:UInt8->Nat->Except (Int×Int) (Int×Nat))(b:∀c p,Bad (nm c p)):∀(g a p:Nat),(a:Int)<=depth->depth<a+g->Bad (thJ bs lim depth nm g a p)
 |0,a,p,h1,h2,_,_,_=>by omega
 |g+1,a,p,h1,h2,en,pl,h=>by
  rw[thJ]at h;split at h
  ·injection h with h;injection h with h3 h4;omega
  split at h
  ·injection h with h;injection h with h3 h4;omega
  exact qt5 (λd q=>qpA bs lim depth nm b g (a+1) q (by omega) (by omega)) b en pl h
theorem qrC(f:Int)(bs:List UInt8)(d l:Int)(p:Nat)(b:0<=d):Bad (thO f bs d l p):=λa e h=>by
 unfold thO at h;split at h
 ·exact qpA _ _ _ _ (λc p=>qsj _ _) _ _ _ (by simpa using b) (by omega) a e h
 split at h
 ·exact qlS _ _ _ _ _ _ _ (by simpa using b) (by omega) a e h
 exact qlS _ _ _ _ _ _ _ (by simpa using b) (by omega) a e h
theorem qtP(a:Int)(bs:List UInt8)(d l:Int)(c:0<=d):Bad (qh0 (thO a bs d l)):=λb f h=>by
 unfold qh0 at h;split at h
 ·next e he=>injection h with h;subst h;exact qrC a bs d l 0 c b f he
 cases h
theorem qmB(c:Int)(bs:List UInt8)(d l:Int)(g:0<=d):Bad (qgn c bs d l):=λa b h=>by
 have f:∀p,Bad (spO c bs l p):=λp a b h=>by
  unfold spO at h;split at h
  ·exact qez _ _ _ _ a b h
  cases h
 unfold qgn qoT at h;split at h
 ·next e he=>injection h with h;subst h;exact f _ a b he
 split at h
 ·next e he=>injection h with h;subst h;exact qrC c bs d l _ g a b he
 split at h
 ·next e he=>injection h with h;subst h;exact f _ a b he
 split at h
 ·next e he =>
  injection h with h;subst h;unfold qsf at he;split at he
  ·cases he
  split at he<;>(injection he with he;injection he with h1 h2;omega)
 cases h

end
section
open Go.RowKit Go.Lib
theorem qlt{α:Type}(val:α->Value)(V:World)(p:Nat)(f:Int)(a:Option Addr)(n c:Nat)(r:Except (Int×Int) α)(h:V.cell? ⟨p,0,none⟩=some (.int .i64 f))(i:V.cell? ⟨p+1,0,none⟩=some (.slice a n c))(b:Calls prog 15 #[.int .i64 f,.agg #[.int .i64 16,.int .i64 n],.slice a n c] V (qnJ V val r)):Calls prog 14 #[.pointer (some ⟨p,0,none⟩),.pointer (some ⟨p+1,0,none⟩)] V (qnJ V val r):=by
 rcases r with⟨j,k⟩|z
 ·go_enter func14,ntmps14
  go_wp2_with(first
   |(go_at_call 15;refine b.mono ?_;clear b;rintro e g ⟨d,hF⟩;obtain rfl:=hF))
  exact⟨rfl,d,rfl⟩
 go_enter func14,ntmps14
 go_wp2_with(first
  |(go_at_call 15;refine b.mono ?_;clear b;rintro e g ⟨d,rfl⟩))
 go_ret;exact⟨d,rfl⟩
theorem qsp{fm:Int}{d l:Int}{n:Nat}(h:qh0 (thO fm bs d l)=.ok n):0<n:=by
 unfold qh0 thO at h;split at h
 ·cases h
 next x q hq =>
 injection h with h;subst h;split at hq
 ·exact qn1 ⟨none,bs,0,d,l,0,0⟩ _ _ _ _ _ hq
 split at hq
 ·exact qkB _ _ _ _ _ _ _ _ _ hq
 exact qkB _ _ _ _ _ _ _ _ _ hq
def qsi(fm:Int)(bs:List UInt8):Except Int (List UInt8) :=
 if qeN fm=true/\bs.length<=65536 then match qh0 (thO fm bs 16 bs.length)with
  |.error _=>.error 9
  |.ok n=>if(bs.drop n).all (λc=>c.toNat==qcq fm)=true then .ok (bs.take n)else .error 9
 else .error 7
def qxG(W:World)(r:Except Int (List UInt8))(e:Ending)(W':World):Prop :=
 Below W.heap.size W W'/\match r with
 |.ok l=>∃v,e=.returned (.tuple #[v,.int .i64 0])/\Own W' W.heap.size v l
 |.error en=>e=.returned (.tuple #[.slice none 0 0,.int .i64 en])
theorem qoO{W:World}{g off:Nat}(h:qav W (some ⟨g,off,none⟩) bs)(n:Nat):qav W (some ⟨g,off+n,none⟩) (bs.drop n):=by
 refine⟨λi d=>?_,Nat.le_trans (by rw[List.length_drop];omega) h.len⟩;rw[List.length_drop]at d;obtain⟨e,f,a,b,c⟩:=h.at_ (n+i) (by omega);injection a with a;injection a with a e4;subst a;subst e4;refine⟨g,off+n,rfl,b,?_⟩;rw[List.getElem_drop,Nat.add_assoc];exact c
theorem qp2(W:World)(b:Int)(j:Option Addr)(bs:List UInt8)(d:Nat)(h:qav W j bs)(al:bs.length<=d)(ht:qcS W)(Z:∀C pl,qh0 (thO b bs 16 bs.length)=.error (C,pl)->C≠0):Calls prog 7 #[.int .i64 b,.slice j bs.length d] W (qxG W (qsi b bs)):=by
 have L:Below W.heap.size W ((W.alloc (.cells #[.int .i64 b] 3)).alloc (.cells #[.slice j bs.length d] 35)):=((Below.refl _ _).alloc (Nat.le_refl _) _).alloc (by simp) _;have k0:=Boxed.new W 3 (.int .i64 b);have k1:=Boxed.new (W.alloc (.cells #[.int .i64 b] 3)) 35 (.slice j bs.length d);rw[World.size_alloc]at k1;have u:Hid (Boxed ((W.alloc (.cells #[.int .i64 b] 3)).alloc (.cells #[.slice j bs.length d] 35)) W.heap.size 3 (.int .i64 b)):=k0.alloc _;have v:Hid (Boxed ((W.alloc (.cells #[.int .i64 b] 3)).alloc (.cells #[.slice j bs.length d] 35)) (W.heap.size+1) 35 (.slice j bs.length d)):=k1;have t:Hid (qav ((W.alloc (.cells #[.int .i64 b] 3)).alloc (.cells #[.slice j bs.length d] 35)) j bs):=h.below L;have HT:Hid (qcS ((W.alloc (.cells #[.int .i64 b] 3)).alloc (.cells #[.slice j bs.length d] 35))):=ht.below L;have q:Hid (Below W.heap.size W ((W.alloc (.cells #[.int .i64 b] 3)).alloc (.cells #[.slice j bs.length d] 35))):=L;have o:=λV=>qc3 b V;have am:∀(fn:Fn) (first d:Array Value) (w:World),(Instr.makeFunc fn first d).run prog w=.ok (.func fn first d) w:=λ_ _ _ _=>rfl;clear k0 k1 L h ht;have z:=u.out.cell;have A:=v.out.cell;cases s:qeN b
 ·have e:qsi b bs=.error 7:=by unfold qsi;rw[if_neg (by rw[s];simp)]
  rw[e];rw[s]at o;clear e s;go_enter func7,ntmps7
  go_wp2_with(first
   |(go_at_call 12;refine(o _).mono ?_;clear o;rintro e P ⟨rfl,rfl⟩))
  go_ret2
  exact⟨q.out,rfl⟩
 by_cases N:bs.length<=65536
 ·have ah:b=1\/b=2\/b=3:=by
   unfold qeN at s;simp at s;omega
  have aj:¬(65536:Int)<bs.length:=by omega
  have Q:Below ((W.alloc (.cells #[.int .i64 b] 3)).alloc (.cells #[.slice j bs.length d] 35)).heap.size ((W.alloc (.cells #[.int .i64 b] 3)).alloc (.cells #[.slice j bs.length d] 35)) ((((W.alloc (.cells #[.int .i64 b] 3)).alloc (.cells #[.slice j bs.length d] 35)).alloc (.cells #[.int .i64 0] 29)).alloc (.cells #[.int .i64 0] 3)):=((Below.refl _ _).alloc (Nat.le_refl _) _).alloc (by simp) _;have R:=qp3 _ b j bs d 16 bs.length ah (t.out.below Q) (HT.out.below Q) (by decide) (by decide) (by omega);have Y:∀n,qh0 (thO b bs 16 bs.length)=.ok n->n<=bs.length:=qoA R λe w H=>H.2;have r:=qm2 (λn:Nat=>.int .i64 n) ((W.alloc (.cells #[.int .i64 b] 3)).alloc (.cells #[.slice j bs.length d] 35)) 14 #[.pointer (some ⟨W.heap.size,0,none⟩),.pointer (some ⟨W.heap.size+1,0,none⟩)] (qh0 (thO b bs 16 bs.length)) rfl
   (qlt _ _ W.heap.size b j bs.length d _ ((u.out.alloc _).alloc _).cell ((v.out.alloc _).alloc _).cell (R.mono λe w H=>H.1))
  have hu:qsi b bs=(match qh0 (thO b bs 16 bs.length)with|.error _=>.error 9|.ok n=>if(bs.drop n).all (λc=>c.toNat==qcq b)=true then .ok (bs.take n)else .error 9):=by
   unfold qsi;rw[if_pos ⟨s,N⟩]
  rw[hu];rw[s]at o;clear R Q hu s N HT
  cases y:qh0 (thO b bs 16 bs.length)with
  |error er =>
   obtain⟨C,pl⟩:=er;have U:=Z C pl y;have hq:(C==0)=false:=by simpa using U
   have ao:(C != 0)=true:=by simpa using U
   rw[y]at r;unfold qya at r;simp only[];clear y Z Y U;go_enter func7,ntmps7
   go_wp2_with(first
    |(go_at_call 12;refine(o _).mono ?_;clear o;rintro e P ⟨rfl,rfl⟩)
    |(go_at_call 13;refine r.mono ?_;clear r;rintro e f ⟨rfl,m⟩))
   have I:f.cell? ⟨W.heap.size,0,none⟩=some (.int .i64 b):=(m.cell (p:=⟨W.heap.size,0,none⟩) u.out.lt).trans z;have J:f.cell? ⟨W.heap.size+1,0,none⟩=some (.slice j bs.length d):=(m.cell (p:=⟨W.heap.size+1,0,none⟩) v.out.lt).trans A;clear z A
   go_region
   go_wp2
   go_ret2
   exact⟨(q.out.trans (m.mono q.out.size)).trans (Below.refl _ _).drew,rfl⟩
  |ok n =>
   have hn:=Y n y;rw[y]at r;unfold qya at r;simp only[];have an:0<n:=qsp y;obtain⟨g,off,ai⟩:∃g off,j=some ⟨g,off,none⟩:=by
    obtain⟨g,off,x,_⟩:=t.out.at_ 0 (by omega);exact⟨g,off,x⟩
   subst ai;obtain⟨D,k⟩:∃D,Hid ((if d=n then some (⟨g,off,none⟩:Addr)else some ⟨g,off+n,none⟩)=D):=⟨_,show _=_ from rfl⟩
   have B:∀V,qav V (some ⟨g,off,none⟩) bs->Calls prog 16 #[.int .i64 b,.slice D (bs.length-n) (d-n)] V λe F=>e=.returned (.bool ((bs.drop n).all (λc=>c.toNat==qcq b)))/\F=V:=λV T=>by
    have ag:qav V D (bs.drop n):=by
     rw[<-k.out];by_cases ab:d=n
     ·rw[if_pos ab];have hd:bs.drop n=[]:=List.drop_of_length_le (by omega);rw[hd];exact⟨λi X=>by simp at X,by unfold maxLen;simp⟩
     rw[if_neg ab];exact qoO T n
    have:=q09 V b _ _ (d-n) ag;rwa[List.length_drop]at this
   clear y Z Y;cases M:(bs.drop n).all (λc=>c.toNat==qcq b)
   ·rw[if_neg (by simp)];rw[M]at B;clear M;go_enter func7,ntmps7
    go_wp2_with(first
     |(go_at_call 12;refine(o _).mono ?_;clear o;rintro e P ⟨rfl,rfl⟩)
     |(go_at_call 13;refine r.mono ?_;clear r;rintro e f ⟨rfl,m⟩))
    have I:f.cell? ⟨W.heap.size,0,none⟩=some (.int .i64 b):=(m.cell (p:=⟨W.heap.size,0,none⟩) u.out.lt).trans z;have J:f.cell? ⟨W.heap.size+1,0,none⟩=some (.slice (some ⟨g,off,none⟩) bs.length d):=(m.cell (p:=⟨W.heap.size+1,0,none⟩) v.out.lt).trans A;have E:Hid (Below W.heap.size W f):=q.out.trans (m.mono q.out.size);have G:=B (World.drew f) ((t.out.below m).below (Below.refl _ _).drew);clear z A m q t u v B;refine wp_region_any (by kernel_rfl) ?_;change wpAny _ _ _ _ _ _ _ (World.drew f);have ac:(World.drew f).cell? ⟨W.heap.size,0,none⟩=some (.int .i64 b):=I;have ad:(World.drew f).cell? ⟨W.heap.size+1,0,none⟩=some (.slice (some ⟨g,off,none⟩) bs.length d):=J;refine qiO (β:=Unit) #[true,true,true,true,true,true,true,false,false,false] 3 (λ_=>[(23,.int .i64 0),(24,.bool false),(25,.bool false),(26,.int .i64 b),(27,.slice (some ⟨g,off,none⟩) bs.length d),(28,.int .i64 n),(29,.slice D (bs.length-n) (d-n))]) (λ_=>True) (λ_=>World.drew f) (λl=>?reg) ?tail
    case reg =>
     refine wpAny_ready (rs:=[0]) (by kernel_rfl) (by simp) ?_;refine AllReady.cons rfl (λK a=>?_) AllReady.nil;go_simp;refine a _ _ ?_;clear a;refine wpAny_ready (rs:=[1]) (by kernel_rfl) (by simp) ?_;refine AllReady.cons rfl (λK a=>?_) AllReady.nil;go_simp;refine a _ _ ?_;clear a;refine wpAny_ready (rs:=[2]) (by kernel_rfl) (by simp) ?_;refine AllReady.cons rfl (λK a=>?_) AllReady.nil;go_simp;refine a _ _ ?_;clear a;refine wpAny_ready (rs:=[3,4,5]) (by kernel_rfl) (by simp) ?_;refine AllReady.cons rfl (λK a=>?_) (AllReady.cons rfl (λK a=>?_) (AllReady.cons rfl (λK a=>?_) AllReady.nil))
     ·go_simp;refine a _ _ ?_;clear a;refine wpAny_ready (rs:=[4,5]) (by kernel_rfl) (by simp) ?_;refine AllReady.cons rfl (λK a=>?_) (AllReady.cons rfl (λK a=>?_) AllReady.nil)
      ·go_simp;refine a _ _ ?_;clear a;refine wpAny_ready (rs:=[5]) (by kernel_rfl) (by simp) ?_;refine AllReady.cons rfl (λK a=>?_) AllReady.nil;go_simp;refine a _ _ ?_;clear a;refine wpAny_ready (rs:=[6]) (by kernel_rfl) (by simp) ?_;refine AllReady.cons rfl (λK a=>?_) AllReady.nil;go_simp;rw[k.out];refine a _ _ ?_;clear a;exact cast (by kernel_rfl) (l () trivial)
      go_simp;refine a _ _ ?_;clear a;refine wpAny_ready (rs:=[4]) (by kernel_rfl) (by simp) ?_;refine AllReady.cons rfl (λK a=>?_) AllReady.nil;go_simp;refine a _ _ ?_;clear a;refine wpAny_ready (rs:=[6]) (by kernel_rfl) (by simp) ?_;refine AllReady.cons rfl (λK a=>?_) AllReady.nil;go_simp;rw[k.out];refine a _ _ ?_;clear a;exact cast (by kernel_rfl) (l () trivial)
     ·go_simp;refine a _ _ ?_;clear a;refine wpAny_ready (rs:=[3,5]) (by kernel_rfl) (by simp) ?_;refine AllReady.cons rfl (λK a=>?_) (AllReady.cons rfl (λK a=>?_) AllReady.nil)
      ·go_simp;refine a _ _ ?_;clear a;refine wpAny_ready (rs:=[5]) (by kernel_rfl) (by simp) ?_;refine AllReady.cons rfl (λK a=>?_) AllReady.nil;go_simp;refine a _ _ ?_;clear a;refine wpAny_ready (rs:=[6]) (by kernel_rfl) (by simp) ?_;refine AllReady.cons rfl (λK a=>?_) AllReady.nil;go_simp;rw[k.out];refine a _ _ ?_;clear a;exact cast (by kernel_rfl) (l () trivial)
      go_simp;refine a _ _ ?_;clear a;refine wpAny_ready (rs:=[3,6]) (by kernel_rfl) (by simp) ?_;refine AllReady.cons rfl (λK a=>?_) (AllReady.cons rfl (λK a=>?_) AllReady.nil)
      ·go_simp;refine a _ _ ?_;clear a;refine wpAny_ready (rs:=[6]) (by kernel_rfl) (by simp) ?_;refine AllReady.cons rfl (λK a=>?_) AllReady.nil;go_simp;rw[k.out];refine a _ _ ?_;clear a;exact cast (by kernel_rfl) (l () trivial)
      go_simp;rw[k.out];refine a _ _ ?_;clear a;refine wpAny_ready (rs:=[3]) (by kernel_rfl) (by simp) ?_;refine AllReady.cons rfl (λK a=>?_) AllReady.nil;go_simp;refine a _ _ ?_;clear a;exact cast (by kernel_rfl) (l () trivial)
     go_simp;refine a _ _ ?_;clear a;refine wpAny_ready (rs:=[3,4]) (by kernel_rfl) (by simp) ?_;refine AllReady.cons rfl (λK a=>?_) (AllReady.cons rfl (λK a=>?_) AllReady.nil)
     ·go_simp;refine a _ _ ?_;clear a;refine wpAny_ready (rs:=[4]) (by kernel_rfl) (by simp) ?_;refine AllReady.cons rfl (λK a=>?_) AllReady.nil;go_simp;refine a _ _ ?_;clear a;refine wpAny_ready (rs:=[6]) (by kernel_rfl) (by simp) ?_;refine AllReady.cons rfl (λK a=>?_) AllReady.nil;go_simp;rw[k.out];refine a _ _ ?_;clear a;exact cast (by kernel_rfl) (l () trivial)
     go_simp;refine a _ _ ?_;clear a;refine wpAny_ready (rs:=[3,6]) (by kernel_rfl) (by simp) ?_;refine AllReady.cons rfl (λK a=>?_) (AllReady.cons rfl (λK a=>?_) AllReady.nil)
     ·go_simp;refine a _ _ ?_;clear a;refine wpAny_ready (rs:=[6]) (by kernel_rfl) (by simp) ?_;refine AllReady.cons rfl (λK a=>?_) AllReady.nil;go_simp;rw[k.out];refine a _ _ ?_;clear a;exact cast (by kernel_rfl) (l () trivial)
     go_simp;rw[k.out];refine a _ _ ?_;clear a;refine wpAny_ready (rs:=[3]) (by kernel_rfl) (by simp) ?_;refine AllReady.cons rfl (λK a=>?_) AllReady.nil;go_simp;refine a _ _ ?_;clear a;exact cast (by kernel_rfl) (l () trivial)
    case tail =>
     intro _ _;simp only[List.foldl];refine wpAny_ready (rs:=[7]) (by kernel_rfl) (by simp) ?_;refine AllReady.cons rfl (λK a=>?_) AllReady.nil;go_simp;refine G.mono ?_;clear G;rintro e w5 ⟨rfl,rfl⟩;simp only[];refine a _ _ ?_;clear a;refine wpAny_ready (rs:=[8]) (by kernel_rfl) (by simp) ?_;refine AllReady.cons rfl (λK a=>?_) AllReady.nil;go_simp;refine a _ _ ?_;clear a;refine wpAny_ready (rs:=[9]) (by kernel_rfl) (by simp) ?_;refine AllReady.cons rfl (λK a=>?_) AllReady.nil;go_simp;refine a _ _ ?_;clear a;refine wpAny_done (by kernel_rfl) ?_ _;go_wp2
     go_ret2
     exact⟨E.out.trans (Below.refl _ _).drew,rfl⟩
   rw[if_pos rfl];rw[M]at B;have aa:Hid (∀V,qav V (some ⟨g,off,none⟩) bs->Calls prog 17 #[.slice (some ⟨g,off,none⟩) n d] V λe F=>∃O,e=.returned O/\Own F V.heap.size O (bs.take n)/\Below V.heap.size V F):=λV T=>by
    have hc:∀i,i<n->V.cell? ((⟨g,off,none⟩:Addr).add i)=some (.int .u8 (((bs.take n).map (λc=>(c.toNat:Int))).getD i 0)):=λi X=>by
     obtain⟨g',ap,x,_,e3⟩:=T.at_ i (by omega);injection x with x;injection x with x e4;subst x;subst e4;have e5:(⟨g,off,none⟩:Addr).add i=⟨g,off+i,none⟩:=by by_cases h:i=0<;>simp[Addr.add,h]
     rw[e5,e3];simp[List.getD_eq_getElem?_getD,List.getElem?_map,X,List.getElem?_eq_getElem (show i<bs.length by omega)]
    refine(Tryz.bytes_Clone_at ⟨g,off,none⟩ n d ((bs.take n).map (λc=>(c.toNat:Int))) V (by simp;omega) (by omega) hc).mono ?_;rintro e F ⟨O,rfl,ho,_,hB⟩;refine⟨O,rfl,⟨?_,hB.size,?_⟩,hB⟩
    ·have e6:((bs.take n).map (λc=>(c.toNat:Int))).map (Value.int .u8)=(bs.take n).map qax:=by rw[List.map_map];rfl
     have e7:(bs.take n).length=n:=by rw[List.length_take];omega
     rw[e6]at ho;rw[e7];exact ho
    rcases ho.2 with⟨S,_⟩|⟨g',cp,ak,S,_⟩
    ·exact⟨_,_,_,S⟩
    exact⟨_,_,_,S⟩
   clear M;go_enter func7,ntmps7
   go_wp2_with(first
    |(go_at_call 12;refine(o _).mono ?_;clear o;rintro e P ⟨rfl,rfl⟩)
    |(go_at_call 13;refine r.mono ?_;clear r;rintro e f ⟨rfl,m⟩))
   have I:f.cell? ⟨W.heap.size,0,none⟩=some (.int .i64 b):=(m.cell (p:=⟨W.heap.size,0,none⟩) u.out.lt).trans z;have J:f.cell? ⟨W.heap.size+1,0,none⟩=some (.slice (some ⟨g,off,none⟩) bs.length d):=(m.cell (p:=⟨W.heap.size+1,0,none⟩) v.out.lt).trans A;have E:Hid (Below W.heap.size W f):=q.out.trans (m.mono q.out.size);have G:=B (World.drew f) ((t.out.below m).below (Below.refl _ _).drew);have cC:=aa.out (World.drew f) ((t.out.below m).below (Below.refl _ _).drew);clear z A m q t u v B aa;refine wp_region_any (by kernel_rfl) ?_;change wpAny _ _ _ _ _ _ _ (World.drew f);have ac:(World.drew f).cell? ⟨W.heap.size,0,none⟩=some (.int .i64 b):=I;have ad:(World.drew f).cell? ⟨W.heap.size+1,0,none⟩=some (.slice (some ⟨g,off,none⟩) bs.length d):=J;refine qiO (β:=Unit) #[true,true,true,true,true,true,true,false,false,false] 3 (λ_=>[(23,.int .i64 0),(24,.bool false),(25,.bool false),(26,.int .i64 b),(27,.slice (some ⟨g,off,none⟩) bs.length d),(28,.int .i64 n),(29,.slice D (bs.length-n) (d-n))]) (λ_=>True) (λ_=>World.drew f) (λl=>?reg) ?tail
   case reg =>
    refine wpAny_ready (rs:=[0]) (by kernel_rfl) (by simp) ?_;refine AllReady.cons rfl (λK a=>?_) AllReady.nil;go_simp;refine a _ _ ?_;clear a;refine wpAny_ready (rs:=[1]) (by kernel_rfl) (by simp) ?_;refine AllReady.cons rfl (λK a=>?_) AllReady.nil;go_simp;refine a _ _ ?_;clear a;refine wpAny_ready (rs:=[2]) (by kernel_rfl) (by simp) ?_;refine AllReady.cons rfl (λK a=>?_) AllReady.nil;go_simp;refine a _ _ ?_;clear a;refine wpAny_ready (rs:=[3,4,5]) (by kernel_rfl) (by simp) ?_;refine AllReady.cons rfl (λK a=>?_) (AllReady.cons rfl (λK a=>?_) (AllReady.cons rfl (λK a=>?_) AllReady.nil))
    ·go_simp;refine a _ _ ?_;clear a;refine wpAny_ready (rs:=[4,5]) (by kernel_rfl) (by simp) ?_;refine AllReady.cons rfl (λK a=>?_) (AllReady.cons rfl (λK a=>?_) AllReady.nil)
     ·go_simp;refine a _ _ ?_;clear a;refine wpAny_ready (rs:=[5]) (by kernel_rfl) (by simp) ?_;refine AllReady.cons rfl (λK a=>?_) AllReady.nil;go_simp;refine a _ _ ?_;clear a;refine wpAny_ready (rs:=[6]) (by kernel_rfl) (by simp) ?_;refine AllReady.cons rfl (λK a=>?_) AllReady.nil;go_simp;rw[k.out];refine a _ _ ?_;clear a;exact cast (by kernel_rfl) (l () trivial)
     go_simp;refine a _ _ ?_;clear a;refine wpAny_ready (rs:=[4]) (by kernel_rfl) (by simp) ?_;refine AllReady.cons rfl (λK a=>?_) AllReady.nil;go_simp;refine a _ _ ?_;clear a;refine wpAny_ready (rs:=[6]) (by kernel_rfl) (by simp) ?_;refine AllReady.cons rfl (λK a=>?_) AllReady.nil;go_simp;rw[k.out];refine a _ _ ?_;clear a;exact cast (by kernel_rfl) (l () trivial)
    ·go_simp;refine a _ _ ?_;clear a;refine wpAny_ready (rs:=[3,5]) (by kernel_rfl) (by simp) ?_;refine AllReady.cons rfl (λK a=>?_) (AllReady.cons rfl (λK a=>?_) AllReady.nil)
     ·go_simp;refine a _ _ ?_;clear a;refine wpAny_ready (rs:=[5]) (by kernel_rfl) (by simp) ?_;refine AllReady.cons rfl (λK a=>?_) AllReady.nil;go_simp;refine a _ _ ?_;clear a;refine wpAny_ready (rs:=[6]) (by kernel_rfl) (by simp) ?_;refine AllReady.cons rfl (λK a=>?_) AllReady.nil;go_simp;rw[k.out];refine a _ _ ?_;clear a;exact cast (by kernel_rfl) (l () trivial)
     go_simp;refine a _ _ ?_;clear a;refine wpAny_ready (rs:=[3,6]) (by kernel_rfl) (by simp) ?_;refine AllReady.cons rfl (λK a=>?_) (AllReady.cons rfl (λK a=>?_) AllReady.nil)
     ·go_simp;refine a _ _ ?_;clear a;refine wpAny_ready (rs:=[6]) (by kernel_rfl) (by simp) ?_;refine AllReady.cons rfl (λK a=>?_) AllReady.nil;go_simp;rw[k.out];refine a _ _ ?_;clear a;exact cast (by kernel_rfl) (l () trivial)
     go_simp;rw[k.out];refine a _ _ ?_;clear a;refine wpAny_ready (rs:=[3]) (by kernel_rfl) (by simp) ?_;refine AllReady.cons rfl (λK a=>?_) AllReady.nil;go_simp;refine a _ _ ?_;clear a;exact cast (by kernel_rfl) (l () trivial)
    go_simp;refine a _ _ ?_;clear a;refine wpAny_ready (rs:=[3,4]) (by kernel_rfl) (by simp) ?_;refine AllReady.cons rfl (λK a=>?_) (AllReady.cons rfl (λK a=>?_) AllReady.nil)
    ·go_simp;refine a _ _ ?_;clear a;refine wpAny_ready (rs:=[4]) (by kernel_rfl) (by simp) ?_;refine AllReady.cons rfl (λK a=>?_) AllReady.nil;go_simp;refine a _ _ ?_;clear a;refine wpAny_ready (rs:=[6]) (by kernel_rfl) (by simp) ?_;refine AllReady.cons rfl (λK a=>?_) AllReady.nil;go_simp;rw[k.out];refine a _ _ ?_;clear a;exact cast (by kernel_rfl) (l () trivial)
    go_simp;refine a _ _ ?_;clear a;refine wpAny_ready (rs:=[3,6]) (by kernel_rfl) (by simp) ?_;refine AllReady.cons rfl (λK a=>?_) (AllReady.cons rfl (λK a=>?_) AllReady.nil)
    ·go_simp;refine a _ _ ?_;clear a;refine wpAny_ready (rs:=[6]) (by kernel_rfl) (by simp) ?_;refine AllReady.cons rfl (λK a=>?_) AllReady.nil;go_simp;rw[k.out];refine a _ _ ?_;clear a;exact cast (by kernel_rfl) (l () trivial)
    go_simp;rw[k.out];refine a _ _ ?_;clear a;refine wpAny_ready (rs:=[3]) (by kernel_rfl) (by simp) ?_;refine AllReady.cons rfl (λK a=>?_) AllReady.nil;go_simp;refine a _ _ ?_;clear a;exact cast (by kernel_rfl) (l () trivial)
   case tail =>
    intro _ _;simp only[List.foldl];refine wpAny_ready (rs:=[7]) (by kernel_rfl) (by simp) ?_;refine AllReady.cons rfl (λK a=>?_) AllReady.nil;go_simp;refine G.mono ?_;clear G;rintro e w5 ⟨rfl,rfl⟩;simp only[];refine a _ _ ?_;clear a;refine wpAny_ready (rs:=[8]) (by kernel_rfl) (by simp) ?_;refine AllReady.cons rfl (λK a=>?_) AllReady.nil;go_simp;refine a _ _ ?_;clear a;refine wpAny_ready (rs:=[9]) (by kernel_rfl) (by simp) ?_;refine AllReady.cons rfl (λK a=>?_) AllReady.nil;go_simp;refine a _ _ ?_;clear a;refine wpAny_done (by kernel_rfl) ?_ _
    go_wp2_with(first
     |(go_at_call 17;refine cC.mono ?_;clear cC;rintro e w6 ⟨v6,rfl,af,ae⟩;obtain⟨o6,s6,a6,n6,c6,rfl⟩:=af))
    go_ret2
    exact⟨(E.out.trans (Below.refl _ _).drew).trans (ae.mono E.out.size),_,rfl,Own.mono ⟨o6,s6,_,_,_,rfl⟩ E.out.size⟩
 have e:qsi b bs=.error 7:=by unfold qsi;rw[if_neg (λH=>N H.2)]
 have aj:(65536:Int)<bs.length:=by omega
 rw[e];rw[s]at o;clear e s N;go_enter func7,ntmps7
 go_wp2_with(first
  |(go_at_call 12;refine(o _).mono ?_;clear o;rintro e P ⟨rfl,rfl⟩))
 go_ret2
 exact⟨q.out,rfl⟩

end
end Go.Proofs.YtpifimohecagoaaGreatDoor
