import Derived.Test.YtcokgepdckkjdaaGreatDoorRq31
import Derived.Test.YtcokgepdckkjdaaGreatDoorRq30
import Derived.Test.YtcokgepdckkjdaaGreatDoorRq26
set_option maxRecDepth 100000
set_option maxHeartbeats 8000000
namespace Go.Proofs.YtcokgepdckkjdaaGreatDoor
open Go.Proofs.Tryz
variable {rs:List (List (Nat×List UInt8)×Int×Int)}{st:Nat->Nat}{tk:Nat->Nat->Nat}{V V' W W0:World}{A N f mn n size tb:Nat}{q:Aut}{sv v:Value}{F G:Nat->Prop}{xs:List Value}{sts:List ((Nat->Nat)×Int×Int)}{cs:Array Value}{fr:Nat×Nat}{mf nf:Lit->Option Nat}{p:List (List UInt8×Bool)}
section
open Go.RowKit
structure qx1 (W:World)(rs:List (List (Nat×List UInt8)×Int×Int))(dflt:Int)(A:Nat)(q:Aut)(sts:List ((Nat->Nat)×Int×Int))(sa:Option Addr)(sc:Nat)(nf:Lit->Option Nat)(mf:Lit->Option Nat)(W':World):Prop where
 au:qcj W A q sts (.slice sa sts.length sc) nf 0 mf W'
 ers:q.rs=rs
 edf:q.dflt=dflt
 elf:q.lf=fnL (qcl rs)
 eL:q.L=2+(qcl rs).length
 ly:LyD rs (qcl rs) q.st q.tk
 mv:qtn q sts mf
 few:sts.length<=1
 first:∃t Y,sts[0]? = some t/\WdY rs.length q.st (one rs.length) Y/\∀r,r<16->t.1 r=Y r
def qs7 (W:World)(rs:List (List (Nat×List UInt8)×Int×Int))(dflt:Int)(e:Ending)(W':World):Prop :=
 ∃A q sts sa sc nf mf,e=.returned (.pointer (some ⟨A,0,none⟩))/\qx1 W rs dflt A q sts sa sc nf mf W'
def w3M (W:World):World:=((W.alloc (.map #[] 0)).alloc (.map #[] 0)).alloc (.map #[] 0)
theorem qit (W:World):(w3M W).heap.size=W.heap.size+3:=by simp[w3M]
theorem qxD (W:World)(a:TypeId)(b:Nat)(e:W.heap.size<=b)(f:b<W.heap.size+3):qcW (w3M W) a b 0 (fun _=>none):=by
 have c:(W.alloc (.map #[] 0)).heap.size=W.heap.size+1:=by simp
 have d:((W.alloc (.map #[] 0)).alloc (.map #[] 0)).heap.size=W.heap.size+2:=by simp
 rcases(by omega:b=W.heap.size\/b=W.heap.size+1\/b=W.heap.size+2) with rfl|rfl|rfl
 ·exact((qkF W a).kept (World.grownBy_alloc _ _ none) (by simp)).kept (World.grownBy_alloc _ _ none) (by simp)
 ·have h:=(qkF (W.alloc (.map #[] 0)) a).kept (World.grownBy_alloc _ (.map #[] 0) none) (by simp);rw[c] at h;exact h
 have h:=qkF ((W.alloc (.map #[] 0)).alloc (.map #[] 0)) a;rw[d] at h;exact h
theorem qwM (W:World)(b:Nat)(d:W.heap.size<=b)(e:b<W.heap.size+3):ImK (w3M W) b []:=by
 have a:(W.alloc (.map #[] 0)).heap.size=W.heap.size+1:=by simp
 have c:((W.alloc (.map #[] 0)).alloc (.map #[] 0)).heap.size=W.heap.size+2:=by simp
 rcases(by omega:b=W.heap.size\/b=W.heap.size+1\/b=W.heap.size+2) with rfl|rfl|rfl
 ·exact((qh8 W).kept (World.grownBy_alloc _ _ none) (by simp)).kept (World.grownBy_alloc _ _ none) (by simp)
 ·have h:=(qh8 (W.alloc (.map #[] 0))).kept (World.grownBy_alloc _ (.map #[] 0) none) (by simp);rw[a] at h;exact h
 have h:=qh8 ((W.alloc (.map #[] 0)).alloc (.map #[] 0));rw[c] at h;exact h
def q0 (ra:Option Addr)(rc:Nat)(rs:List (List (Nat×List UInt8)×Int×Int))(dflt:Int)(lm nb mb:Nat):Aut :=
 {ra:=ra,rc:=rc,rs:=rs,dflt:=dflt,lm:=lm,ln:=0,lf:=fun _=>none,st:=fun _=>0,tb:=0,L:=0,tc:=0,tk:=fun _ _=>0,nb:=nb,mb:=mb}
def q1 (ra:Option Addr)(rc:Nat)(rs:List (List (Nat×List UInt8)×Int×Int))(dflt:Int)(lm nb mb:Nat)(st:Nat->Nat)(tb:Nat)(tk:Nat->Nat->Nat):Aut :=
 {ra:=ra,rc:=rc,rs:=rs,dflt:=dflt,lm:=lm,ln:=(qcl rs).length,lf:=fnL (qcl rs),st:=st,tb:=tb,L:=2+(qcl rs).length,tc:=2+(qcl rs).length,tk:=tk,nb:=nb,mb:=mb}
theorem LyD.lt {ks:List (List UInt8)}(h:LyD rs ks st tk)(b:∀i (h:i<rs.length),rs[i].1.length<=8):(∀r,st r<256)/\∀x r,tk x r<256 :=
 ⟨fun r=>qrl fun p a=>by rw[h.s,qlO b r p a],fun x r=>qrl fun p a=>by rw[h.t,qlO b r p a]⟩
theorem qtj {V0 V1 V2 V3:World}{ra:Option Addr}{rc:Nat}{dflt:Int}{lm nb mb:Nat}(H:qdW W ra rs)(G:rs.length<=16)(r:∀i (h:i<rs.length),rs[i].1.length<=8)(N:A=W.heap.size+3)(q:W.heap.size<=lm/\lm<W.heap.size+3)(d:W.heap.size<=nb/\nb<W.heap.size+3)(e:W.heap.size<=mb/\mb<W.heap.size+3)(o:lm≠nb)(p:lm≠mb)(y:nb≠mb)(f:V0=(w3M W).alloc (.cells (qhM (q0 ra rc rs dflt lm nb mb) (fun _=>0) (.slice none 0 0) (.slice none 0 0)) 133))(c:qqj V0 lm (qcl rs) V1)(Q:V1.heap.size<=tb)(C:qci V1 A tb (2+(qcl rs).length) (q0 ra rc rs dflt lm nb mb) (.slice none 0 0) st tk V2)(B:LyD rs (qcl rs) st tk)(z:Below V2.heap.size V2 V3):qcj W A (q1 ra rc rs dflt lm nb mb st tb tk) [] (.slice none 0 0) (fun _=>none) 0 (fun _=>none) V3:=by
 have O:V0.heap.size=W.heap.size+4:=by rw[f,World.size_alloc,qit]
 have P:=c.but.size;have a:=C.next z
 have t:Below W.heap.size W V0:=by
  rw[f];exact(((bwA).alloc (by simp) _).alloc (by simp;omega) _).alloc (by simp;omega) _
 have u:=c.but.low t q.1;have v:=a.low u (by omega);have E:(w3M W).grownBy V0 none:=by rw[f];exact World.grownBy_alloc _ _ none
 have F:V0.grownBy V1 (some lm):=⟨c.but.os,c.but.tape,c.but.output,c.but.size,fun i j k=>c.but.block i j (by simpa using k)⟩
 have s:V1.grownBy V3 (some A):=⟨a.os,a.tape,a.output,a.size,fun i j k=>a.block i j (by simpa using k)⟩
 have key:∀n b,W.heap.size<=b->b<W.heap.size+3->b≠lm->qcW V3 n b 0 (fun _=>none):=fun n b I J K =>
  (((qxD W n b I J).kept E (by simp)).kept F (by simpa using K)).kept s (by simp;omega)
 obtain⟨w,L,M⟩:=a.tks;refine⟨?_,H,⟨G,r⟩,v,?_,⟨w,L,M.at_⟩,World.ownsRow_nil _ _ _ _,key _ nb d.1 d.2 o.symm,key _ mb e.1 e.2 p.symm,?_,?_,?_,B.lt r,?_,?_,fun l i h=>by cases h⟩
 ·rw[qqO];exact a.row
 ·exact(c.names.kept s (by simp;omega)).im
 ·exact⟨by omega,q.1,show W.heap.size<=tb by omega,d.1,e.1⟩
 ·refine⟨show A≠lm by omega,show A≠tb by omega,show A≠nb by omega,show A≠mb by omega,show lm≠tb by omega,o,p,show tb≠nb by omega,show tb≠mb by omega,y⟩
 ·intro g D;cases D
 ·intro i x m;simp at m
 intro i x m;simp at m

theorem qvg {L:Nat}(h:qci W A tb L q sv st tk V):AuR V A q.ra q.rc q.rs.length st :=
 ⟨(ltA h.row),(cell_of_row V A 0 _ _ _ h.row).trans (qpF _ _ _ _),fun r a=>(h.cs r a).1⟩
theorem qtJ (e:Option Addr)(f:Nat)(rs:List (List (Nat×List UInt8)×Int×Int))(a:Int)(b d c:Nat):qhM (q0 e f rs a b d c) (fun _=>0) (.slice none 0 0) (.slice none 0 0)=#[.slice e rs.length f,.int .i64 a,.map (some b),.int .u16 0,.int .u16 0,.int .u16 0,.int .u16 0,.int .u16 0,.int .u16 0,.int .u16 0,.int .u16 0,.int .u16 0,.int .u16 0,.int .u16 0,.int .u16 0,.int .u16 0,.int .u16 0,.int .u16 0,.int .u16 0,.slice none 0 0,.slice none 0 0,.map (some d),.map (some c)]:=by kernel_rfl
theorem qxr (V:World):(Instr.makeMap 124 none).run prog V=.ok (.map (some V.heap.size)) (V.alloc (.map #[] 0)):=by kernel_rfl
theorem qxb (V:World):(Instr.makeMap 125 none).run prog V=.ok (.map (some V.heap.size)) (V.alloc (.map #[] 0)):=by kernel_rfl
theorem qwP (V:World):(Instr.makeMap 126 none).run prog V=.ok (.map (some V.heap.size)) (V.alloc (.map #[] 0)):=by kernel_rfl
theorem qkC (W:World)(b:Option Addr)(d:Nat)(rs:List (List (Nat×List UInt8)×Int×Int))(c:Int)(hr:qdW W b rs)(n:rs.length<=16)(U:∀i (h:i<rs.length),rs[i].1.length<=8)(aa:∀i (h:i<rs.length) j (o:j<rs[i].1.length),rs[i].1[j].1<=3/\rs[i].1[j].2.length<=1000000000):Calls prog 36 #[.slice b rs.length d,.int .i64 c] W (qs7 W rs c):=by
 have q:=qaa hr;have g:=qaa U;have u:=qaa aa;have m1:=qxr;have m2:=qxb;have m3:=qwP;have I:Hid (∃a,a=((((W.alloc (.map #[] 0)).alloc (.map #[] 0)).alloc (.map #[] 0)).alloc (.cells #[.slice b rs.length d,.int .i64 c,.map (some W.heap.size),.int .u16 0,.int .u16 0,.int .u16 0,.int .u16 0,.int .u16 0,.int .u16 0,.int .u16 0,.int .u16 0,.int .u16 0,.int .u16 0,.int .u16 0,.int .u16 0,.int .u16 0,.int .u16 0,.int .u16 0,.int .u16 0,.slice none 0 0,.slice none 0 0,.map (some (W.heap.size+1)),.map (some (W.heap.size+1+1))] 133))/\a=(w3M W).alloc (.cells (qhM (q0 b d rs c W.heap.size (W.heap.size+1) (W.heap.size+1+1)) (fun _=>0) (.slice none 0 0) (.slice none 0 0)) 133)):=⟨_,rfl,by rw[qtJ];rfl⟩
 obtain⟨a,f,k⟩:=I.out;have m:=qaa k;have v:Hid (a.heap.size=W.heap.size+4):=by show _=_;rw[m.out,World.size_alloc,qit]
 have s:Hid (Below W.heap.size W a):=by
  show Below _ _ _;rw[m.out];exact(((bwA).alloc (by simp) _).alloc (by simp;omega) _).alloc (by simp;omega) _
 have r:Hid (a.heap[W.heap.size+3]? = some (.cells (qhM (q0 b d rs c W.heap.size (W.heap.size+1) (W.heap.size+1+1)) (fun _=>0) (.slice none 0 0) (.slice none 0 0)) 133)):=by
  show _=_;rw[m.out];have:=qac (w3M W) (.cells (qhM (q0 b d rs c W.heap.size (W.heap.size+1) (W.heap.size+1+1)) (fun _=>0) (.slice none 0 0) (.slice none 0 0)) 133);rw[qit] at this;exact this
 have G:Hid (ImK a W.heap.size []):=by
  show ImK _ _ _;rw[m.out];exact(qwM W W.heap.size (Nat.le_refl _) (by omega)).kept (World.grownBy_alloc _ _ none) (by simp)
 have P:=qfV W a (W.heap.size+1+1+1) W.heap.size b d rs s.out (by have:=v.out;omega) (by omega) (Nat.le_refl _) n g.out (fun i h j o=>(u.out i h j o).2) ((cell_of_row a _ 0 _ _ _ r.out).trans (qpF _ _ _ _)) ((cell_of_row a _ 2 _ _ _ r.out).trans (qnN _ _ _ _)) q.out G.out;go_enter func36,ntmps36
 go_wp2_with (fail)
 rw[<-f];refine P.mono ?_;rintro e K ⟨rfl,p⟩;have F:=qaa p;have X:=p.but.low s.out (Nat.le_refl _);have ab:=(p.but.block (W.heap.size+3) (by have:=v.out;omega) (by omega)).trans r.out;have O:=qgm W K (W.heap.size+1+1+1) (q0 b d rs c W.heap.size (W.heap.size+1) (W.heap.size+1+1)) (.slice none 0 0) (qcl rs) X ab (by omega) n g.out u.out q.out p.names (ql4 n g.out) (fun i h j o T=>qjl h o T) (by show W.heap.size+1+1+1≠W.heap.size;omega)
 go_wp2_with (fail)
 refine O.mono ?_;rintro e L ⟨rfl,tb,st,tk,ac,y,w⟩;have E:=qaa y;have H:=qaa ac;have t:Hid (LyD rs (qcl rs) st tk):=w;have Q:=qok L (W.heap.size+1+1+1) b d rs.length st (w.lt g.out).1 n (qvg y)
 go_wp2_with (fail)
 refine Q.mono ?_;rintro e M ⟨⟨Y,rfl,z⟩,Z⟩;have J:=qaa z;have l:=qtj q.out n g.out (A:=W.heap.size+1+1+1) rfl ⟨Nat.le_refl _,by omega⟩ ⟨by omega,by omega⟩ ⟨by omega,by omega⟩ (by omega) (by omega) (by omega) m.out F.out H.out E.out t.out Z;have R:=qgn W _ _ [] none 0 _ 0 _ M l Y z.2.2 (by simp)
 go_wp2_with (fail)
 refine R.mono ?_;rintro e N ⟨i,ae,sa,sc,nf,rfl,_,_,V,_,B,x,C,ad⟩;have D:Hid (qs7 W rs c (.returned (.pointer (some ⟨W.heap.size+1+1+1,0,none⟩))) N):=by
  refine⟨_,_,_,_,_,_,_,rfl,⟨V,rfl,rfl,rfl,rfl,t.out,?_,by simpa using B,x,Y,?_,J.out,ad⟩⟩
  ·intro af x ah ag _ h;cases h
  have:i<ae.length:=ltL C;have S:i=0:=by simp at B;omega
  rw[<-S];exact C
 go_wp2;go_ret;exact D.out

end
section
open Go.RowKit Go.Lib
structure Rv where
 rs:List (List (Nat×List UInt8)×Int×Int)
 dflt:Int
 m:Nat->Nat->Bool
 clr:Nat
 key:Int
abbrev Rep:=Nat×Nat×Nat×Nat
def rwL (f:DataW Unit->Rep->Option (DataW Unit)×Rep)(ds:List (DataW Unit))(R:Rep):List (DataW Unit)×Rep :=
 ds.foldl (fun a d=>(a.1++(f d a.2).1.toList,(f d a.2).2)) ([],R)
def rwE (f:List UInt8->DataW Unit->Rep->Option (DataW Unit)×Rep)(es:List (Lit×DataW Unit))(R:Rep):List (Lit×DataW Unit)×Rep :=
 es.foldl (fun a e=>(a.1++((f (qb7 e.1) e.2 a.2).1.map fun d=>(e.1,d)).toList,(f (qb7 e.1) e.2 a.2).2)) ([],R)
def shF (rw:List (List UInt8×Bool)->DataW Unit->Rep->Option (DataW Unit)×Rep)(p:List (List UInt8×Bool))(d:DataW Unit)(R:Rep):DataW Unit×Rep :=
 match d with
 |.agg ds=>(.agg (rwL (rw (([],true)::p)) ds R).1,(rwL (rw (([],true)::p)) ds R).2)
 |.map es=>(.map (rwE (fun key=>rw ((key,false)::p)) es R).1,(rwE (fun key=>rw ((key,false)::p)) es R).2)
 |d=>(d,R)
def rwF (c:Rv):Nat->List (List UInt8×Bool)->DataW Unit->Rep->Option (DataW Unit)×Rep
 |0,_,_,R=>(none,R)
 |k+1,p,d,R =>
  if c.m (lbF c.dflt c.rs p.reverse).1.toNat c.clr=true then (some (shF (rwF c k) p d (R.1+1,R.2)).1,(shF (rwF c k) p d (R.1+1,R.2)).2)
  else if (lbF c.dflt c.rs p.reverse).2=2 then (some (.lit (.string [42,42,42])),(R.1,R.2.1,R.2.2.1+1,R.2.2.2))
  else if (lbF c.dflt c.rs p.reverse).2=3 then (some (.lit (.string (qs5 c.key (lbF c.dflt c.rs p.reverse).1.toNat (qaU (k+1) d)))),(R.1,R.2.1,R.2.2.1,R.2.2.2+1))
  else (none,(R.1,R.2.1+1,R.2.2.1,R.2.2.2))
def ndF:Nat->DataW Unit->Nat
 |0,_=>0
 |k+1,d=>match d with
  |.agg ds=>2+(ds.map fun d=>1+ndF k d).sum
  |.map es=>1+(es.map fun e=>2+ndF k e.2).sum
  |_=>1
structure Rc where
 v:Rv
 W0:World
 A:Nat
 q:Aut
 B:Nat
 O:Array Value
 n:Nat
 G:World
 own0:Option Nat
def rwC (c:Rc)(R:Rep):Array Value:=c.O++#[.int .i64 c.v.clr,.int .i64 c.v.key,.pointer (some ⟨c.A,0,none⟩),.int .i64 R.1,.int .i64 R.2.1,.int .i64 R.2.2.1,.int .i64 R.2.2.2]
structure qkl (c:Rc):Prop where
 ers:c.q.rs=c.v.rs
 edf:c.q.dflt=c.v.dflt
 elf:c.q.lf=fnL (qcl c.v.rs)
 eL:c.q.L=2+(qcl c.v.rs).length
 ly:LyD c.v.rs (qcl c.v.rs) c.q.st c.q.tk
 hn:c.v.rs.length<=16
 h8:∀i (h:i<c.v.rs.length),c.v.rs[i].1.length<=8
 hk:∀i (h:i<c.v.rs.length) j (h2:j<c.v.rs[i].1.length),c.v.rs[i].1[j].1<=3/\c.v.rs[i].1[j].2.length<=1000000000
 ord:qjo c.O c.n c.v.m
 n6:c.n<=6
 clr:c.v.clr<c.n
 lab:∀p,∃l:Nat,(lbF c.v.dflt c.v.rs p).1=l/\l<c.n
 hB:c.W0.heap.size<=c.B
 hG:c.G.heap.size<=c.B
 tab:c.W0.cell? ⟨8,15,none⟩=some (.int .u8 4)
structure KpR (W V:World):Prop where
 size:W.heap.size<=V.heap.size
 row:∀(k:Nat) (cs:Array Value) (t:TypeId) (fr:Nat×Nat),W.heap[k]? = some (.cells cs t fr)->t≠133->t≠175->t≠183->V.heap[k]? = some (.cells cs t fr)
theorem KpR.refl (W:World):KpR W W:=⟨Nat.le_refl _,fun _ _ _ _ h _ _ _=>h⟩
theorem KpR.trans {X:World}(h:KpR W V)(g:KpR V X):KpR W X:=⟨Nat.le_trans h.size g.size,fun k cs t e a b c d=>g.row k cs t e (h.row k cs t e a b c d) b c d⟩
theorem KpR.of_below (h:Below W.heap.size W V):KpR W V:=⟨h.size,fun k _ _ _ a _ _ _=>(h.block k (ltA a)).trans a⟩
theorem KpR.at_ {R:Option Nat}(j:W.heap.size<=V.heap.size)(g:∀k,k<W.heap.size->some k≠R->V.heap[k]? = W.heap[k]?)(i:∀k,R=some k->∀cs t f,W.heap[k]? = some (.cells cs t f)->t=133\/t=175\/t=183):KpR W V:=by
 refine⟨j,fun k cs t f a b c d => ?_⟩;by_cases e:some k=R
 ·rcases i k e.symm cs t f a with h|h|h
  ·exact absurd h b
  ·exact absurd h c
  exact absurd h d
 exact(g k (ltA a) e).trans a
theorem qb1.kept {t:TypeId}(h:qb1 V t size F v n xs)(m:∀k,F k->G k)(q:KpR V V')(i:t≠133)(j:t≠175)(l:t≠183):qb1 V' t size G v n xs:=by
 obtain⟨b,a⟩:=h;refine⟨b,?_⟩;rcases a with a|⟨g,d,f,e,o,p,c⟩
 ·exact .inl a
 exact .inr ⟨g,d,f,e,m g o,q.row _ _ _ _ p i j l,c⟩
theorem qai.kept (a:∀k,F k->G k)(b:KpR V V'):∀{k:Nat} {v:Value} {d:DataW Unit},qai k V F v d->qai k V' G v d
 |0,_,_,h=>h
 |k+1,v,d,h=>by
  unfold qai at h ⊢;split at h
  ·exact h
  ·exact h
  ·exact h
  ·exact h
  ·obtain⟨u,e,c⟩:=h;exact⟨u,e,c.kept a b (by decide) (by decide) (by decide)⟩
  ·obtain⟨u,j,e,c,g⟩:=h;exact⟨u,j,e,c.kept a b (by decide) (by decide) (by decide),fun i x d f q=>qai.kept a b (g i x d f q)⟩
  ·obtain⟨u,j,e,c,g⟩:=h;refine⟨u,j,e,c.kept a b (by decide) (by decide) (by decide),fun i key d f => ?_⟩;obtain⟨l,x,m,n,o,p⟩:=g i key d f;exact⟨l,x,m,n,o,qai.kept a b p⟩
  exact h
structure qcy (c:Rc)(R:Rep)(N:Nat)(sts:List ((Nat->Nat)×Int×Int))(V:World):Prop where
 box:V.heap[c.B]? = some (.cells (rwC c R) 183)
 here:∃sa sc nf mn mf,qcj c.W0 c.A c.q sts (.slice sa sts.length sc) nf mn mf V/\qtn c.q sts mf/\mn<=N/\sts.length<=N+1/\((Value.slice sa sts.length sc).ownBlock=c.own0\/∃g,(Value.slice sa sts.length sc).ownBlock=some g/\c.G.heap.size<=g)
 fr:c.G.heap.size<=V.heap.size/\∀k,k<c.G.heap.size->k≠c.A->k≠c.q.nb->k≠c.q.mb->some k≠c.own0->V.heap[k]? = c.G.heap[k]?
 few:R.1+R.2.1+R.2.2.1+R.2.2.2<=N
theorem qcy.more {c:Rc}{R:Rep}{M:Nat}(h:qcy c R N sts V)(e:N<=M):qcy c R M sts V:=by
 obtain⟨j,k,i,g,f,a,b,l,m,d⟩:=h.here;exact⟨h.box,⟨j,k,i,g,f,a,b,by omega,by omega,d⟩,h.fr,Nat.le_trans h.few e⟩
theorem qcy.step {c:Rc}{R:Rep}(h:qcy c R N sts V)(f:Below V.heap.size V V'):qcy c R N sts V':=by
 obtain⟨n,o,m,l,j,g,i⟩:=h.here;exact⟨(f.block _ (ltA h.box)).trans h.box,⟨n,o,m,l,j,g.next f,i⟩,⟨Nat.le_trans h.fr.1 f.size,fun k a b c d e=>(f.block k (Nat.lt_of_lt_of_le a h.fr.1)).trans (h.fr.2 k a b c d e)⟩,h.few⟩
theorem qcy.below {c:Rc}{R:Rep}(h:qcy c R N sts V):Below c.W0.heap.size c.W0 V:=by
 obtain⟨g,i,f,e,d,a,b⟩:=h.here;exact a.below
theorem qaD {kt:TypeId}{m:Nat}{f:Lit->Option Nat}(h:qcW W kt m n f){t:TypeId}(b:W.heap[m]? = some (.cells cs t fr)):False:=by
 obtain⟨D,⟨d,c,a,_⟩,_⟩:=h;rw[b] at a;cases a
theorem qf0 {base:Nat}{e:TypeId}(i:W.ownsRow base e size v n xs){g:Nat}(h:v.ownBlock=some g){t:TypeId}(a:W.heap[g]? = some (.cells cs t fr)):t=e:=by
 rcases i.2 with ⟨b,_⟩|⟨c,j,k,b,_,f,_⟩
 ·rw[b] at h;cases h
 rw[b] at h;injection h with h;have d:c=g:=h;rw[<-d,f] at a;injection a with a;injection a with _ a _;exact a.symm
theorem qwV (h:qcj W0 A q sts sv nf mn mf W)(f:qlG A q sv W V):KpR W V:=by
 refine⟨f.size,fun k cs t g a b c d => ?_⟩;refine(f.block k (ltA a) (fun e => ?_) (fun e => ?_) (fun e => ?_) (fun e => ?_)).trans a
 ·exact c (qf0 h.states e.symm a)
 ·subst e;have:=h.row;rw[a] at this;injection this with this;injection this with _ this _;exact b this
 ·subst e;exact qaD h.numbers a
 subst e;exact qaD h.moves a
theorem qlx {c:Rc}(h:qkl c)(R:Rep):(rwC c R).size=44:=by simp[rwC,h.ord.size]
theorem qcj.off {W':World}{B:Nat}(h:qcj W0 A q sts sv nf mn mf W)(w:W0.heap.size<=B)(a:W.grownBy W' (some B)){t:TypeId}(c:W.heap[B]? = some (.cells cs t fr))(k:t≠133)(l:t≠175)(m:t≠129):qcj W0 A q sts sv nf mn mf W':=by
 obtain⟨f,b,v⟩:=h.takes;have n:A≠B:=by
  rintro rfl;have:=h.row;rw[c] at this;injection this with this;injection this with _ this _;exact k this
 have o:q.tb≠B:=by
  rintro e;rw[e] at b;rw[c] at b;injection b with b;injection b with _ b _;exact m b
 have p:q.lm≠B:=fun e=>qaD h.letters (e▸c);have r:q.nb≠B:=fun e=>qaD h.numbers (e▸c);have s:q.mb≠B:=fun e=>qaD h.moves (e▸c);have u:∀g,sv.ownBlock=some g->g≠B:=fun g e j=>l (qf0 h.states e (j▸c));exact {h with
  row:=(a.block A (ltA h.row) (by simpa using n)).trans h.row
  below:=⟨a.os.trans h.below.os,a.tape.trans h.below.tape,a.output.trans h.below.output,Nat.le_trans h.below.size a.size,fun i d=>(a.block i (Nat.lt_of_lt_of_le d h.below.size) (by simp;omega)).trans (h.below.block i d)⟩
  letters:=h.letters.kept a (by simpa using p)
  takes:=⟨f,(a.block _ (ltA b) (by simpa using o)).trans b,v⟩
  states:=qdn h.states fun g e=>a.block g (qjA h.states e) (by simpa using u g e)
  numbers:=h.numbers.kept a (by simpa using r)
  moves:=h.moves.kept a (by simpa using s)}
theorem qnY (W:World)(B j:Nat)(v:Value):W.grownBy (W.setCell ⟨B,j,none⟩ v) (some B) :=
 ⟨rfl,rfl,rfl,by simp[World.setCell],fun k _ a=>heap_setCell_other _ _ _ _ (by simpa using a)⟩
theorem qcy.count {c:Rc}{R R':Rep}(h:qcy c R N sts V)(ok:qkl c)(j:Nat)(x:Nat)(o:(rwC c R).setIfInBounds j (.int .i64 x)=rwC c R')(n:R'.1+R'.2.1+R'.2.2.1+R'.2.2.2<=N+1):qcy c R' (N+1) sts (V.setCell ⟨c.B,j,none⟩ (.int .i64 x))/\KpR V (V.setCell ⟨c.B,j,none⟩ (.int .i64 x)):=by
 obtain⟨s,u,r,q,p,i,l,w,y,m⟩:=h.here;have g:=qnY V c.B j (.int .i64 x);refine⟨⟨?_,⟨s,u,r,q,p,i.off ok.hB g h.box (by decide) (by decide) (by decide),l,by omega,by omega,m⟩,⟨Nat.le_trans h.fr.1 g.size,fun k a b c d e=>(g.block k (Nat.lt_of_lt_of_le a h.fr.1) (fun e=>by have:=ok.hG;injection e with e;omega)).trans (h.fr.2 k a b c d e)⟩,n⟩,KpR.at_ (R:=some c.B) g.size g.block (fun k e cs t v f => ?_)⟩
 ·rw[heap_setCell_same V _ _ _ _ _ h.box,o]
 injection e with e;subst e;rw[h.box] at f;injection f with f;injection f with _ f _;exact .inr (.inr f.symm)
def StF (c:Rc)(sts:List ((Nat->Nat)×Int×Int))(f:Nat)(p:List (List UInt8×Bool)):Prop:=∃s,sts[f]? = some s/\PlP c.v.rs p s.1
def Pre (sts sts':List ((Nat->Nat)×Int×Int)):Prop:=∀(j:Nat) (x:(Nat->Nat)×Int×Int),sts[j]? = some x->sts'[j]? = some x
theorem StF.pre {c:Rc}{sts':List ((Nat->Nat)×Int×Int)}(h:StF c sts f p)(d:Pre sts sts'):StF c sts' f p:=by
 obtain⟨s,a,b⟩:=h;exact⟨s,d _ _ a,b⟩
theorem Pre.trans {a b d:List ((Nat->Nat)×Int×Int)}(h:Pre a b)(g:Pre b d):Pre a d:=fun j x c=>g j x (h j x c)
theorem Pre.refl (a:List ((Nat->Nat)×Int×Int)):Pre a a:=fun _ _ h=>h
def qvs (c:Rc)(R:Rep)(N:Nat)(sts:List ((Nat->Nat)×Int×Int))(p:List (List UInt8×Bool))(V:World)(e:Ending)(V':World):Prop :=
 ∃(f':Nat) (sts':List ((Nat->Nat)×Int×Int)),e=.returned (.int .i64 f')/\qcy c R (N+1) sts' V'/\KpR V V'/\Pre sts sts'/\StF c sts' f' p
theorem qcy.next {c:Rc}{R:Rep}(h:qcy c R N sts V)(ok:qkl c)(hN:N<90000)(J:StF c sts f p)(key:List UInt8)(o:Bool)(H:key.length<=maxLen):Calls prog 162 #[.pointer (some ⟨c.A,0,none⟩),.int .i64 f,.agg #[.string ⟨key.toArray⟩,.bool o]] V (qvs c R N sts ((key,o)::p) V):=by
 obtain⟨sa,sc,Y,X,U,i,D,u,h4,l⟩:=h.here;obtain⟨s,E,F⟩:=J;have af:=ql4 ok.hn ok.h8;have M:qlM c.q.lf key o<c.q.L:=by rw[ok.elf,ok.eL];exact qsQ _ _
 refine(qt2 c.W0 c.A c.q sts sa sc Y X U V i D (by omega) (by omega) f s E key o H _ rfl M (by rw[ok.eL];omega)).mono ?_;rintro e z ⟨C,ac,aa,ab,r,Z,W,rfl,O,P,k3,Q,k5,ad,ae,S,y,T,hF,m⟩;have G:=qwV i hF;have I:z.heap[c.B]? = some (.cells (rwC c R) 183):=by
  refine(hF.block c.B (ltA h.box) (fun e => ?_) (fun e => ?_) (fun e => ?_) (fun e => ?_)).trans h.box
  ·exact absurd (qf0 i.states e.symm h.box) (by decide)
  ·have:=i.row;rw[<-e,h.box] at this;injection this with this;injection this with _ this _;exact absurd this (by decide)
  ·exact qaD i.numbers (e▸h.box)
  exact qaD i.moves (e▸h.box)
 refine⟨C,ac,rfl,⟨I,⟨aa,ab,r,Z,W,O,P,by omega,by omega,?_⟩,⟨Nat.le_trans h.fr.1 hF.size,fun k a b c d e=>(hF.block k (Nat.lt_of_lt_of_le a h.fr.1) (fun n => ?_) b c d).trans (h.fr.2 k a b c d e)⟩,Nat.le_succ_of_le h.few⟩,G,Q,ad,S,?_⟩
 ·rcases m with m|⟨g,m,v⟩
  ·rw[m];exact l
  exact .inr ⟨g,m,Nat.le_trans h.fr.1 v⟩
 ·rcases l with l|⟨g,l,v⟩
  ·exact e (n.trans l)
  rw[l] at n;injection n with n;omega
 rw[ok.elf,ok.ers] at y;refine qsv (qr7 ok.ly (fun t x s K => ?_) F _ _ y) ok.hn T;obtain⟨j,w,rfl⟩:=List.getElem_of_mem K;exact⟨(ok.hk t x j w).1,fun u=>qjl x w u⟩
theorem qcy.verdict {c:Rc}{R:Rep}(h:qcy c R N sts V)(ok:qkl c)(k:StF c sts f p):Calls prog 116 #[.pointer (some ⟨c.A,0,none⟩),.int .i64 f] V fun e a=>e=.returned (.tuple #[.int .i64 (lbF c.v.dflt c.v.rs p.reverse).1,.int .i64 (lbF c.v.dflt c.v.rs p.reverse).2])/\Below V.heap.size V a:=by
 obtain⟨u,w,n,m,l,b,o,r,t,_⟩:=h.here;obtain⟨s,d,g⟩:=k;have i:=(b.here f s d).1;rw[<-List.reverse_reverse p] at g;rw[ok.edf,ok.ers,qtm g] at i;refine(qkq c.W0 c.A c.q sts _ n m l V b f s d).mono ?_;rintro e a ⟨rfl,j⟩;rw[i];exact⟨rfl,j⟩

end
end Go.Proofs.YtcokgepdckkjdaaGreatDoor
