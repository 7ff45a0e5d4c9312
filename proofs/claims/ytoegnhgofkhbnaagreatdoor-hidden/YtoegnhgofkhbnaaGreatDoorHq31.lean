import Derived.Test.YtoegnhgofkhbnaaGreatDoorHq30
set_option maxRecDepth 100000
set_option maxHeartbeats 8000000
set_option linter.all false
namespace Go.Proofs.YtoegnhgofkhbnaaGreatDoor
open Go.Proofs.Tryz
open Go.Value renaming int->A7,slice->A8,pointer->A9,string->Aa,tuple->Ab,agg->Ac
open Go.Obj renaming cells->Af
open Go.Ending renaming returned->Ag
open Go.IntKind renaming i64->Ah
open Option renaming some->Aj,none->Ak
open Go renaming World->Al,Value->Am,Calls->An
open Go.Proofs.Tryz renaming prog->Ao
variable{f:A3->AP->Option (DataW Unit)×AP}{c d e:AN}{g:Nat}{m:Bool}{es:List (Lit×DataW Unit)}{A:A4}{V W w:Al}
section
open Go.RowKit Go.Lib
theorem YX{P:A3->Prop}:∀(ds:List (DataW Unit)) (a:List (DataW Unit)×AP),(∀x∈a.1,P x)->(∀d∈ds,∀R x,(f d R).1=Aj x->P x)->∀x∈(ds.foldl (λa d=>(a.1++(f d a.2).1.toList,(f d a.2).2)) a).1,P x
 |[],a,h,_=>h
 |d::ds,a,h,H=>by
  rw[K2];refine YX ds _ (λx b=>?_) (λd c=>H d (GG _ c));rcases N0.1 b with b|b
  ·exact h x b
  exact H d (Gg ..) a.2 x (Option.mem_toList.1 b)
theorem YY{f:A2->A3->AP->Option (DataW Unit)×AP}{P:Lit×DataW Unit->Prop}:∀(es:List (Lit×DataW Unit)) (a:List (Lit×DataW Unit)×AP) (ks:List A2),(a.1.map λe=>B1 e.1).Sublist ks->(∀x∈a.1,P x)->(∀e∈es,∀R x,(f (B1 e.1) e.2 R).1=Aj x->P (e.1,x))->(((es.foldl (λa e=>(a.1++((f (B1 e.1) e.2 a.2).1.map λd=>(e.1,d)).toList,(f (B1 e.1) e.2 a.2).2)) a).1).map λe=>B1 e.1).Sublist (ks++es.map λe=>B1 e.1)/\∀x∈(es.foldl (λa e=>(a.1++((f (B1 e.1) e.2 a.2).1.map λd=>(e.1,d)).toList,(f (B1 e.1) e.2 a.2).2)) a).1,P x
 |[],a,ks,hs,h,_=>⟨by rw[GJ,IA];exact hs,h⟩
 |e::es,a,ks,hs,h,H=>by
  rw[K2];have:=YY (f:=f) (P:=P) es (a.1++((f (B1 e.1) e.2 a.2).1.map λd=>(e.1,d)).toList,(f (B1 e.1) e.2 a.2).2) (ks++[B1 e.1]) ?_ (λx b=>?_) (λd g=>H d (GG _ g))
  ·rw[CE]at this;exact this
  ·cases c:(f (B1 e.1) e.2 a.2).1 with
   |none=>simpa using hs.trans (List.sublist_append_left _ _)
   |some d=>simpa using hs.append (UA [B1 e.1])
  rcases N0.1 b with b|b
  ·exact h x b
  cases c:(f (B1 e.1) e.2 a.2).1 with
  |none=>rw[c]at b;cases b
  |some d =>
   rw[c]at b;have:x=(e.1,d):=by simpa using b
   rw[this];exact H e (Gg ..) a.2 d c
theorem pQ:∀k:Nat,k=0\/k=1\/k=2\/k=3\/k=4\/k=5->CU (1+(k:Int)) (F4 k)=true/\GW (1+k) (B5 (1+k) (F4 k))=true/\GX (1+k) (B5 (1+k) (F4 k))=true:=by
 rintro k (rfl|rfl|rfl|rfl|rfl|rfl)<;>exact⟨by kernel_rfl,by kernel_rfl,by kernel_rfl⟩
theorem pR{rules:A2}(r:BY (1+BI c.labels 6) rules = -1)(h:MD c rules d):Bl d=0:=by
 obtain⟨s,t,⟨_,h⟩|⟨rfl,_⟩⟩:=h
 ·exact h
 have u:=Fx c.labels 6 (by omega);have v:=Fx c.dflt (1+BI c.labels 6) (by omega);have w:=Fx c.clr (1+BI c.labels 6) (by omega);have n:=Fx c.inn 3 (by omega);have o:=Fx c.out 3 (by omega);have x:=Fx c.depth 16 (by omega);have y:=Fx c.bytes 4096 (by omega);unfold Qc J5;generalize BI c.labels 6=k at *;generalize BI c.dflt (1+k)=p2 at *;generalize BI c.clr (1+k)=p3 at *;generalize BI c.inn 3=p4 at *;generalize BI c.out 3=p5 at *;generalize BI c.depth 16=p6 at *;generalize BI c.bytes 4096=p7 at *;have q:k=0\/k=1\/k=2\/k=3\/k=4\/k=5:=by omega
 obtain⟨g,i,j⟩:=pQ k q;have l:=r;have m:(1+(k:Int)).toNat=1+k:=by omega
 have a:Bv (1+k) (p2:Int)=true:=Bs (by omega);have b:Bv (1+k) (p3:Int)=true:=Bs (by omega);have e:D3 (1+(p4:Int)) (1+(p5:Int)) (1+(p6:Int)) (1+(p7:Int))=true:=by
  unfold D3;have f:∀p:Nat,p<3->D0 (1+(p:Int))=true:=λp z=>by
   rcases(by omega:p=0\/p=1\/p=2)with rfl|rfl|rfl<;>rfl
  rw[f p4 n,f p5 o,Bs (by omega),Bs (by omega),Bs (by omega),Bs (by omega)];rfl
 unfold Bl Gy;simp only[m,g,i,j,l,a,b,e];rfl
theorem pS{x:Int}{n:Nat}(a:0<=x)(b:x<n):((BI x n:Nat):Int)=x:=by
 unfold BI;rw[Aq (by omega),Int.emod_eq_of_lt a b];omega
theorem O8{c:UInt8}:∀(l r:A2),¬c∈l->B8 c (l++c::r)=l::B8 c r
 |[],r,_=>by show B8 c (c::r)=_;rw[B8,As (by simp)]
 |x::l,r,h=>by
  show B8 c (x::(l++c::r))=_;rw[B8,Aq (λe=>h (by simp at e;simp[e])),O8 l r (λe=>h (GG _ e))]
def JP(m:Bool):A2:=if m=true then[115,32,49,32,109,97,115,107,10,46,32,48,32,100,114,111,112]else[115,32,49,32,100,114,111,112,10,46,32,48,32,100,114,111,112]
def JQ(m:Bool):Int:=if m=true then 2 else 1
theorem Ty(m:Bool)(r:A2):∃a,(BR (JP m)).map BZ=([(3,[115])],1,JQ m)::([],0,1)::a/\∃a,(BR (JP m++10::r)).map BZ=([(3,[115])],1,JQ m)::([],0,1)::a:=by
 have b:∀m,(BR (JP m)).map BZ=[([(3,[115])],1,JQ m),([],0,1)]:=λm=>by cases m<;>kernel_rfl
 refine⟨[],b m,((B8 10 r).map Cf).map BZ,?_⟩;unfold BR;rw[Aq (by rw[AC,Bq];omega)]
 cases m with
 |true =>
  show((B8 10 ([115,32,49,32,109,97,115,107]++10::([46,32,48,32,100,114,111,112]++10::r))).map Cf).map BZ=_;rw[O8 _ _ (by decide),O8 _ _ (by decide)];simp only[CT];rw[show BZ (Cf [115,32,49,32,109,97,115,107])=([(3,[115])],1,JQ true) by kernel_rfl,show BZ (Cf [46,32,48,32,100,114,111,112])=([],0,1) by kernel_rfl]
 |false =>
  show((B8 10 ([115,32,49,32,100,114,111,112]++10::([46,32,48,32,100,114,111,112]++10::r))).map Cf).map BZ=_;rw[O8 _ _ (by decide),O8 _ _ (by decide)];simp only[CT];rw[show BZ (Cf [115,32,49,32,100,114,111,112])=([(3,[115])],1,JQ false) by kernel_rfl,show BZ (Cf [46,32,48,32,100,114,111,112])=([],0,1) by kernel_rfl]
theorem YZ(a b:ByteArray):(a++b).data.toList=a.data.toList++b.data.toList:=by simp
theorem pU:∀k:Nat,k=1\/k=2\/k=3\/k=4\/k=5->BK (1+k) (F4 k) 1 0=false/\BK (1+k) (F4 k) 0 0=true/\∀m,BY (1+k) (JP m) = -1:=by
 rintro k (rfl|rfl|rfl|rfl|rfl)<;>exact⟨by kernel_rfl,by kernel_rfl,λm=>by cases m<;>kernel_rfl⟩
structure JR(m:Bool)(e:AN):Prop where
 chk:Bl e=0
 no:BK e.labels.toNat e.L 1 0=false
 yes:BK e.labels.toNat e.L 0 0=true
 clr:e.clr=0
 inn:e.inn=1
 rs:∃tl,F0 e=([(3,[115])],1,JQ m)::([],0,1)::tl
def Cc(d:AN):AN:={d with clr:=0,inn:=1}
theorem pV(v:1<=c.labels/\c.labels<=5)(h:MD c (JP m) d):JR m (Cc d):=by
 have u:=pS (x:=c.labels) (n:=6) (by omega) (by omega);obtain⟨j,c2,k⟩:=pU (BI c.labels 6) (by omega);have a:=pR (k m) h;have q:d.labels=1+(BI c.labels 6:Int)/\d.L=F4 (BI c.labels 6)/\∃e,F0 d=([(3,[115])],1,JQ m)::([],0,1)::e:=by
  obtain⟨s,t,⟨rfl,_⟩|⟨rfl,_⟩⟩:=h
  ·refine⟨rfl,rfl,?_⟩;show∃e,(BR (Ln c (JP m)).data.toList).map BZ=_;unfold Ln;split
   ·obtain⟨e,h,_⟩:=Ty m [];exact⟨e,by simpa using h⟩
   rw[YZ,YZ];obtain⟨_,_,e,h⟩:=Ty m c.pol.data.toList;exact⟨e,by simpa using h⟩
  obtain⟨e,h,_⟩:=Ty m [];exact⟨rfl,rfl,e,h⟩
 obtain⟨r,g,l⟩:=q;have i:d.labels.toNat=1+BI c.labels 6:=by omega
 refine⟨?_,by show BK d.labels.toNat d.L 1 0=_;rw[i,g];exact j,by show BK d.labels.toNat d.L 0 0=_;rw[i,g];exact c2,rfl,rfl,l⟩;unfold Bl at a ⊢;split at a
 ·cases a
 next f =>
 split at a
 ·cases a
 next h2 =>
 split at a
 ·cases a
 next h3 =>
 split at a
 ·cases a
 next b =>
 have o:Gy (Cc d)=true:=by
  have f:Gy d=true:=by simpa using f
  unfold Gy at f ⊢;simp only[Ch]at f ⊢;exact⟨f.1,Bs (by show(0:Int)<=0/\(0:Int)<(d.labels.toNat:Int);omega)⟩
 have p:D3 (Cc d).inn (Cc d).out (Cc d).depth (Cc d).bytes=true:=by
  have b:D3 d.inn d.out d.depth d.bytes=true:=by simpa using b
  unfold D3 at b ⊢;simp only[Ch]at b ⊢;exact⟨⟨⟨⟨⟨rfl,b.1.1.1.1.2⟩,b.1.1.1.2⟩,b.1.1.2⟩,b.1.2⟩,b.2⟩
 rw[Aq (by rw[o];decide),Aq (show¬GW (Cc d).labels.toNat (B5 (Cc d).labels.toNat (Cc d).L)=false from h2),Aq (show¬GX (Cc d).labels.toNat (B5 (Cc d).labels.toNat (Cc d).L)=false from h3),Aq (by rw[p];decide)];exact a
theorem pW(h:JR m e):CC e.dflt (F0 e) []=(0,1):=by
 obtain⟨a,h⟩:=h.rs;rw[h,CC,Aq (show¬KZ [(3,[115])] []=true by decide),CC,As (show KZ [] []=true by decide)]
theorem pX(h:JR m e):CC e.dflt (F0 e) [([115],false)]=(1,JQ m):=by
 obtain⟨a,h⟩:=h.rs;rw[h,CC,As (show KZ [(3,[115])] [([115],false)]=true by decide)]
def Qd(m:Bool)(R:AP):Option (DataW Unit)×AP:=if m=true then(Aj (.lit (.string [42,42,42])),(R.1,R.2.1,R.2.2.1+1,R.2.2.2))else(Ak,(R.1,R.2.1+1,R.2.2.1,R.2.2.2))
theorem Tz(h:JR m e)(k:Nat)(S:A3)(R:AP):B2 (Cj e) (k+1) [([115],false)] S R=Qd m R:=by
 have a:CC (Cj e).dflt (Cj e).rs [([115],false)].reverse=(1,JQ m):=pX h;have b:(Cj e).m (1:Int).toNat (Cj e).clr=false:=by show BK e.labels.toNat e.L 1 e.clr.toNat=false;rw[h.clr];exact h.no
 rw[B2];simp only[a,b];cases m<;>rfl
theorem Qe(h:JR m e)(k:Nat)(a:List (Lit×DataW Unit))(R:AP):B2 (Cj e) (k+2) [] (.map a) R=(Aj (.map (Fm (λkey=>B2 (Cj e) (k+1) [(key,false)]) a (R.1+1,R.2)).1),(Fm (λkey=>B2 (Cj e) (k+1) [(key,false)]) a (R.1+1,R.2)).2):=by
 have b:CC (Cj e).dflt (Cj e).rs ([]:List (A2×Bool)).reverse=(0,1):=pW h;have c:(Cj e).m (0:Int).toNat (Cj e).clr=true:=by show BK e.labels.toNat e.L 0 e.clr.toNat=true;rw[h.clr];exact h.yes
 rw[B2];simp only[b];rw[As c];rfl
theorem pY(h:JR m e)(k:Nat)(A S T:A3)(a:List (Lit×DataW Unit))(R:AP):B2 (Cj e) (k+2) [] (.map ((.string [97],A)::(.string [115],S)::a)) R=B2 (Cj e) (k+2) [] (.map ((.string [97],A)::(.string [115],T)::a)) R:=by
 have b:∀R,B2 (Cj e) (k+1) [(B1 (.string [115]),false)] S R=B2 (Cj e) (k+1) [(B1 (.string [115]),false)] T R:=λR=>(Tz h k S R).trans (Tz h k T R).symm;rw[Qe h,Qe h];unfold Fm;simp only[K2,b]
def J6(R R':AP):Prop:=R.2.1<=R'.2.1/\R.2.2.1<=R'.2.2.1
theorem J6.trans{a b c:AP}(h:J6 a b)(g:J6 b c):J6 a c:=⟨AW h.1 g.1,AW h.2 g.2⟩
theorem Z0(H:∀d R,J6 R (f d R).2):∀(ds:List (DataW Unit)) (a:List (DataW Unit)×AP),J6 a.2 (ds.foldl (λa d=>(a.1++(f d a.2).1.toList,(f d a.2).2)) a).2
 |[],_=>⟨AB _,AB _⟩
 |d::ds,a=>(H d a.2).trans (Z0 H ds (a.1++(f d a.2).1.toList,(f d a.2).2))
theorem TA{f:A2->A3->AP->Option (DataW Unit)×AP}(H:∀k d R,J6 R (f k d R).2):∀(es:List (Lit×DataW Unit)) (a:List (Lit×DataW Unit)×AP),J6 a.2 (es.foldl (λa e=>(a.1++((f (B1 e.1) e.2 a.2).1.map λd=>(e.1,d)).toList,(f (B1 e.1) e.2 a.2).2)) a).2
 |[],_=>⟨AB _,AB _⟩
 |d::ds,a=>(H (B1 d.1) d.2 a.2).trans (TA H ds (a.1++((f (B1 d.1) d.2 a.2).1.map λx=>(d.1,x)).toList,(f (B1 d.1) d.2 a.2).2))
theorem TB(c:Rv):∀(k:Nat) (p:List (A2×Bool)) (d:A3) (R:AP),J6 R (B2 c k p d R).2
 |0,_,_,_=>⟨AB _,AB _⟩
 |k+1,p,d,R=>by
  rw[B2];split
  ·show J6 R (FT (B2 c k) p d (R.1+1,R.2)).2;unfold FT;split
   ·exact Z0 (f:=B2 c k (([],true)::p)) (λd R=>TB c k _ d R) _ ([],(R.1+1,R.2))
   ·exact TA (f:=λkey=>B2 c k ((key,false)::p)) (λkey d R=>TB c k _ d R) _ ([],(R.1+1,R.2))
   exact⟨AB _,AB _⟩
  split
  ·exact⟨AB _,LN _⟩
  split
  ·exact⟨AB _,AB _⟩
  exact⟨LN _,AB _⟩
def TC(m:Bool)(R:AP):Prop:=if m=true then 1<=R.2.2.1 else 1<=R.2.1
theorem pZ(h:JR m e)(k:Nat)(A S:A3)(b:List (Lit×DataW Unit))(R:AP):TC m (B2 (Cj e) (k+2) [] (.map ((.string [97],A)::(.string [115],S)::b)) R).2:=by
 rw[Qe h];unfold Fm;simp only[K2];have c:∀R,B2 (Cj e) (k+1) [(B1 (.string [115]),false)] S R=Qd m R:=λR=>Tz h k S R;simp only[c];generalize B2 (Cj e) (k+1) [(B1 (.string [97]),false)] A _=x;have a:=TA (f:=λkey=>B2 (Cj e) (k+1) [(key,false)]) (λkey d R=>TB _ _ _ d R) b (([]++(x.1.map λd=>((.string [97]:Lit),d)).toList)++((Qd m x.2).1.map λd=>((.string [115]:Lit),d)).toList,(Qd m x.2).2);revert a;generalize(List.foldl _ _ b)=y;intro a
 cases m with
 |true=>exact AW (Fu 1 _) a.2
 |false=>exact AW (Fu 1 _) a.1
def Nb(d:A3):Prop:=∀k,Dw k d=false
theorem Z1{ds:List (DataW Unit)}(h:∀x∈ds,Nb x):Nb (.agg ds)
 |0=>rfl
 |k+1=>by rw[Dw];exact Lz.2 λx a=>by rw[h x a k];decide
theorem Z2(h:∀e∈es,Nb e.2):Nb (.map es)
 |0=>rfl
 |k+1=>by rw[Dw];exact Lz.2 λx a=>by rw[h x a k];decide
theorem TD(bs:A2)(lim f:Int)(nm:UInt8->Nat->A6 Int):∀(g j p:Nat) (d:A3) (q:Nat),BX bs lim f nm g j p=.ok (d,q)->Nb d
 |0,_,_,_,_,h=>by cases h
 |g+1,j,p,d,q,h=>by
  rw[BX]at h;split at h
  ·cases h
  split at h
  ·cases h
  unfold FA at h;split at h
  ·split at h<;>cases h;intro k;cases k<;>rfl
  split at h
  ·split at h<;>cases h;intro k;cases k<;>rfl
  split at h
  ·split at h<;>cases h;intro k;cases k<;>rfl
  split at h
  ·split at h<;>cases h;intro k;cases k<;>rfl
  split at h
  ·split at h
   ·cases h
   split at h
   ·cases h
   next hc =>
   cases h;refine Z1 (YU (P:=λds:List (DataW Unit)=>∀x∈ds,Nb x) (λa p l q i b=>?_) (by intro _ h;cases h) hc);unfold Cv at b;split at b
   ·cases b
   next hr =>
   cases b;intro x c;rcases N0.1 c with c|c
   ·exact i x c
   rw[Oz.1 c];exact TD bs lim f nm g _ _ _ _ hr
  split at h
  ·split at h
   ·cases h
   split at h
   ·cases h
   next hc =>
   cases h;refine Z2 (YU (P:=λa:List A2×List (Lit×DataW Unit)=>∀e∈a.2,Nb e.2) (λa p l q i b=>?_) (by intro _ h;cases h) hc);unfold C0 at b;split at b
   ·cases b
   split at b
   ·cases b
   split at b
   ·cases b
   split at b
   ·cases b
   split at b
   ·cases b
   next hr =>
   cases b;intro x c;rcases N0.1 c with c|c
   ·exact i x c
   rw[Oz.1 c];exact TD bs lim f nm g _ _ _ _ hr
  split at h
  ·split at h<;>cases h;intro k;cases k<;>rfl
  cases h
theorem TE(c:Rv):∀(k:Nat) (p:List (A2×Bool)) (d:A3) (R:AP) (d':A3),(∀k,Dw k d=false)->(B2 c k p d R).1=Aj d'->Nb d'
 |0,_,_,_,_,_,h=>by cases h
 |k+1,p,d,R,d',hd,h=>by
  rw[B2]at h;split at h
  ·injection h with h;subst h;unfold FT;split
   ·next ds =>
    refine Z1 (YX (f:=B2 c k (([],true)::p)) (P:=Nb) ds ([],(R.1+1,R.2)) (λ_ h=>by cases h) (λd h R x e=>TE c k _ d R x (λk=>?_) e));have:=hd (k+1);rw[Dw]at this;simpa using Lz.1 this d h
   ·next es =>
    refine Z2 (YY (f:=λkey=>B2 c k ((key,false)::p)) (P:=λe=>Nb e.2) es ([],(R.1+1,R.2)) _ (UA _) (λ_ h=>by cases h) (λe h R x z=>TE c k _ e.2 R x (λk=>?_) z)).2;have:=hd (k+1);rw[Dw]at this;simpa using Lz.1 this e h
   exact hd
  split at h
  ·cases h;intro k;cases k<;>rfl
  split at h
  ·cases h;intro k;cases k<;>rfl
  cases h
theorem q7{bs:A2}{D lim:Int}(a:0<=D){x:A3}(h:BB 1 bs D lim=.ok x):Nb x:=by
 obtain⟨_,_,_,h,_⟩:=YO a h;exact TD _ _ _ _ _ _ _ _ _ h
def q8(m:Bool)(J:Prop)(x y:Cz):Prop:=Co x=Co y/\CD x=CD y/\C3 x=C3 y/\(J->(Co x=0/\TC m (C3 x))\/Co x=14)
theorem q9(h:JR m e){a s t b:A2}{A S T:A3}(o:((Cr a s b).length:Int)<=e.bytes)(w:((Cr a t b).length:Int)<=e.bytes)(i:BB 1 a (e.depth-1) e.bytes=.ok A)(j:BB 1 s (e.depth-1) e.bytes=.ok S)(r:BB 1 t (e.depth-1) e.bytes=.ok T):q8 m (∃B,BB 1 b (e.depth-1) e.bytes=.ok B) (Fo e ((Cr a s b).take (e.bytes.toNat+1))) (Fo e ((Cr a t b).take (e.bytes.toNat+1))):=by
 have n:=(J0 h.chk).dep;obtain⟨k,v⟩:∃k,kC e=k+2:=⟨e.depth.toNat-1,by unfold kC;omega⟩
 rw[FJ (by omega),FJ (by omega)];unfold Fo;rw[h.inn,v];rcases pu (b:=b) n.1 o w i j r with⟨C,D,E,c,d⟩|⟨f,c,d⟩
 ·rw[c,d];refine⟨rfl,rfl,rfl,λ⟨B,q⟩=>?_⟩;obtain⟨y,p⟩:=pv n.1 o i j q;rw[c]at p;cases p
 have x:=q7 (by omega) c;have z:=TE (Cj e) (k+2) [] _ (0,0,0,0) ((B2 (Cj e) (k+2) [] (.map ((.string [97],A)::(.string [115],S)::f)) (0,0,0,0)).1.getD .nil) x (by rw[Qe h];rfl);have u:=pZ h k A S f (0,0,0,0);rw[c,d];dsimp only;rw[<-pY h k A S T f];refine⟨rfl,rfl,rfl,λ_=>?_⟩;unfold In;rw[Aq (λg=>by have:=z (k+2);rw[g.2]at this;cases this)]
 cases IQ e.out _ e.B with
 |none=>exact .inr rfl
 |some l=>exact .inl ⟨rfl,u⟩
theorem rE(k:Nat)(W:Al)(bs:A2)(fm d l lim:Int)(i:Nat)(r:Except (Int×Int) (DataW Unit×Nat))(G:fm=1)(C:∀V,An Ao 59 #[.agg (AF bs fm d l),A7 Ah i,A7 Ah 0] V (DA k bs lim V r)):An Ao 36 #[.agg (AF bs fm d l),A7 Ah i] W (DA k bs lim W r):=by
 have S:(fm==1)=true:=by simpa using G
 have B:Hid (∀V,An Ao 59 #[Ac #[Aa ⟨bs.toArray⟩,A7 Ah fm,A7 Ah d,A7 Ah l],A7 Ah i,A7 Ah 0] V (DA k bs lim V r)):=C;have O:=Kv W bs fm d l;have J:∀A,(((W.alloc (Af A 102)).alloc (Af AR 62)).alloc (Af (Aw (0,0)) 64)).heap.size=W.heap.size+3:=λA=>by simp
 clear G C;unfold AF;go_enter func36,ntmps36
 go_wp2_with fail
 refine(B _).mono ?_;rintro e K I;obtain⟨Q,x,t,v,s,m,o,p,n,w,u,z,F,H,rfl,b,hF⟩:=MF I;have g:=Ap (O.next Q);have N:=Ap H;have M:=Ap hF;have L:Hid (∀a q,x=.ok (a,q)->AS bs lim q/\z=(q:Int)/\F=(0,0)/\BG k K (λj=>W.heap.size+3<=j/\j<K.heap.size) (.agg (Ax t v s (A8 m o p) (A8 n w u))) a):=λa q h=>⟨(b a q h).1,(b a q h).2.1,(b a q h).2.2.1,(b a q h).2.2.2.same (λj c=>⟨by have P:=c.1;have D:=J #[Aa ⟨bs.toArray⟩,A7 Ah fm,A7 Ah d,A7 Ah l];unfold AR Ax AK Aw at D;simp only[AM,A1]at P D;omega,c.2⟩) (λ_ _=>rfl)⟩
 clear I H hF b B J;simp only[]
 go_wp2_with(first
  |((with_reducible refine zT 4 13 rfl rfl (W.heap.size+1) (Ax t v s (A8 m o p) (A8 n w u)) ?_ ?_);exact⟨rfl,rfl,g.th,thg⟩)
  |((with_reducible refine zF 6 15 rfl rfl (W.heap.size+2) (F) ?_ ?_);exact⟨rfl,rfl,EI g Bb _⟩))
 have E:=Dy g Bb (Ax t v s (A8 m o p) (A8 n w u)) (F);refine Dz results36 E (A7 Ah z) rfl rfl rfl rfl ⟨E.2.2,x,N,?_⟩
 cases x with
 |error f =>
  obtain rfl:=M.out f rfl;exact⟨_,_,_,_,_,_,_,_,_,_,rfl⟩
 |ok y =>
  obtain⟨a,q⟩:=y;obtain⟨R,rfl,rfl,b⟩:=L.out a q rfl;refine⟨R,_,_,_,_,_,_,_,_,_,rfl,b.same (λj c=>⟨by have:=c.1;omega,by simpa using c.2⟩) (λj c=>?_)⟩;rw[BO _ _ _ _ (by omega),BO _ _ _ _ (by omega)]
theorem rG(bs:A2)(a b c:Int):(AF [] 0 0 0).size=(AF bs a b c).size:=rfl
theorem rH(bs:A2)(a b c:Int):(AF bs a b c).all (·.oneCell')=true:=by simp[AF,Value.oneCell']
def Dk(fm:Int)(bs:A2)(l:Int)(p:Nat):Nat:=if fm=1 then CI bs l (bs.length+1-p) p else p
theorem Oj(fm:Int)(bs:A2)(l:Int)(p:Nat)(hi:AS bs l p):(KX fm bs l p=.ok ((),Dk fm bs l p)/\AS bs l (Dk fm bs l p)/\p<=Dk fm bs l p)\/(KX fm bs l p=.error (8,(Dk fm bs l p:Int))/\(Dk fm bs l p:Int)=l/\Dk fm bs l p<bs.length):=by
 unfold KX Dk;by_cases h:fm=1
 ·rw[As h,As h];rcases J2 (l:=l) (lim:=l) (λ_ _=>Iff.rfl) (bs.length+1-p) p hi with⟨q,a,b,c,d,_⟩|⟨q,a,b,c,d⟩
  ·rw[b];exact .inl ⟨a,c,d⟩
  rw[b];exact .inr ⟨a,c,d⟩
 rw[Aq h,Aq h];exact .inl ⟨rfl,hi,AB _⟩
theorem rI(fm:Int)(bs:A2)(d l:Int)(p:Nat)(e:(p:Int)=l)(c:p<bs.length):GU fm bs d l p=.error (8,(p:Int)):=by
 have a:∀b,Mc b bs l d (d.toNat+1) 0 p=.error (8,(p:Int)):=λb=>by
  rw[Mc,AY c];simp only[];rw[As e]
 unfold GU;split
 ·exact ZH e c
 split
 ·exact a _
 exact a _
theorem rJ(C:Nat->A3->Nat)(fm:Int)(bs:A2)(d l:Int)(H:0<=l)(E:∀p y q,GU fm bs d l p=.ok (y,q)->q<=bs.length->∀k,C k y<=400*q){r':Except (Int×Int) (DataW Unit×Nat)}(o:Ep bs l (GU fm bs d l (Dk fm bs l 0)) r'):(∀f,r'=.error f->BB fm bs d l=.error f)/\(∀j q,r'=.ok (j,q)->AS bs l q->AS bs l (Dk fm bs l q)/\(Dk fm bs l q<bs.length->BB fm bs d l=.error (BM bs l (Dk fm bs l q) 9))/\(¬Dk fm bs l q<bs.length->BB fm bs d l=.ok j/\(bs.length:Int)<=l/\∀k,C k j<=400*bs.length)):=by
 have G:AS bs l 0:=⟨Cy _,H⟩
 have n:Lm bs l l:=λ_ _=>Iff.rfl;rcases Oj fm bs l 0 G with⟨s,A,_⟩|⟨s,A,D⟩
 ·generalize Dk fm bs l 0=p0 at *;have a:BB fm bs d l=match GU fm bs d l p0 with
    |.error e=>.error e
    |.ok (d,p1)=>match KX fm bs l p1 with
     |.error e=>.error e
     |.ok (_,p2)=>match G2 ⟨Ak,bs,0,0,l,p2,0⟩with
      |.error e=>.error e
      |.ok _=>.ok d:=by
   unfold BB Gu;rw[s];rfl
  refine⟨λf v=>?_,λj q w c=>?_⟩
  ·subst v;rcases o with h|⟨q,_,_,_,x,h⟩
   ·rw[a,h]
   cases h
  subst w;rcases o with h|⟨L,B,t,m,x,g⟩
  ·rw[h]at a;simp only[]at a;have F:=E _ _ _ h c.1;rcases Oj fm bs l q c with⟨z,b,i⟩|⟨z,b,i⟩
   ·rw[z]at a;simp only[]at a;generalize Dk fm bs l q=p2 at *;refine⟨b,λI=>?_,λM=>?_⟩
    ·rw[a];unfold G2;have u:=AY I;simp only[u];by_cases r:(p2:Int)=l
     ·rw[As r,GB n u r]
     rw[Aq r,Hc n b u r]
    have J:bs[p2]?=Ak:=DI (by omega);rw[a];unfold G2;simp only[J];refine⟨trivial,?_,λk=>?_⟩
    ·have:=b.2;have:=b.1;omega
    have:=F k;have:=c.1;omega
   rw[z]at a;simp only[]at a;generalize Dk fm bs l q=p2 at *;refine⟨⟨by omega,by omega⟩,λ_=>?_,λh=>absurd i h⟩;rw[a,GB n (AY i) b]
  injection g with g;injection g with e1 e2;subst e2;rw[B]at a;simp only[]at a;have e:Dk fm bs l q=q:=by
   rcases Oj fm bs l q c with⟨_,b,i⟩|⟨_,b,i⟩
   ·have:=b.2;omega
   omega
  rw[e];refine⟨c,λ_=>?_,λh=>absurd m h⟩;rw[a,GB n (AY m) t]
 have K:=rI fm bs d l _ A D;have a:BB fm bs d l=.error (8,(Dk fm bs l 0:Int)):=by
  unfold BB Gu;rw[s]
 generalize Dk fm bs l 0=p0 at *;rw[K]at o;refine⟨λf v=>?_,λj q w c=>?_⟩
 ·subst v;rcases o with h|⟨q,_,_,_,x,h⟩
  ·injection h with h;subst h;exact a
  cases h
 subst w;rcases o with h|⟨L,B,t,m,x,g⟩
 ·cases h
 injection g with g;injection g with e1 e2;subst e2;have e:Dk fm bs l q=q:=by
  rcases Oj fm bs l q c with⟨_,b,i⟩|⟨_,b,i⟩
  ·have:=b.2;omega
  omega
 rw[e];refine⟨c,λ_=>?_,λh=>absurd m h⟩;rw[a,GB n (AY m) t,show(p0:Int)=q by omega]
structure JT(W:World)(A:A4)(V:World):Prop where
 th:V.heap[W.heap.size]?=some (.cells AR 62)
 flt:V.heap[W.heap.size+1]?=some (.cells (Aw (0,0)) 64)
 box:V.heap[W.heap.size+2]?=some (.cells A 102)
 below:A1 W V
theorem JT.next{V':Al}(h:JT W A V)(a:A1 V V'):JT W A V' :=
 ⟨(a.block _ (At h.th)).trans h.th,(a.block _ (At h.flt)).trans h.flt,(a.block _ (At h.box)).trans h.box,h.below.trans (a.mono h.below.size)⟩
theorem JT.drew(h:JT W A V):JT W A V.drew:=⟨h.th,h.flt,h.box,h.below.drew⟩
theorem rK(W:Al)(A B:A4):JT W A ((((W.alloc (Af AR 62)).alloc (Af (Aw (0,0)) 64)).alloc (Af B 102)).setRow (W.heap.size+2) A):=by
 have c:(W.alloc (Af AR 62)).heap.size=W.heap.size+1:=by simp
 have d:((W.alloc (Af AR 62)).alloc (Af (Aw (0,0)) 64)).heap.size=W.heap.size+2:=by simp
 have b:=Ay ((W.alloc (Af AR 62)).alloc (Af (Aw (0,0)) 64)) (Af B 102);have a:=Ay (W.alloc (Af AR 62)) (Af (Aw (0,0)) 64);rw[d]at b;rw[c]at a;refine⟨sx (by omega) ((AL _ _ _ (by omega)).trans ((AL _ _ _ (by omega)).trans (Ay W _))),sx (by omega) ((AL _ _ _ (by omega)).trans a),B4 _ _ _ _ _ _ b,Bu (((AH).alloc (by omega) _).alloc (by omega) _) (by omega) _⟩
theorem rL(V:Al)(a b:Nat)(x y:A4):((V.setRow a x).setRow b y).heap.size=V.heap.size:=by simp[World.setRow]
theorem rM(W:Al)(B:A4):(((W.alloc (Af AR 62)).alloc (Af (Aw (0,0)) 64)).alloc (Af B 102)).heap[W.heap.size+2]?=Aj (Af B 102):=by
 have h:=Ay ((W.alloc (Af AR 62)).alloc (Af (Aw (0,0)) 64)) (Af B 102);rwa[show((W.alloc (Af AR 62)).alloc (Af (Aw (0,0)) 64)).heap.size=W.heap.size+2 by simp]at h
theorem JT.fin(h:JT W A V)(T:A4)(x:Int×Int):((V.setRow W.heap.size T).setRow (W.heap.size+1) (Aw x)).heap[W.heap.size]?=Aj (Af T 62)/\((V.setRow W.heap.size T).setRow (W.heap.size+1) (Aw x)).heap[W.heap.size+1]?=Aj (Af (Aw x) 64)/\A1 W ((V.setRow W.heap.size T).setRow (W.heap.size+1) (Aw x)) :=
 ⟨sx (by omega) (B4 _ _ _ _ _ _ h.th),B4 _ _ _ _ _ _ (sx (by omega) h.flt),Bu (Bu h.below (by omega) _) (by omega) _⟩
theorem TU{fn:Func}{p q:Tmp}{A:Act}{g2:Nat}{k n:Int}{s:ByteArray}{ks vs:Am}{F:Int×Int}{R:Ending->Al->Prop}{B:Prop}(h:fn.results=#[.cell p 62,.cell q 64])(a:w.heap[g]?=Aj (Af (Ax k n s ks vs) 62)/\w.heap[g2]?=Aj (Af (Aw F) 64)/\B)(c:A.tmps.getD p undef=A9 (Aj ⟨g,0,Ak⟩))(d:A.tmps.getD q undef=A9 (Aj ⟨g2,0,Ak⟩))(b:A.defers=[])(e:R (Ag (Ab #[.agg (Ax k n s ks vs),.agg (Aw F)])) w):bodyPost Ao fn R .ret A w :=
 Bd (qQ h _ _ g g2 _ _ _ _ _ _ _ _ c a.1 underlying62 rfl (Iu _ _ _ _ _) d a.2.1 underlying64 rfl (Hd _)) b e
def ZI(szP:Nat->A3->Nat)(k:Nat)(bs:A2)(l:Int)(W:Al)(r:Except (Int×Int) (DataW Unit))(e:Ending)(W':Al):Prop :=
 A1 W W'/\match r with
 |.ok dd=>(∃kd n s a i j b p m,e=Ag (Ab #[.agg (Ax kd n s (A8 a i j) (A8 b p m)),.agg (Aw (0,0))])/\BG k W' (λj=>W.heap.size<=j/\j<W'.heap.size) (.agg (Ax kd n s (A8 a i j) (A8 b p m))) dd)/\(bs.length:Int)<=l/\∀k,szP k dd<=400*bs.length
 |.error f=>e=Ag (Ab #[.agg AR,.agg (Aw f)])
theorem rN(af:Nat->A3->Nat)(W:Al)(fm d l:Int)(bs:A2)(r:fm=1)(ae:0<=l)(hb:bs.length<=281474976710656)(hG:∀p y q,GU fm bs d l p=.ok (y,q)->q<=bs.length->∀a8,af a8 y<=400*q)(ao:∀P pl,BB fm bs d l=.error (P,pl)->P≠0)(ak:∀V p,AS bs l p->An Ao 36 #[.agg (AF bs fm d l),A7 Ah p] V (DA (d.toNat+1) bs l V (GU fm bs d l p))):An Ao 22 #[A7 Ah fm,A7 Ah d,A7 Ah l,Aa ⟨bs.toArray⟩] W (ZI af (d.toNat+1) bs l W (BB fm bs d l)):=by
 have ar:AS bs l (Dk fm bs l 0):=by
  rcases Oj fm bs l 0 ⟨Cy _,ae⟩with⟨_,h,_⟩|⟨_,h1,Q⟩
  ·exact h
  exact⟨by omega,by omega⟩
 have aa:Hid (∀r',Ep bs l (GU fm bs d l (Dk fm bs l 0)) r'->_):=λr' h=>rJ af fm bs d l ae hG (r':=r') h;have Z:Hid (∀P pl,BB fm bs d l=.error (P,pl)->P≠0):=ao;have cT:=λV=>ak V (Dk fm bs l 0) ar;have cS:∀(V:Al) (i:Nat),fm=1->i<=bs.length->An Ao 35 #[Ac #[Aa ⟨bs.toArray⟩,A7 Ah fm,A7 Ah d,A7 Ah l],A7 Ah i] V λe G=>e=Ag (A7 Ah (Dk fm bs l i))/\A1 V G:=λV i h1 Q=>by
  have h:=Mx V bs fm d l i hb Q;unfold Dk;rw[As h1];exact h
 have ag:Hid (∀(V:Al) (i:Nat),An Ao 37 #[Ac #[Aa ⟨bs.toArray⟩,A7 Ah fm,A7 Ah d,A7 Ah l],A7 Ah i,A7 Ah 9] V λe G=>e=Ag (.agg (Aw (BM bs l i 9)))/\A1 V G):=λV i=>MC bs fm d l V i 9;generalize BB fm bs d l=R at *;obtain⟨T,ab⟩:∃T,Hid (Dk fm bs l 0=T):=⟨_,show _=_ from rfl⟩
 rw[ab.out]at cT aa;have e1:(fm==1)=true:=by simpa using r
 have az:=Ap r;have aj:∀V,An Ao 35 #[Ac #[Aa ⟨bs.toArray⟩,A7 Ah fm,A7 Ah d,A7 Ah l],A7 Ah 0] V λe G=>e=Ag (A7 Ah T)/\A1 V G:=λV=>by
  have h:=cS V 0 r (Cy _);rw[ab.out]at h;exact h
 have ah:Hid (∀V,An Ao 36 #[Ac #[Aa ⟨bs.toArray⟩,A7 Ah fm,A7 Ah d,A7 Ah l],A7 Ah T] V (DA (d.toNat+1) bs l V (GU fm bs d l T))):=cT;have ay:Hid (∀(V:Al) (i:Nat),i<=bs.length->An Ao 35 #[Ac #[Aa ⟨bs.toArray⟩,A7 Ah fm,A7 Ah d,A7 Ah l],A7 Ah i] V λe G=>e=Ag (A7 Ah (Dk fm bs l i))/\A1 V G):=λV i h=>cS V i az h;clear cT ar ab r cS ae ak hG ao;go_enter func22,ntmps22
 go_wp2_with(first
  |((with_reducible refine Bg rfl 102 (.tmp 10) (.tmp 18) rfl (W.heap.size+2) (AF bs fm d l) ?hx ?hy 102 (AF [] 0 0 0) ?hg ?hi ?hs ?h1 ?_);(case hx=>exact rfl);(case hy=>exact rfl);(case hg=>exact rM W _);(case hi=>exact O3);(case hs=>exact rG _ _ _ _);(case h1=>exact rH _ _ _ _);refine DM ?_;intro V0 E0;have N:=Ap (E0▸rK W _ _);clear E0;have b:=Ar N.box 0;have c:=Ar N.box 1;have c2:=Ar N.box 2;have g:=Ar N.box 3;unfold AF at b c c2 g)
  |(go_at_call 35;refine(aj _).mono ?_;clear aj b c c2 g;rintro e w2 ⟨rfl,al⟩;have J:=Ap (N.next al);clear al;have b:=Ar J.box 0;have c:=Ar J.box 1;have c2:=Ar J.box 2;have g:=Ar J.box 3;unfold AF at b c c2 g))
 refine(ah _).mono ?_;clear b c c2 g;rintro e a aw;obtain⟨am,r',A,C,s,u,w,x,v,D,B,ba,F,au,rfl,hA,hF⟩:=MF aw;have U:=Ap (J.next am);obtain⟨hE,hO⟩:=aa.out r' au;have a3:Hid (W.heap.size+3<=a.heap.size):=At U.box;have a2:Hid (W.heap.size+3<=w2.heap.size):=At J.box;clear aw au aa ah am;simp only[]
 cases r' with
 |error a4 =>
  obtain rfl:=hF a4 rfl;obtain rfl:=hE F rfl;have a9:(F.1==0)=false:=by simpa using Z.out F.1 F.2 rfl
  clear hA hF hE hO Z
  go_wp2_with(first
   |((with_reducible refine zT 12 27 rfl rfl (a.heap.size) (Ax A C s (A8 u w x) (A8 v D B)) ?_ ?_);exact⟨rfl,rfl,(I3 a _ _).1,thg⟩)
   |((with_reducible refine zF 13 29 rfl rfl (a.heap.size+1) F ?_ ?_);exact⟨rfl,rfl,sx (by omega) (I3 a _ _).2⟩;refine DM ?_;intro t m;have n:=Ap (m▸U.next (Lq _ _ _ _ _));have I:Hid (t.heap[a.heap.size+1]?=Aj (Af (Aw F) 64)):=m▸Oi;clear m;have f:t.cell? ⟨a.heap.size+1,0,Ak⟩=Aj (A7 Ah F.1):=Ar I 0))
  have hM:=a3.out;refine Cp (S:=λad=>ad.heap[a.heap.size+1]?=Aj (Af (Aw F) 64)) I (by kernel_rfl) ?_;intro hS;refine AD 0 33 (.agg AR) rfl (λad _=>?y0) hS ?_
  case y0=>(unfold AR Ax AK;go_simp)
  refine AD 1 34 (.agg (Aw F)) rfl (λad hZ=>yF 13 hZ rfl rfl) hS ?_;have aq:=sx (cs:=AR) (show a.heap.size+1≠W.heap.size by omega) hS;refine I1 2 8 33 W.heap.size AR (by kernel_rfl) n.drew.th thg aq ?_;refine sF 3 9 34 (W.heap.size+1) F (by kernel_rfl) (sx (by omega) n.drew.flt) (sx (by omega) aq) ?_;refine Bw ?_;go_simp;go_wp2;have r:=n.drew.fin AR F;exact TU results22 r rfl rfl rfl ⟨r.2.2,rfl⟩
 |ok y =>
  obtain⟨dd,q⟩:=y;obtain⟨z,rfl,rfl,ap⟩:=hA dd q rfl;obtain⟨a5,Y,X⟩:=hO dd q rfl z;have HA:Hid (BG (d.toNat+1) a (λj=>W.heap.size+3<=j/\j<a.heap.size) (.agg (Ax A C s (A8 u w x) (A8 v D B))) dd):=ap.same (λj K=>⟨by have:=a2.out;omega,K.2⟩) (λ_ _=>rfl);have a7:=z.1;clear hA hF hE hO Z ap;have O:=λV=>ay.out V q a7;obtain⟨H,a0⟩:∃H,Hid (Dk fm bs l q=H):=⟨_,show _=_ from rfl⟩
  rw[a0.out]at O a5 Y X;by_cases av:H<bs.length
  ·obtain rfl:=Y av;have a6:(H:Int)<(bs.length:Int):=by omega
   have cB:=λV=>ag.out V H;generalize BM bs l H 9=F at *;clear Y X HA z
   go_wp2_with(first
    |((with_reducible refine zT 12 27 rfl rfl (a.heap.size) (Ax A C s (A8 u w x) (A8 v D B)) ?_ ?_);exact⟨rfl,rfl,(I3 a _ _).1,thg⟩)
    |((with_reducible refine zF 13 29 rfl rfl (a.heap.size+1) (0,0) ?_ ?_);exact⟨rfl,rfl,sx (by omega) (I3 a _ _).2⟩;refine DM ?_;intro t m;have n:=Ap (m▸U.next (Lq _ _ _ _ _));have I:Hid (t.heap[a.heap.size+1]?=Aj (Af (Aw (0,0)) 64)):=m▸Oi;have M:Hid (t.heap[a.heap.size]?=Aj (Af (Ax A C s (A8 u w x) (A8 v D B)) 62)):=m▸TS;have L:=Ap (m▸Lq _ _ _ _ _);clear m;have f:t.cell? ⟨a.heap.size+1,0,Ak⟩=Aj (A7 Ah 0):=Ar I 0;have b:=Ar n.box 0;have c:=Ar n.box 1;have c2:=Ar n.box 2;have g:=Ar n.box 3;unfold AF at b c c2 g)
    |(go_at_call 35;refine(O _).mono ?_;clear O b c c2 g f;rintro e w6 ⟨rfl,E⟩;have o:=Ap (n.next E);have k:=Ap (L.trans (E.mono L.size));have ai:=Ap ((E.block _ (At M)).trans M);clear E;have b:=Ar o.box 0;have c:=Ar o.box 1;have c2:=Ar o.box 2;have g:=Ar o.box 3;unfold AF at b c c2 g)
    |(go_at_call 37;refine(cB _).mono ?_;clear cB b c c2 g;rintro e w7 ⟨rfl,an⟩;have ac:=Ap (o.next an);clear an)
    |((with_reducible refine zT 8 44 rfl rfl W.heap.size AR ?_ ?_);exact⟨rfl,rfl,ac.th,thg⟩)
    |((with_reducible refine zF 9 47 rfl rfl (W.heap.size+1) F ?_ ?_);exact⟨rfl,rfl,sx (by omega) ac.flt⟩))
   have r:=ac.fin AR F;exact TU results22 r rfl rfl rfl ⟨r.2.2,rfl⟩
  obtain⟨rfl,h6,h7⟩:=X av;have ax:=Ap (ON h6 h7);have a6:¬(H:Int)<(bs.length:Int):=by omega
  clear Y X h6 h7 z ag
  go_wp2_with(first
   |((with_reducible refine zT 12 27 rfl rfl (a.heap.size) (Ax A C s (A8 u w x) (A8 v D B)) ?_ ?_);exact⟨rfl,rfl,(I3 a _ _).1,thg⟩)
   |((with_reducible refine zF 13 29 rfl rfl (a.heap.size+1) (0,0) ?_ ?_);exact⟨rfl,rfl,sx (by omega) (I3 a _ _).2⟩;refine DM ?_;intro t m;have n:=Ap (m▸U.next (Lq _ _ _ _ _));have I:Hid (t.heap[a.heap.size+1]?=Aj (Af (Aw (0,0)) 64)):=m▸Oi;have M:Hid (t.heap[a.heap.size]?=Aj (Af (Ax A C s (A8 u w x) (A8 v D B)) 62)):=m▸TS;have L:=Ap (m▸Lq _ _ _ _ _);clear m;have f:t.cell? ⟨a.heap.size+1,0,Ak⟩=Aj (A7 Ah 0):=Ar I 0;have b:=Ar n.box 0;have c:=Ar n.box 1;have c2:=Ar n.box 2;have g:=Ar n.box 3;unfold AF at b c c2 g)
   |(go_at_call 35;refine(O _).mono ?_;clear O b c c2 g f;rintro e w6 ⟨rfl,E⟩;have o:=Ap (n.next E);have k:=Ap (L.trans (E.mono L.size));have ai:=Ap ((E.block _ (At M)).trans M);clear E;have b:=Ar o.box 0;have c:=Ar o.box 1;have c2:=Ar o.box 2;have g:=Ar o.box 3;unfold AF at b c c2 g)
   |((with_reducible refine B3 rfl 62 (.tmp 12) rfl (a.heap.size) ?hx 62 (Ax A C s (A8 u w x) (A8 v D B)) (0,0) _ ?hg underlying62 rfl ?hi ?_);(case hx=>exact rfl);(case hg=>exact ai);(case hi=>exact Iu _ _ _ _ _))
   |((with_reducible refine zT 8 48 rfl rfl W.heap.size (Ax A C s (A8 u w x) (A8 v D B)) ?_ ?_);exact⟨rfl,rfl,o.th,thg⟩)
   |((with_reducible refine zF 9 49 rfl rfl (W.heap.size+1) (0,0) ?_ ?_);exact⟨rfl,rfl,sx (by omega) o.flt⟩))
  have r:=o.fin (Ax A C s (A8 u w x) (A8 v D B)) (0,0);refine TU results22 r rfl rfl rfl ⟨r.2.2,⟨_,_,_,_,_,_,_,_,_,rfl,?_⟩,ax⟩;refine HA.same (λj K=>⟨by omega,?_⟩) (λj K=>?_)
  rotate_left
  ·have h1:=k.size;have Q:=K.2;show j<((w6.setRow W.heap.size (Ax A C s (A8 u w x) (A8 v D B))).setRow (W.heap.size+1) (Aw (0,0))).heap.size;rw[rL];omega
  have h1:=K.1;have Q:=K.2;exact(sx (show j≠W.heap.size+1 by omega) (sx (show j≠W.heap.size by omega) rfl)).trans (k.block j Q)
theorem BG.key{i:Nat}{key:Lit}{d:A3}{l:A2}(h:es[i]?=Aj (key,d))(e:key=.string l):es[i]?=Aj (.string l,d):=e▸h
theorem rV(k:Nat)(W:Al)(F:Nat->Prop)(kv u:Am)(xs:List Am)(m:List (Lit×DataW Unit))(f:A3->A2)(hF:∀j,F j->j<W.heap.size)(hq:C7 W 9 1 F kv m.length (m.map Qi))(hr:C7 W 62 5 F u m.length xs)(ha:∀(i:Nat) (key:Lit) (d:A3),m[i]?=Aj (key,d)->∃l a,key=.string l/\FH xs i a/\BG k W F (.agg a) d)(hl:(AO 5 m.length++m.flatMap λe=>(AO 3 (B1 e.1).length++B1 e.1)++f e.2).length<=999999999)(ih:∀(V:Al) (a:A4) (d:A3),(∀j,F j->j<V.heap.size)->BG k V F (.agg a) d->(f d).length<=999999999->An Ao 39 #[.agg a] V (FX (f d) V)):An Ao 39 #[.agg (Ax 7 0 ⟨#[]⟩ kv u)] W (FX (AO 5 m.length++m.flatMap λe=>(AO 3 (B1 e.1).length++B1 e.1)++f e.2) W):=by
 obtain⟨hn,a,N,rfl,HC⟩:=ZQ hr;obtain⟨b,J,rfl,HQ⟩:=rS hq;obtain⟨q,ac⟩:∃q:Lit×DataW Unit->A2,Hid ((λe=>(AO 3 (B1 e.1).length++B1 e.1)++f e.2)=q):=⟨_,show _=_ from rfl⟩
 rw[ac.out]at hl ⊢;have M:Hid (Ft W (Ax 7 0 ⟨#[]⟩ (A8 b m.length J) (A8 a m.length N)) (W.alloc (Af (Ax 7 0 ⟨#[]⟩ (A8 b m.length J) (A8 a m.length N)) 62))):=Ok _ _;have c:=λV=>MK V 5 m.length (by decide) hn;obtain⟨n,hN⟩:∃n,m.length=n:=⟨_,rfl⟩
 obtain⟨w,H0⟩:∃w,Hid (AO 5 m.length=w):=⟨_,show _=_ from rfl⟩
 have af:Hid (∀i,i<n->∃e l v g gk B z s y C D E G H,m[i]?=Aj e/\q e=(AO 3 l.length++l)++v/\a=Aj ⟨g,0,Ak⟩/\b=Aj ⟨gk,0,Ak⟩/\(∀V,A1 W V->V.cell? ⟨gk,i,Ak⟩=Aj (Aa ⟨l.toArray⟩)/\(V.cell? ⟨g,i*5,Ak⟩=Aj (A7 Ah B)/\V.cell? ⟨g,i*5+1,Ak⟩=Aj (A7 Ah z)/\V.cell? ⟨g,i*5+2,Ak⟩=Aj (.string s)/\V.cell? ⟨g,i*5+3,Ak⟩=Aj (A8 y C D)/\V.cell? ⟨g,i*5+4,Ak⟩=Aj (A8 E G H))/\An Ao 39 #[Ac #[A7 Ah B,A7 Ah z,.string s,A8 y C D,A8 E G H]] V (FX v V))):=λi hi=>by
  obtain⟨⟨key,d⟩,x⟩:∃e,m[i]?=Aj e:=⟨_,AY (by omega)⟩
  obtain⟨l,ao,am,hs,hA⟩:=ha i key d x;subst am;obtain⟨B,z,s,y,C,D,E,G,H,e⟩:=hA.shape;injection e with e;subst e;obtain⟨g,ea,T,R⟩:=HC i _ (by omega) hs;obtain⟨gk,eb,ak,ai⟩:=HQ i l d x;have Y:q (.string l,d)=(AO 3 l.length++l)++f d:=by rw[<-ac.out];rfl
  have aj:(f d).length<=999999999:=by
   have h1:=Qq q m i _ x;have h2:=Qr q m (i+1);rw[h1,Y,AC,AC]at h2;rw[AC]at hl;omega
  refine⟨(.string l,d),l,f d,g,gk,B,z,s,y,C,D,E,G,H,x,Y,ea,eb,λV O=>⟨ai V (O.block gk (hF gk ak)),?_,ih V _ d (λj hj=>Br (hF j hj) O.size) (hA.same (λ_ ad=>ad) (λj hj=>O.block j (hF j hj))) aj⟩⟩;have Q:=O.block g (hF g T);exact⟨R V Q 0 (by decide),R V Q 1 (by decide),R V Q 2 (by decide),R V Q 3 (by decide),R V Q 4 (by decide)⟩
 have HL:Hid (∀i,(w++(m.take i).flatMap q).length<=999999999):=λi=>by
  have:=Qr q m i;rw[<-H0.out];rw[AC]at hl ⊢;omega
 have HT:Hid (m.flatMap q=(m.take n).flatMap q):=by show _=_;rw[<-hN,K0]
 rw[HT.out];rw[H0.out]at c ⊢;rw[hN]at c M hn ⊢;have HS:Hid (∀i d,m[i]?=Aj d->w++(m.take (i+1)).flatMap q=(w++(m.take i).flatMap q)++q d):=λi d x=>by rw[Qq q m i d x,CE]
 have cK:∀(V:Al) (l:A2),l.length<=999999999->An Ao 63 #[A7 Ah 3,A7 Ah l.length] V (FX (AO 3 l.length) V):=λV l ad=>MK V 3 l.length (by decide) (by omega);unfold Ax at *;go_enter func39,ntmps39
 go_wp2_with(first|(go_at_call 63;refine(c _).mono ?_;rintro e w2 ⟨rfl,aa⟩;unfold BU))
 go_loopg[5,6] n (λg zs zi wr=>∃(i:Nat) (L:A2),zs=Aa ⟨L.toArray⟩/\zi=A7 Ah i/\Hid (i+g=n)/\Hid (L=w++(m.take i).flatMap q)/\Hid (Ft W #[A7 Ah 7,A7 Ah 0,Aa ⟨#[]⟩,A8 b n J,A8 a n N] wr))
 case atStart=>exact⟨0,w,rfl,rfl,by show _=_;omega,by show _=_;simp,M.next aa⟩
 case round =>
  obtain⟨i,L,rfl,rfl,T,ae,M⟩:=hrel;have c4:=Ar M.box 4
  cases gk with
  |zero =>
   obtain rfl:i=n:=T.out;have an:¬(i:Int)<(i:Int):=by omega
   go_wp2;go_ret;rw[<-ae.out];exact⟨rfl,M.below⟩
  |succ g =>
   have al:i<n:=by have:=T.out;omega
   have an:(i:Int)<(n:Int):=by omega
   obtain⟨ee,l,v,r,gk,B,z,s,y,C,D,E,G,H,x,Y,rfl,rfl,hk⟩:=af.out i al;obtain⟨I,K⟩:∃I,Hid (L++AO 3 l.length=I):=⟨_,show _=_ from rfl⟩
   obtain⟨t,h⟩:∃t,Hid (I++l=t):=⟨_,show _=_ from rfl⟩
   have HN:Hid (w++(m.take (i+1)).flatMap q=t++v):=by show _=_;rw[HS.out i ee x,<-ae.out,Y,<-h.out,<-K.out];simp only[CE]
   have ab:l.length<=999999999/\¬(L.length+(AO 3 l.length).length>9223372036854775807)/\¬(I.length+l.length>9223372036854775807)/\¬(t.length+v.length>9223372036854775807):=by
    have h1:=HL.out (i+1);rw[HN.out,AC]at h1;have h2:t.length=I.length+l.length:=by rw[<-h.out,AC]
    have h3:I.length=L.length+(AO 3 l.length).length:=by rw[<-K.out,AC]
    omega
   obtain⟨ab,g1,g2,g3⟩:=ab;have U:Hid (∀V,Ft W #[A7 Ah 7,A7 Ah 0,Aa ⟨#[]⟩,A8 (Aj ⟨gk,0,Ak⟩) n J,A8 (Aj ⟨r,0,Ak⟩) n N] V->V.cell? ⟨gk,i,Ak⟩=Aj (Aa ⟨l.toArray⟩)/\(V.cell? ⟨r,i*5,Ak⟩=Aj (A7 Ah B)/\V.cell? ⟨r,i*5+1,Ak⟩=Aj (A7 Ah z)/\V.cell? ⟨r,i*5+2,Ak⟩=Aj (.string s)/\V.cell? ⟨r,i*5+3,Ak⟩=Aj (A8 y C D)/\V.cell? ⟨r,i*5+4,Ak⟩=Aj (A8 E G H))/\An Ao 39 #[Ac #[A7 Ah B,A7 Ah z,.string s,A8 y C D,A8 E G H]] V (FX v V)):=λV O=>hk V O.below;have ck:=λV=>cK V l ab
   go_wp2_with fail
   refine Cp (S:=Ft W #[A7 Ah 7,A7 Ah 0,Aa ⟨#[]⟩,A8 (Aj ⟨gk,0,Ak⟩) n J,A8 (Aj ⟨r,0,Ak⟩) n N]) M.drew (by kernel_rfl) ?_;intro o;refine Au 0 84 (Aa ⟨L.toArray⟩) o ?_;refine Au 1 85 (A9 (Aj ⟨W.heap.size,3,Ak⟩)) o ?_;refine AD 2 86 (A8 (Aj ⟨gk,0,Ak⟩) n J) rfl (λZ p=>?y2) o ?_
   case y2=>(have A:=Ar p.box 3;go_simp)
   refine Au 3 87 (A7 Ah i) o ?_;refine AD 4 88 (A9 (Aj ⟨gk,i,Ak⟩)) rfl (λZ p=>?y4) o ?_
   case y4=>go_simp
   refine AD 5 89 (Aa ⟨l.toArray⟩) rfl (λZ p=>?y5) o ?_
   case y5=>(have A:=(U Z p).1;go_simp)
   refine AD 6 90 (A7 Ah l.length) rfl (λZ p=>?y6) o ?_
   case y6=>go_simp
   refine Au 9 93 (A9 (Aj ⟨W.heap.size,3,Ak⟩)) o ?_;refine AD 10 94 (A8 (Aj ⟨gk,0,Ak⟩) n J) rfl (λZ p=>?z2) o ?_
   case z2=>(have A:=Ar p.box 3;go_simp)
   refine Au 11 95 (A7 Ah i) o ?_;refine AD 12 96 (A9 (Aj ⟨gk,i,Ak⟩)) rfl (λZ p=>?z4) o ?_
   case z4=>go_simp
   refine AD 13 97 (Aa ⟨l.toArray⟩) rfl (λZ p=>?z5) o ?_
   case z5=>(have A:=(U Z p).1;go_simp)
   refine Au 15 99 (A9 (Aj ⟨W.heap.size,4,Ak⟩)) o ?_;refine AD 16 100 (A8 (Aj ⟨r,0,Ak⟩) n N) rfl (λZ p=>?x2) o ?_
   case x2=>(have A:=Ar p.box 4;go_simp)
   refine Au 17 101 (A7 Ah i) o ?_;refine AD 18 102 (A9 (Aj ⟨r,i*5,Ak⟩)) rfl (λZ p=>?x4) o ?_
   case x4=>go_simp
   refine AD 19 103 (Ac #[A7 Ah B,A7 Ah z,.string s,A8 y C D,A8 E G H]) rfl (λZ p=>?x5) o ?_
   case x5=>(obtain⟨k0,k1,k2,k3,k4⟩:=(U Z p).2.1;go_simp)
   refine Bc 7 (λag hK=>?_);go_simp;refine(ck _).mono ?_;rintro e w2 ⟨rfl,aa⟩;have P:=o.next aa
   refine hK.out _ _ P (λ_=>?_);refine AD 8 92 (BU I) rfl (λZ p=>?u1) P ?_
   case u1=>(unfold BU;go_simp;rw[<-K.out];exact KB _ _)
   refine AD 14 98 (BU t) rfl (λZ p=>?u2) P ?_
   case u2=>(unfold BU;go_simp;rw[<-h.out];exact KB _ _)
   refine Bc 20 (λag hK=>?_);go_simp;refine(U _ P).2.2.mono ?_;rintro e w3 ⟨rfl,ah⟩;have X:=P.next ah
   refine hK.out _ _ X (λ_=>?_);refine AD 21 105 (BU (t++v)) rfl (λZ p=>?u3) X ?_
   case u3=>(unfold BU;go_simp;exact KB _ _)
   refine Au 22 5 (BU (t++v)) X ?_;refine Bw ?_;go_wp2;go_roundg g
   case measure=>omega
   case rel=>exact⟨i+1,_,rfl,by go_num,by show _=_;have:=T.out;omega,HN.symm,X⟩
theorem Lr{a b:A4}(h:Value.agg a=.agg b):a=b:=by injection h
theorem U1:∀(k:Nat) (W:Al) (F:Nat->Prop) (a:A4) (d:A3),(∀j,F j->j<W.heap.size)->BG k W F (.agg a) d->(BD k d).length<=999999999->An Ao 39 #[.agg a] W (FX (BD k d) W)
 |0,_,_,_,_,_,h,_=>h.elim
 |k+1,W,F,a,d,hF,h,hl=>by
  unfold BG at h;split at h
  ·obtain rfl:=Lr h;exact U0 W 0 246 246 (by decide) rfl
  ·rename_i b
   obtain rfl:=Lr h;cases b
   ·exact U0 W 1 244 244 (by decide) rfl
   exact U0 W 2 245 245 (by decide) rfl
  ·obtain⟨h,c,e⟩:=h;obtain rfl:=Lr h;exact rT W _ c e
  ·rename_i l
   obtain rfl:=Lr h;exact(ZR W l (by have:(AO 3 l.length++l).length<=999999999:=hl;rw[AC]at this;omega)).1
  ·rename_i l
   obtain rfl:=Lr h;exact(ZR W l (by have:(AO 2 l.length++l).length<=999999999:=hl;rw[AC]at this;omega)).2
  ·obtain⟨u,m,h,i,g⟩:=h;obtain rfl:=Lr h;exact rU k W F u m _ (BD k) hF i g hl (λV a d c e f=>U1 k V F a d c e f)
  ·obtain⟨o,u,m,h,n,i,g⟩:=h;obtain rfl:=Lr h;exact rV k W F o u m _ (BD k) hF n i g hl (λV a d c e f=>U1 k V F a d c e f)
  exact h.elim
theorem ZU{ev:Operand->Am}{o:Oper}(x:Nat)(a:W.heap[g]?=Aj (Af c.arr 25))(b:o.op=.load 25 (.tmp x))(d:ev (.tmp x)=A9 (Aj ⟨g,0,Ak⟩)):(execOp ev o).run Ao W=.ok (.value (.agg c.arr)) W :=
 Q9 _ _ b g d _ _ _ _ a underlying25 rfl (Dg c.size)
theorem ZV{ops:Array Oper}{Q:Exit->Act->Al->Prop}{md:Region.Mode}{S:Al->Prop}{fuel:Nat}{listed:Array Bool}{a:Act}(i x y g:Nat)(s:A2)(R:AP)(e p:Int)(q:(Region.ready md ops listed,ops[i]?.map λo=>(Region.wanted o (yielded ops a.tmps),o.op,o.dst),a.eval (.tmp x),a.eval (.tmp y))=([i],Aj (true,.store 34 (.tmp x) (.tmp y),Ak),A9 (Aj ⟨g,0,Ak⟩),.agg (C4 s R e p)))(n:w.heap[g]?=Aj (Af Dc 34))(m:S (w.setRow g (C4 s R e p)))(h:wpAnyH Ao md ops Q S fuel (listed.setIfInBounds i true) a (w.setRow g (C4 s R e p))):wpAnyH Ao md ops Q S (fuel+1) listed a w:=by
 obtain⟨j,b⟩:=Eh q;obtain⟨b,c⟩:=Eh b;obtain⟨c,k⟩:=Eh c;obtain⟨o,r,d⟩:=MP.1 b;obtain⟨d,f⟩:=Eh d;obtain⟨f,l⟩:=Eh f;exact TN i j r d _ _ _ f l g _ c k _ _ n (Mu _ _ _ _) rfl (Th _ _ _ _) m h
theorem ZW(h:Bl c=0)(s:A2){z:Cz}(a:Fo c (s.take (c.bytes.toNat+1))=z):Mv c s=C4 (CD z) (C3 z) (Co z) (D5 z):=by
 unfold Mv;rw[As h,a]
end
end Go.Proofs.YtoegnhgofkhbnaaGreatDoor
