import Derived.Test.YtpifimohecagoaaGreatDoorPq17
set_option maxRecDepth 100000
set_option maxHeartbeats 8000000
namespace Go.Proofs.YtpifimohecagoaaGreatDoor
open Go.Proofs.Tryz
variable{b k:Nat}{W:World}{s:Src}{rd:Nat->Except (Int×Int) (DataW Unit×Nat)}{bs:List UInt8}
section
open Go.RowKit
def qmY{α:Type}(W:World)(b:Nat)(s:Src)(val:World->Value->α->Prop)(r:Except (Int×Int) (α×Nat))(e:Ending)(W':World):Prop :=
 But b W W'/\match r with
 |.ok (x,p)=>(∃v,e=.returned v/\val W' v x)/\qad W' b {s with pos:=p}
 |.error (en,pl)=>qan en pl e
theorem qtg(c:b<W.heap.size):qi4 b s (qoQ k W b s) (λV=>But b W V) :=
 ⟨λ_ _ _ _ _ h=>h.src,λ_ _ _ _ _ _ _ _ h d a e=>h.step c d a (by have:=h.len;omega),λ_ _ _ _ _ h=>h.box,λ_ _ _ _ _ h=>h.but,λ_ _ h a=>h.trans a⟩
theorem qsT(c:b<W.heap.size):qi4 b s (qgj k W b s) (λV=>But b W V) :=
 ⟨λ_ _ _ _ _ h=>h.src,λ_ _ _ _ _ _ _ _ h e a d=>h.go c e a d,λ_ _ _ _ _ h=>h.box,λ_ _ _ _ _ h=>h.but,λ_ _ h a=>h.trans a⟩
theorem qu5(c:∀p d q,rd p=.ok (d,q)->p<q):∀a p b q,liJ rd a p=.ok (b,q)->p<q:=λa p b q h=>by
 unfold liJ at h;split at h
 ·cases h
 next d r hr =>
 injection h with h;injection h with h1 h2;have:=c _ _ _ hr;omega
theorem quM{lim:Int}(c:∀p d q,rd p=.ok (d,q)->p<q):∀a p b q,enJ bs lim rd a p=.ok (b,q)->p<q:=λa p b q h=>by
 unfold enJ at h;split at h
 ·cases h
 next l p1 h1 =>
 split at h
 ·cases h
 next u2 p2 h2 =>
 split at h
 ·cases h
 next u3 p3 h3 =>
 split at h
 ·cases h
 next u4 p4 h4 =>
 split at h
 ·cases h
 next d p5 h5 =>
 injection h with h;injection h with h6 h7;have:=qpG h1;have:=qc6 _ _ _ _ _ _ h2;have:=qck _ _ _ _ _ _ h3;have:=qc6 _ _ _ _ _ _ h4;have:=c _ _ _ h5;omega
theorem qvy(k:Nat)(h:qad W b s):qoQ k W b s (W.heap.size+2) s.within s.pos [] (((W.alloc (.cells #[.pointer (some ⟨b,0,none⟩)] 130)).alloc (.cells #[.slice none 0 0] 194)).alloc (.cells #[.pointer (some ⟨b,0,none⟩)] 130)):=by
 have a:Below W.heap.size W (((W.alloc (.cells #[.pointer (some ⟨b,0,none⟩)] 130)).alloc (.cells #[.slice none 0 0] 194)).alloc (.cells #[.pointer (some ⟨b,0,none⟩)] 130)):=((bwA).alloc (by simp) _).alloc (by simp;omega) _;refine⟨h.below a,But.of_below a,?_,?_,Nat.le_refl _,⟨none,0,0,[],?_,World.ownsRow_nil _ _ _ _,by simp[Value.ownBlock],λi x d c=>by simp at c⟩,by simp,Nat.zero_le _⟩
 ·exact(Below.heap_alloc _ _ _ (by simp;omega)).trans ((Below.heap_alloc _ _ _ (by simp)).trans (qac W _))
 ·have:=qac ((W.alloc (.cells #[.pointer (some ⟨b,0,none⟩)] 130)).alloc (.cells #[.slice none 0 0] 194)) (.cells #[.pointer (some ⟨b,0,none⟩)] 130);rw[World.size_alloc,World.size_alloc]at this;exact this
 refine(Below.heap_alloc _ _ _ (by simp)).trans ?_;have:=qac (W.alloc (.cells #[.pointer (some ⟨b,0,none⟩)] 130)) (.cells #[.slice none 0 0] 194);rw[World.size_alloc]at this;exact this
theorem quV(k:Nat)(h:qad W b s):qgj k W b s (W.heap.size+4) s.within s.pos ([],[]) (((((W.alloc (.cells #[.pointer (some ⟨b,0,none⟩)] 130)).alloc (.cells #[.slice none 0 0] 196)).alloc (.map #[] 0)).alloc (.cells #[.map (some (W.heap.size+2))] 308)).alloc (.cells #[.pointer (some ⟨b,0,none⟩)] 130)):=by
 have e:Below W.heap.size W (((((W.alloc (.cells #[.pointer (some ⟨b,0,none⟩)] 130)).alloc (.cells #[.slice none 0 0] 196)).alloc (.map #[] 0)).alloc (.cells #[.map (some (W.heap.size+2))] 308)).alloc (.cells #[.pointer (some ⟨b,0,none⟩)] 130)):=((((bwA).alloc (by simp) _).alloc (by simp;omega) _).alloc (by simp;omega) _).alloc (by simp;omega) _;generalize hA:W.alloc (.cells #[.pointer (some ⟨b,0,none⟩)] 130)=A at *;have c:A.heap.size=W.heap.size+1:=by rw[<-hA];simp
 have f:A.heap[W.heap.size]?=some (.cells #[.pointer (some ⟨b,0,none⟩)] 130):=by rw[<-hA];exact qac W _
 generalize hC:A.alloc (.cells #[.slice none 0 0] 196)=C at *;have a:C.heap.size=W.heap.size+2:=by rw[<-hC];simp[c]
 have g:C.heap[W.heap.size]?=some (.cells #[.pointer (some ⟨b,0,none⟩)] 130):=by rw[<-hC];exact(Below.heap_alloc _ _ _ (by omega)).trans f
 have j:C.heap[W.heap.size+1]?=some (.cells #[.slice none 0 0] 196):=by rw[<-hC,<-c];exact qac A _
 have m:qaL (C.alloc (.map #[] 0)) (W.heap.size+2) []:=⟨.map [],by rw[<-a];exact World.ownsMap_made C prog 9 (unitElem (H:=Unit)),λl=>by simp[Maps.has]⟩
 refine⟨h.below e,But.of_below e,?_,?_,?_,?_,Nat.le_refl _,⟨none,0,0,[],?_,World.ownsRow_nil _ _ _ _,by simp[Value.ownBlock],λi x d n=>by simp at n⟩,by simp;omega,⟨Nat.zero_le _,Nat.zero_le _⟩⟩
 ·exact(Below.heap_alloc _ _ _ (by simp;omega)).trans ((Below.heap_alloc _ _ _ (by simp;omega)).trans ((Below.heap_alloc _ _ _ (by omega)).trans g))
 ·refine(Below.heap_alloc _ _ _ (by simp;omega)).trans ?_;have:=qac (C.alloc (.map #[] 0)) (.cells #[.map (some (W.heap.size+2))] 308);rw[World.size_alloc,a]at this;exact this
 ·exact(m.but (b:=W.heap.size) (by omega) (But.of_below bwA)).but (b:=W.heap.size) (by omega) (But.of_below bwA)
 ·have:=qac ((C.alloc (.map #[] 0)).alloc (.cells #[.map (some (W.heap.size+2))] 308)) (.cells #[.pointer (some ⟨b,0,none⟩)] 130);rw[World.size_alloc,World.size_alloc,a]at this;exact this
 exact(Below.heap_alloc _ _ _ (by simp;omega)).trans ((Below.heap_alloc _ _ _ (by simp;omega)).trans ((Below.heap_alloc _ _ _ (by omega)).trans j))
theorem qiF(k:Nat)(W:World)(b:Nat)(s:Src)(f:Nat->Except (Int×Int) (DataW Unit×Nat))(h:qad W b s)(Y:qgC k b {s with within:=s.within+1} W f)(C:∀p d q,f p=.ok (d,q)->p<q)(U:s.bs.length<=200000000)(u:¬(s.within:Int)=s.depth)(Z:s.within<=100000):Calls prog 192 #[.agg #[.pointer (some ⟨b,0,none⟩)]] W (qmY W b s (λV v m=>(∃a n c,v=.slice a n c)/\qai (k+1) V (λj=>W.heap.size<=j/\j<V.heap.size) (.iface 194 v) (.agg m)) (qdV s.bs s.lim (liJ f) 93 s.pos [])):=by
 have S:=ltA h.row;have O:Below W.heap.size W ((W.alloc (.cells #[.pointer (some ⟨b,0,none⟩)] 130)).alloc (.cells #[.slice none 0 0] 194)):=(bwA).alloc (by simp) _;have o:=qh5 ((W.alloc (.cells #[.pointer (some ⟨b,0,none⟩)] 130)).alloc (.cells #[.slice none 0 0] 194)) b (W.heap.size+1) W.heap.size s (liJ f) [] (qoQ k W b s) (λV=>But b W V) (qtg S) (h.below O) u Z (by simp only[World.size_alloc];exact qvy k h) (λN p m V R=>qqi k W b s (s.within+1) f h Y C U N p m V R) (qu5 C);have ab:∀(A:Fn) (first r:Array Value) (w:World),(Instr.makeFunc A first r).run prog w=.ok (.func A first r) w:=λ_ _ _ _=>rfl;have kr:((W.alloc (.cells #[.pointer (some ⟨b,0,none⟩)] 130)).alloc (.cells #[.slice none 0 0] 194)).cell? ⟨W.heap.size,0,none⟩=some (.pointer (some ⟨b,0,none⟩)):=qaa ((Below.heap_alloc _ _ _ (by simp)).trans (qac W _)) 0
 cases D:qdV s.bs s.lim (liJ f) 93 s.pos []with
 |error K =>
  obtain⟨J,pl⟩:=K;rw[D]at o;go_enter func192,ntmps192
  go_wp2_with(first
   |(go_at_call 201;refine o.mono ?_;rintro e y hF;obtain⟨hF,P⟩:=(show qan J pl e/\But b W y from hF);obtain rfl:=hF))
  exact⟨rfl,P,rfl⟩
 |ok I =>
  obtain⟨m,q⟩:=I;rw[D]at o;go_enter func192,ntmps192
  go_wp2_with(first
   |(go_at_call 201;refine o.mono ?_;rintro e y hF;obtain⟨rfl,t⟩:=(show e=.returned (.tuple #[])/\qoQ k W b s _ s.within q m y from hF);obtain⟨a,ad,c,xs,Q,X,ac,i⟩:=t.own;have kl:=qaa Q 0;have z:=qab X;have G:=qab i;have E:=qab t.but;have F:=qab t.src))
  go_ret;refine⟨E.out,⟨_,rfl,⟨_,_,_,rfl⟩,?_⟩,F.out⟩;unfold qai;refine⟨_,xs,rfl,⟨z.out.1,?_⟩,λx aa d l u=>(G.out x aa d l u).same (λj T=>⟨by omega,T.2.1⟩) (λ_ _=>rfl)⟩;rcases z.out.2 with L|⟨g,r,H,e,hb,B,M⟩
  ·exact .inl L
  exact .inr ⟨g,r,H,e,⟨by omega,(ltA B)⟩,B,M⟩
theorem qkb(k:Nat)(W:World)(b:Nat)(s:Src)(f:Nat->Except (Int×Int) (DataW Unit×Nat))(h:qad W b s)(Y:qgC k b {s with within:=s.within+1} W f)(z:∀p d q,f p=.ok (d,q)->p<q)(U:s.bs.length<=200000000)(P:∀V,But b W V->U8 V)(K:7<b)(S:¬(s.within:Int)=s.depth)(Z:s.within<=100000):Calls prog 193 #[.agg #[.pointer (some ⟨b,0,none⟩)]] W (qmY W b s (λV v i=>(∃a n c,v=.slice a n c)/\qai (k+1) V (λj=>W.heap.size<=j/\j<V.heap.size) (.iface 196 v) (.map i.2)) (qdV s.bs s.lim (enJ s.bs s.lim f) 125 s.pos ([],[]))):=by
 have R:=ltA h.row;have ab:∀V:World,(Instr.makeMap 308 none).run prog V=.ok (.map (some V.heap.size)) (V.alloc (.map #[] 0)):=λV=>by kernel_rfl
 have L:Below W.heap.size W ((((W.alloc (.cells #[.pointer (some ⟨b,0,none⟩)] 130)).alloc (.cells #[.slice none 0 0] 196)).alloc (.map #[] 0)).alloc (.cells #[.map (some (W.heap.size+2))] 308)):=(((bwA).alloc (by simp) _).alloc (by simp;omega) _).alloc (by simp;omega) _;have m:=qjx ((((W.alloc (.cells #[.pointer (some ⟨b,0,none⟩)] 130)).alloc (.cells #[.slice none 0 0] 196)).alloc (.map #[] 0)).alloc (.cells #[.map (some (W.heap.size+2))] 308)) b (W.heap.size+1) W.heap.size (W.heap.size+3) s (enJ s.bs s.lim f) ([],[]) (qgj k W b s) (λV=>But b W V) (qsT R) (h.below L) S Z (by simp only[World.size_alloc];exact quV k h) (λN p i V Q=>qtB k W b s (s.within+1) f h Y z U P K N p i V Q) (quM z);have aa:∀(x:Fn) (first o:Array Value) (w:World),(Instr.makeFunc x first o).run prog w=.ok (.func x first o) w:=λ_ _ _ _=>rfl;have kr:((((W.alloc (.cells #[.pointer (some ⟨b,0,none⟩)] 130)).alloc (.cells #[.slice none 0 0] 196)).alloc (.map #[] 0)).alloc (.cells #[.map (some (W.heap.size+2))] 308)).cell? ⟨W.heap.size,0,none⟩=some (.pointer (some ⟨b,0,none⟩)):=qaa ((Below.heap_alloc _ _ _ (by simp;omega)).trans ((Below.heap_alloc _ _ _ (by simp;omega)).trans ((Below.heap_alloc _ _ _ (by simp)).trans (qac W _)))) 0
 cases A:qdV s.bs s.lim (enJ s.bs s.lim f) 125 s.pos ([],[])with
 |error H =>
  obtain⟨G,pl⟩:=H;rw[A]at m;go_enter func193,ntmps193
  go_wp2_with(first
   |(go_at_call 201;refine m.mono ?_;rintro e t hF;obtain⟨hF,M⟩:=(show qan G pl e/\But b W t from hF);obtain rfl:=hF))
  exact⟨rfl,M,rfl⟩
 |ok F =>
  obtain⟨i,q⟩:=F;rw[A]at m;go_enter func193,ntmps193
  go_wp2_with(first
   |(go_at_call 201;refine m.mono ?_;rintro e t hF;obtain⟨rfl,r⟩:=(show e=.returned (.tuple #[])/\qgj k W b s _ s.within q i t from hF);obtain⟨a,ad,c,xs,O,X,ac,l⟩:=r.own;have kl:=qaa O 0;have u:=qab X;have D:=qab l;have B:=qab r.but;have C:=qab r.src))
  go_ret;refine⟨B.out,⟨_,rfl,⟨_,_,_,rfl⟩,?_⟩,C.out⟩;unfold qai;refine⟨_,xs,rfl,⟨u.out.1,?_⟩,D.out.same (λj T=>⟨by omega,T.2.1⟩) (λ_ _=>rfl)⟩;rcases u.out.2 with I|⟨g,o,E,e,hb,y,J⟩
  ·exact .inl I
  exact .inr ⟨g,o,E,e,⟨by omega,(ltA y)⟩,y,J⟩

theorem qea(W:World)(b:Nat)(s:Src)(last:Int)(f:Fn)(g cs:Array Value)(h:qad W b s)(j:(s.within:Int)=s.depth):Calls prog 201 #[.agg #[.pointer (some ⟨b,0,none⟩)],.int .u8 last,.func f g cs] W λe c=>qan 11 ((s.pos:Int)-1) e/\But b W c:=by
 have a:=qab (qaX h);have d:=qko _ b s a.out.src j;have k:=qaa a.out.box 0;go_enter func201,ntmps201;go_wp2;go_step3
 go_wp2_with(first
  |(go_at_call 181;refine d.mono ?_;rintro e l ⟨hF,i,_⟩;obtain rfl:=hF))
 exact⟨rfl,rfl,a.out.but.trans i⟩
theorem qiZ(W:World)(b:Nat)(s:Src)(h:qad W b s)(l:(s.within:Int)=s.depth):Calls prog 192 #[.agg #[.pointer (some ⟨b,0,none⟩)]] W λe g=>qan 11 ((s.pos:Int)-1) e/\But b W g:=by
 have d:Below W.heap.size W ((W.alloc (.cells #[.pointer (some ⟨b,0,none⟩)] 130)).alloc (.cells #[.slice none 0 0] 194)):=(bwA).alloc (by simp) _;have f:Hid (But b W ((W.alloc (.cells #[.pointer (some ⟨b,0,none⟩)] 130)).alloc (.cells #[.slice none 0 0] 194))):=But.of_below d;have n:∀V:World,(Instr.makeMap 308 none).run prog V=.ok (.map (some V.heap.size)) (V.alloc (.map #[] 0)):=λV=>by kernel_rfl
 have i:=λlast a j cs=>qea _ b s last a j cs (h.below d) l;have m:∀(a:Fn) (first c:Array Value) (w:World),(Instr.makeFunc a first c).run prog w=.ok (.func a first c) w:=λ_ _ _ _=>rfl;have o:((W.alloc (.cells #[.pointer (some ⟨b,0,none⟩)] 130)).alloc (.cells #[.slice none 0 0] 194)).cell? ⟨W.heap.size,0,none⟩=some (.pointer (some ⟨b,0,none⟩)):=qaa ((Below.heap_alloc _ _ _ (by simp)).trans (qac W _)) 0;go_enter func192,ntmps192
 go_wp2_with(first
  |(go_at_call 201;refine(i _ _ _ _).mono ?_;rintro e p ⟨hF,k⟩;obtain rfl:=hF))
 exact⟨rfl,rfl,f.out.trans k⟩
theorem qkh(W:World)(b:Nat)(s:Src)(h:qad W b s)(l:(s.within:Int)=s.depth):Calls prog 193 #[.agg #[.pointer (some ⟨b,0,none⟩)]] W λe g=>qan 11 ((s.pos:Int)-1) e/\But b W g:=by
 have d:Below W.heap.size W ((((W.alloc (.cells #[.pointer (some ⟨b,0,none⟩)] 130)).alloc (.cells #[.slice none 0 0] 196)).alloc (.map #[] 0)).alloc (.cells #[.map (some (W.heap.size+2))] 308)):=(((bwA).alloc (by simp) _).alloc (by simp;omega) _).alloc (by simp;omega) _;have f:Hid (But b W ((((W.alloc (.cells #[.pointer (some ⟨b,0,none⟩)] 130)).alloc (.cells #[.slice none 0 0] 196)).alloc (.map #[] 0)).alloc (.cells #[.map (some (W.heap.size+2))] 308))):=But.of_below d;have n:∀V:World,(Instr.makeMap 308 none).run prog V=.ok (.map (some V.heap.size)) (V.alloc (.map #[] 0)):=λV=>by kernel_rfl
 have i:=λlast a j cs=>qea _ b s last a j cs (h.below d) l;have m:∀(a:Fn) (first c:Array Value) (w:World),(Instr.makeFunc a first c).run prog w=.ok (.func a first c) w:=λ_ _ _ _=>rfl;have o:((((W.alloc (.cells #[.pointer (some ⟨b,0,none⟩)] 130)).alloc (.cells #[.slice none 0 0] 196)).alloc (.map #[] 0)).alloc (.cells #[.map (some (W.heap.size+2))] 308)).cell? ⟨W.heap.size,0,none⟩=some (.pointer (some ⟨b,0,none⟩)):=qaa ((Below.heap_alloc _ _ _ (by simp;omega)).trans ((Below.heap_alloc _ _ _ (by simp;omega)).trans ((Below.heap_alloc _ _ _ (by simp)).trans (qac W _)))) 0;go_enter func193,ntmps193
 go_wp2_with(first
  |(go_at_call 201;refine(i _ _ _ _).mono ?_;rintro e p ⟨hF,k⟩;obtain rfl:=hF))
 exact⟨rfl,rfl,f.out.trans k⟩
theorem qmm{lim:Int}{most:Nat}{z:Bool}:∀{g p num:Nat} {x q:Nat},qeQ bs lim most z g p num=.ok (x,q)->p<=q
 |0,p,num,x,q,h=>by
  unfold qeQ at h;cases h;exact Nat.le_refl _
 |g+1,p,num,x,q,h=>by
  unfold qeQ at h;split at h
  ·cases h;exact Nat.le_refl _
  split at h
  ·cases h
  split at h
  ·split at h
   ·cases h
   split at h
   ·cases h
   have:=qmm h;omega
  split at h
  ·cases h
  cases h;exact Nat.le_refl _
theorem qff{c:UInt8}{z:Int}{q:Nat}(a:c.toNat=45\/qbO c=true)(h:qeq s c=.ok (z,q)):(-9223372036854775808<=z/\z<=9223372036854775807)/\s.pos<=q:=by
 unfold qeq at h;split at h
 ·split at h
  ·cases h
  split at h
  ·cases h
  split at h
  ·next c' _ _ b =>
   have d:=of_decide_eq_true b;split at h
   ·next x p hx =>
    injection h with h;injection h with h1 h2;have:=qgS (by omega) (by decide) hx;have:=qmm hx;exact⟨by omega,by omega⟩
   cases h
  cases h
 next hn =>
 have b:qbO c=true:=by
  rcases a with a|a
  ·exact absurd a hn
  exact a
 have d:=of_decide_eq_true b;split at h
 ·next x p hx =>
  injection h with h;injection h with h1 h2;have:=qgS (by omega) (by decide) hx;have:=qmm hx;exact⟨by omega,by omega⟩
 cases h
theorem qp4(g:Nat)(W:World)(b:Nat)(s:Src)(c:UInt8)(h:qad W b s)(w:qgu s c)(A:c.toNat=110):Calls prog 188 #[.agg #[.pointer (some ⟨b,0,none⟩)]] W (qcj (g+1) W b s (match qaQ s.bs s.lim [117,108,108] (s.pos+1)with|.error e=>.error e|.ok (_,q)=>.ok (.nil,q))):=by
 have d:=qab (qaX h);have r:=d.out.cell;have o:=qaw _ b s c d.out.src w;have J:=ltA h.row;have D:((c.toNat:Int)==110)=true:=by rw[A];rfl
 have E:=nec (c:=c) 116 (by omega);have F:=nec (c:=c) 102 (by omega);have G:=nec (c:=c) 34 (by omega);have H:=nec (c:=c) 91 (by omega);have I:=nec (c:=c) 123 (by omega);have f:∀V,qad V b s.next->But b W V->Calls prog 190 #[.agg #[.pointer (some ⟨b,0,none⟩)],.string ⟨#[117,108,108]⟩] V (qbU V b s.next (λ_:Unit=>.tuple #[]) (qaQ s.bs s.lim [117,108,108] (s.pos+1))):=λV z _=>qbB V b s.next [117,108,108] (by simp) z
 cases p:qaQ s.bs s.lim [117,108,108] (s.pos+1)with
 |error v =>
  obtain⟨u,B⟩:=v;rw[p]at f;simp only[];go_enter func188,ntmps188
  go_wp2_with(first
   |(go_at_call 186;refine o.mono ?_;rintro e n ⟨rfl,m,j⟩;have a:=qab (d.out.step m j);have r:=a.out.cell;have i:=f n a.out.src a.out.but)
   |(go_at_call 190;refine i.mono ?_;rintro e t ⟨k,l⟩;obtain rfl:=(show qan u B e from l)))
  exact⟨rfl,a.out.but.trans k,rfl⟩
 |ok C =>
  obtain⟨x,q⟩:=C;rw[p]at f;simp only[];go_enter func188,ntmps188
  go_wp2_with(first
   |(go_at_call 186;refine o.mono ?_;rintro e n ⟨rfl,m,j⟩;have a:=qab (d.out.step m j);have r:=a.out.cell;have i:=f n a.out.src a.out.but)
   |(go_at_call 190;refine i.mono ?_;rintro e t ⟨k,l⟩;obtain⟨rfl,y⟩:=(show e=.returned (.tuple #[])/\qad t b {s with pos:=q}from l)))
  go_ret;exact⟨a.out.but.trans k,⟨_,_,rfl,rfl⟩,y⟩
theorem qoC(g:Nat)(W:World)(b:Nat)(s:Src)(c:UInt8)(h:qad W b s)(w:qgu s c)(A:c.toNat=116):Calls prog 188 #[.agg #[.pointer (some ⟨b,0,none⟩)]] W (qcj (g+1) W b s (match qaQ s.bs s.lim [114,117,101] (s.pos+1)with|.error e=>.error e|.ok (_,q)=>.ok (.lit (.bool true),q))):=by
 have d:=qab (qaX h);have r:=d.out.cell;have o:=qaw _ b s c d.out.src w;have J:=ltA h.row;have D:=nec (c:=c) 110 (by omega);have E:((c.toNat:Int)==116)=true:=by rw[A];rfl
 have F:=nec (c:=c) 102 (by omega);have G:=nec (c:=c) 34 (by omega);have H:=nec (c:=c) 91 (by omega);have I:=nec (c:=c) 123 (by omega);have f:∀V,qad V b s.next->But b W V->Calls prog 190 #[.agg #[.pointer (some ⟨b,0,none⟩)],.string ⟨#[114,117,101]⟩] V (qbU V b s.next (λ_:Unit=>.tuple #[]) (qaQ s.bs s.lim [114,117,101] (s.pos+1))):=λV z _=>qbB V b s.next [114,117,101] (by simp) z
 cases p:qaQ s.bs s.lim [114,117,101] (s.pos+1)with
 |error v =>
  obtain⟨u,B⟩:=v;rw[p]at f;simp only[];go_enter func188,ntmps188
  go_wp2_with(first
   |(go_at_call 186;refine o.mono ?_;rintro e n ⟨rfl,m,j⟩;have a:=qab (d.out.step m j);have r:=a.out.cell;have i:=f n a.out.src a.out.but)
   |(go_at_call 190;refine i.mono ?_;rintro e t ⟨k,l⟩;obtain rfl:=(show qan u B e from l)))
  exact⟨rfl,a.out.but.trans k,rfl⟩
 |ok C =>
  obtain⟨x,q⟩:=C;rw[p]at f;simp only[];go_enter func188,ntmps188
  go_wp2_with(first
   |(go_at_call 186;refine o.mono ?_;rintro e n ⟨rfl,m,j⟩;have a:=qab (d.out.step m j);have r:=a.out.cell;have i:=f n a.out.src a.out.but)
   |(go_at_call 190;refine i.mono ?_;rintro e t ⟨k,l⟩;obtain⟨rfl,y⟩:=(show e=.returned (.tuple #[])/\qad t b {s with pos:=q}from l)))
  go_ret;exact⟨a.out.but.trans k,⟨_,_,rfl,rfl⟩,y⟩
theorem qlw(g:Nat)(W:World)(b:Nat)(s:Src)(c:UInt8)(h:qad W b s)(w:qgu s c)(A:c.toNat=102):Calls prog 188 #[.agg #[.pointer (some ⟨b,0,none⟩)]] W (qcj (g+1) W b s (match qaQ s.bs s.lim [97,108,115,101] (s.pos+1)with|.error e=>.error e|.ok (_,q)=>.ok (.lit (.bool false),q))):=by
 have d:=qab (qaX h);have r:=d.out.cell;have o:=qaw _ b s c d.out.src w;have J:=ltA h.row;have D:=nec (c:=c) 110 (by omega);have E:=nec (c:=c) 116 (by omega);have F:((c.toNat:Int)==102)=true:=by rw[A];rfl
 have G:=nec (c:=c) 34 (by omega);have H:=nec (c:=c) 91 (by omega);have I:=nec (c:=c) 123 (by omega);have f:∀V,qad V b s.next->But b W V->Calls prog 190 #[.agg #[.pointer (some ⟨b,0,none⟩)],.string ⟨#[97,108,115,101]⟩] V (qbU V b s.next (λ_:Unit=>.tuple #[]) (qaQ s.bs s.lim [97,108,115,101] (s.pos+1))):=λV z _=>qbB V b s.next [97,108,115,101] (by simp) z
 cases p:qaQ s.bs s.lim [97,108,115,101] (s.pos+1)with
 |error v =>
  obtain⟨u,B⟩:=v;rw[p]at f;simp only[];go_enter func188,ntmps188
  go_wp2_with(first
   |(go_at_call 186;refine o.mono ?_;rintro e n ⟨rfl,m,j⟩;have a:=qab (d.out.step m j);have r:=a.out.cell;have i:=f n a.out.src a.out.but)
   |(go_at_call 190;refine i.mono ?_;rintro e t ⟨k,l⟩;obtain rfl:=(show qan u B e from l)))
  exact⟨rfl,a.out.but.trans k,rfl⟩
 |ok C =>
  obtain⟨x,q⟩:=C;rw[p]at f;simp only[];go_enter func188,ntmps188
  go_wp2_with(first
   |(go_at_call 186;refine o.mono ?_;rintro e n ⟨rfl,m,j⟩;have a:=qab (d.out.step m j);have r:=a.out.cell;have i:=f n a.out.src a.out.but)
   |(go_at_call 190;refine i.mono ?_;rintro e t ⟨k,l⟩;obtain⟨rfl,y⟩:=(show e=.returned (.tuple #[])/\qad t b {s with pos:=q}from l)))
  go_ret;exact⟨a.out.but.trans k,⟨_,_,rfl,rfl⟩,y⟩
theorem qnR(g:Nat)(W:World)(b:Nat)(s:Src)(c:UInt8)(h:qad W b s)(y:qgu s c)(E:c.toNat=34)(F:s.bs.length<=200000000)(C:∀V,But b W V->U8 V)(z:7<b):Calls prog 188 #[.agg #[.pointer (some ⟨b,0,none⟩)]] W (qcj (g+1) W b s (match qcT s.bs s.lim (s.bs.length+1-(s.pos+1)) (s.pos+1) [] 0 with|.error e=>.error e|.ok (x,q)=>.ok (.lit (.string x),q))):=by
 have d:=qab (qaX h);have t:=d.out.cell;have p:=qaw _ b s c d.out.src y;have O:=ltA h.row;have I:=nec (c:=c) 110 (by omega);have J:=nec (c:=c) 116 (by omega);have K:=nec (c:=c) 102 (by omega);have L:((c.toNat:Int)==34)=true:=by rw[E];rfl
 have M:=nec (c:=c) 91 (by omega);have N:=nec (c:=c) 123 (by omega);have f:∀V,qad V b s.next->But b W V->Calls prog 191 #[.agg #[.pointer (some ⟨b,0,none⟩)]] V (qbU V b s.next (λl:List UInt8=>.string ⟨l.toArray⟩) (qcT s.bs s.lim (s.bs.length+1-(s.pos+1)) (s.pos+1) [] 0)):=λV D A=>qf4 V b s.next D (C V A) z F
 cases r:qcT s.bs s.lim (s.bs.length+1-(s.pos+1)) (s.pos+1) [] 0 with
 |error w =>
  obtain⟨v,G⟩:=w;rw[r]at f;simp only[];go_enter func188,ntmps188
  go_wp2_with(first
   |(go_at_call 186;refine p.mono ?_;rintro e o ⟨rfl,n,j⟩;have a:=qab (d.out.step n j);have t:=a.out.cell;have i:=f o a.out.src a.out.but)
   |(go_at_call 191;refine i.mono ?_;rintro e u ⟨k,m⟩;obtain rfl:=(show qan v G e from m)))
  exact⟨rfl,a.out.but.trans k,rfl⟩
 |ok H =>
  obtain⟨x,q⟩:=H;rw[r]at f;simp only[];go_enter func188,ntmps188
  go_wp2_with(first
   |(go_at_call 186;refine p.mono ?_;rintro e o ⟨rfl,n,j⟩;have a:=qab (d.out.step n j);have t:=a.out.cell;have i:=f o a.out.src a.out.but)
   |(go_at_call 191;refine i.mono ?_;rintro e u ⟨k,m⟩;obtain⟨rfl,B⟩:=(show e=.returned (.string ⟨x.toArray⟩)/\qad u b {s with pos:=q}from m)))
  go_ret;exact⟨a.out.but.trans k,⟨_,_,rfl,rfl⟩,B⟩
theorem qo7(g:Nat)(W:World)(b:Nat)(s:Src)(c:UInt8)(h:qad W b s)(t:qgu s c)(N:c.toNat=91)(i:Nat->Except (Int×Int) (DataW Unit×Nat))(R:qgC g b {s with within:=s.within+1} W i)(P:∀p d q,i p=.ok (d,q)->p<q)(Q:s.bs.length<=200000000)(O:¬(s.within:Int)=s.depth)(S:s.within<=100000):Calls prog 188 #[.agg #[.pointer (some ⟨b,0,none⟩)]] W (qcj (g+1) W b s (match qdV s.bs s.lim (liJ i) 93 (s.pos+1) []with|.error e=>.error e|.ok (x,q)=>.ok (.agg x,q))):=by
 have k:=qab (qaX h);have E:=k.out.cell;have B:=qaw _ b s c k.out.src t;have aa:=ltA h.row;have e1:=nec (c:=c) 110 (by omega);have e2:=nec (c:=c) 116 (by omega);have e3:=nec (c:=c) 102 (by omega);have e4:=nec (c:=c) 34 (by omega);have e5:((c.toNat:Int)==91)=true:=by rw[N];rfl
 have e6:=nec (c:=c) 123 (by omega);have l:∀V,qad V b s.next->But b W V->Calls prog 192 #[.agg #[.pointer (some ⟨b,0,none⟩)]] V (qmY V b s.next (λA v x=>(∃a n c,v=.slice a n c)/\qai (g+1) A (λj=>V.heap.size<=j/\j<A.heap.size) (.iface 194 v) (.agg x)) (qdV s.bs s.lim (liJ i) 93 (s.pos+1) [])):=λV M J=>qiF g V b s.next i M (λU p t I=>R U p t (J.trans I)) P Q O S
 cases D:qdV s.bs s.lim (liJ i) 93 (s.pos+1) []with
 |error H =>
  obtain⟨G,T⟩:=H;rw[D]at l;simp only[];go_enter func188,ntmps188
  go_wp2_with(first
   |(go_at_call 186;refine B.mono ?_;rintro e m ⟨rfl,z,u⟩;have f:=qab (k.out.step z u);have E:=f.out.cell;have r:=l m f.out.src f.out.but)
   |(go_at_call 192;refine r.mono ?_;rintro e o ⟨w,y⟩;obtain rfl:=(show qan G T e from y)))
  exact⟨rfl,f.out.but.trans w,rfl⟩
 |ok X =>
  obtain⟨x,q⟩:=X;rw[D]at l;simp only[];go_enter func188,ntmps188
  go_wp2_with(first
   |(go_at_call 186;refine B.mono ?_;rintro e m ⟨rfl,z,u⟩;have f:=qab (k.out.step z u);have E:=f.out.cell;have r:=l m f.out.src f.out.but)
   |(go_at_call 192;refine r.mono ?_;rintro e o ⟨w,y⟩;obtain⟨⟨v4,rfl,⟨Y,n4,Z,rfl⟩,K⟩,L⟩:=(show(∃v,e=.returned v/\(∃a n c,v=.slice a n c)/\qai (g+1) o (λj=>m.heap.size<=j/\j<o.heap.size) (.iface 194 v) (.agg x))/\qad o b {s with pos:=q}from y);have F:=qab K))
  go_ret;exact⟨f.out.but.trans w,⟨_,_,rfl,F.out.same (λj C=>⟨Nat.le_trans f.out.but.size C.1,C.2⟩) (λ_ _=>rfl)⟩,L⟩
theorem qgA(W:World)(b:Nat)(s:Src)(c:UInt8)(h:qad W b s)(k:qgu s c)(q:c.toNat=91)(r:(s.within:Int)=s.depth):Calls prog 188 #[.agg #[.pointer (some ⟨b,0,none⟩)]] W λe f=>But b W f/\qan 11 s.pos e:=by
 have d:=qab (qaX h);have t:=d.out.cell;have j:=qaw _ b s c d.out.src k;have v:=nec (c:=c) 110 (by omega);have w:=nec (c:=c) 116 (by omega);have x:=nec (c:=c) 102 (by omega);have y:=nec (c:=c) 34 (by omega);have z:((c.toNat:Int)==91)=true:=by rw[q];rfl
 have A:=nec (c:=c) 123 (by omega);have g:∀V,qad V b s.next->Calls prog 192 #[.agg #[.pointer (some ⟨b,0,none⟩)]] V λe f=>qan 11 s.pos e/\But b V f:=λV p=>by
  have:=qiZ V b s.next p r
  rwa[show((s.next.pos:Int)-1)=s.pos by show(((s.pos+1:Nat)):Int)-1=s.pos;omega]at this
 go_enter func188,ntmps188
 go_wp2_with(first
  |(go_at_call 186;refine j.mono ?_;rintro e u ⟨rfl,o,l⟩;have a:=qab (d.out.step o l);have t:=a.out.cell;have i:=g u a.out.src)
  |(go_at_call 192;refine i.mono ?_;rintro e B ⟨n,m⟩;obtain rfl:=n))
 exact⟨rfl,a.out.but.trans m,rfl⟩
theorem qqz(g:Nat)(W:World)(b:Nat)(s:Src)(c:UInt8)(h:qad W b s)(t:qgu s c)(Q:c.toNat=123)(i:Nat->Except (Int×Int) (DataW Unit×Nat))(Y:qgC g b {s with within:=s.within+1} W i)(S:∀p d q,i p=.ok (d,q)->p<q)(T:s.bs.length<=200000000)(N:∀V,But b W V->U8 V)(K:7<b)(R:¬(s.within:Int)=s.depth)(Z:s.within<=100000):Calls prog 188 #[.agg #[.pointer (some ⟨b,0,none⟩)]] W (qcj (g+1) W b s (match qdV s.bs s.lim (enJ s.bs s.lim i) 125 (s.pos+1) ([],[])with|.error e=>.error e|.ok (x,q)=>.ok (.map x.2,q))):=by
 have k:=qab (qaX h);have F:=k.out.cell;have B:=qaw _ b s c k.out.src t;have aa:=ltA h.row;have e1:=nec (c:=c) 110 (by omega);have e2:=nec (c:=c) 116 (by omega);have e3:=nec (c:=c) 102 (by omega);have e4:=nec (c:=c) 34 (by omega);have e5:=nec (c:=c) 91 (by omega);have e6:((c.toNat:Int)==123)=true:=by rw[Q];rfl
 have l:∀V,qad V b s.next->But b W V->Calls prog 193 #[.agg #[.pointer (some ⟨b,0,none⟩)]] V (qmY V b s.next (λA v x=>(∃a n c,v=.slice a n c)/\qai (g+1) A (λj=>V.heap.size<=j/\j<A.heap.size) (.iface 196 v) (.map x.2)) (qdV s.bs s.lim (enJ s.bs s.lim i) 125 (s.pos+1) ([],[]))):=λV O C=>qkb g V b s.next i O (λU p t J=>Y U p t (C.trans J)) S T (λX P=>N X (C.trans P)) K R Z
 cases E:qdV s.bs s.lim (enJ s.bs s.lim i) 125 (s.pos+1) ([],[])with
 |error I =>
  obtain⟨H,pl⟩:=I;rw[E]at l;simp only[];go_enter func188,ntmps188
  go_wp2_with(first
   |(go_at_call 186;refine B.mono ?_;rintro e m ⟨rfl,z,u⟩;have f:=qab (k.out.step z u);have F:=f.out.cell;have r:=l m f.out.src f.out.but)
   |(go_at_call 193;refine r.mono ?_;rintro e o ⟨w,y⟩;obtain rfl:=(show qan H pl e from y)))
  exact⟨rfl,f.out.but.trans w,rfl⟩
 |ok xq =>
  obtain⟨x,q⟩:=xq;rw[E]at l;simp only[];go_enter func188,ntmps188
  go_wp2_with(first
   |(go_at_call 186;refine B.mono ?_;rintro e m ⟨rfl,z,u⟩;have f:=qab (k.out.step z u);have F:=f.out.cell;have r:=l m f.out.src f.out.but)
   |(go_at_call 193;refine r.mono ?_;rintro e o ⟨w,y⟩;obtain⟨⟨v4,rfl,⟨a4,n4,c4,rfl⟩,L⟩,M⟩:=(show(∃v,e=.returned v/\(∃a n c,v=.slice a n c)/\qai (g+1) o (λj=>m.heap.size<=j/\j<o.heap.size) (.iface 196 v) (.map x.2))/\qad o b {s with pos:=q}from y);have G:=qab L))
  go_ret;exact⟨f.out.but.trans w,⟨_,_,rfl,G.out.same (λj D=>⟨Nat.le_trans f.out.but.size D.1,D.2⟩) (λ_ _=>rfl)⟩,M⟩
theorem qhI(W:World)(b:Nat)(s:Src)(c:UInt8)(h:qad W b s)(k:qgu s c)(q:c.toNat=123)(r:(s.within:Int)=s.depth):Calls prog 188 #[.agg #[.pointer (some ⟨b,0,none⟩)]] W λe f=>But b W f/\qan 11 s.pos e:=by
 have d:=qab (qaX h);have t:=d.out.cell;have j:=qaw _ b s c d.out.src k;have v:=nec (c:=c) 110 (by omega);have w:=nec (c:=c) 116 (by omega);have x:=nec (c:=c) 102 (by omega);have y:=nec (c:=c) 34 (by omega);have z:=nec (c:=c) 91 (by omega);have A:((c.toNat:Int)==123)=true:=by rw[q];rfl
 have g:∀V,qad V b s.next->Calls prog 193 #[.agg #[.pointer (some ⟨b,0,none⟩)]] V λe f=>qan 11 s.pos e/\But b V f:=λV p=>by
  have:=qkh V b s.next p r
  rwa[show((s.next.pos:Int)-1)=s.pos by show(((s.pos+1:Nat)):Int)-1=s.pos;omega]at this
 go_enter func188,ntmps188
 go_wp2_with(first
  |(go_at_call 186;refine j.mono ?_;rintro e u ⟨rfl,o,l⟩;have a:=qab (d.out.step o l);have t:=a.out.cell;have i:=g u a.out.src)
  |(go_at_call 193;refine i.mono ?_;rintro e B ⟨n,m⟩;obtain rfl:=n))
 exact⟨rfl,a.out.but.trans m,rfl⟩
theorem qrN(W:World)(b:Nat)(s:Src)(c:UInt8)(h:qad W b s)(k:qgu s c)(q:¬(c.toNat=110\/c.toNat=116\/c.toNat=102\/c.toNat=34\/c.toNat=91\/c.toNat=123\/c.toNat=45\/qbO c=true)):Calls prog 188 #[.agg #[.pointer (some ⟨b,0,none⟩)]] W λe f=>But b W f/\qan 9 s.pos e:=by
 have d:=qab (qaX h);have r:=d.out.cell;have j:=qaw _ b s c d.out.src k;have u:=nec (c:=c) 110 (by omega);have v:=nec (c:=c) 116 (by omega);have w:=nec (c:=c) 102 (by omega);have x:=nec (c:=c) 34 (by omega);have y:=nec (c:=c) 91 (by omega);have z:=nec (c:=c) 123 (by omega);have A:=nec (c:=c) 45 (by omega);have o:decide (48<=(c.toNat:Int)/\(c.toNat:Int)<=57)=false:=by
  have:qbO c=false:=by cases p:qbO c with|false=>rfl|true=>exact absurd (.inr (.inr (.inr (.inr (.inr (.inr (.inr p))))))) q
  exact this
 have g:∀V,qad V b s.next->Calls prog 187 #[.pointer (some ⟨b,0,none⟩),.int .i64 9] V λe f=>qan 9 s.pos e/\f=V:=λV n=>by
  have:=qau V b s.next 9 n
  rwa[show((s.next.pos:Int)-1)=s.pos by show(((s.pos+1:Nat)):Int)-1=s.pos;omega]at this
 go_enter func188,ntmps188
 go_wp2_with(first
  |(go_at_call 186;refine j.mono ?_;rintro e t ⟨rfl,m,l⟩;have a:=qab (d.out.step m l);have r:=a.out.cell;have i:=g t a.out.src)
  |(go_at_call 194;refine(qbr c _).mono ?_;rintro e B ⟨rfl,rfl⟩;rw[o])
  |(go_at_call 187;refine i.mono ?_;rintro e C ⟨hF,rfl⟩;obtain rfl:=hF))
 exact⟨rfl,a.out.but,rfl⟩
theorem qiq(W:World)(b:Nat)(s:Src)(d:Int)(h:qad W b s)(g:∀V,qad V b s->Calls prog 186 #[.pointer (some ⟨b,0,none⟩)] V λe c=>qan d s.pos e/\Below V.heap.size V c):Calls prog 188 #[.agg #[.pointer (some ⟨b,0,none⟩)]] W λe c=>But b W c/\qan d s.pos e:=by
 have a:=qab (qaX h);have j:=a.out.cell;have f:=g _ a.out.src;go_enter func188,ntmps188
 go_wp2_with(first
  |(go_at_call 186;refine f.mono ?_;rintro e k ⟨hF,i⟩;obtain rfl:=hF))
 exact⟨rfl,a.out.but.trans (But.of_below i),rfl⟩

end
end Go.Proofs.YtpifimohecagoaaGreatDoor
