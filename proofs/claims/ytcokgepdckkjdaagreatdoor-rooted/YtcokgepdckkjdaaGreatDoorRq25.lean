import Derived.Test.YtcokgepdckkjdaaGreatDoorRq24
set_option maxRecDepth 100000
set_option maxHeartbeats 8000000
namespace Go.Proofs.YtcokgepdckkjdaaGreatDoor
open Go.Proofs.Tryz
variable {b k:Nat}{W:World}{s:Src}{rd:Nat->Except (Int×Int) (DataW Unit×Nat)}{bs:List UInt8}
section
open Go.RowKit
def qlz {α:Type}(W:World)(b:Nat)(s:Src)(val:World->Value->α->Prop)(r:Except (Int×Int) (α×Nat))(e:Ending)(W':World):Prop :=
 But b W W'/\match r with
 |.ok (x,p)=>(∃v,e=.returned v/\val W' v x)/\qad W' b {s with pos:=p}
 |.error (en,pl)=>qao en pl e
theorem qqY (c:b<W.heap.size):qhI b s (qnp k W b s) (fun V=>But b W V) :=
 ⟨fun _ _ _ _ _ h=>h.src,fun _ _ _ _ _ _ _ _ h d a e=>h.step c d a (by have:=h.len;omega),fun _ _ _ _ _ h=>h.box,fun _ _ _ _ _ h=>h.but,fun _ _ h a=>h.trans a⟩
theorem qsc (c:b<W.heap.size):qhI b s (qfs k W b s) (fun V=>But b W V) :=
 ⟨fun _ _ _ _ _ h=>h.src,fun _ _ _ _ _ _ _ _ h e a d=>h.go c e a d,fun _ _ _ _ _ h=>h.box,fun _ _ _ _ _ h=>h.but,fun _ _ h a=>h.trans a⟩
theorem qsl (c:∀p d q,rd p=.ok (d,q)->p<q):∀a p b q,liJ rd a p=.ok (b,q)->p<q:=fun a p b q h=>by
 unfold liJ at h;split at h
 ·cases h
 next d r hr =>
 injection h with h;injection h with h1 h2;have:=c _ _ _ hr;omega
theorem qsh {lim:Int}(c:∀p d q,rd p=.ok (d,q)->p<q):∀a p b q,enJ bs lim rd a p=.ok (b,q)->p<q:=fun a p b q h=>by
 unfold enJ at h;split at h
 ·cases h
 next l p1 h1 =>
 split at h
 ·cases h
 next u2 p2 h2 =>
 split at h
 ·cases h
 next u3 p3 h3 =>
 split at h
 ·cases h
 next u4 p4 h4 =>
 split at h
 ·cases h
 next d p5 h5 =>
 injection h with h;injection h with h6 h7;have:=qpR h1;have:=qcm _ _ _ _ _ _ h2;have:=qcb _ _ _ _ _ _ h3;have:=qcm _ _ _ _ _ _ h4;have:=c _ _ _ h5;omega
theorem qu9 (k:Nat)(h:qad W b s):qnp k W b s (W.heap.size+2) s.within s.pos [] (((W.alloc (.cells #[.pointer (some ⟨b,0,none⟩)] 213)).alloc (.cells #[.slice none 0 0] 224)).alloc (.cells #[.pointer (some ⟨b,0,none⟩)] 213)):=by
 have a:Below W.heap.size W (((W.alloc (.cells #[.pointer (some ⟨b,0,none⟩)] 213)).alloc (.cells #[.slice none 0 0] 224)).alloc (.cells #[.pointer (some ⟨b,0,none⟩)] 213)):=((bwA).alloc (by simp) _).alloc (by simp;omega) _;refine⟨h.below a,But.of_below a,?_,?_,Nat.le_refl _,⟨none,0,0,[],?_,World.ownsRow_nil _ _ _ _,by simp[Value.ownBlock],fun i x d c=>by simp at c⟩,by simp,Nat.zero_le _⟩
 ·exact(Below.heap_alloc _ _ _ (by simp;omega)).trans ((Below.heap_alloc _ _ _ (by simp)).trans (qac W _))
 ·have:=qac ((W.alloc (.cells #[.pointer (some ⟨b,0,none⟩)] 213)).alloc (.cells #[.slice none 0 0] 224)) (.cells #[.pointer (some ⟨b,0,none⟩)] 213);rw[World.size_alloc,World.size_alloc] at this;exact this
 refine(Below.heap_alloc _ _ _ (by simp)).trans ?_;have:=qac (W.alloc (.cells #[.pointer (some ⟨b,0,none⟩)] 213)) (.cells #[.slice none 0 0] 224);rw[World.size_alloc] at this;exact this
theorem qsG (k:Nat)(h:qad W b s):qfs k W b s (W.heap.size+4) s.within s.pos ([],[]) (((((W.alloc (.cells #[.pointer (some ⟨b,0,none⟩)] 213)).alloc (.cells #[.slice none 0 0] 226)).alloc (.map #[] 0)).alloc (.cells #[.map (some (W.heap.size+2))] 345)).alloc (.cells #[.pointer (some ⟨b,0,none⟩)] 213)):=by
 have e:Below W.heap.size W (((((W.alloc (.cells #[.pointer (some ⟨b,0,none⟩)] 213)).alloc (.cells #[.slice none 0 0] 226)).alloc (.map #[] 0)).alloc (.cells #[.map (some (W.heap.size+2))] 345)).alloc (.cells #[.pointer (some ⟨b,0,none⟩)] 213)):=((((bwA).alloc (by simp) _).alloc (by simp;omega) _).alloc (by simp;omega) _).alloc (by simp;omega) _;generalize hA:W.alloc (.cells #[.pointer (some ⟨b,0,none⟩)] 213)=A at *;have c:A.heap.size=W.heap.size+1:=by rw[<-hA];simp
 have f:A.heap[W.heap.size]? = some (.cells #[.pointer (some ⟨b,0,none⟩)] 213):=by rw[<-hA];exact qac W _
 generalize hC:A.alloc (.cells #[.slice none 0 0] 226)=C at *;have a:C.heap.size=W.heap.size+2:=by rw[<-hC];simp[c]
 have g:C.heap[W.heap.size]? = some (.cells #[.pointer (some ⟨b,0,none⟩)] 213):=by rw[<-hC];exact(Below.heap_alloc _ _ _ (by omega)).trans f
 have j:C.heap[W.heap.size+1]? = some (.cells #[.slice none 0 0] 226):=by rw[<-hC,<-c];exact qac A _
 have m:qaE (C.alloc (.map #[] 0)) (W.heap.size+2) []:=⟨.map [],by rw[<-a];exact World.ownsMap_made C prog 9 (unitElem (H:=Unit)),fun l=>by simp[Maps.has]⟩
 refine⟨h.below e,But.of_below e,?_,?_,?_,?_,Nat.le_refl _,⟨none,0,0,[],?_,World.ownsRow_nil _ _ _ _,by simp[Value.ownBlock],fun i x d n=>by simp at n⟩,by simp;omega,⟨Nat.zero_le _,Nat.zero_le _⟩⟩
 ·exact(Below.heap_alloc _ _ _ (by simp;omega)).trans ((Below.heap_alloc _ _ _ (by simp;omega)).trans ((Below.heap_alloc _ _ _ (by omega)).trans g))
 ·refine(Below.heap_alloc _ _ _ (by simp;omega)).trans ?_;have:=qac (C.alloc (.map #[] 0)) (.cells #[.map (some (W.heap.size+2))] 345);rw[World.size_alloc,a] at this;exact this
 ·exact(m.but (b:=W.heap.size) (by omega) (But.of_below bwA)).but (b:=W.heap.size) (by omega) (But.of_below bwA)
 ·have:=qac ((C.alloc (.map #[] 0)).alloc (.cells #[.map (some (W.heap.size+2))] 345)) (.cells #[.pointer (some ⟨b,0,none⟩)] 213);rw[World.size_alloc,World.size_alloc,a] at this;exact this
 exact(Below.heap_alloc _ _ _ (by simp;omega)).trans ((Below.heap_alloc _ _ _ (by simp;omega)).trans ((Below.heap_alloc _ _ _ (by omega)).trans j))
theorem qhE (k:Nat)(W:World)(b:Nat)(s:Src)(f:Nat->Except (Int×Int) (DataW Unit×Nat))(h:qad W b s)(Y:qgg k b {s with within:=s.within+1} W f)(C:∀p d q,f p=.ok (d,q)->p<q)(U:s.bs.length<=200000000)(u:¬(s.within:Int)=s.depth)(Z:s.within<=100000):Calls prog 232 #[.agg #[.pointer (some ⟨b,0,none⟩)]] W (qlz W b s (fun V v m=>(∃a n c,v=.slice a n c)/\qai (k+1) V (fun j=>W.heap.size<=j/\j<V.heap.size) (.iface 224 v) (.agg m)) (qe4 s.bs s.lim (liJ f) 93 s.pos [])):=by
 have S:=ltA h.row;have O:Below W.heap.size W ((W.alloc (.cells #[.pointer (some ⟨b,0,none⟩)] 213)).alloc (.cells #[.slice none 0 0] 224)):=(bwA).alloc (by simp) _;have o:=qgM ((W.alloc (.cells #[.pointer (some ⟨b,0,none⟩)] 213)).alloc (.cells #[.slice none 0 0] 224)) b (W.heap.size+1) W.heap.size s (liJ f) [] (qnp k W b s) (fun V=>But b W V) (qqY S) (h.below O) u Z (by simp only[World.size_alloc];exact qu9 k h) (fun N p m V R=>qqb k W b s (s.within+1) f h Y C U N p m V R) (qsl C);have ab:∀(A:Fn) (first r:Array Value) (w:World),(Instr.makeFunc A first r).run prog w=.ok (.func A first r) w:=fun _ _ _ _=>rfl;have kr:((W.alloc (.cells #[.pointer (some ⟨b,0,none⟩)] 213)).alloc (.cells #[.slice none 0 0] 224)).cell? ⟨W.heap.size,0,none⟩=some (.pointer (some ⟨b,0,none⟩)):=qab ((Below.heap_alloc _ _ _ (by simp)).trans (qac W _)) 0
 cases D:qe4 s.bs s.lim (liJ f) 93 s.pos [] with
 |error K =>
  obtain⟨J,pl⟩:=K;rw[D] at o;go_enter func232,ntmps232
  go_wp2_with (first
   |(go_at_call 241;refine o.mono ?_;rintro e y hF;obtain⟨hF,P⟩:=(show qao J pl e/\But b W y from hF);obtain rfl:=hF))
  exact⟨rfl,P,rfl⟩
 |ok I =>
  obtain⟨m,q⟩:=I;rw[D] at o;go_enter func232,ntmps232
  go_wp2_with (first
   |(go_at_call 241;refine o.mono ?_;rintro e y hF;obtain⟨rfl,t⟩:=(show e=.returned (.tuple #[])/\qnp k W b s _ s.within q m y from hF);obtain⟨a,ad,c,xs,Q,X,ac,i⟩:=t.own;have kl:=qab Q 0;have z:=qaa X;have G:=qaa i;have E:=qaa t.but;have F:=qaa t.src))
  go_ret;refine⟨E.out,⟨_,rfl,⟨_,_,_,rfl⟩,?_⟩,F.out⟩;unfold qai;refine⟨_,xs,rfl,⟨z.out.1,?_⟩,fun x aa d l u=>(G.out x aa d l u).same (fun j T=>⟨by omega,T.2.1⟩) (fun _ _=>rfl)⟩;rcases z.out.2 with L|⟨g,r,H,e,hb,B,M⟩
  ·exact .inl L
  exact .inr ⟨g,r,H,e,⟨by omega,(ltA B)⟩,B,M⟩
theorem qjy (k:Nat)(W:World)(b:Nat)(s:Src)(f:Nat->Except (Int×Int) (DataW Unit×Nat))(h:qad W b s)(Y:qgg k b {s with within:=s.within+1} W f)(z:∀p d q,f p=.ok (d,q)->p<q)(U:s.bs.length<=200000000)(P:∀V,But b W V->U8 V)(K:7<b)(S:¬(s.within:Int)=s.depth)(Z:s.within<=100000):Calls prog 233 #[.agg #[.pointer (some ⟨b,0,none⟩)]] W (qlz W b s (fun V v i=>(∃a n c,v=.slice a n c)/\qai (k+1) V (fun j=>W.heap.size<=j/\j<V.heap.size) (.iface 226 v) (.map i.2)) (qe4 s.bs s.lim (enJ s.bs s.lim f) 125 s.pos ([],[]))):=by
 have R:=ltA h.row;have ab:∀V:World,(Instr.makeMap 345 none).run prog V=.ok (.map (some V.heap.size)) (V.alloc (.map #[] 0)):=fun V=>by kernel_rfl
 have L:Below W.heap.size W ((((W.alloc (.cells #[.pointer (some ⟨b,0,none⟩)] 213)).alloc (.cells #[.slice none 0 0] 226)).alloc (.map #[] 0)).alloc (.cells #[.map (some (W.heap.size+2))] 345)):=(((bwA).alloc (by simp) _).alloc (by simp;omega) _).alloc (by simp;omega) _;have m:=qhR ((((W.alloc (.cells #[.pointer (some ⟨b,0,none⟩)] 213)).alloc (.cells #[.slice none 0 0] 226)).alloc (.map #[] 0)).alloc (.cells #[.map (some (W.heap.size+2))] 345)) b (W.heap.size+1) W.heap.size (W.heap.size+3) s (enJ s.bs s.lim f) ([],[]) (qfs k W b s) (fun V=>But b W V) (qsc R) (h.below L) S Z (by simp only[World.size_alloc];exact qsG k h) (fun N p i V Q=>qra k W b s (s.within+1) f h Y z U P K N p i V Q) (qsh z);have aa:∀(x:Fn) (first o:Array Value) (w:World),(Instr.makeFunc x first o).run prog w=.ok (.func x first o) w:=fun _ _ _ _=>rfl;have kr:((((W.alloc (.cells #[.pointer (some ⟨b,0,none⟩)] 213)).alloc (.cells #[.slice none 0 0] 226)).alloc (.map #[] 0)).alloc (.cells #[.map (some (W.heap.size+2))] 345)).cell? ⟨W.heap.size,0,none⟩=some (.pointer (some ⟨b,0,none⟩)):=qab ((Below.heap_alloc _ _ _ (by simp;omega)).trans ((Below.heap_alloc _ _ _ (by simp;omega)).trans ((Below.heap_alloc _ _ _ (by simp)).trans (qac W _)))) 0
 cases A:qe4 s.bs s.lim (enJ s.bs s.lim f) 125 s.pos ([],[]) with
 |error H =>
  obtain⟨G,pl⟩:=H;rw[A] at m;go_enter func233,ntmps233
  go_wp2_with (first
   |(go_at_call 241;refine m.mono ?_;rintro e t hF;obtain⟨hF,M⟩:=(show qao G pl e/\But b W t from hF);obtain rfl:=hF))
  exact⟨rfl,M,rfl⟩
 |ok F =>
  obtain⟨i,q⟩:=F;rw[A] at m;go_enter func233,ntmps233
  go_wp2_with (first
   |(go_at_call 241;refine m.mono ?_;rintro e t hF;obtain⟨rfl,r⟩:=(show e=.returned (.tuple #[])/\qfs k W b s _ s.within q i t from hF);obtain⟨a,ad,c,xs,O,X,ac,l⟩:=r.own;have kl:=qab O 0;have u:=qaa X;have D:=qaa l;have B:=qaa r.but;have C:=qaa r.src))
  go_ret;refine⟨B.out,⟨_,rfl,⟨_,_,_,rfl⟩,?_⟩,C.out⟩;unfold qai;refine⟨_,xs,rfl,⟨u.out.1,?_⟩,D.out.same (fun j T=>⟨by omega,T.2.1⟩) (fun _ _=>rfl)⟩;rcases u.out.2 with I|⟨g,o,E,e,hb,y,J⟩
  ·exact .inl I
  exact .inr ⟨g,o,E,e,⟨by omega,(ltA y)⟩,y,J⟩

theorem qdB (W:World)(b:Nat)(s:Src)(last:Int)(f:Fn)(g cs:Array Value)(h:qad W b s)(j:(s.within:Int)=s.depth):Calls prog 241 #[.agg #[.pointer (some ⟨b,0,none⟩)],.int .u8 last,.func f g cs] W fun e c=>qao 11 ((s.pos:Int)-1) e/\But b W c:=by
 have a:=qaa (qaR h);have d:=qjb _ b s a.out.src j;have k:=qab a.out.box 0;go_enter func241,ntmps241;go_wp2;go_step3
 go_wp2_with (first
  |(go_at_call 221;refine d.mono ?_;rintro e l ⟨hF,i,_⟩;obtain rfl:=hF))
 exact⟨rfl,rfl,a.out.but.trans i⟩
theorem qi2 (W:World)(b:Nat)(s:Src)(h:qad W b s)(l:(s.within:Int)=s.depth):Calls prog 232 #[.agg #[.pointer (some ⟨b,0,none⟩)]] W fun e g=>qao 11 ((s.pos:Int)-1) e/\But b W g:=by
 have d:Below W.heap.size W ((W.alloc (.cells #[.pointer (some ⟨b,0,none⟩)] 213)).alloc (.cells #[.slice none 0 0] 224)):=(bwA).alloc (by simp) _;have f:Hid (But b W ((W.alloc (.cells #[.pointer (some ⟨b,0,none⟩)] 213)).alloc (.cells #[.slice none 0 0] 224))):=But.of_below d;have n:∀V:World,(Instr.makeMap 345 none).run prog V=.ok (.map (some V.heap.size)) (V.alloc (.map #[] 0)):=fun V=>by kernel_rfl
 have i:=fun last a j cs=>qdB _ b s last a j cs (h.below d) l;have m:∀(a:Fn) (first c:Array Value) (w:World),(Instr.makeFunc a first c).run prog w=.ok (.func a first c) w:=fun _ _ _ _=>rfl;have o:((W.alloc (.cells #[.pointer (some ⟨b,0,none⟩)] 213)).alloc (.cells #[.slice none 0 0] 224)).cell? ⟨W.heap.size,0,none⟩=some (.pointer (some ⟨b,0,none⟩)):=qab ((Below.heap_alloc _ _ _ (by simp)).trans (qac W _)) 0;go_enter func232,ntmps232
 go_wp2_with (first
  |(go_at_call 241;refine(i _ _ _ _).mono ?_;rintro e p ⟨hF,k⟩;obtain rfl:=hF))
 exact⟨rfl,rfl,f.out.trans k⟩
theorem qjd (W:World)(b:Nat)(s:Src)(h:qad W b s)(l:(s.within:Int)=s.depth):Calls prog 233 #[.agg #[.pointer (some ⟨b,0,none⟩)]] W fun e g=>qao 11 ((s.pos:Int)-1) e/\But b W g:=by
 have d:Below W.heap.size W ((((W.alloc (.cells #[.pointer (some ⟨b,0,none⟩)] 213)).alloc (.cells #[.slice none 0 0] 226)).alloc (.map #[] 0)).alloc (.cells #[.map (some (W.heap.size+2))] 345)):=(((bwA).alloc (by simp) _).alloc (by simp;omega) _).alloc (by simp;omega) _;have f:Hid (But b W ((((W.alloc (.cells #[.pointer (some ⟨b,0,none⟩)] 213)).alloc (.cells #[.slice none 0 0] 226)).alloc (.map #[] 0)).alloc (.cells #[.map (some (W.heap.size+2))] 345))):=But.of_below d;have n:∀V:World,(Instr.makeMap 345 none).run prog V=.ok (.map (some V.heap.size)) (V.alloc (.map #[] 0)):=fun V=>by kernel_rfl
 have i:=fun last a j cs=>qdB _ b s last a j cs (h.below d) l;have m:∀(a:Fn) (first c:Array Value) (w:World),(Instr.makeFunc a first c).run prog w=.ok (.func a first c) w:=fun _ _ _ _=>rfl;have o:((((W.alloc (.cells #[.pointer (some ⟨b,0,none⟩)] 213)).alloc (.cells #[.slice none 0 0] 226)).alloc (.map #[] 0)).alloc (.cells #[.map (some (W.heap.size+2))] 345)).cell? ⟨W.heap.size,0,none⟩=some (.pointer (some ⟨b,0,none⟩)):=qab ((Below.heap_alloc _ _ _ (by simp;omega)).trans ((Below.heap_alloc _ _ _ (by simp;omega)).trans ((Below.heap_alloc _ _ _ (by simp)).trans (qac W _)))) 0;go_enter func233,ntmps233
 go_wp2_with (first
  |(go_at_call 241;refine(i _ _ _ _).mono ?_;rintro e p ⟨hF,k⟩;obtain rfl:=hF))
 exact⟨rfl,rfl,f.out.trans k⟩
theorem qk6 {lim:Int}{most:Nat}{z:Bool}:∀{g p num:Nat} {x q:Nat},qfi bs lim most z g p num=.ok (x,q)->p<=q
 |0,p,num,x,q,h=>by
  unfold qfi at h;cases h;exact Nat.le_refl _
 |g+1,p,num,x,q,h=>by
  unfold qfi at h;split at h
  ·cases h;exact Nat.le_refl _
  split at h
  ·cases h
  split at h
  ·split at h
   ·cases h
   split at h
   ·cases h
   have:=qk6 h;omega
  split at h
  ·cases h
  cases h;exact Nat.le_refl _
theorem qhv {c:UInt8}{z:Int}{q:Nat}(a:c.toNat=45\/qcQ c=true)(h:qg4 s c=.ok (z,q)):(-9223372036854775808<=z/\z<=9223372036854775807)/\s.pos<=q:=by
 unfold qg4 at h;split at h
 ·split at h
  ·cases h
  split at h
  ·cases h
  split at h
  ·next c' _ _ b =>
   have d:=of_decide_eq_true b;split at h
   ·next x p hx =>
    injection h with h;injection h with h1 h2;have:=qfK (by omega) (by decide) hx;have:=qk6 hx;exact⟨by omega,by omega⟩
   cases h
  cases h
 next hn =>
 have b:qcQ c=true:=by
  rcases a with a|a
  ·exact absurd a hn
  exact a
 have d:=of_decide_eq_true b;split at h
 ·next x p hx =>
  injection h with h;injection h with h1 h2;have:=qfK (by omega) (by decide) hx;have:=qk6 hx;exact⟨by omega,by omega⟩
 cases h
theorem qpc (g:Nat)(W:World)(b:Nat)(s:Src)(c:UInt8)(h:qad W b s)(w:qfp s c)(A:c.toNat=110):Calls prog 228 #[.agg #[.pointer (some ⟨b,0,none⟩)]] W (qc7 (g+1) W b s (match qaT s.bs s.lim [117,108,108] (s.pos+1) with|.error e=>.error e|.ok (_,q)=>.ok (.nil,q))):=by
 have d:=qaa (qaR h);have r:=d.out.cell;have o:=qau _ b s c d.out.src w;have J:=ltA h.row;have D:((c.toNat:Int)==110)=true:=by rw[A];rfl
 have E:=nec (c:=c) 116 (by omega);have F:=nec (c:=c) 102 (by omega);have G:=nec (c:=c) 34 (by omega);have H:=nec (c:=c) 91 (by omega);have I:=nec (c:=c) 123 (by omega);have f:∀V,qad V b s.next->But b W V->Calls prog 230 #[.agg #[.pointer (some ⟨b,0,none⟩)],.string ⟨#[117,108,108]⟩] V (qbJ V b s.next (fun _:Unit=>.tuple #[]) (qaT s.bs s.lim [117,108,108] (s.pos+1))):=fun V z _=>qbv V b s.next [117,108,108] (by simp) z
 cases p:qaT s.bs s.lim [117,108,108] (s.pos+1) with
 |error v =>
  obtain⟨u,B⟩:=v;rw[p] at f;simp only[];go_enter func228,ntmps228
  go_wp2_with (first
   |(go_at_call 226;refine o.mono ?_;rintro e n ⟨rfl,m,j⟩;have a:=qaa (d.out.step m j);have r:=a.out.cell;have i:=f n a.out.src a.out.but)
   |(go_at_call 230;refine i.mono ?_;rintro e t ⟨k,l⟩;obtain rfl:=(show qao u B e from l)))
  exact⟨rfl,a.out.but.trans k,rfl⟩
 |ok C =>
  obtain⟨x,q⟩:=C;rw[p] at f;simp only[];go_enter func228,ntmps228
  go_wp2_with (first
   |(go_at_call 226;refine o.mono ?_;rintro e n ⟨rfl,m,j⟩;have a:=qaa (d.out.step m j);have r:=a.out.cell;have i:=f n a.out.src a.out.but)
   |(go_at_call 230;refine i.mono ?_;rintro e t ⟨k,l⟩;obtain⟨rfl,y⟩:=(show e=.returned (.tuple #[])/\qad t b {s with pos:=q} from l)))
  go_ret;exact⟨a.out.but.trans k,⟨_,_,rfl,rfl⟩,y⟩
theorem qm7 (g:Nat)(W:World)(b:Nat)(s:Src)(c:UInt8)(h:qad W b s)(w:qfp s c)(A:c.toNat=116):Calls prog 228 #[.agg #[.pointer (some ⟨b,0,none⟩)]] W (qc7 (g+1) W b s (match qaT s.bs s.lim [114,117,101] (s.pos+1) with|.error e=>.error e|.ok (_,q)=>.ok (.lit (.bool true),q))):=by
 have d:=qaa (qaR h);have r:=d.out.cell;have o:=qau _ b s c d.out.src w;have J:=ltA h.row;have D:=nec (c:=c) 110 (by omega);have E:((c.toNat:Int)==116)=true:=by rw[A];rfl
 have F:=nec (c:=c) 102 (by omega);have G:=nec (c:=c) 34 (by omega);have H:=nec (c:=c) 91 (by omega);have I:=nec (c:=c) 123 (by omega);have f:∀V,qad V b s.next->But b W V->Calls prog 230 #[.agg #[.pointer (some ⟨b,0,none⟩)],.string ⟨#[114,117,101]⟩] V (qbJ V b s.next (fun _:Unit=>.tuple #[]) (qaT s.bs s.lim [114,117,101] (s.pos+1))):=fun V z _=>qbv V b s.next [114,117,101] (by simp) z
 cases p:qaT s.bs s.lim [114,117,101] (s.pos+1) with
 |error v =>
  obtain⟨u,B⟩:=v;rw[p] at f;simp only[];go_enter func228,ntmps228
  go_wp2_with (first
   |(go_at_call 226;refine o.mono ?_;rintro e n ⟨rfl,m,j⟩;have a:=qaa (d.out.step m j);have r:=a.out.cell;have i:=f n a.out.src a.out.but)
   |(go_at_call 230;refine i.mono ?_;rintro e t ⟨k,l⟩;obtain rfl:=(show qao u B e from l)))
  exact⟨rfl,a.out.but.trans k,rfl⟩
 |ok C =>
  obtain⟨x,q⟩:=C;rw[p] at f;simp only[];go_enter func228,ntmps228
  go_wp2_with (first
   |(go_at_call 226;refine o.mono ?_;rintro e n ⟨rfl,m,j⟩;have a:=qaa (d.out.step m j);have r:=a.out.cell;have i:=f n a.out.src a.out.but)
   |(go_at_call 230;refine i.mono ?_;rintro e t ⟨k,l⟩;obtain⟨rfl,y⟩:=(show e=.returned (.tuple #[])/\qad t b {s with pos:=q} from l)))
  go_ret;exact⟨a.out.but.trans k,⟨_,_,rfl,rfl⟩,y⟩
theorem qky (g:Nat)(W:World)(b:Nat)(s:Src)(c:UInt8)(h:qad W b s)(w:qfp s c)(A:c.toNat=102):Calls prog 228 #[.agg #[.pointer (some ⟨b,0,none⟩)]] W (qc7 (g+1) W b s (match qaT s.bs s.lim [97,108,115,101] (s.pos+1) with|.error e=>.error e|.ok (_,q)=>.ok (.lit (.bool false),q))):=by
 have d:=qaa (qaR h);have r:=d.out.cell;have o:=qau _ b s c d.out.src w;have J:=ltA h.row;have D:=nec (c:=c) 110 (by omega);have E:=nec (c:=c) 116 (by omega);have F:((c.toNat:Int)==102)=true:=by rw[A];rfl
 have G:=nec (c:=c) 34 (by omega);have H:=nec (c:=c) 91 (by omega);have I:=nec (c:=c) 123 (by omega);have f:∀V,qad V b s.next->But b W V->Calls prog 230 #[.agg #[.pointer (some ⟨b,0,none⟩)],.string ⟨#[97,108,115,101]⟩] V (qbJ V b s.next (fun _:Unit=>.tuple #[]) (qaT s.bs s.lim [97,108,115,101] (s.pos+1))):=fun V z _=>qbv V b s.next [97,108,115,101] (by simp) z
 cases p:qaT s.bs s.lim [97,108,115,101] (s.pos+1) with
 |error v =>
  obtain⟨u,B⟩:=v;rw[p] at f;simp only[];go_enter func228,ntmps228
  go_wp2_with (first
   |(go_at_call 226;refine o.mono ?_;rintro e n ⟨rfl,m,j⟩;have a:=qaa (d.out.step m j);have r:=a.out.cell;have i:=f n a.out.src a.out.but)
   |(go_at_call 230;refine i.mono ?_;rintro e t ⟨k,l⟩;obtain rfl:=(show qao u B e from l)))
  exact⟨rfl,a.out.but.trans k,rfl⟩
 |ok C =>
  obtain⟨x,q⟩:=C;rw[p] at f;simp only[];go_enter func228,ntmps228
  go_wp2_with (first
   |(go_at_call 226;refine o.mono ?_;rintro e n ⟨rfl,m,j⟩;have a:=qaa (d.out.step m j);have r:=a.out.cell;have i:=f n a.out.src a.out.but)
   |(go_at_call 230;refine i.mono ?_;rintro e t ⟨k,l⟩;obtain⟨rfl,y⟩:=(show e=.returned (.tuple #[])/\qad t b {s with pos:=q} from l)))
  go_ret;exact⟨a.out.but.trans k,⟨_,_,rfl,rfl⟩,y⟩
theorem qmF (g:Nat)(W:World)(b:Nat)(s:Src)(c:UInt8)(h:qad W b s)(y:qfp s c)(E:c.toNat=34)(F:s.bs.length<=200000000)(C:∀V,But b W V->U8 V)(z:7<b):Calls prog 228 #[.agg #[.pointer (some ⟨b,0,none⟩)]] W (qc7 (g+1) W b s (match qfe s.bs s.lim (s.bs.length+1-(s.pos+1)) (s.pos+1) [] 0 with|.error e=>.error e|.ok (x,q)=>.ok (.lit (.string x),q))):=by
 have d:=qaa (qaR h);have t:=d.out.cell;have p:=qau _ b s c d.out.src y;have O:=ltA h.row;have I:=nec (c:=c) 110 (by omega);have J:=nec (c:=c) 116 (by omega);have K:=nec (c:=c) 102 (by omega);have L:((c.toNat:Int)==34)=true:=by rw[E];rfl
 have M:=nec (c:=c) 91 (by omega);have N:=nec (c:=c) 123 (by omega);have f:∀V,qad V b s.next->But b W V->Calls prog 231 #[.agg #[.pointer (some ⟨b,0,none⟩)]] V (qbJ V b s.next (fun l:List UInt8=>.string ⟨l.toArray⟩) (qfe s.bs s.lim (s.bs.length+1-(s.pos+1)) (s.pos+1) [] 0)):=fun V D A=>qeQ V b s.next D (C V A) z F
 cases r:qfe s.bs s.lim (s.bs.length+1-(s.pos+1)) (s.pos+1) [] 0 with
 |error w =>
  obtain⟨v,G⟩:=w;rw[r] at f;simp only[];go_enter func228,ntmps228
  go_wp2_with (first
   |(go_at_call 226;refine p.mono ?_;rintro e o ⟨rfl,n,j⟩;have a:=qaa (d.out.step n j);have t:=a.out.cell;have i:=f o a.out.src a.out.but)
   |(go_at_call 231;refine i.mono ?_;rintro e u ⟨k,m⟩;obtain rfl:=(show qao v G e from m)))
  exact⟨rfl,a.out.but.trans k,rfl⟩
 |ok H =>
  obtain⟨x,q⟩:=H;rw[r] at f;simp only[];go_enter func228,ntmps228
  go_wp2_with (first
   |(go_at_call 226;refine p.mono ?_;rintro e o ⟨rfl,n,j⟩;have a:=qaa (d.out.step n j);have t:=a.out.cell;have i:=f o a.out.src a.out.but)
   |(go_at_call 231;refine i.mono ?_;rintro e u ⟨k,m⟩;obtain⟨rfl,B⟩:=(show e=.returned (.string ⟨x.toArray⟩)/\qad u b {s with pos:=q} from m)))
  go_ret;exact⟨a.out.but.trans k,⟨_,_,rfl,rfl⟩,B⟩
theorem qmp (g:Nat)(W:World)(b:Nat)(s:Src)(c:UInt8)(h:qad W b s)(t:qfp s c)(N:c.toNat=91)(i:Nat->Except (Int×Int) (DataW Unit×Nat))(R:qgg g b {s with within:=s.within+1} W i)(P:∀p d q,i p=.ok (d,q)->p<q)(Q:s.bs.length<=200000000)(O:¬(s.within:Int)=s.depth)(S:s.within<=100000):Calls prog 228 #[.agg #[.pointer (some ⟨b,0,none⟩)]] W (qc7 (g+1) W b s (match qe4 s.bs s.lim (liJ i) 93 (s.pos+1) [] with|.error e=>.error e|.ok (x,q)=>.ok (.agg x,q))):=by
 have k:=qaa (qaR h);have E:=k.out.cell;have B:=qau _ b s c k.out.src t;have aa:=ltA h.row;have e1:=nec (c:=c) 110 (by omega);have e2:=nec (c:=c) 116 (by omega);have e3:=nec (c:=c) 102 (by omega);have e4:=nec (c:=c) 34 (by omega);have e5:((c.toNat:Int)==91)=true:=by rw[N];rfl
 have e6:=nec (c:=c) 123 (by omega);have l:∀V,qad V b s.next->But b W V->Calls prog 232 #[.agg #[.pointer (some ⟨b,0,none⟩)]] V (qlz V b s.next (fun A v x=>(∃a n c,v=.slice a n c)/\qai (g+1) A (fun j=>V.heap.size<=j/\j<A.heap.size) (.iface 224 v) (.agg x)) (qe4 s.bs s.lim (liJ i) 93 (s.pos+1) [])):=fun V M J=>qhE g V b s.next i M (fun U p t I=>R U p t (J.trans I)) P Q O S
 cases D:qe4 s.bs s.lim (liJ i) 93 (s.pos+1) [] with
 |error H =>
  obtain⟨G,T⟩:=H;rw[D] at l;simp only[];go_enter func228,ntmps228
  go_wp2_with (first
   |(go_at_call 226;refine B.mono ?_;rintro e m ⟨rfl,z,u⟩;have f:=qaa (k.out.step z u);have E:=f.out.cell;have r:=l m f.out.src f.out.but)
   |(go_at_call 232;refine r.mono ?_;rintro e o ⟨w,y⟩;obtain rfl:=(show qao G T e from y)))
  exact⟨rfl,f.out.but.trans w,rfl⟩
 |ok X =>
  obtain⟨x,q⟩:=X;rw[D] at l;simp only[];go_enter func228,ntmps228
  go_wp2_with (first
   |(go_at_call 226;refine B.mono ?_;rintro e m ⟨rfl,z,u⟩;have f:=qaa (k.out.step z u);have E:=f.out.cell;have r:=l m f.out.src f.out.but)
   |(go_at_call 232;refine r.mono ?_;rintro e o ⟨w,y⟩;obtain⟨⟨v4,rfl,⟨Y,n4,Z,rfl⟩,K⟩,L⟩:=(show(∃v,e=.returned v/\(∃a n c,v=.slice a n c)/\qai (g+1) o (fun j=>m.heap.size<=j/\j<o.heap.size) (.iface 224 v) (.agg x))/\qad o b {s with pos:=q} from y);have F:=qaa K))
  go_ret;exact⟨f.out.but.trans w,⟨_,_,rfl,F.out.same (fun j C=>⟨Nat.le_trans f.out.but.size C.1,C.2⟩) (fun _ _=>rfl)⟩,L⟩
theorem qfM (W:World)(b:Nat)(s:Src)(c:UInt8)(h:qad W b s)(k:qfp s c)(q:c.toNat=91)(r:(s.within:Int)=s.depth):Calls prog 228 #[.agg #[.pointer (some ⟨b,0,none⟩)]] W fun e f=>But b W f/\qao 11 s.pos e:=by
 have d:=qaa (qaR h);have t:=d.out.cell;have j:=qau _ b s c d.out.src k;have v:=nec (c:=c) 110 (by omega);have w:=nec (c:=c) 116 (by omega);have x:=nec (c:=c) 102 (by omega);have y:=nec (c:=c) 34 (by omega);have z:((c.toNat:Int)==91)=true:=by rw[q];rfl
 have A:=nec (c:=c) 123 (by omega);have g:∀V,qad V b s.next->Calls prog 232 #[.agg #[.pointer (some ⟨b,0,none⟩)]] V fun e f=>qao 11 s.pos e/\But b V f:=fun V p=>by
  have:=qi2 V b s.next p r
  rwa [show((s.next.pos:Int)-1)=s.pos by show(((s.pos+1:Nat)):Int)-1=s.pos;omega] at this
 go_enter func228,ntmps228
 go_wp2_with (first
  |(go_at_call 226;refine j.mono ?_;rintro e u ⟨rfl,o,l⟩;have a:=qaa (d.out.step o l);have t:=a.out.cell;have i:=g u a.out.src)
  |(go_at_call 232;refine i.mono ?_;rintro e B ⟨n,m⟩;obtain rfl:=n))
 exact⟨rfl,a.out.but.trans m,rfl⟩
theorem qpu (g:Nat)(W:World)(b:Nat)(s:Src)(c:UInt8)(h:qad W b s)(t:qfp s c)(Q:c.toNat=123)(i:Nat->Except (Int×Int) (DataW Unit×Nat))(Y:qgg g b {s with within:=s.within+1} W i)(S:∀p d q,i p=.ok (d,q)->p<q)(T:s.bs.length<=200000000)(N:∀V,But b W V->U8 V)(K:7<b)(R:¬(s.within:Int)=s.depth)(Z:s.within<=100000):Calls prog 228 #[.agg #[.pointer (some ⟨b,0,none⟩)]] W (qc7 (g+1) W b s (match qe4 s.bs s.lim (enJ s.bs s.lim i) 125 (s.pos+1) ([],[]) with|.error e=>.error e|.ok (x,q)=>.ok (.map x.2,q))):=by
 have k:=qaa (qaR h);have F:=k.out.cell;have B:=qau _ b s c k.out.src t;have aa:=ltA h.row;have e1:=nec (c:=c) 110 (by omega);have e2:=nec (c:=c) 116 (by omega);have e3:=nec (c:=c) 102 (by omega);have e4:=nec (c:=c) 34 (by omega);have e5:=nec (c:=c) 91 (by omega);have e6:((c.toNat:Int)==123)=true:=by rw[Q];rfl
 have l:∀V,qad V b s.next->But b W V->Calls prog 233 #[.agg #[.pointer (some ⟨b,0,none⟩)]] V (qlz V b s.next (fun A v x=>(∃a n c,v=.slice a n c)/\qai (g+1) A (fun j=>V.heap.size<=j/\j<A.heap.size) (.iface 226 v) (.map x.2)) (qe4 s.bs s.lim (enJ s.bs s.lim i) 125 (s.pos+1) ([],[]))):=fun V O C=>qjy g V b s.next i O (fun U p t J=>Y U p t (C.trans J)) S T (fun X P=>N X (C.trans P)) K R Z
 cases E:qe4 s.bs s.lim (enJ s.bs s.lim i) 125 (s.pos+1) ([],[]) with
 |error I =>
  obtain⟨H,pl⟩:=I;rw[E] at l;simp only[];go_enter func228,ntmps228
  go_wp2_with (first
   |(go_at_call 226;refine B.mono ?_;rintro e m ⟨rfl,z,u⟩;have f:=qaa (k.out.step z u);have F:=f.out.cell;have r:=l m f.out.src f.out.but)
   |(go_at_call 233;refine r.mono ?_;rintro e o ⟨w,y⟩;obtain rfl:=(show qao H pl e from y)))
  exact⟨rfl,f.out.but.trans w,rfl⟩
 |ok xq =>
  obtain⟨x,q⟩:=xq;rw[E] at l;simp only[];go_enter func228,ntmps228
  go_wp2_with (first
   |(go_at_call 226;refine B.mono ?_;rintro e m ⟨rfl,z,u⟩;have f:=qaa (k.out.step z u);have F:=f.out.cell;have r:=l m f.out.src f.out.but)
   |(go_at_call 233;refine r.mono ?_;rintro e o ⟨w,y⟩;obtain⟨⟨v4,rfl,⟨a4,n4,c4,rfl⟩,L⟩,M⟩:=(show(∃v,e=.returned v/\(∃a n c,v=.slice a n c)/\qai (g+1) o (fun j=>m.heap.size<=j/\j<o.heap.size) (.iface 226 v) (.map x.2))/\qad o b {s with pos:=q} from y);have G:=qaa L))
  go_ret;exact⟨f.out.but.trans w,⟨_,_,rfl,G.out.same (fun j D=>⟨Nat.le_trans f.out.but.size D.1,D.2⟩) (fun _ _=>rfl)⟩,M⟩
theorem qgI (W:World)(b:Nat)(s:Src)(c:UInt8)(h:qad W b s)(k:qfp s c)(q:c.toNat=123)(r:(s.within:Int)=s.depth):Calls prog 228 #[.agg #[.pointer (some ⟨b,0,none⟩)]] W fun e f=>But b W f/\qao 11 s.pos e:=by
 have d:=qaa (qaR h);have t:=d.out.cell;have j:=qau _ b s c d.out.src k;have v:=nec (c:=c) 110 (by omega);have w:=nec (c:=c) 116 (by omega);have x:=nec (c:=c) 102 (by omega);have y:=nec (c:=c) 34 (by omega);have z:=nec (c:=c) 91 (by omega);have A:((c.toNat:Int)==123)=true:=by rw[q];rfl
 have g:∀V,qad V b s.next->Calls prog 233 #[.agg #[.pointer (some ⟨b,0,none⟩)]] V fun e f=>qao 11 s.pos e/\But b V f:=fun V p=>by
  have:=qjd V b s.next p r
  rwa [show((s.next.pos:Int)-1)=s.pos by show(((s.pos+1:Nat)):Int)-1=s.pos;omega] at this
 go_enter func228,ntmps228
 go_wp2_with (first
  |(go_at_call 226;refine j.mono ?_;rintro e u ⟨rfl,o,l⟩;have a:=qaa (d.out.step o l);have t:=a.out.cell;have i:=g u a.out.src)
  |(go_at_call 233;refine i.mono ?_;rintro e B ⟨n,m⟩;obtain rfl:=n))
 exact⟨rfl,a.out.but.trans m,rfl⟩
theorem qn6 (W:World)(b:Nat)(s:Src)(c:UInt8)(h:qad W b s)(k:qfp s c)(q:¬(c.toNat=110\/c.toNat=116\/c.toNat=102\/c.toNat=34\/c.toNat=91\/c.toNat=123\/c.toNat=45\/qcQ c=true)):Calls prog 228 #[.agg #[.pointer (some ⟨b,0,none⟩)]] W fun e f=>But b W f/\qao 9 s.pos e:=by
 have d:=qaa (qaR h);have r:=d.out.cell;have j:=qau _ b s c d.out.src k;have u:=nec (c:=c) 110 (by omega);have v:=nec (c:=c) 116 (by omega);have w:=nec (c:=c) 102 (by omega);have x:=nec (c:=c) 34 (by omega);have y:=nec (c:=c) 91 (by omega);have z:=nec (c:=c) 123 (by omega);have A:=nec (c:=c) 45 (by omega);have o:decide (48<=(c.toNat:Int)/\(c.toNat:Int)<=57)=false:=by
  have:qcQ c=false:=by cases p:qcQ c with|false=>rfl|true=>exact absurd (.inr (.inr (.inr (.inr (.inr (.inr (.inr p))))))) q
  exact this
 have g:∀V,qad V b s.next->Calls prog 227 #[.pointer (some ⟨b,0,none⟩),.int .i64 9] V fun e f=>qao 9 s.pos e/\f=V:=fun V n=>by
  have:=qat V b s.next 9 n
  rwa [show((s.next.pos:Int)-1)=s.pos by show(((s.pos+1:Nat)):Int)-1=s.pos;omega] at this
 go_enter func228,ntmps228
 go_wp2_with (first
  |(go_at_call 226;refine j.mono ?_;rintro e t ⟨rfl,m,l⟩;have a:=qaa (d.out.step m l);have r:=a.out.cell;have i:=g t a.out.src)
  |(go_at_call 234;refine(qbg c _).mono ?_;rintro e B ⟨rfl,rfl⟩;rw[o])
  |(go_at_call 227;refine i.mono ?_;rintro e C ⟨hF,rfl⟩;obtain rfl:=hF))
 exact⟨rfl,a.out.but,rfl⟩
theorem qgY (W:World)(b:Nat)(s:Src)(d:Int)(h:qad W b s)(g:∀V,qad V b s->Calls prog 226 #[.pointer (some ⟨b,0,none⟩)] V fun e c=>qao d s.pos e/\Below V.heap.size V c):Calls prog 228 #[.agg #[.pointer (some ⟨b,0,none⟩)]] W fun e c=>But b W c/\qao d s.pos e:=by
 have a:=qaa (qaR h);have j:=a.out.cell;have f:=g _ a.out.src;go_enter func228,ntmps228
 go_wp2_with (first
  |(go_at_call 226;refine f.mono ?_;rintro e k ⟨hF,i⟩;obtain rfl:=hF))
 exact⟨rfl,a.out.but.trans (But.of_below i),rfl⟩

end
end Go.Proofs.YtcokgepdckkjdaaGreatDoor
