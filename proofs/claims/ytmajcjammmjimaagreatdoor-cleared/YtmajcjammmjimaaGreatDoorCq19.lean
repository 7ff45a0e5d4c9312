import Derived.Test.YtmajcjammmjimaaGreatDoorCq18
set_option maxRecDepth 100000
set_option maxHeartbeats 8000000
set_option linter.all false
namespace Go.Proofs.YtmajcjammmjimaaGreatDoor
open Go.Proofs.Tryz
variable{bs:List UInt8}{lim:Int}{b last p q:Nat}{s:Src}{c:UInt8}{V W:World}
section
open Go.RowKit
theorem qeb(W:World)(b:Nat)(s:Src)(last:Int)(f:Fn)(g cs:Array Value)(h:qad W b s)(j:(s.within:Int)=s.depth):Calls prog 203 #[.agg #[.pointer (some ⟨b,0,none⟩)],.int .u8 last,.func f g cs] W λe c=>qan 11 ((s.pos:Int)-1) e/\But b W c:=by
 have a:=qab (qaX h);have d:=qk9 _ b s a.out.src j;have k:=qaa a.out.box 0;go_enter func203,ntmps203;go_wp2;go_step3
 go_wp2_with(first
  |(go_at_call 183;refine d.mono ?_;rintro e l ⟨hF,i,_⟩;obtain rfl:=hF))
 exact⟨rfl,rfl,a.out.but.trans i⟩
theorem qiY(W:World)(b:Nat)(s:Src)(h:qad W b s)(l:(s.within:Int)=s.depth):Calls prog 194 #[.agg #[.pointer (some ⟨b,0,none⟩)]] W λe g=>qan 11 ((s.pos:Int)-1) e/\But b W g:=by
 have d:Below W.heap.size W ((W.alloc (.cells #[.pointer (some ⟨b,0,none⟩)] 114)).alloc (.cells #[.slice none 0 0] 120)):=(bwA).alloc (by simp) _;have f:Hid (But b W ((W.alloc (.cells #[.pointer (some ⟨b,0,none⟩)] 114)).alloc (.cells #[.slice none 0 0] 120))):=But.of_below d;have n:∀V:World,(Instr.makeMap 310 none).run prog V=.ok (.map (some V.heap.size)) (V.alloc (.map #[] 0)):=λV=>by kernel_rfl
 have i:=λlast a j cs=>qeb _ b s last a j cs (h.below d) l;have m:∀(a:Fn) (first c:Array Value) (w:World),(Instr.makeFunc a first c).run prog w=.ok (.func a first c) w:=λ_ _ _ _=>rfl;have o:((W.alloc (.cells #[.pointer (some ⟨b,0,none⟩)] 114)).alloc (.cells #[.slice none 0 0] 120)).cell? ⟨W.heap.size,0,none⟩=some (.pointer (some ⟨b,0,none⟩)):=qaa ((kae _ _ _ (by simp)).trans (qac W _)) 0;go_enter func194,ntmps194
 go_wp2_with(first
  |(go_at_call 203;refine(i _ _ _ _).mono ?_;rintro e p ⟨hF,k⟩;obtain rfl:=hF))
 exact⟨rfl,rfl,f.out.trans k⟩
theorem qky(W:World)(b:Nat)(s:Src)(h:qad W b s)(l:(s.within:Int)=s.depth):Calls prog 195 #[.agg #[.pointer (some ⟨b,0,none⟩)]] W λe g=>qan 11 ((s.pos:Int)-1) e/\But b W g:=by
 have d:Below W.heap.size W ((((W.alloc (.cells #[.pointer (some ⟨b,0,none⟩)] 114)).alloc (.cells #[.slice none 0 0] 122)).alloc (.map #[] 0)).alloc (.cells #[.map (some (W.heap.size+2))] 310)):=(((bwA).alloc (by simp) _).alloc (by simp;omega) _).alloc (by simp;omega) _;have f:Hid (But b W ((((W.alloc (.cells #[.pointer (some ⟨b,0,none⟩)] 114)).alloc (.cells #[.slice none 0 0] 122)).alloc (.map #[] 0)).alloc (.cells #[.map (some (W.heap.size+2))] 310))):=But.of_below d;have n:∀V:World,(Instr.makeMap 310 none).run prog V=.ok (.map (some V.heap.size)) (V.alloc (.map #[] 0)):=λV=>by kernel_rfl
 have i:=λlast a j cs=>qeb _ b s last a j cs (h.below d) l;have m:∀(a:Fn) (first c:Array Value) (w:World),(Instr.makeFunc a first c).run prog w=.ok (.func a first c) w:=λ_ _ _ _=>rfl;have o:((((W.alloc (.cells #[.pointer (some ⟨b,0,none⟩)] 114)).alloc (.cells #[.slice none 0 0] 122)).alloc (.map #[] 0)).alloc (.cells #[.map (some (W.heap.size+2))] 310)).cell? ⟨W.heap.size,0,none⟩=some (.pointer (some ⟨b,0,none⟩)):=qaa ((kae _ _ _ (by simp;omega)).trans ((kae _ _ _ (by simp;omega)).trans ((kae _ _ _ (by simp)).trans (qac W _)))) 0;go_enter func195,ntmps195
 go_wp2_with(first
  |(go_at_call 203;refine(i _ _ _ _).mono ?_;rintro e p ⟨hF,k⟩;obtain rfl:=hF))
 exact⟨rfl,rfl,f.out.trans k⟩
theorem qlN{most:Nat}{z:Bool}:∀{g p num:Nat} {x q:Nat},qeA bs lim most z g p num=.ok (x,q)->p<=q
 |0,p,num,x,q,h=>by
  unfold qeA at h;cases h;exact kaf _
 |g+1,p,num,x,q,h=>by
  unfold qeA at h;split at h
  ·cases h;exact kaf _
  split at h
  ·cases h
  split at h
  ·split at h
   ·cases h
   split at h
   ·cases h
   have:=qlN h;omega
  split at h
  ·cases h
  cases h;exact kaf _
theorem qft{z:Int}(a:c.toNat=45\/qbO c=true)(h:qel s c=.ok (z,q)):(-9223372036854775808<=z/\z<=9223372036854775807)/\s.pos<=q:=by
 unfold qel at h;split at h
 ·split at h
  ·cases h
  split at h
  ·cases h
  split at h
  ·next c' _ _ b =>
   have d:=kaq b;split at h
   ·next x p hx =>
    injection h with h;injection h with h1 h2;have:=qgH (by omega) (by decide) hx;have:=qlN hx;exact⟨by omega,by omega⟩
   cases h
  cases h
 next hn =>
 have b:qbO c=true:=by
  rcases a with a|a
  ·exact absurd a hn
  exact a
 have d:=kaq b;split at h
 ·next x p hx =>
  injection h with h;injection h with h1 h2;have:=qgH (by omega) (by decide) hx;have:=qlN hx;exact⟨by omega,by omega⟩
 cases h
theorem qrp(g:Nat)(W:World)(b:Nat)(s:Src)(c:UInt8)(h:qad W b s)(w:qgm s c)(A:c.toNat=110):Calls prog 190 #[.agg #[.pointer (some ⟨b,0,none⟩)]] W (qct (g+1) W b s (match qaO s.bs s.lim [117,108,108] (s.pos+1)with|.error e=>.error e|.ok (_,q)=>.ok (.nil,q))):=by
 have d:=qab (qaX h);have r:=d.out.cell;have o:=qaw _ b s c d.out.src w;have J:=ltA h.row;have D:((c.toNat:Int)==110)=true:=by rw[A];rfl
 have E:=nec (c:=c) 116 (by omega);have F:=nec (c:=c) 102 (by omega);have G:=nec (c:=c) 34 (by omega);have H:=nec (c:=c) 91 (by omega);have I:=nec (c:=c) 123 (by omega);have f:∀V,qad V b s.next->But b W V->Calls prog 192 #[.agg #[.pointer (some ⟨b,0,none⟩)],.string ⟨#[117,108,108]⟩] V (qbV V b s.next (λ_:Unit=>.tuple #[]) (qaO s.bs s.lim [117,108,108] (s.pos+1))):=λV z _=>qbA V b s.next [117,108,108] (by simp) z
 cases p:qaO s.bs s.lim [117,108,108] (s.pos+1)with
 |error v =>
  obtain⟨u,B⟩:=v;rw[p]at f;simp only[];go_enter func190,ntmps190
  go_wp2_with(first
   |(go_at_call 188;refine o.mono ?_;rintro e n ⟨rfl,m,j⟩;have a:=qab (d.out.step m j);have r:=a.out.cell;have i:=f n a.out.src a.out.but)
   |(go_at_call 192;refine i.mono ?_;rintro e t ⟨k,l⟩;obtain rfl:=(show qan u B e from l)))
  exact⟨rfl,a.out.but.trans k,rfl⟩
 |ok C =>
  obtain⟨x,q⟩:=C;rw[p]at f;simp only[];go_enter func190,ntmps190
  go_wp2_with(first
   |(go_at_call 188;refine o.mono ?_;rintro e n ⟨rfl,m,j⟩;have a:=qab (d.out.step m j);have r:=a.out.cell;have i:=f n a.out.src a.out.but)
   |(go_at_call 192;refine i.mono ?_;rintro e t ⟨k,l⟩;obtain⟨rfl,y⟩:=(show e=.returned (.tuple #[])/\qad t b {s with pos:=q}from l)))
  go_ret;exact⟨a.out.but.trans k,⟨_,_,rfl,rfl⟩,y⟩
theorem qou(g:Nat)(W:World)(b:Nat)(s:Src)(c:UInt8)(h:qad W b s)(w:qgm s c)(A:c.toNat=116):Calls prog 190 #[.agg #[.pointer (some ⟨b,0,none⟩)]] W (qct (g+1) W b s (match qaO s.bs s.lim [114,117,101] (s.pos+1)with|.error e=>.error e|.ok (_,q)=>.ok (.lit (.bool true),q))):=by
 have d:=qab (qaX h);have r:=d.out.cell;have o:=qaw _ b s c d.out.src w;have J:=ltA h.row;have D:=nec (c:=c) 110 (by omega);have E:((c.toNat:Int)==116)=true:=by rw[A];rfl
 have F:=nec (c:=c) 102 (by omega);have G:=nec (c:=c) 34 (by omega);have H:=nec (c:=c) 91 (by omega);have I:=nec (c:=c) 123 (by omega);have f:∀V,qad V b s.next->But b W V->Calls prog 192 #[.agg #[.pointer (some ⟨b,0,none⟩)],.string ⟨#[114,117,101]⟩] V (qbV V b s.next (λ_:Unit=>.tuple #[]) (qaO s.bs s.lim [114,117,101] (s.pos+1))):=λV z _=>qbA V b s.next [114,117,101] (by simp) z
 cases p:qaO s.bs s.lim [114,117,101] (s.pos+1)with
 |error v =>
  obtain⟨u,B⟩:=v;rw[p]at f;simp only[];go_enter func190,ntmps190
  go_wp2_with(first
   |(go_at_call 188;refine o.mono ?_;rintro e n ⟨rfl,m,j⟩;have a:=qab (d.out.step m j);have r:=a.out.cell;have i:=f n a.out.src a.out.but)
   |(go_at_call 192;refine i.mono ?_;rintro e t ⟨k,l⟩;obtain rfl:=(show qan u B e from l)))
  exact⟨rfl,a.out.but.trans k,rfl⟩
 |ok C =>
  obtain⟨x,q⟩:=C;rw[p]at f;simp only[];go_enter func190,ntmps190
  go_wp2_with(first
   |(go_at_call 188;refine o.mono ?_;rintro e n ⟨rfl,m,j⟩;have a:=qab (d.out.step m j);have r:=a.out.cell;have i:=f n a.out.src a.out.but)
   |(go_at_call 192;refine i.mono ?_;rintro e t ⟨k,l⟩;obtain⟨rfl,y⟩:=(show e=.returned (.tuple #[])/\qad t b {s with pos:=q}from l)))
  go_ret;exact⟨a.out.but.trans k,⟨_,_,rfl,rfl⟩,y⟩
theorem qmb(g:Nat)(W:World)(b:Nat)(s:Src)(c:UInt8)(h:qad W b s)(w:qgm s c)(A:c.toNat=102):Calls prog 190 #[.agg #[.pointer (some ⟨b,0,none⟩)]] W (qct (g+1) W b s (match qaO s.bs s.lim [97,108,115,101] (s.pos+1)with|.error e=>.error e|.ok (_,q)=>.ok (.lit (.bool false),q))):=by
 have d:=qab (qaX h);have r:=d.out.cell;have o:=qaw _ b s c d.out.src w;have J:=ltA h.row;have D:=nec (c:=c) 110 (by omega);have E:=nec (c:=c) 116 (by omega);have F:((c.toNat:Int)==102)=true:=by rw[A];rfl
 have G:=nec (c:=c) 34 (by omega);have H:=nec (c:=c) 91 (by omega);have I:=nec (c:=c) 123 (by omega);have f:∀V,qad V b s.next->But b W V->Calls prog 192 #[.agg #[.pointer (some ⟨b,0,none⟩)],.string ⟨#[97,108,115,101]⟩] V (qbV V b s.next (λ_:Unit=>.tuple #[]) (qaO s.bs s.lim [97,108,115,101] (s.pos+1))):=λV z _=>qbA V b s.next [97,108,115,101] (by simp) z
 cases p:qaO s.bs s.lim [97,108,115,101] (s.pos+1)with
 |error v =>
  obtain⟨u,B⟩:=v;rw[p]at f;simp only[];go_enter func190,ntmps190
  go_wp2_with(first
   |(go_at_call 188;refine o.mono ?_;rintro e n ⟨rfl,m,j⟩;have a:=qab (d.out.step m j);have r:=a.out.cell;have i:=f n a.out.src a.out.but)
   |(go_at_call 192;refine i.mono ?_;rintro e t ⟨k,l⟩;obtain rfl:=(show qan u B e from l)))
  exact⟨rfl,a.out.but.trans k,rfl⟩
 |ok C =>
  obtain⟨x,q⟩:=C;rw[p]at f;simp only[];go_enter func190,ntmps190
  go_wp2_with(first
   |(go_at_call 188;refine o.mono ?_;rintro e n ⟨rfl,m,j⟩;have a:=qab (d.out.step m j);have r:=a.out.cell;have i:=f n a.out.src a.out.but)
   |(go_at_call 192;refine i.mono ?_;rintro e t ⟨k,l⟩;obtain⟨rfl,y⟩:=(show e=.returned (.tuple #[])/\qad t b {s with pos:=q}from l)))
  go_ret;exact⟨a.out.but.trans k,⟨_,_,rfl,rfl⟩,y⟩
theorem qo8(g:Nat)(W:World)(b:Nat)(s:Src)(c:UInt8)(h:qad W b s)(y:qgm s c)(E:c.toNat=34)(F:s.bs.length<=200000000)(C:∀V,But b W V->U8 V)(z:7<b):Calls prog 190 #[.agg #[.pointer (some ⟨b,0,none⟩)]] W (qct (g+1) W b s (match qcU s.bs s.lim (s.bs.length+1-(s.pos+1)) (s.pos+1) [] 0 with|.error e=>.error e|.ok (x,q)=>.ok (.lit (.string x),q))):=by
 have d:=qab (qaX h);have t:=d.out.cell;have p:=qaw _ b s c d.out.src y;have O:=ltA h.row;have I:=nec (c:=c) 110 (by omega);have J:=nec (c:=c) 116 (by omega);have K:=nec (c:=c) 102 (by omega);have L:((c.toNat:Int)==34)=true:=by rw[E];rfl
 have M:=nec (c:=c) 91 (by omega);have N:=nec (c:=c) 123 (by omega);have f:∀V,qad V b s.next->But b W V->Calls prog 193 #[.agg #[.pointer (some ⟨b,0,none⟩)]] V (qbV V b s.next (λl:List UInt8=>.string ⟨l.toArray⟩) (qcU s.bs s.lim (s.bs.length+1-(s.pos+1)) (s.pos+1) [] 0)):=λV D A=>qfD V b s.next D (C V A) z F
 cases r:qcU s.bs s.lim (s.bs.length+1-(s.pos+1)) (s.pos+1) [] 0 with
 |error w =>
  obtain⟨v,G⟩:=w;rw[r]at f;simp only[];go_enter func190,ntmps190
  go_wp2_with(first
   |(go_at_call 188;refine p.mono ?_;rintro e o ⟨rfl,n,j⟩;have a:=qab (d.out.step n j);have t:=a.out.cell;have i:=f o a.out.src a.out.but)
   |(go_at_call 193;refine i.mono ?_;rintro e u ⟨k,m⟩;obtain rfl:=(show qan v G e from m)))
  exact⟨rfl,a.out.but.trans k,rfl⟩
 |ok H =>
  obtain⟨x,q⟩:=H;rw[r]at f;simp only[];go_enter func190,ntmps190
  go_wp2_with(first
   |(go_at_call 188;refine p.mono ?_;rintro e o ⟨rfl,n,j⟩;have a:=qab (d.out.step n j);have t:=a.out.cell;have i:=f o a.out.src a.out.but)
   |(go_at_call 193;refine i.mono ?_;rintro e u ⟨k,m⟩;obtain⟨rfl,B⟩:=(show e=.returned (.string ⟨x.toArray⟩)/\qad u b {s with pos:=q}from m)))
  go_ret;exact⟨a.out.but.trans k,⟨_,_,rfl,rfl⟩,B⟩
theorem qoa(g:Nat)(W:World)(b:Nat)(s:Src)(c:UInt8)(h:qad W b s)(t:qgm s c)(N:c.toNat=91)(i:Nat->Except (Int×Int) (DataW Unit×Nat))(R:qhi g b {s with within:=s.within+1} W i)(P:∀p d q,i p=.ok (d,q)->p<q)(Q:s.bs.length<=200000000)(O:¬(s.within:Int)=s.depth)(S:s.within<=100000):Calls prog 190 #[.agg #[.pointer (some ⟨b,0,none⟩)]] W (qct (g+1) W b s (match qdV s.bs s.lim (liJ i) 93 (s.pos+1) []with|.error e=>.error e|.ok (x,q)=>.ok (.agg x,q))):=by
 have k:=qab (qaX h);have E:=k.out.cell;have B:=qaw _ b s c k.out.src t;have aa:=ltA h.row;have e1:=nec (c:=c) 110 (by omega);have e2:=nec (c:=c) 116 (by omega);have e3:=nec (c:=c) 102 (by omega);have e4:=nec (c:=c) 34 (by omega);have e5:((c.toNat:Int)==91)=true:=by rw[N];rfl
 have e6:=nec (c:=c) 123 (by omega);have l:∀V,qad V b s.next->But b W V->Calls prog 194 #[.agg #[.pointer (some ⟨b,0,none⟩)]] V (qnE V b s.next (λA v x=>(∃a n c,v=.slice a n c)/\qah (g+1) A (λj=>V.heap.size<=j/\j<A.heap.size) (.iface 120 v) (.agg x)) (qdV s.bs s.lim (liJ i) 93 (s.pos+1) [])):=λV M J=>qji g V b s.next i M (λU p t I=>R U p t (J.trans I)) P Q O S
 cases D:qdV s.bs s.lim (liJ i) 93 (s.pos+1) []with
 |error H =>
  obtain⟨G,T⟩:=H;rw[D]at l;simp only[];go_enter func190,ntmps190
  go_wp2_with(first
   |(go_at_call 188;refine B.mono ?_;rintro e m ⟨rfl,z,u⟩;have f:=qab (k.out.step z u);have E:=f.out.cell;have r:=l m f.out.src f.out.but)
   |(go_at_call 194;refine r.mono ?_;rintro e o ⟨w,y⟩;obtain rfl:=(show qan G T e from y)))
  exact⟨rfl,f.out.but.trans w,rfl⟩
 |ok X =>
  obtain⟨x,q⟩:=X;rw[D]at l;simp only[];go_enter func190,ntmps190
  go_wp2_with(first
   |(go_at_call 188;refine B.mono ?_;rintro e m ⟨rfl,z,u⟩;have f:=qab (k.out.step z u);have E:=f.out.cell;have r:=l m f.out.src f.out.but)
   |(go_at_call 194;refine r.mono ?_;rintro e o ⟨w,y⟩;obtain⟨⟨v4,rfl,⟨Y,n4,Z,rfl⟩,K⟩,L⟩:=(show(∃v,e=.returned v/\(∃a n c,v=.slice a n c)/\qah (g+1) o (λj=>m.heap.size<=j/\j<o.heap.size) (.iface 120 v) (.agg x))/\qad o b {s with pos:=q}from y);have F:=qab K))
  go_ret;exact⟨f.out.but.trans w,⟨_,_,rfl,F.out.same (λj C=>⟨kaj f.out.but.size C.1,C.2⟩) (λ_ _=>rfl)⟩,L⟩
theorem qgR(W:World)(b:Nat)(s:Src)(c:UInt8)(h:qad W b s)(k:qgm s c)(q:c.toNat=91)(r:(s.within:Int)=s.depth):Calls prog 190 #[.agg #[.pointer (some ⟨b,0,none⟩)]] W λe f=>But b W f/\qan 11 s.pos e:=by
 have d:=qab (qaX h);have t:=d.out.cell;have j:=qaw _ b s c d.out.src k;have v:=nec (c:=c) 110 (by omega);have w:=nec (c:=c) 116 (by omega);have x:=nec (c:=c) 102 (by omega);have y:=nec (c:=c) 34 (by omega);have z:((c.toNat:Int)==91)=true:=by rw[q];rfl
 have A:=nec (c:=c) 123 (by omega);have g:∀V,qad V b s.next->Calls prog 194 #[.agg #[.pointer (some ⟨b,0,none⟩)]] V λe f=>qan 11 s.pos e/\But b V f:=λV p=>by
  have:=qiY V b s.next p r
  rwa[show((s.next.pos:Int)-1)=s.pos by show(((s.pos+1:Nat)):Int)-1=s.pos;omega]at this
 go_enter func190,ntmps190
 go_wp2_with(first
  |(go_at_call 188;refine j.mono ?_;rintro e u ⟨rfl,o,l⟩;have a:=qab (d.out.step o l);have t:=a.out.cell;have i:=g u a.out.src)
  |(go_at_call 194;refine i.mono ?_;rintro e B ⟨n,m⟩;obtain rfl:=n))
 exact⟨rfl,a.out.but.trans m,rfl⟩
theorem qqu(g:Nat)(W:World)(b:Nat)(s:Src)(c:UInt8)(h:qad W b s)(t:qgm s c)(Q:c.toNat=123)(i:Nat->Except (Int×Int) (DataW Unit×Nat))(Y:qhi g b {s with within:=s.within+1} W i)(S:∀p d q,i p=.ok (d,q)->p<q)(T:s.bs.length<=200000000)(N:∀V,But b W V->U8 V)(K:7<b)(R:¬(s.within:Int)=s.depth)(Z:s.within<=100000):Calls prog 190 #[.agg #[.pointer (some ⟨b,0,none⟩)]] W (qct (g+1) W b s (match qdV s.bs s.lim (enJ s.bs s.lim i) 125 (s.pos+1) ([],[])with|.error e=>.error e|.ok (x,q)=>.ok (.map x.2,q))):=by
 have k:=qab (qaX h);have F:=k.out.cell;have B:=qaw _ b s c k.out.src t;have aa:=ltA h.row;have e1:=nec (c:=c) 110 (by omega);have e2:=nec (c:=c) 116 (by omega);have e3:=nec (c:=c) 102 (by omega);have e4:=nec (c:=c) 34 (by omega);have e5:=nec (c:=c) 91 (by omega);have e6:((c.toNat:Int)==123)=true:=by rw[Q];rfl
 have l:∀V,qad V b s.next->But b W V->Calls prog 195 #[.agg #[.pointer (some ⟨b,0,none⟩)]] V (qnE V b s.next (λA v x=>(∃a n c,v=.slice a n c)/\qah (g+1) A (λj=>V.heap.size<=j/\j<A.heap.size) (.iface 122 v) (.map x.2)) (qdV s.bs s.lim (enJ s.bs s.lim i) 125 (s.pos+1) ([],[]))):=λV O C=>qk5 g V b s.next i O (λU p t J=>Y U p t (C.trans J)) S T (λX P=>N X (C.trans P)) K R Z
 cases E:qdV s.bs s.lim (enJ s.bs s.lim i) 125 (s.pos+1) ([],[])with
 |error I =>
  obtain⟨H,pl⟩:=I;rw[E]at l;simp only[];go_enter func190,ntmps190
  go_wp2_with(first
   |(go_at_call 188;refine B.mono ?_;rintro e m ⟨rfl,z,u⟩;have f:=qab (k.out.step z u);have F:=f.out.cell;have r:=l m f.out.src f.out.but)
   |(go_at_call 195;refine r.mono ?_;rintro e o ⟨w,y⟩;obtain rfl:=(show qan H pl e from y)))
  exact⟨rfl,f.out.but.trans w,rfl⟩
 |ok xq =>
  obtain⟨x,q⟩:=xq;rw[E]at l;simp only[];go_enter func190,ntmps190
  go_wp2_with(first
   |(go_at_call 188;refine B.mono ?_;rintro e m ⟨rfl,z,u⟩;have f:=qab (k.out.step z u);have F:=f.out.cell;have r:=l m f.out.src f.out.but)
   |(go_at_call 195;refine r.mono ?_;rintro e o ⟨w,y⟩;obtain⟨⟨v4,rfl,⟨a4,n4,c4,rfl⟩,L⟩,M⟩:=(show(∃v,e=.returned v/\(∃a n c,v=.slice a n c)/\qah (g+1) o (λj=>m.heap.size<=j/\j<o.heap.size) (.iface 122 v) (.map x.2))/\qad o b {s with pos:=q}from y);have G:=qab L))
  go_ret;exact⟨f.out.but.trans w,⟨_,_,rfl,G.out.same (λj D=>⟨kaj f.out.but.size D.1,D.2⟩) (λ_ _=>rfl)⟩,M⟩
theorem qhB(W:World)(b:Nat)(s:Src)(c:UInt8)(h:qad W b s)(k:qgm s c)(q:c.toNat=123)(r:(s.within:Int)=s.depth):Calls prog 190 #[.agg #[.pointer (some ⟨b,0,none⟩)]] W λe f=>But b W f/\qan 11 s.pos e:=by
 have d:=qab (qaX h);have t:=d.out.cell;have j:=qaw _ b s c d.out.src k;have v:=nec (c:=c) 110 (by omega);have w:=nec (c:=c) 116 (by omega);have x:=nec (c:=c) 102 (by omega);have y:=nec (c:=c) 34 (by omega);have z:=nec (c:=c) 91 (by omega);have A:((c.toNat:Int)==123)=true:=by rw[q];rfl
 have g:∀V,qad V b s.next->Calls prog 195 #[.agg #[.pointer (some ⟨b,0,none⟩)]] V λe f=>qan 11 s.pos e/\But b V f:=λV p=>by
  have:=qky V b s.next p r
  rwa[show((s.next.pos:Int)-1)=s.pos by show(((s.pos+1:Nat)):Int)-1=s.pos;omega]at this
 go_enter func190,ntmps190
 go_wp2_with(first
  |(go_at_call 188;refine j.mono ?_;rintro e u ⟨rfl,o,l⟩;have a:=qab (d.out.step o l);have t:=a.out.cell;have i:=g u a.out.src)
  |(go_at_call 195;refine i.mono ?_;rintro e B ⟨n,m⟩;obtain rfl:=n))
 exact⟨rfl,a.out.but.trans m,rfl⟩
theorem qpV(W:World)(b:Nat)(s:Src)(c:UInt8)(h:qad W b s)(k:qgm s c)(q:¬(c.toNat=110\/c.toNat=116\/c.toNat=102\/c.toNat=34\/c.toNat=91\/c.toNat=123\/c.toNat=45\/qbO c=true)):Calls prog 190 #[.agg #[.pointer (some ⟨b,0,none⟩)]] W λe f=>But b W f/\qan 9 s.pos e:=by
 have d:=qab (qaX h);have r:=d.out.cell;have j:=qaw _ b s c d.out.src k;have u:=nec (c:=c) 110 (by omega);have v:=nec (c:=c) 116 (by omega);have w:=nec (c:=c) 102 (by omega);have x:=nec (c:=c) 34 (by omega);have y:=nec (c:=c) 91 (by omega);have z:=nec (c:=c) 123 (by omega);have A:=nec (c:=c) 45 (by omega);have o:decide (48<=(c.toNat:Int)/\(c.toNat:Int)<=57)=false:=by
  have:qbO c=false:=by cases p:qbO c with|false=>rfl|true=>exact absurd (.inr (.inr (.inr (.inr (.inr (.inr (.inr p))))))) q
  exact this
 have g:∀V,qad V b s.next->Calls prog 189 #[.pointer (some ⟨b,0,none⟩),.int .i64 9] V λe f=>qan 9 s.pos e/\f=V:=λV n=>by
  have:=qav V b s.next 9 n
  rwa[show((s.next.pos:Int)-1)=s.pos by show(((s.pos+1:Nat)):Int)-1=s.pos;omega]at this
 go_enter func190,ntmps190
 go_wp2_with(first
  |(go_at_call 188;refine j.mono ?_;rintro e t ⟨rfl,m,l⟩;have a:=qab (d.out.step m l);have r:=a.out.cell;have i:=g t a.out.src)
  |(go_at_call 196;refine(qbt c _).mono ?_;rintro e B ⟨rfl,rfl⟩;rw[o])
  |(go_at_call 189;refine i.mono ?_;rintro e C ⟨hF,rfl⟩;obtain rfl:=hF))
 exact⟨rfl,a.out.but,rfl⟩
theorem qhS(W:World)(b:Nat)(s:Src)(d:Int)(h:qad W b s)(g:∀V,qad V b s->Calls prog 188 #[.pointer (some ⟨b,0,none⟩)] V λe c=>qan d s.pos e/\Below V.heap.size V c):Calls prog 190 #[.agg #[.pointer (some ⟨b,0,none⟩)]] W λe c=>But b W c/\qan d s.pos e:=by
 have a:=qab (qaX h);have j:=a.out.cell;have f:=g _ a.out.src;go_enter func190,ntmps190
 go_wp2_with(first
  |(go_at_call 188;refine f.mono ?_;rintro e k ⟨hF,i⟩;obtain rfl:=hF))
 exact⟨rfl,a.out.but.trans (But.of_below i),rfl⟩

theorem qm6{α:Type}{itF:α->Nat->Except (Int×Int) (α×Nat)}(c:∀a p b q,itF a p=.ok (b,q)->p<q):∀(g p:Nat) (a b:α) (q:Nat),qfZ bs lim itF last g p a=.ok (b,q)->p<q
 |0,p,a,b,q,h=>by rw[qfZ]at h;cases h
 |g+1,p,a,b,q,h=>by
  rw[qfZ]at h;split at h
  ·cases h
  next u1 p1 h1 =>
  split at h
  ·cases h
  next a2 p2 h2 =>
  split at h
  ·cases h
  next u3 p3 h3 =>
  have:=qc5 _ _ _ _ _ _ h1;have:=c _ _ _ _ h2;have:=qc5 _ _ _ _ _ _ h3;split at h
  ·cases h
  split at h
  ·cases h
  split at h
  ·injection h with h;injection h with h4 h5;omega
  split at h
  ·have:=qm6 c g (p3+1) a2 b q h;omega
  cases h
theorem qqm{α:Type}{itF:α->Nat->Except (Int×Int) (α×Nat)}(b:∀a p a' q,itF a p=.ok (a',q)->p<q){a a':α}(h:qdV bs lim itF last p a=.ok (a',q)):p<q:=by
 unfold qdV at h;split at h
 ·cases h
 next u1 p1 h1 =>
 have:=qc5 _ _ _ _ _ _ h1;split at h
 ·have:=qm6 b _ _ _ _ _ h;omega
 split at h
 ·cases h
 split at h
 ·injection h with h;injection h with h4 h5;omega
 have:=qm6 b _ _ _ _ _ h;omega
theorem qvv{depth:Int}{wi:Nat}{rd:Nat->Except (Int×Int) (DataW Unit×Nat)}{nm:UInt8->Nat->Except (Int×Int) (Int×Nat)}{d:DataW Unit}(a:∀p d q,rd p=.ok (d,q)->p<q)(b:∀z q,(c.toNat=45\/qbO c=true)->nm c p=.ok (z,q)->p<=q)(h:qjM bs lim depth wi rd nm c p=.ok (d,q)):p<=q:=by
 unfold qjM at h;split at h
 ·split at h
  ·cases h
  next u r hr =>
  injection h with h;injection h with h1 h2;have:=qci _ _ _ _ _ _ hr;omega
 split at h
 ·split at h
  ·cases h
  next u r hr =>
  injection h with h;injection h with h1 h2;have:=qci _ _ _ _ _ _ hr;omega
 split at h
 ·split at h
  ·cases h
  next u r hr =>
  injection h with h;injection h with h1 h2;have:=qci _ _ _ _ _ _ hr;omega
 split at h
 ·split at h
  ·cases h
  next l r hr =>
  injection h with h;injection h with h1 h2;have:=qeE _ _ _ _ _ _ _ _ hr;omega
 split at h
 ·split at h
  ·cases h
  split at h
  ·cases h
  next l r hr =>
  injection h with h;injection h with h1 h2;have:=qqm (quS a) hr;omega
 split at h
 ·split at h
  ·cases h
  split at h
  ·cases h
  next l r hr =>
  injection h with h;injection h with h1 h2;have:=qqm (quR a) hr;omega
 split at h
 ·next hc =>
  split at h
  ·cases h
  next z r hr =>
  injection h with h;injection h with h1 h2;have:=b z r hc hr;omega
 cases h
def nmS(s:Src)(c:UInt8)(p:Nat):Except (Int×Int) (Int×Nat):=qel {s with pos:=p} c
theorem qnC(s:Src):∀(g a p:Nat) (d:DataW Unit) (q:Nat),thJ s.bs s.lim s.depth (nmS s) g a p=.ok (d,q)->p<q
 |0,_,_,_,_,h=>by rw[thJ]at h;cases h
 |g+1,a,p,d,q,h=>by
  rw[thJ]at h;split at h
  ·cases h
  split at h
  ·cases h
  have:=qvv (p:=p+1) (nm:=nmS s) (qnC s g (a+1)) (λz q b c=>(qft (s:={s with pos:=p+1}) b c).2) h;omega
theorem qbD:∀(g:Nat) (W:World) (b:Nat) (s:Src),qad W b s->s.bs.length<=200000000->(∀V,But b W V->U8 V)->7<b->s.depth<=100000->(s.within:Int)<=s.depth->s.depth<s.within+g ->
  Calls prog 190 #[.agg #[.pointer (some ⟨b,0,none⟩)]] W (qct g W b s (thJ s.bs s.lim s.depth (nmS s) g s.within s.pos))
 |0,W,b,s,_,_,_,_,_,d,h2=>by omega
 |g+1,W,b,s,h,hlen,hU,h7,hdp,hwd,hgd=>by
  have x:¬(s.within:Int)=s.depth->qhi g b {s with within:=s.within+1} W (thJ s.bs s.lim s.depth (nmS s) g (s.within+1)):=λD U p t r =>
   qbD g U b {s with pos:=p,within:=s.within+1} t hlen (λX A=>hU X (r.trans A)) h7 hdp (by show((s.within+1:Nat):Int)<=s.depth;omega) (by show s.depth<((s.within+1:Nat):Int)+g;omega)
  rcases qaT h with d|d|⟨c,d⟩
  ·have e:thJ s.bs s.lim s.depth (nmS s) (g+1) s.within s.pos=.error (9,(s.pos:Int)):=by
    rw[thJ,kaC (by have:s.pos=s.bs.length:=d;omega)]
   rw[e];exact qhS W b s 9 h (λV u=>qb0 V b s u d)
  ·have e:thJ s.bs s.lim s.depth (nmS s) (g+1) s.within s.pos=.error (8,(s.pos:Int)):=by
    rw[thJ,kab d.1];simp only[];rw[kag d.2]
   rw[e];exact qhS W b s 8 h (λV u=>qbb V b s u d)
  have e:thJ s.bs s.lim s.depth (nmS s) (g+1) s.within s.pos=qjM s.bs s.lim s.depth s.within (thJ s.bs s.lim s.depth (nmS s) g (s.within+1)) (nmS s) c (s.pos+1):=by
   rw[thJ,d.1];simp only[];rw[kac d.2]
  rw[e];have v:(((s.pos+1:Nat)):Int)-1=s.pos:=by omega
  unfold qjM;by_cases m:c.toNat=110
  ·rw[kag m];refine(qrp g W b s c h d m).mono λe w a=>?_;cases f:qaO s.bs s.lim [117,108,108] (s.pos+1)<;>(rw[f]at a;exact a)
  rw[kac m];by_cases c2:c.toNat=116
  ·rw[kag c2];refine(qou g W b s c h d c2).mono λe w a=>?_;cases f:qaO s.bs s.lim [114,117,101] (s.pos+1)<;>(rw[f]at a;exact a)
  rw[kac c2];by_cases n:c.toNat=102
  ·rw[kag n];refine(qmb g W b s c h d n).mono λe w a=>?_;cases f:qaO s.bs s.lim [97,108,115,101] (s.pos+1)<;>(rw[f]at a;exact a)
  rw[kac n];by_cases o:c.toNat=34
  ·rw[kag o];refine(qo8 g W b s c h d o hlen hU h7).mono λe w a=>?_;cases f:qcU s.bs s.lim (s.bs.length+1-(s.pos+1)) (s.pos+1) [] 0<;>(rw[f]at a;exact a)
  rw[kac o];by_cases j:c.toNat=91
  ·rw[kag j];by_cases i:(s.within:Int)=s.depth
   ·rw[kag i,v];exact qgR W b s c h d j i
   rw[kac i];refine(qoa g W b s c h d j _ (x i) (qnC s g (s.within+1)) hlen i (by omega)).mono λe w a=>?_;cases f:qdV s.bs s.lim (liJ (thJ s.bs s.lim s.depth (nmS s) g (s.within+1))) 93 (s.pos+1) []<;>(rw[f]at a;exact a)
  rw[kac j];by_cases k:c.toNat=123
  ·rw[kag k];by_cases i:(s.within:Int)=s.depth
   ·rw[kag i,v];exact qhB W b s c h d k i
   rw[kac i];refine(qqu g W b s c h d k _ (x i) (qnC s g (s.within+1)) hlen hU h7 i (by omega)).mono λe w a=>?_;cases f:qdV s.bs s.lim (enJ s.bs s.lim (thJ s.bs s.lim s.depth (nmS s) g (s.within+1))) 125 (s.pos+1) ([],[])<;>(rw[f]at a;exact a)
  rw[kac k];by_cases l:c.toNat=45\/qbO c=true
  ·rw[kag l];refine(qjt W b s c h d l).mono λe w a=>?_;have y:nmS s c (s.pos+1)=qel s.next c:=rfl
   rw[y]
   cases f:qel s.next c with
   |error C =>
    rw[f]at a;exact a
   |ok B =>
    obtain⟨z,q⟩:=B;rw[f]at a;obtain⟨r,rfl,t⟩:=a;exact⟨r,⟨_,_,rfl,rfl,(qft l f).1⟩,t⟩
  rw[kac l,v];exact qpV W b s c h d (by
   rintro(a|a|a|a|a|a|a)
   ·exact m a
   ·exact c2 a
   ·exact n a
   ·exact o a
   ·exact j a
   ·exact k a
   exact l a)

def qpa(sp:Nat->Except (Int×Int) (Unit×Nat))(th:Nat->Except (Int×Int) (DataW Unit×Nat))(bs:List UInt8)(lim:Int):Except (Int×Int) (DataW Unit) :=
 match sp 0 with
 |.error e=>.error e
 |.ok (_,p0)=>match th p0 with
  |.error e=>.error e
  |.ok (d,p1)=>match sp p1 with
   |.error e=>.error e
   |.ok (_,p2)=>match qsi ⟨none,bs,0,0,lim,p2,0⟩with
    |.error e=>.error e
    |.ok _=>.ok d
def qh4(th:Nat->Except (Int×Int) (DataW Unit×Nat)):Except (Int×Int) Nat :=
 match th 0 with
 |.error e=>.error e
 |.ok (_,p)=>.ok p
def qey(k:Nat)(W:World)(r:Except (Int×Int) (DataW Unit))(e:Ending)(W':World):Prop :=
 Below W.heap.size W W'/\match r with
 |.ok d=>∃t y,e=.returned (.iface t y)/\qah k W' (λj=>W.heap.size<=j/\j<W'.heap.size) (.iface t y) d
 |.error (en,pl)=>qan en pl e
theorem qjR(W:World)(b p:Nat)(c:W.cell? ⟨b,3,none⟩=some (.int .i64 p)):Calls prog 186 #[.pointer (some ⟨b,0,none⟩)] W λe a=>e=.returned (.int .i64 p)/\a=W:=by
 go_enter func186,ntmps186;go_wp2;go_ret;exact⟨rfl,rfl⟩
theorem qlg.toJ{k:Nat}{r:Except (Int×Int) (DataW Unit×Nat)}{e:Ending}{W':World}(h:qlg k W b s r e W'):qct k W b s r e W':=by
 refine⟨h.1,?_⟩;have a:=h.2
 cases r with
 |ok x=>exact a
 |error x=>exact a.1
theorem qlH(k:Nat)(W:World)(Z:Int)(c:Option Addr)(bs:List UInt8)(f:Nat)(d l:Int)(ah:qau W c bs)(x:Nat->Except (Int×Int) (Unit×Nat))(G:Nat->Except (Int×Int) (DataW Unit×Nat))(cR:∀V,qau V c bs->Calls prog 32 #[.int .i64 Z,.agg #[.int .i64 d,.int .i64 l],.slice c bs.length f] V λe X=>∃b,e=.returned (.iface 114 (.agg #[.pointer (some ⟨b,0,none⟩)]))/\qad X b ⟨c,bs,f,d,l,0,0⟩/\V.heap.size<=b/\Below V.heap.size V X)(Y:∀(b:Nat) (V:World) (p:Nat),W.heap.size<=b->qad V b ⟨c,bs,f,d,l,p,0⟩->Calls prog 191 #[.agg #[.pointer (some ⟨b,0,none⟩)]] V (qbV V b ⟨c,bs,f,d,l,p,0⟩ (λ_:Unit=>.tuple #[]) (x p)))(cT:∀(b:Nat) (V:World) (p:Nat),W.heap.size<=b->Below W.heap.size W V->qad V b ⟨c,bs,f,d,l,p,0⟩->Calls prog 190 #[.agg #[.pointer (some ⟨b,0,none⟩)]] V (qct k V b ⟨c,bs,f,d,l,p,0⟩ (G p))):Calls prog 13 #[.int .i64 Z,.agg #[.int .i64 d,.int .i64 l],.slice c bs.length f] W (qey k W (qpa x G bs l)):=by
 have ab:Below W.heap.size W (W.alloc (.cells #[.int .i64 d,.int .i64 l] 52)):=bwA;have P:=qab ab;have cN:=cR (W.alloc (.cells #[.int .i64 d,.int .i64 l] 52)) (ah.below ab);obtain⟨R,U⟩:∃R,Hid (qpa x G bs l=R):=⟨_,show _=_ from rfl⟩
 rw[U.out];have a:=U.out;unfold qpa at a;go_enter func13,ntmps13
 go_wp2_with(first
  |(go_at_call 32;refine cN.mono ?_;rintro e w2 ⟨b,rfl,hS,aq,J⟩))
 have Q:=qab (P.out.trans (J.mono P.out.size));have g:W.heap.size<=b:=by simp only[kad]at aq;omega
 have C:=Y b w2 0 g hS;have af:=λ(V:World) (p:Nat) M=>Y b V p g M;have ag:=λ(V:World) (p:Nat) (J:Below W.heap.size W V) M=>cT b V p g J M;refine qbY (y:=(191,.agg #[.pointer (some ⟨b,0,none⟩)])) (w:=w2) (by kernel_rfl) ?_
 go_wp2_with fail
 cases h:x 0 with
 |error q =>
  obtain⟨o,r⟩:=q;rw[h]at a C;simp only[]at a;subst a;refine C.mono ?_;rintro e A ⟨K,hF⟩;obtain rfl:=(show qan o r e from hF)
  go_wp2;exact⟨rfl,qa6 Q.out K g,rfl⟩
 |ok z =>
  obtain⟨u0,N⟩:=z;rw[h]at a C;simp only[]at a;refine C.mono ?_;rintro e A ⟨K,aj⟩;obtain⟨rfl,aa⟩:=(show e=.returned (.tuple #[])/\qad A b ⟨c,bs,f,d,l,N,0⟩from aj)
  have I:=qab (qa6 Q.out K g);have E:=ag A N I.out aa;have ar:=qab (ltA aa.row)
  go_wp2_with fail
  refine qbY (y:=(190,.agg #[.pointer (some ⟨b,0,none⟩)])) (w:=A) (by kernel_rfl) ?_
  go_wp2_with fail
  cases h2:G N with
  |error q =>
   obtain⟨o,r⟩:=q;rw[h2]at a E;simp only[]at a;subst a;refine E.mono ?_;rintro e m ⟨L,hF⟩;obtain rfl:=(show qan o r e from hF)
   go_wp2;exact⟨rfl,qa6 I.out L g,rfl⟩
  |ok dq =>
   obtain⟨F,O⟩:=dq;rw[h2]at a E;simp only[]at a;refine E.mono ?_;rintro e m ⟨L,ak⟩;obtain⟨⟨t,y,rfl,ai⟩,an⟩:=(show(∃t y,e=.returned (.iface t y)/\qah k m (λj=>A.heap.size<=j/\j<m.heap.size) (.iface t y) F)/\qad m b ⟨c,bs,f,d,l,O,0⟩from ak)
   have S:=qab (qa6 I.out L g);have ap:=ar.out;have HD:Hid (qah k m (λj=>b<j/\j<m.heap.size) (.iface t y) F):=ai.same (λj i=>⟨kai ap i.1,i.2⟩) (λ_ _=>rfl);have D:=af m O an
   go_wp2_with fail
   refine qbY (y:=(191,.agg #[.pointer (some ⟨b,0,none⟩)])) (w:=m) (by kernel_rfl) ?_
   go_wp2_with fail
   cases h3:x O with
   |error q =>
    obtain⟨o,r⟩:=q;rw[h3]at a D;simp only[]at a;subst a;refine D.mono ?_;rintro e n ⟨s,hF⟩;obtain rfl:=(show qan o r e from hF)
    go_wp2;exact⟨rfl,qa6 S.out s g,rfl⟩
   |ok z =>
    obtain⟨u2,v⟩:=z;rw[h3]at a D;simp only[]at a;refine D.mono ?_;rintro e n ⟨s,al⟩;obtain⟨rfl,ao⟩:=(show e=.returned (.tuple #[])/\qad n b ⟨c,bs,f,d,l,v,0⟩from al)
    have T:=qab (qa6 S.out s g);have ad:Hid (qah k n (λj=>b<j/\j<n.heap.size) (.iface t y) F):=HD.out.same (λj i=>⟨i.1,kai i.2 s.size⟩) (λj i=>s.block j i.2 (by omega));have B:Calls prog 184 #[.pointer (some ⟨b,0,none⟩)] n (qbV n b ⟨c,bs,f,d,l,v,0⟩ (λ_:Unit=>.tuple #[]) (qsi ⟨none,bs,0,0,l,v,0⟩)):=qgE n b ⟨c,bs,f,d,l,v,0⟩ ao
    go_wp2_with fail
    refine qbY (y:=(184,.pointer (some ⟨b,0,none⟩))) (w:=n) (by kernel_rfl) ?_
    go_wp2_with fail
    cases h4:qsi ⟨none,bs,0,0,l,v,0⟩with
    |error q =>
     obtain⟨o,r⟩:=q;rw[h4]at a B;simp only[]at a;subst a;refine B.mono ?_;rintro e H ⟨u,hF⟩;obtain rfl:=(show qan o r e from hF)
     go_wp2;exact⟨rfl,qa6 T.out u g,rfl⟩
    |ok z =>
     obtain⟨u4,p4⟩:=z;rw[h4]at a B;simp only[]at a;subst a;refine B.mono ?_;rintro e H ⟨u,am⟩;obtain⟨rfl,au⟩:=(show e=.returned (.tuple #[])/\qad H b ⟨c,bs,f,d,l,p4,0⟩from am)
     have ae:Hid (qah k H (λj=>W.heap.size<=j/\j<H.heap.size) (.iface t y) F):=ad.out.same (λj i=>⟨by omega,kai i.2 u.size⟩) (λj i=>u.block j i.2 (by omega));have ac:=qab (qa6 T.out u g);go_wp2;go_ret;exact⟨ac.out,_,_,rfl,ae.out⟩
theorem qhv(k:Nat)(W:World)(h:Int)(f:Nat)(c:Option Addr)(bs:List UInt8)(g:Nat)(d l:Int)(ah:qau W c bs)(z:Nat->Except (Int×Int) (Unit×Nat))(H:Nat->Except (Int×Int) (DataW Unit×Nat))(cR:∀V,qau V c bs->Calls prog 32 #[.int .i64 h,.agg #[.int .i64 d,.int .i64 l],.slice c bs.length g] V λe Y=>∃b,e=.returned (.iface 117 (.agg #[.pointer (some ⟨b,0,none⟩),.func (.func f) #[] #[]]))/\qad Y b ⟨c,bs,g,d,l,0,0⟩/\V.heap.size<=b/\Below V.heap.size V Y)(Z:∀(b:Nat) (V:World) (p:Nat),W.heap.size<=b->qad V b ⟨c,bs,g,d,l,p,0⟩->Calls prog 185 #[.pointer (some ⟨b,0,none⟩)] V (qbV V b ⟨c,bs,g,d,l,p,0⟩ (λ_:Unit=>.tuple #[]) (z p)))(cT:∀(b:Nat) (V:World) (p:Nat),W.heap.size<=b->Below W.heap.size W V->qad V b ⟨c,bs,g,d,l,p,0⟩->Calls prog 219 #[.agg #[.pointer (some ⟨b,0,none⟩),.func (.func f) #[] #[]]] V (qct k V b ⟨c,bs,g,d,l,p,0⟩ (H p))):Calls prog 13 #[.int .i64 h,.agg #[.int .i64 d,.int .i64 l],.slice c bs.length g] W (qey k W (qpa z H bs l)):=by
 have ab:Below W.heap.size W (W.alloc (.cells #[.int .i64 d,.int .i64 l] 52)):=bwA;have Q:=qab ab;have cN:=cR (W.alloc (.cells #[.int .i64 d,.int .i64 l] 52)) (ah.below ab);obtain⟨R,X⟩:∃R,Hid (qpa z H bs l=R):=⟨_,show _=_ from rfl⟩
 rw[X.out];have a:=X.out;unfold qpa at a;go_enter func13,ntmps13
 go_wp2_with(first
  |(go_at_call 32;refine cN.mono ?_;rintro e w2 ⟨b,rfl,hS,aq,K⟩))
 have S:=qab (Q.out.trans (K.mono Q.out.size));have i:W.heap.size<=b:=by simp only[kad]at aq;omega
 have D:=Z b w2 0 i hS;have af:=λ(V:World) (p:Nat) N=>Z b V p i N;have ag:=λ(V:World) (p:Nat) (K:Below W.heap.size W V) N=>cT b V p i K N;refine qbY (y:=(185,.pointer (some ⟨b,0,none⟩))) (w:=w2) (by kernel_rfl) ?_
 go_wp2_with fail
 cases h1:z 0 with
 |error r =>
  obtain⟨q,s⟩:=r;rw[h1]at a D;simp only[]at a;subst a;refine D.mono ?_;rintro e B ⟨L,hF⟩;obtain rfl:=(show qan q s e from hF)
  go_wp2;exact⟨rfl,qa6 S.out L i,rfl⟩
 |ok A =>
  obtain⟨u0,O⟩:=A;rw[h1]at a D;simp only[]at a;refine D.mono ?_;rintro e B ⟨L,aj⟩;obtain⟨rfl,aa⟩:=(show e=.returned (.tuple #[])/\qad B b ⟨c,bs,g,d,l,O,0⟩from aj)
  have J:=qab (qa6 S.out L i);have F:=ag B O J.out aa;have ar:=qab (ltA aa.row)
  go_wp2_with fail
  refine qbY (y:=(219,.agg #[.pointer (some ⟨b,0,none⟩),.func (.func f) #[] #[]])) (w:=B) (by kernel_rfl) ?_
  go_wp2_with fail
  cases h2:H O with
  |error r =>
   obtain⟨q,s⟩:=r;rw[h2]at a F;simp only[]at a;subst a;refine F.mono ?_;rintro e n ⟨M,hF⟩;obtain rfl:=(show qan q s e from hF)
   go_wp2;exact⟨rfl,qa6 J.out M i,rfl⟩
  |ok dq =>
   obtain⟨G,P⟩:=dq;rw[h2]at a F;simp only[]at a;refine F.mono ?_;rintro e n ⟨M,ak⟩;obtain⟨⟨t,y,rfl,ai⟩,an⟩:=(show(∃t y,e=.returned (.iface t y)/\qah k n (λj=>B.heap.size<=j/\j<n.heap.size) (.iface t y) G)/\qad n b ⟨c,bs,g,d,l,P,0⟩from ak)
   have T:=qab (qa6 J.out M i);have ap:=ar.out;have HD:Hid (qah k n (λj=>b<j/\j<n.heap.size) (.iface t y) G):=ai.same (λj m=>⟨kai ap m.1,m.2⟩) (λ_ _=>rfl);have E:=af n P an
   go_wp2_with fail
   refine qbY (y:=(185,.pointer (some ⟨b,0,none⟩))) (w:=n) (by kernel_rfl) ?_
   go_wp2_with fail
   cases h3:z P with
   |error r =>
    obtain⟨q,s⟩:=r;rw[h3]at a E;simp only[]at a;subst a;refine E.mono ?_;rintro e o ⟨u,hF⟩;obtain rfl:=(show qan q s e from hF)
    go_wp2;exact⟨rfl,qa6 T.out u i,rfl⟩
   |ok A =>
    obtain⟨u2,x⟩:=A;rw[h3]at a E;simp only[]at a;refine E.mono ?_;rintro e o ⟨u,al⟩;obtain⟨rfl,ao⟩:=(show e=.returned (.tuple #[])/\qad o b ⟨c,bs,g,d,l,x,0⟩from al)
    have U:=qab (qa6 T.out u i);have ad:Hid (qah k o (λj=>b<j/\j<o.heap.size) (.iface t y) G):=HD.out.same (λj m=>⟨m.1,kai m.2 u.size⟩) (λj m=>u.block j m.2 (by omega));have C:Calls prog 184 #[.pointer (some ⟨b,0,none⟩)] o (qbV o b ⟨c,bs,g,d,l,x,0⟩ (λ_:Unit=>.tuple #[]) (qsi ⟨none,bs,0,0,l,x,0⟩)):=qgE o b ⟨c,bs,g,d,l,x,0⟩ ao
    go_wp2_with fail
    refine qbY (y:=(184,.pointer (some ⟨b,0,none⟩))) (w:=o) (by kernel_rfl) ?_
    go_wp2_with fail
    cases h4:qsi ⟨none,bs,0,0,l,x,0⟩with
    |error r =>
     obtain⟨q,s⟩:=r;rw[h4]at a C;simp only[]at a;subst a;refine C.mono ?_;rintro e I ⟨v,hF⟩;obtain rfl:=(show qan q s e from hF)
     go_wp2;exact⟨rfl,qa6 U.out v i,rfl⟩
    |ok A =>
     obtain⟨u4,p4⟩:=A;rw[h4]at a C;simp only[]at a;subst a;refine C.mono ?_;rintro e I ⟨v,am⟩;obtain⟨rfl,au⟩:=(show e=.returned (.tuple #[])/\qad I b ⟨c,bs,g,d,l,p4,0⟩from am)
     have ae:Hid (qah k I (λj=>W.heap.size<=j/\j<I.heap.size) (.iface t y) G):=ad.out.same (λj m=>⟨by omega,kai m.2 v.size⟩) (λj m=>v.block j m.2 (by omega));have ac:=qab (qa6 U.out v i);go_wp2;go_ret;exact⟨ac.out,_,_,rfl,ae.out⟩
theorem qsn(k:Nat)(W:World)(H:Int)(a:Option Addr)(bs:List UInt8)(g:Nat)(d l:Int)(h:qau W a bs)(m:Nat->Except (Int×Int) (DataW Unit×Nat))(F:∀V,qau V a bs->Calls prog 32 #[.int .i64 H,.agg #[.int .i64 d,.int .i64 l],.slice a bs.length g] V λe q=>∃b,e=.returned (.iface 114 (.agg #[.pointer (some ⟨b,0,none⟩)]))/\qad q b ⟨a,bs,g,d,l,0,0⟩/\V.heap.size<=b/\Below V.heap.size V q)(G:∀(b:Nat) (V:World) (p:Nat),W.heap.size<=b->Below W.heap.size W V->qad V b ⟨a,bs,g,d,l,p,0⟩->Calls prog 190 #[.agg #[.pointer (some ⟨b,0,none⟩)]] V (qct k V b ⟨a,bs,g,d,l,p,0⟩ (m p))):Calls prog 21 #[.int .i64 H,.agg #[.int .i64 d,.int .i64 l],.slice a bs.length g] W (λe q=>qoT W (λn:Nat=>.int .i64 n) (qh4 m) e q/\∀n,qh4 m=.ok n->n<=bs.length):=by
 have C:Below W.heap.size W (W.alloc (.cells #[.int .i64 d,.int .i64 l] 52)):=bwA;have x:Hid (Below W.heap.size W (W.alloc (.cells #[.int .i64 d,.int .i64 l] 52))):=C;have E:=F (W.alloc (.cells #[.int .i64 d,.int .i64 l] 52)) (h.below C);obtain⟨R,z⟩:∃R,Hid (qh4 m=R):=⟨_,show _=_ from rfl⟩
 rw[z.out];have f:=z.out;unfold qh4 at f;clear C h F z;go_enter func21,ntmps21
 go_wp2_with(first
  |(go_at_call 32;refine E.mono ?_;clear E;rintro e v ⟨b,rfl,K,L,I⟩))
 have o:Hid (Below W.heap.size W v):=x.out.trans (I.mono x.out.size);have D:W.heap.size<=b:=by simp only[kad]at L;omega
 have i:=G b v 0 D o.out K;clear G I L K x;refine qbY (y:=(190,.agg #[.pointer (some ⟨b,0,none⟩)])) (w:=v) (by kernel_rfl) ?_
 go_wp2_with fail
 cases A:m 0 with
 |error S =>
  obtain⟨Q,X⟩:=S;rw[A]at f i;simp only[]at f;subst f;refine i.mono ?_;rintro e c ⟨r,hF⟩;obtain rfl:=(show qan Q X e from hF)
  go_wp2;exact⟨rfl,⟨qa6 o.out r D,rfl⟩,λn s=>by cases s⟩
 |ok P =>
  obtain⟨O,u⟩:=P;rw[A]at f i;simp only[]at f;subst f;refine i.mono ?_;clear i A;rintro e c ⟨r,J⟩;obtain⟨⟨t,y,rfl,T⟩,B⟩:=(show(∃t y,e=.returned (.iface t y)/\qah k c (λj=>v.heap.size<=j/\j<c.heap.size) (.iface t y) O)/\qad c b ⟨a,bs,g,d,l,u,0⟩from J)
  have M:Hid (Below W.heap.size W c):=qa6 o.out r D;have N:Hid (u<=bs.length):=B.le;have U:c.cell? ⟨b,3,none⟩=some (.int .i64 u):=qaa B.row 3;clear r J B T o
  go_wp2_with fail
  refine qbY (y:=(186,.pointer (some ⟨b,0,none⟩))) (w:=c) (by kernel_rfl) ?_
  go_wp2_with fail
  refine(qjR c b u U).mono ?_;rintro e Y ⟨rfl,rfl⟩;go_wp2;go_ret;exact⟨⟨M.out,rfl⟩,λn s=>by injection s with s;have:=N.out;omega⟩
theorem qnz(k:Nat)(W:World)(I:Int)(f:Nat)(a:Option Addr)(bs:List UInt8)(i:Nat)(d l:Int)(h:qau W a bs)(o:Nat->Except (Int×Int) (DataW Unit×Nat))(G:∀V,qau V a bs->Calls prog 32 #[.int .i64 I,.agg #[.int .i64 d,.int .i64 l],.slice a bs.length i] V λe r=>∃b,e=.returned (.iface 117 (.agg #[.pointer (some ⟨b,0,none⟩),.func (.func f) #[] #[]]))/\qad r b ⟨a,bs,i,d,l,0,0⟩/\V.heap.size<=b/\Below V.heap.size V r)(H:∀(b:Nat) (V:World) (p:Nat),W.heap.size<=b->Below W.heap.size W V->qad V b ⟨a,bs,i,d,l,p,0⟩->Calls prog 219 #[.agg #[.pointer (some ⟨b,0,none⟩),.func (.func f) #[] #[]]] V (qct k V b ⟨a,bs,i,d,l,p,0⟩ (o p))):Calls prog 21 #[.int .i64 I,.agg #[.int .i64 d,.int .i64 l],.slice a bs.length i] W (λe r=>qoT W (λn:Nat=>.int .i64 n) (qh4 o) e r/\∀n,qh4 o=.ok n->n<=bs.length):=by
 have D:Below W.heap.size W (W.alloc (.cells #[.int .i64 d,.int .i64 l] 52)):=bwA;have z:Hid (Below W.heap.size W (W.alloc (.cells #[.int .i64 d,.int .i64 l] 52))):=D;have F:=G (W.alloc (.cells #[.int .i64 d,.int .i64 l] 52)) (h.below D);obtain⟨R,A⟩:∃R,Hid (qh4 o=R):=⟨_,show _=_ from rfl⟩
 rw[A.out];have g:=A.out;unfold qh4 at g;clear D h G A;go_enter func21,ntmps21
 go_wp2_with(first
  |(go_at_call 32;refine F.mono ?_;clear F;rintro e x ⟨b,rfl,L,M,J⟩))
 have q:Hid (Below W.heap.size W x):=z.out.trans (J.mono z.out.size);have E:W.heap.size<=b:=by simp only[kad]at M;omega
 have m:=H b x 0 E q.out L;clear H J M L z;refine qbY (y:=(219,.agg #[.pointer (some ⟨b,0,none⟩),.func (.func f) #[] #[]])) (w:=x) (by kernel_rfl) ?_
 go_wp2_with fail
 cases B:o 0 with
 |error T =>
  obtain⟨S,Y⟩:=T;rw[B]at g m;simp only[]at g;subst g;refine m.mono ?_;rintro e c ⟨s,hF⟩;obtain rfl:=(show qan S Y e from hF)
  go_wp2;exact⟨rfl,⟨qa6 q.out s E,rfl⟩,λn u=>by cases u⟩
 |ok Q =>
  obtain⟨P,v⟩:=Q;rw[B]at g m;simp only[]at g;subst g;refine m.mono ?_;clear m B;rintro e c ⟨s,K⟩;obtain⟨⟨t,y,rfl,U⟩,C⟩:=(show(∃t y,e=.returned (.iface t y)/\qah k c (λj=>x.heap.size<=j/\j<c.heap.size) (.iface t y) P)/\qad c b ⟨a,bs,i,d,l,v,0⟩from K)
  have N:Hid (Below W.heap.size W c):=qa6 q.out s E;have O:Hid (v<=bs.length):=C.le;have X:c.cell? ⟨b,3,none⟩=some (.int .i64 v):=qaa C.row 3;clear s K C U q
  go_wp2_with fail
  refine qbY (y:=(186,.pointer (some ⟨b,0,none⟩))) (w:=c) (by kernel_rfl) ?_
  go_wp2_with fail
  refine(qjR c b v X).mono ?_;rintro e Z ⟨rfl,rfl⟩;go_wp2;go_ret;exact⟨⟨N.out,rfl⟩,λn u=>by injection u with u;have:=O.out;omega⟩

structure qcQ(W:World):Prop where
 u8:U8 W
 hd:qdu W
 big:9<=W.heap.size
theorem U8.but(h:U8 W)(e:But b W V)(j:7<b)(k:9<=W.heap.size):U8 V:=by
 have a:∀(q off:Nat) (v:Value),q<=7->W.cell? ⟨q,off,none⟩=some v->V.cell? ⟨q,off,none⟩=some v:=λq off v l g=>(kaN (w:=W) (e.block q (by omega) (by omega))).trans g;exact⟨λc f=>a _ _ _ (by decide) (h.1 c f),λi d=>⟨a _ _ _ (by decide) (h.2 i d).1,a _ _ _ (by decide) (h.2 i d).2⟩⟩
theorem qcQ.below(h:qcQ W)(a:Below W.heap.size W V):qcQ V:=⟨h.u8.below a,h.hd.below a,kaj h.big a.size⟩
theorem qyy:(List.range 256).all (λc=>decide ((qdM c).1<=10/\(qdM c).2.1<=8/\((qdM c).2.1=0\/(qdM c).2.2=0)/\(qdM c).2.2<18446744073709551616))=true:=by kernel_rfl
theorem qyl:∀c,c<256->(qdM c).1<=10/\(qdM c).2.1<=8/\((qdM c).2.1=0\/(qdM c).2.2=0)/\(qdM c).2.2<18446744073709551616:=λc a=>kaq (ka3.1 qyy c (kav.2 a))
theorem qzm:(List.range 256).all (λc=>decide ((qcb c).1<=10/\(qcb c).2.1<=8/\((qcb c).2.1=0\/(qcb c).2.2=0)/\(qcb c).2.2<18446744073709551616))=true:=by kernel_rfl
theorem qzd:∀c,c<256->(qcb c).1<=10/\(qcb c).2.1<=8/\((qcb c).2.1=0\/(qcb c).2.2=0)/\(qcb c).2.2<18446744073709551616:=λc a=>kaq (ka3.1 qzm c (kav.2 a))
theorem qrD(h:qdu W)(e:1<b):qfK 48 qdM b W :=
 ⟨.inl rfl,λc a=>(qyl c a).1,λc a=>(qyl c a).2,λc V d=>qkt V c.toNat c.toNat_lt (h.but d e)⟩
theorem qrJ(h:qdu W)(e:1<b):qfK 49 qcb b W :=
 ⟨.inr rfl,λc a=>(qzd c a).1,λc a=>(qzd c a).2,λc V d=>qkO V c.toNat c.toNat_lt (h.but d e)⟩
def spO(fm:Int)(bs:List UInt8)(lim:Int)(p:Nat):Except (Int×Int) (Unit×Nat):=if fm=1 then spF bs lim (bs.length+1-p) p else .ok ((),p)
def thO(fm:Int)(bs:List UInt8)(d lim:Int)(p:Nat):Except (Int×Int) (DataW Unit×Nat) :=
 if fm=1 then thJ bs lim d (λc p=>qel ⟨none,bs,0,0,lim,p,0⟩ c) (d.toNat+1) 0 p else if fm=2 then thB qdM bs lim d (d.toNat+1) 0 p else thB qcb bs lim d (d.toNat+1) 0 p
def qdA(fm:Int)(bs:List UInt8)(d lim:Int):Except (Int×Int) (DataW Unit):=qpa (spO fm bs lim) (thO fm bs d lim) bs lim
theorem qfA(W:World)(n:Int)(a:Option Addr)(bs:List UInt8)(f:Nat)(d l:Int)(x:n=1\/n=2\/n=3)(h:qau W a bs)(j:qcQ W)(s:0<=d)(t:d<=100000)(v:bs.length<=200000000):Calls prog 13 #[.int .i64 n,.agg #[.int .i64 d,.int .i64 l],.slice a bs.length f] W (qey (d.toNat+1) W (qdA n bs d l)):=by
 have y:=j.big;rcases x with rfl|rfl|rfl
 ·have k:spO 1 bs l=λp=>spF bs l (bs.length+1-p) p:=by funext p;unfold spO;rw[kag rfl]
  have m:thO 1 bs d l=λp=>thJ bs l d (λc p=>qel ⟨none,bs,0,0,l,p,0⟩ c) (d.toNat+1) 0 p:=by funext p;unfold thO;rw[kag rfl]
  unfold qdA;rw[k,m];refine qlH (d.toNat+1) W 1 a bs f d l h _ _ (λV q=>qed V a bs f d l q) (λb V p r g=>qaR V b ⟨a,bs,f,d,l,p,0⟩ g) (λb V p r i g=>?_);exact qbD (d.toNat+1) V b ⟨a,bs,f,d,l,p,0⟩ g v (λU o=>(j.below i).u8.but o (by omega) (j.below i).big) (by omega) t (by simpa using s) (by show d<((0:Nat):Int)+((d.toNat+1:Nat):Int);omega)
 ·have k:spO 2 bs l=λp=>.ok ((),p):=by funext p;unfold spO;rw[kac (by decide)]
  have m:thO 2 bs d l=λp=>thB qdM bs l d (d.toNat+1) 0 p:=by funext p;unfold thO;rw[kac (by decide),kag rfl]
  unfold qdA;rw[k,m];refine qhv (d.toNat+1) W 2 48 a bs f d l h _ _ (λV q=>qeh V a bs f d l q) (λb V p r g=>(qe9 V b).mono ?_) (λb V p r i g=>?_)
  ·rintro e w ⟨rfl,rfl⟩;exact⟨But.refl _ _,rfl,g⟩
  exact(qbd qdM 48 (d.toNat+1) V b ⟨a,bs,f,d,l,p,0⟩ g v (λU o=>(j.below i).u8.but o (by omega) (j.below i).big) (by omega) (qrD (j.below i).hd (by omega)) t (by simpa using s) (by show d<((0:Nat):Int)+((d.toNat+1:Nat):Int);omega)).mono λe w u=>u.toJ
 have k:spO 3 bs l=λp=>.ok ((),p):=by funext p;unfold spO;rw[kac (by decide)]
 have m:thO 3 bs d l=λp=>thB qcb bs l d (d.toNat+1) 0 p:=by funext p;unfold thO;rw[kac (by decide),kac (by decide)]
 unfold qdA;rw[k,m];refine qhv (d.toNat+1) W 3 49 a bs f d l h _ _ (λV q=>qef V a bs f d l q) (λb V p r g=>(qe9 V b).mono ?_) (λb V p r i g=>?_)
 ·rintro e w ⟨rfl,rfl⟩;exact⟨But.refl _ _,rfl,g⟩
 exact(qbd qcb 49 (d.toNat+1) V b ⟨a,bs,f,d,l,p,0⟩ g v (λU o=>(j.below i).u8.but o (by omega) (j.below i).big) (by omega) (qrJ (j.below i).hd (by omega)) t (by simpa using s) (by show d<((0:Nat):Int)+((d.toNat+1:Nat):Int);omega)).mono λe w u=>u.toJ
theorem qq9(W:World)(j:Int)(a:Option Addr)(bs:List UInt8)(f:Nat)(d l:Int)(y:j=1\/j=2\/j=3)(h:qau W a bs)(i:qcQ W)(r:0<=d)(s:d<=100000)(u:bs.length<=200000000):Calls prog 21 #[.int .i64 j,.agg #[.int .i64 d,.int .i64 l],.slice a bs.length f] W (λe x=>qoT W (λn:Nat=>.int .i64 n) (qh4 (thO j bs d l)) e x/\∀n,qh4 (thO j bs d l)=.ok n->n<=bs.length):=by
 have z:=i.big;rcases y with rfl|rfl|rfl
 ·have k:thO 1 bs d l=λp=>thJ bs l d (λc p=>qel ⟨none,bs,0,0,l,p,0⟩ c) (d.toNat+1) 0 p:=by funext p;unfold thO;rw[kag rfl]
  rw[k];refine qsn (d.toNat+1) W 1 a bs f d l h _ (λV q=>qed V a bs f d l q) (λb V p v g m=>?_);exact qbD (d.toNat+1) V b ⟨a,bs,f,d,l,p,0⟩ m u (λU o=>(i.below g).u8.but o (by omega) (i.below g).big) (by omega) s (by simpa using r) (by show d<((0:Nat):Int)+((d.toNat+1:Nat):Int);omega)
 ·have k:thO 2 bs d l=λp=>thB qdM bs l d (d.toNat+1) 0 p:=by funext p;unfold thO;rw[kac (by decide),kag rfl]
  rw[k];refine qnz (d.toNat+1) W 2 48 a bs f d l h _ (λV q=>qeh V a bs f d l q) (λb V p v g m=>?_);exact(qbd qdM 48 (d.toNat+1) V b ⟨a,bs,f,d,l,p,0⟩ m u (λU o=>(i.below g).u8.but o (by omega) (i.below g).big) (by omega) (qrD (i.below g).hd (by omega)) s (by simpa using r) (by show d<((0:Nat):Int)+((d.toNat+1:Nat):Int);omega)).mono λe w t=>t.toJ
 have k:thO 3 bs d l=λp=>thB qcb bs l d (d.toNat+1) 0 p:=by funext p;unfold thO;rw[kac (by decide),kac (by decide)]
 rw[k];refine qnz (d.toNat+1) W 3 49 a bs f d l h _ (λV q=>qef V a bs f d l q) (λb V p v g m=>?_);exact(qbd qcb 49 (d.toNat+1) V b ⟨a,bs,f,d,l,p,0⟩ m u (λU o=>(i.below g).u8.but o (by omega) (i.below g).big) (by omega) (qrJ (i.below g).hd (by omega)) s (by simpa using r) (by show d<((0:Nat):Int)+((d.toNat+1:Nat):Int);omega)).mono λe w t=>t.toJ
theorem qom{P:Program}{f:FuncId}{args:Array Value}{w:World}{R:Ending->World->Prop}{p:Prop}(h:Calls P f args w R)(c:∀e a,R e a->p):p:=by
 obtain⟨e,a,d,b,_⟩:=h [];exact c e a b

end
end Go.Proofs.YtmajcjammmjimaaGreatDoor
