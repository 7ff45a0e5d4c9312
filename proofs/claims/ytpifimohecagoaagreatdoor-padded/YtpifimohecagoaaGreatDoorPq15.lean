import Derived.Test.YtpifimohecagoaaGreatDoorPq14
set_option maxRecDepth 100000
set_option maxHeartbeats 8000000
namespace Go.Proofs.YtpifimohecagoaaGreatDoor
open Go.Proofs.Tryz
variable{b k m p q:Nat}{A B C V V' W W':World}{s:Src}{ks:List (List UInt8)}{hd:Nat->Nat×Nat×Nat}{xs:List Value}{es:List (Lit×DataW Unit)}{fv v:Value}{l:List UInt8}
section
open Go.RowKit
structure qjD(b m:Nat)(W W':World):Prop where
 os:W'.os=W.os
 tape:W'.tape=W.tape
 output:W'.output=W.output
 size:W.heap.size<=W'.heap.size
 block:∀k,k<W.heap.size->k≠b->k≠m->W'.heap[k]?=W.heap[k]?
theorem qjD.of1(h:But b W W'):qjD b m W W':=⟨h.os,h.tape,h.output,h.size,λk a c _=>h.block k a c⟩
theorem qjD.of2(h:But m W W'):qjD b m W W':=⟨h.os,h.tape,h.output,h.size,λk a _ c=>h.block k a c⟩
theorem qjD.trans(h:qjD b m A B)(k:qjD b m B C):qjD b m A C :=
 ⟨k.os.trans h.os,k.tape.trans h.tape,k.output.trans h.output,Nat.le_trans h.size k.size,λi d a c=>(k.block i (by have:=h.size;omega) a c).trans (h.block i d a c)⟩
theorem qad.off(h:qad V b s)(k:m≠b)(hi:∀g off,s.bs≠[]->s.ia=some ⟨g,off,none⟩->g≠m)(d:But m V V'):qad V' b s :=
 ⟨(d.block b (ltA h.row) (Ne.symm k)).trans h.row,λi f=>by
  obtain⟨g,off,a,j,c⟩:=h.inp i f;exact⟨g,off,a,j,(World.cell?_of_block (w:=V) (d.block g (block_lt_of_cell c) (hi g off (λe=>by simp[e]at f) a))).trans c⟩,h.len,h.le⟩
theorem qaL.but(h:qaL V m ks)(d:m≠b)(a:But b V V'):qaL V' m ks :=
 h.kept (row:=some b) ⟨a.os,a.tape,a.output,a.size,λk c f=>a.block k c (λe=>f (by rw[e]))⟩ (λe=>d (by injection e))
def qiJ(W:World)(b m:Nat)(s:Src)(ks:List (List UInt8))(r:Except (Int×Int) (List UInt8×Nat))(e:Ending)(W':World):Prop :=
 qjD b m W W'/\match r with
 |.ok (l,p)=>e=.returned (.string ⟨l.toArray⟩)/\qad W' b {s with pos:=p}/\qaL W' m (l::ks)
 |.error (en,pl)=>qan en pl e/\∃p,qad W' b {s with pos:=p}
theorem qgc(bs:List UInt8)(lim:Int):∀(n p b:Nat) (a l:List UInt8) (r:Nat),qdk bs lim n p a b=.ok (l,r)->l.length=a.length+n/\r=p+n
 |0,p,b,a,l,r,h=>by
  rw[qdk]at h;split at h
  ·injection h with h;injection h with h1 h2;subst h1;subst h2;exact⟨rfl,rfl⟩
  cases h
 |n+1,p,b,a,l,r,h=>by
  rw[qdk]at h;split at h
  ·cases h
  split at h
  ·cases h
  split at h
  ·cases h
  have:=qgc bs lim n _ _ _ l r h;rw[List.length_append]at this;simp at this;omega
theorem qkj(W:World)(b m:Nat)(s:Src)(c:UInt8)(ks:List (List UInt8))(hd:Nat->Nat×Nat×Nat)(f n w j:Nat)(h:qad W b s)(Y:qgu s c)(hk:qaL W m ks)(bc:m≠b)(ba:∀a4 off,s.bs≠[]->s.ia=some ⟨a4,off,none⟩->a4≠m)(bi:ks.length<1000000000)(a9:hd c.toNat=(n,w,j))(hw:w<=8)(hg:w=0\/j=0)(a8:j<18446744073709551616)(bj:s.bs.length<=200000000)(hf:f=53\/f=54)(hU:∀V,But b W V->U8 V)(bg:7<b)(cH:∀V,But b W V->Calls prog f #[.int .u8 c.toNat] V λe T=>e=.returned (.agg #[.int .i64 n,.int .i64 w,.int .u64 j])/\Below V.heap.size V T):Calls prog 225 #[.agg #[.pointer (some ⟨b,0,none⟩),.func (.func f) #[] #[]],.map (some m)] W (qiJ W b m s ks (qes hd s.bs s.lim ks s.pos)):=by
 obtain⟨az,HR⟩:∃az,Hid (qes hd s.bs s.lim ks s.pos=az):=⟨_,show _=_ from rfl⟩
 rw[HR.out];have k:=HR.out;unfold qes at k;rw[Y.1]at k;simp only[]at k;rw[if_neg Y.2,a9]at k;simp only[]at k;clear HR a9;have aj:∀V,qad V b s->Calls prog 186 #[.pointer (some ⟨b,0,none⟩)] V λe H=>e=.returned (.int .u8 c.toNat)/\qad H b s.next/\But b V H:=λV d=>qaw V b s c d Y
 have cA:∀V,qad V b s.next->Calls prog 218 #[.agg #[.pointer (some ⟨b,0,none⟩),.func (.func f) #[] #[]],.agg #[.int .i64 n,.int .i64 w,.int .u64 j]] V (qg5 V b s.next (λx:Nat=>.int .u64 x) (qc2 s.bs s.lim w (s.pos+1) j)):=λV d=>qbY V b s.next f n w j hw hg d
 have ag:Hid (∀x q,qc2 s.bs s.lim w (s.pos+1) j=.ok (x,q)->x<18446744073709551616):=λx q hx=>qra ⟨hw,hg,a8⟩ hx;have cX:∀(V:World) (p x:Nat),qad V b {s with pos:=p}->But b W V->x<18446744073709551616->Calls prog 221 #[.agg #[.pointer (some ⟨b,0,none⟩),.func (.func f) #[] #[]],.int .u64 x] V (qg5 V b {s with pos:=p} (λl:List UInt8=>.string ⟨l.toArray⟩) (qdk s.bs s.lim x p [] 0)):=λV p x d hB hx=>qeD V b {s with pos:=p} f x hx d (hU V hB) bg bj;have ai:∀V,qad V b s.next->Calls prog 187 #[.pointer (some ⟨b,0,none⟩),.int .i64 9] V λe H=>qan 9 s.pos e/\H=V:=λV d=>by
  have:=qau V b s.next 9 d
  rwa[show((s.next.pos:Int)-1)=s.pos by show(((s.pos+1:Nat)):Int)-1=s.pos;omega]at this
 have ad:∀(V:World) (p:Nat),qad V b {s with pos:=p}->Calls prog 187 #[.pointer (some ⟨b,0,none⟩),.int .i64 12] V λe H=>qan 12 ((p:Int)-1) e/\H=V:=λV p d=>qau V b {s with pos:=p} 12 d;have av:Hid (∀V,But b W V->qaL V m ks):=λV d=>hk.but bc d;have bd:Hid (∀V T p,qad V b {s with pos:=p}->But m V T->qad T b {s with pos:=p}):=λV T p d hB=>d.off bc ba hB;have Q:=qab h;have bl:=ltA h.row;have ak:Below W.heap.size W (W.alloc (.cells #[.pointer (some ⟨b,0,none⟩),.func (.func f) #[] #[]] 133)).drew:=(bwA).drew;have aa:=qab ak;have ax:=qab (h.below ak);have ay:Hid ((W.alloc (.cells #[.pointer (some ⟨b,0,none⟩),.func (.func f) #[] #[]] 133)).drew.heap[W.heap.size]?=some (.cells #[.pointer (some ⟨b,0,none⟩),.func (.func f) #[] #[]] 133)):=qac W _;have ab:Hid (∀(ah:Array Value) (V:World),(callFunc f ah).run prog V=.ok (.enter f ah) V):=by
  show∀_ _,_;rcases hf with rfl|rfl<;>exact λah V=>by kernel_rfl
 clear h Y ak hw hg a8 hf hU hk ba;go_enter func225,ntmps225
 go_wp2_with fail
 refine qum (λM V=>qoW W b W.heap.size M (.func (.func f) #[] #[]) n w j s.next V) (λM=>{tmps:=#[.agg #[.pointer (some ⟨b,0,none⟩),.func (.func f) #[] #[]],.map (some m),.pointer (some ⟨W.heap.size,0,none⟩),undef,.string ⟨#[]⟩,.pointer (some ⟨M,0,none⟩),undef,.pointer (some ⟨W.heap.size,1,none⟩),.func (.func f) #[] #[],.pointer (some ⟨W.heap.size,0,none⟩),.pointer (some ⟨b,0,none⟩),.int .u8 c.toNat,.agg #[.int .i64 n,.int .i64 w,.int .u64 j],undef,undef,undef,undef,undef,undef,undef,undef,undef,undef,undef,undef,undef,undef,undef,undef,undef,undef,undef],defers:=[]}) (λaq=>?reg) ?tail
 case reg =>
  refine wp_region_held (S:=λV=>V.heap[W.heap.size]?=some (.cells #[.pointer (some ⟨b,0,none⟩),.func (.func f) #[] #[]] 133)) (by kernel_rfl) ?_;have C:=ay.out;refine wpAnyH_take (i:=0) (v:=.pointer (some ⟨W.heap.size,1,none⟩)) rfl (by kernel_rfl) (by kernel_rfl) (by kernel_rfl) (λ_ _ _ h=>h) (.inl ⟨rfl,λV d=>rfl⟩) C ?_;refine wpAnyH_take (i:=1) (v:=.func (.func f) #[] #[]) rfl (by kernel_rfl) (by kernel_rfl) (by kernel_rfl) (λ_ _ _ h=>h) (.inl ⟨rfl,λV d=>?y1⟩) C ?_
  case y1=>(have h2:=qaa d 1;go_simp)
  refine wpAnyH_take (i:=2) (v:=.pointer (some ⟨W.heap.size,0,none⟩)) rfl (by kernel_rfl) (by kernel_rfl) (by kernel_rfl) (λ_ _ _ h=>h) (.inl ⟨rfl,λV d=>rfl⟩) C ?_;refine wpAnyH_take (i:=3) (v:=.pointer (some ⟨b,0,none⟩)) rfl (by kernel_rfl) (by kernel_rfl) (by kernel_rfl) (λ_ _ _ h=>h) (.inl ⟨rfl,λV d=>?y3⟩) C ?_
  case y3=>(have h2:=qaa d 0;go_simp)
  refine qll 4 6 (λK a=>?_) (λK a=>?_)
  ·go_simp;refine(aj _ ax.out).mono ?_;rintro e A ⟨rfl,af,I⟩;simp only[];have D:=(I.block _ (ltA C) (by omega)).trans C;have G:=(But.of_below aa.out).trans I;have an:=ltA D;refine a.out _ _ D (λ_=>?_);clear a;refine qll 5 6 (λK a=>?_) (λK a=>?_)
   ·go_simp;rw[ab.out];refine Calls.mono (cH _ G) ?_;rintro e y ⟨rfl,t⟩;simp only[];have z:=(t.block _ an).trans D;have ae:=ltA z;refine a.out _ _ z (λ_=>?_);clear a;refine rdq 6 (λK a=>?_);go_simp;have E:(y.alloc (.cells #[.int .i64 0,.int .i64 0,.int .u64 0] 171)).heap[W.heap.size]?=_:=(Below.heap_alloc _ _ _ ae).trans z;refine a.out _ _ E (λ_=>?_);clear a;refine rdq 7 (λK a=>?_);rw[if_pos (by rfl)];refine wp_store_row 171 _ _ rfl y.heap.size #[.int .i64 n,.int .i64 w,.int .u64 j] rfl rfl 171 _ (qac y _) qhq rfl (by simp[Value.oneCell']) ?_;have o:Hid (qoW W b W.heap.size y.heap.size (.func (.func f) #[] #[]) n w j s.next ((y.alloc (.cells #[.int .i64 0,.int .i64 0,.int .u64 0] 171)).setRow y.heap.size #[.int .i64 n,.int .i64 w,.int .u64 j])) :=
     qfn y.heap.size Q.out ((af.below t).below bwA) ((G.trans (But.of_below t)).trans (But.of_below bwA)) E ae (qac y _)
    refine a.out _ _ o.out.box (λ_=>?_);clear a;refine wdn ?_;exact aq _ _ o.out
   go_simp;have z:(A.alloc (.cells #[.int .i64 0,.int .i64 0,.int .u64 0] 171)).heap[W.heap.size]?=_:=(Below.heap_alloc _ _ _ an).trans D;have L:Below A.heap.size A (A.alloc (.cells #[.int .i64 0,.int .i64 0,.int .u64 0] 171)):=bwA;have ae:=ltA z;refine a.out _ _ z (λ_=>?_);clear a;refine rdq 5 (λK a=>?_);go_simp;rw[ab.out];refine Calls.mono (cH _ (G.trans (But.of_below L))) ?_;rintro e y ⟨rfl,t⟩;simp only[];have E:=(t.block _ ae).trans z;have R:=(t.block A.heap.size (by simp)).trans (qac A (.cells #[.int .i64 0,.int .i64 0,.int .u64 0] 171));refine a.out _ _ E (λ_=>?_);clear a;refine rdq 7 (λK a=>?_);rw[if_pos (by rfl)];refine wp_store_row 171 _ _ rfl A.heap.size #[.int .i64 n,.int .i64 w,.int .u64 j] rfl rfl 171 _ R qhq rfl (by simp[Value.oneCell']) ?_;have o:Hid (qoW W b W.heap.size A.heap.size (.func (.func f) #[] #[]) n w j s.next (y.setRow A.heap.size #[.int .i64 n,.int .i64 w,.int .u64 j])) :=
    qfn A.heap.size Q.out ((af.below L).below t) ((G.trans (But.of_below L)).trans (But.of_below t)) E an R
   refine a.out _ _ o.out.box (λ_=>?_);clear a;refine wdn ?_;exact aq _ _ o.out
  go_simp;have z:((W.alloc (.cells #[.pointer (some ⟨b,0,none⟩),.func (.func f) #[] #[]] 133)).drew.alloc (.cells #[.int .i64 0,.int .i64 0,.int .u64 0] 171)).heap[W.heap.size]?=_:=(Below.heap_alloc _ _ _ (ltA C)).trans C;have L:Below W.heap.size W ((W.alloc (.cells #[.pointer (some ⟨b,0,none⟩),.func (.func f) #[] #[]] 133)).drew.alloc (.cells #[.int .i64 0,.int .i64 0,.int .u64 0] 171)):=aa.out.alloc aa.out.size _;have a7:((W.alloc (.cells #[.pointer (some ⟨b,0,none⟩),.func (.func f) #[] #[]] 133)).drew.alloc (.cells #[.int .i64 0,.int .i64 0,.int .u64 0] 171)).heap[W.heap.size+1]?=some (.cells #[.int .i64 0,.int .i64 0,.int .u64 0] 171):=by
   have:=qac (W.alloc (.cells #[.pointer (some ⟨b,0,none⟩),.func (.func f) #[] #[]] 133)).drew (.cells #[.int .i64 0,.int .i64 0,.int .u64 0] 171);rw[show(W.alloc (.cells #[.pointer (some ⟨b,0,none⟩),.func (.func f) #[] #[]] 133)).drew.heap.size=W.heap.size+1 from World.size_alloc ..]at this;exact this
  have be:=qab (Q.out.below L);refine a.out _ _ z (λ_=>?_);clear a;refine rdq 4 (λK a=>?_);go_simp;refine(aj _ be.out).mono ?_;rintro e A ⟨rfl,af,I⟩;simp only[];have D:=(I.block _ (ltA z) (by omega)).trans z;have a6:=(I.block _ (ltA a7) (by omega)).trans a7;have G:=(But.of_below L).trans I;refine a.out _ _ D (λ_=>?_);clear a;refine rdq 5 (λK a=>?_);go_simp;rw[ab.out];refine Calls.mono (cH _ G) ?_;rintro e y ⟨rfl,t⟩;simp only[];have E:=(t.block _ (ltA D)).trans D;have R:=(t.block _ (ltA a6)).trans a6;refine a.out _ _ E (λ_=>?_);clear a;refine rdq 7 (λK a=>?_);rw[if_pos (by rfl)];refine wp_store_row 171 _ _ rfl (W.heap.size+1) #[.int .i64 n,.int .i64 w,.int .u64 j] rfl rfl 171 _ R qhq rfl (by simp[Value.oneCell']) ?_;have o:Hid (qoW W b W.heap.size (W.heap.size+1) (.func (.func f) #[] #[]) n w j s.next (y.setRow (W.heap.size+1) #[.int .i64 n,.int .i64 w,.int .u64 j])) :=
   qfn (W.heap.size+1) Q.out (af.below t) (G.trans (But.of_below t)) E (by omega) R
  refine a.out _ _ o.out.box (λ_=>?_);clear a;refine wdn ?_;exact aq _ _ o.out
 case tail =>
  intro M V hT;have o:=qab hT;clear hT ay ax aa Q cH aj ab;have r:=qaa o.out.box 0;have k1:=qaa o.out.box 1;have m0:=qaa o.out.hd 0;have m1:=qaa o.out.hd 1;have m2:=qaa o.out.hd 2;by_cases O:n=8
  ·have e8:((n:Int)==8)=true:=by rw[O];rfl
   have bf:((n:Int) != 8)=false:=by rw[O];rfl
   rw[if_pos O]at k;clear ai O
   go_wp2_with fail
   refine wp_region_held (S:=λU=>U.heap[W.heap.size]?=some (.cells #[.pointer (some ⟨b,0,none⟩),.func (.func f) #[] #[]] 133)/\U.heap[M]?=some (.cells #[.int .i64 n,.int .i64 w,.int .u64 j] 171)) (by kernel_rfl) ?_;have B:=qab (o.out.step (o.out.src.below (Below.refl _ _).drew) (But.of_below (Below.refl _ _).drew));change wpAnyH _ _ _ _ _ _ _ _ (World.drew V);refine wpAnyH_take (i:=0) (v:=.agg #[.pointer (some ⟨b,0,none⟩),.func (.func f) #[] #[]]) rfl (by kernel_rfl) (by kernel_rfl) (by kernel_rfl) (λ_ _ _ h=>h) (.inl ⟨rfl,λU d=>?y0⟩) ⟨B.out.box,B.out.hd⟩ ?_
   case y0=>(have c0:=qaa d.1 0;have c1:=qaa d.1 1;go_simp)
   refine wpAnyH_take (i:=1) (v:=.agg #[.pointer (some ⟨b,0,none⟩),.func (.func f) #[] #[]]) rfl (by kernel_rfl) (by kernel_rfl) (by kernel_rfl) (λ_ _ _ h=>h) (.inl ⟨rfl,λU d=>?y1⟩) ⟨B.out.box,B.out.hd⟩ ?_
   case y1=>(have c0:=qaa d.1 0;have c1:=qaa d.1 1;go_simp)
   refine wpAnyH_take (i:=2) (v:=.agg #[.int .i64 n,.int .i64 w,.int .u64 j]) rfl (by kernel_rfl) (by kernel_rfl) (by kernel_rfl) (λ_ _ _ h=>h) (.inl ⟨rfl,λU d=>?y2⟩) ⟨B.out.box,B.out.hd⟩ ?_
   case y2=>(have c0:=qaa d.2 0;have c1:=qaa d.2 1;have c2:=qaa d.2 2;go_simp)
   have a0:=cA _ B.out.src;clear cA o r k1 m0 m1 m2;refine rdq 3 (λK a=>?_);go_simp;refine a0.mono ?_;clear a0;rintro e w5 ⟨al,Z⟩
   cases ha:qc2 s.bs s.lim w (s.pos+1) j with
   |error er =>
    rw[ha]at k Z;simp only[]at k;subst k;obtain⟨en,pl⟩:=er;obtain⟨hF,pz,ap⟩:=(show qan en pl e/\∃p,qad w5 b {s with pos:=p}from Z)
    obtain rfl:=hF;exact⟨rfl,.of1 (B.out.but.trans al),rfl,pz,ap⟩
   |ok xq =>
    obtain⟨x,q⟩:=xq;rw[ha]at k Z;simp only[]at k;have bk:=ag.out x q ha;obtain⟨rfl,a5⟩:=(show e=.returned (.int .u64 x)/\qad w5 b {s with pos:=q}from Z)
    have F:=qab (B.out.step a5 al);simp only[];refine a.out _ _ ⟨F.out.box,F.out.hd⟩ (λ_=>?_);clear a;have a3:=cX w5 q x F.out.src F.out.but bk;clear cX ag ha Z al a5 B;refine rdq 4 (λK a=>?_);go_simp;refine a3.mono ?_;clear a3;rintro e P ⟨am,g⟩
    cases hz:qdk s.bs s.lim x q [] 0 with
    |error er =>
     rw[hz]at k g;simp only[]at k;subst k;obtain⟨en,pl⟩:=er;obtain⟨hF,pz,ap⟩:=(show qan en pl e/\∃p,qad P b {s with pos:=p}from g)
     obtain rfl:=hF;exact⟨rfl,.of1 (F.out.but.trans am),rfl,pz,ap⟩
    |ok lr =>
     obtain⟨l,au⟩:=lr;rw[hz]at k g;simp only[]at k;have bb:=qgc _ _ _ _ _ _ _ _ hz;simp only[List.length_nil,Nat.zero_add]at bb;obtain⟨rfl,ao⟩:=(show e=.returned (.string ⟨l.toArray⟩)/\qad P b {s with pos:=au}from g)
     have u:=qab (F.out.step ao am);have aw:Hid (l.length<=1000000000):=by
      show _<=_;have Y:au<=s.bs.length:=ao.le;omega
     simp only[];refine a.out _ _ ⟨u.out.box,u.out.hd⟩ (λ_=>?_);clear a hz bb g am ao F;refine rdq 5 (λK a=>?_);go_simp;refine a.out _ _ ⟨u.out.box,u.out.hd⟩ (λ_=>?_);clear a;refine wdn ?_;have r:=qaa u.out.box 0;by_cases N:l∈ks
     ·rw[if_pos N]at k;subst k;have X:=qib P m ks l (av.out P u.out.but) N aw.out;clear N
      go_wp2_with(first
       |(go_at_call 210;refine X.mono ?_;clear X r;rintro e w7 ⟨rfl,J⟩;have ac:=qab (u.out.step (u.out.src.below J) (But.of_below J));clear u J;have r:=qaa ac.out.box 0;have a2:=ad w7 au ac.out.src;clear ad)
       |(go_at_call 187;refine a2.mono ?_;clear a2;rintro e w8 ⟨hF,rfl⟩;obtain rfl:=hF))
      exact⟨rfl,.of1 ac.out.but,rfl,_,ac.out.src⟩
     rw[if_neg N]at k;subst k;have X:=qmQ P m ks l (av.out P u.out.but) N bi aw.out;clear N ad
     go_wp2_with(first
      |(go_at_call 210;refine X.mono ?_;clear X r;rintro e w7 ⟨rfl,bh,J⟩))
     go_ret;exact⟨(qjD.of1 u.out.but).trans (qjD.of2 J),rfl,bd.out _ _ _ u.out.src J,bh⟩
  have e8:((n:Int)==8)=false:=by simp;omega
  have bf:((n:Int) != 8)=true:=by simp;omega
  rw[if_neg O]at k;subst k;have a1:=ai V o.out.src;clear O ai cA cX ad ag
  go_wp2_with(first
   |(go_at_call 187;refine a1.mono ?_;clear a1;rintro e w7 ⟨hF,rfl⟩;obtain rfl:=hF))
  exact⟨rfl,.of1 o.out.but,rfl,_,o.out.src⟩
theorem qfG(W:World)(b m:Nat)(s:Src)(f:Nat)(q:Int)(h:qad W b s)(o:∀V,qad V b s->Calls prog 186 #[.pointer (some ⟨b,0,none⟩)] V λe k=>qan q s.pos e/\Below V.heap.size V k):Calls prog 225 #[.agg #[.pointer (some ⟨b,0,none⟩),.func (.func f) #[] #[]],.map (some m)] W λe k=>But b W k/\qan q s.pos e/\∃p,qad k b {s with pos:=p}:=by
 have j:=qab h;have r:Below W.heap.size W (W.alloc (.cells #[.pointer (some ⟨b,0,none⟩),.func (.func f) #[] #[]] 133)).drew:=(bwA).drew;have c:=qab r;have t:Hid ((W.alloc (.cells #[.pointer (some ⟨b,0,none⟩),.func (.func f) #[] #[]] 133)).drew.heap[W.heap.size]?=some (.cells #[.pointer (some ⟨b,0,none⟩),.func (.func f) #[] #[]] 133)):=qac W _;clear h r;go_enter func225,ntmps225
 go_wp2_with fail
 refine wp_region_held (S:=λV=>V.heap[W.heap.size]?=some (.cells #[.pointer (some ⟨b,0,none⟩),.func (.func f) #[] #[]] 133)) (by kernel_rfl) ?_;have a:=t.out;refine wpAnyH_take (i:=0) (v:=.pointer (some ⟨W.heap.size,1,none⟩)) rfl (by kernel_rfl) (by kernel_rfl) (by kernel_rfl) (λ_ _ _ h=>h) (.inl ⟨rfl,λV g=>rfl⟩) a ?_;refine wpAnyH_take (i:=1) (v:=.func (.func f) #[] #[]) rfl (by kernel_rfl) (by kernel_rfl) (by kernel_rfl) (λ_ _ _ h=>h) (.inl ⟨rfl,λV g=>?y1⟩) a ?_
 case y1=>(have u:=qaa g 1;go_simp)
 refine wpAnyH_take (i:=2) (v:=.pointer (some ⟨W.heap.size,0,none⟩)) rfl (by kernel_rfl) (by kernel_rfl) (by kernel_rfl) (λ_ _ _ h=>h) (.inl ⟨rfl,λV g=>rfl⟩) a ?_;refine wpAnyH_take (i:=3) (v:=.pointer (some ⟨b,0,none⟩)) rfl (by kernel_rfl) (by kernel_rfl) (by kernel_rfl) (λ_ _ _ h=>h) (.inl ⟨rfl,λV g=>?y3⟩) a ?_
 case y3=>(have u:=qaa g 0;go_simp)
 refine qll 4 6 (λK l=>?_) (λK l=>?_)
 ·go_simp;refine(o _ (j.out.below c.out)).mono ?_;rintro e x ⟨hF,d⟩;obtain rfl:=hF;exact⟨rfl,(But.of_below c.out).trans (But.of_below d),rfl,_,(j.out.below c.out).below d⟩
 go_simp;have w:((W.alloc (.cells #[.pointer (some ⟨b,0,none⟩),.func (.func f) #[] #[]] 133)).drew.alloc (.cells #[.int .i64 0,.int .i64 0,.int .u64 0] 171)).heap[W.heap.size]?=_:=(Below.heap_alloc _ _ _ (ltA a)).trans a;have n:Below W.heap.size W ((W.alloc (.cells #[.pointer (some ⟨b,0,none⟩),.func (.func f) #[] #[]] 133)).drew.alloc (.cells #[.int .i64 0,.int .i64 0,.int .u64 0] 171)):=c.out.alloc c.out.size _;refine l.out _ _ w (λ_=>?_);clear l;refine rdq 4 (λK l=>?_);go_simp;refine(o _ (j.out.below n)).mono ?_;rintro e x ⟨hF,d⟩;obtain rfl:=hF;exact⟨rfl,(But.of_below n).trans (But.of_below d),rfl,_,(j.out.below n).below d⟩
structure qf6(f:Nat)(hd:Nat->Nat×Nat×Nat)(b:Nat)(W:World):Prop where
 fn:f=53\/f=54
 so:∀c,c<256->(hd c).1<=10
 fit:∀c,c<256->(hd c).2.1<=8/\((hd c).2.1=0\/(hd c).2.2=0)/\(hd c).2.2<18446744073709551616
 call:∀(c:UInt8) (V:World),But b W V->Calls prog f #[.int .u8 c.toNat] V λe V'=>e=.returned (.agg #[.int .i64 (hd c.toNat).1,.int .i64 (hd c.toNat).2.1,.int .u64 (hd c.toNat).2.2])/\Below V.heap.size V V'
theorem qf6.but{f:Nat}(h:qf6 f hd b W)(a:But b W V):qf6 f hd b V:=⟨h.fn,h.so,h.fit,λc U d=>h.call c U (a.trans d)⟩
theorem qlV(W:World)(b m:Nat)(s:Src)(ks:List (List UInt8))(i:Nat->Nat×Nat×Nat)(f:Nat)(h:qad W b s)(q:qaL W m ks)(u:m≠b)(p:∀g off,s.bs≠[]->s.ia=some ⟨g,off,none⟩->g≠m)(r:ks.length<1000000000)(t:s.bs.length<=200000000)(o:∀V,But b W V->U8 V)(n:7<b)(d:qf6 f i b W):Calls prog 225 #[.agg #[.pointer (some ⟨b,0,none⟩),.func (.func f) #[] #[]],.map (some m)] W (qiJ W b m s ks (qes i s.bs s.lim ks s.pos)):=by
 rcases qaR h with a|a|⟨c,a⟩
 ·have e:qes i s.bs s.lim ks s.pos=.error (9,(s.pos:Int)):=by
   unfold qes;rw[List.getElem?_eq_none (by have:s.pos=s.bs.length:=a;omega)]
  rw[e];refine(qfG W b m s f 9 h (λV l=>qb1 V b s l a)).mono ?_;rintro e w ⟨a,j,k⟩;exact⟨.of1 a,j,k⟩
 ·have e:qes i s.bs s.lim ks s.pos=.error (8,(s.pos:Int)):=by
   unfold qes;rw[List.getElem?_eq_getElem a.1];simp only[];rw[if_pos a.2]
  rw[e];refine(qfG W b m s f 8 h (λV l=>qbd V b s l a)).mono ?_;rintro e w ⟨a,j,k⟩;exact⟨.of1 a,j,k⟩
 exact qkj W b m s c ks i f _ _ _ h a q u p r rfl (d.fit _ c.toNat_lt).1 (d.fit _ c.toNat_lt).2.1 (d.fit _ c.toNat_lt).2.2 t d.fn o n (d.call c)

def qc1(k:Nat)(V:World)(F:Nat->Prop)(xs:List Value)(es:List (Lit×DataW Unit)):Prop :=
 ∀(i:Nat) (key:Lit) (d:DataW Unit),es[i]?=some (key,d)->∃l x,key=.string l/\xs[2*i]?=some (.string ⟨l.toArray⟩)/\xs[2*i+1]?=some x/\qai k V F x d
theorem qc1.same{F G:Nat->Prop}(h:qc1 k V F xs es)(f:∀k,F k->G k)(j:∀k,F k->V'.heap[k]?=V.heap[k]?):qc1 k V' G xs es:=λi m d g=>by
 obtain⟨l,x,a,b,c,e⟩:=h i m d g;exact⟨l,x,a,b,c,e.same f j⟩
theorem But.trans'(h:But b A B)(k:qjD b m B C)(d:A.heap.size<=m:=by omega):But b A C :=
 ⟨k.os.trans h.os,k.tape.trans h.tape,k.output.trans h.output,Nat.le_trans h.size k.size,λi c a=>(k.block i (by have:=h.size;omega) a (by omega)).trans (h.block i c a)⟩
structure qr3(k:Nat)(W:World)(b:Nat)(fv:Value)(s:Src)(p:Nat)(v:Value)(es:List (Lit×DataW Unit))(ks:List (List UInt8))(V:World):Prop where
 src:qad V b {s with pos:=p}
 but:But b W V
 box:V.heap[W.heap.size]?=some (.cells #[.pointer (some ⟨b,0,none⟩),fv] 133)
 keys:qaL V (W.heap.size+1) ks
 own:∃xs,V.ownsRow (W.heap.size+2) 198 2 v es.length xs/\qc1 k V (λj=>W.heap.size+2<=j/\j<V.heap.size/\some j≠v.ownBlock) xs es
 size:W.heap.size+2<=V.heap.size
theorem qfA{base:Nat}{t:TypeId}{size:Nat}{n:Nat}(h:W.ownsRow base t size v n xs)(k:qjD b m W W')(p:b<base)(o:m<base):W'.ownsRow base t size v n xs:=by
 obtain⟨i,a⟩:=h;refine⟨i,?_⟩;rcases a with a|⟨g,d,f,e,l,c,j⟩
 ·exact .inl a
 exact .inr ⟨g,d,f,e,l,(k.block g (ltA c) (by omega) (by omega)).trans c,j⟩
theorem qr3.step{ks':List (List UInt8)}(h:qr3 k W b fv s p v es ks V)(l:b<W.heap.size)(g:qad V' b {s with pos:=q})(a:qjD b (W.heap.size+1) V V')(f:qaL V' (W.heap.size+1) ks'):qr3 k W b fv s q v es ks' V':=by
 obtain⟨i,d,e⟩:=h.own;have m:=h.size;refine⟨g,h.but.trans' a,(a.block _ (ltA h.box) (by omega) (by omega)).trans h.box,f,⟨i,qfA d a (by omega) (by omega),?_⟩,Nat.le_trans h.size a.size⟩;exact e.same (λj c=>⟨c.1,Nat.lt_of_lt_of_le c.2.1 a.size,c.2.2⟩) (λj c=>a.block j c.2.1 (by omega) (by omega))
theorem qr3.push{w5:World}{v' x:Value}{d:DataW Unit}{V0:World}(h:qr3 k W b fv s p v es ks V)(E:qad W b s)(u:V.ownsRow (W.heap.size+2) 198 2 v es.length xs)(M:qc1 k V (λj=>W.heap.size+2<=j/\j<V.heap.size/\some j≠v.ownBlock) xs es)(H:qai k V (λj=>V0.heap.size<=j/\j<V.heap.size) x d)(L:∀g,v.ownBlock=some g->g<V0.heap.size)(P:W.heap.size+2<=V0.heap.size)(K:w5.ownsRow (W.heap.size+2) 198 2 v' (es.length+1) (xs++[.string ⟨l.toArray⟩,x]))(f:(V.alloc (.cells #[.string ⟨l.toArray⟩,x] 198)).grownBy w5 v.ownBlock)(o:v'.ownBlock=v.ownBlock\/v'.ownBlock=some (V.alloc (.cells #[.string ⟨l.toArray⟩,x] 198)).heap.size):qr3 k W b fv s p v' (es++[(.string l,d)]) ks w5:=by
 have R:=h.size;have Q:V.heap.size+1<=w5.heap.size:=by have:=f.size;simpa using this
 have z:∀g,v.ownBlock=some g->W.heap.size+2<=g:=λg f=>qbE u f;have q:∀j,j<V.heap.size->some j≠v.ownBlock->w5.heap[j]?=V.heap[j]?:=λj a n=>(f.block j (by simp;omega) n).trans (Below.heap_alloc _ _ _ a);have r:∀j,j<W.heap.size+2->w5.heap[j]?=V.heap[j]?:=λj a=>q j (by omega) (λe=>by have:=z j e.symm;omega);have J:qaL w5 (W.heap.size+1) ks:=by
  have G:But (W.heap.size+2) V (V.alloc (.cells #[.string ⟨l.toArray⟩,x] 198)):=But.of_below bwA;have F:=h.keys.but (b:=W.heap.size+2) (by omega) G;exact F.kept f (λe=>by have:=z _ e.symm;omega)
 refine⟨E.same rfl rfl h.src (λj a=>r j (by omega)),⟨f.os.trans h.but.os,f.tape.trans h.but.tape,f.output.trans h.but.output,by have:=h.but.size;omega,λj a n=>(r j (by omega)).trans (h.but.block j a n)⟩,(r _ (by omega)).trans h.box,J,⟨_,by rw[List.length_append];exact K,λi y c m=>?_⟩,by omega⟩;have t:∀j,j<V.heap.size->some j≠v.ownBlock->some j≠v'.ownBlock:=λj a n=>by
  rcases o with o|o
  ·rw[o];exact n
  rw[o];intro e;injection e with e;simp at e;omega
 have S:=u.1;by_cases I:i<es.length
 ·rw[List.getElem?_append_left I]at m;obtain⟨N,O,A,B,C,D⟩:=M i y c m;refine⟨N,O,A,by rw[List.getElem?_append_left (by omega)];exact B,by rw[List.getElem?_append_left (by omega)];exact C,?_⟩;exact D.same (λj a=>⟨a.1,by have:=a.2.1;omega,t j a.2.1 a.2.2⟩) (λj a=>q j a.2.1 a.2.2)
 have e:i=es.length:=by
  have:=ltL m;rw[List.length_append]at this;simp at this;omega
 subst e;rw[List.getElem?_append_right (by omega)]at m;simp at m;obtain⟨rfl,rfl⟩:=m;have w:∀j,V0.heap.size<=j->some j≠v.ownBlock:=λj a e=>by have:=L j e.symm;omega
 refine⟨l,x,rfl,?_,?_,H.same (λj a=>⟨by omega,by omega,t j a.2 (w j a.1)⟩) (λj a=>q j a.2 (w j a.1))⟩
 ·rw[List.getElem?_append_right (by omega),show 2*es.length-xs.length=0 by omega];rfl
 rw[List.getElem?_append_right (by omega),show 2*es.length+1-xs.length=1 by omega];rfl
theorem qr3.row(h:qr3 k W b fv s p v es ks V):qai (k+1) V (λj=>W.heap.size<=j/\j<V.heap.size) (.iface 196 v) (.map es):=by
 obtain⟨o,a,i⟩:=h.own;unfold qai;refine⟨v,o,rfl,⟨a.1,?_⟩,i.same (λj n=>⟨by omega,n.2.1⟩) (λ_ _=>rfl)⟩;rcases a.2 with l|⟨g,d,f,e,q,c,m⟩
 ·exact .inl l
 exact .inr ⟨g,d,f,e,⟨by omega,(ltA c)⟩,c,m⟩
theorem Tryz.infoEntry:(prog.info? 198).map (λi=>(i.zero,i.size,i.bytes))=some (some (.agg #[.string ByteArray.empty,.nilIface]),2,32):=by kernel_rfl
theorem qgg(bs:List UInt8)(lim:Int):∀(k p a x q:Nat),qc2 bs lim k p a=.ok (x,q)->q=p+k
 |0,p,a,x,q,h=>by
  unfold qc2 at h;cases h;rfl
 |k+1,p,a,x,q,h=>by
  rw[qc2]at h;split at h
  ·cases h
  split at h
  ·cases h
  have:=qgg bs lim k (p+1) _ x q h;omega
theorem qpC{bs:List UInt8}{lim:Int}(h:qes hd bs lim ks p=.ok (l,q)):p<q:=by
 unfold qes at h;split at h
 ·cases h
 split at h
 ·cases h
 split at h
 ·split at h
  ·cases h
  next x q' ha =>
  split at h
  ·cases h
  next l' r hb =>
  split at h
  ·cases h
  injection h with h;injection h with h1 h2;have:=qgg _ _ _ _ _ _ _ ha;have:=qgc _ _ _ _ _ _ _ _ hb;omega
 cases h
theorem qv3(k:Nat)(a:Value)(h:qad W b s):qr3 k W b a s s.pos (.slice none 0 0) [] [] ((W.alloc (.cells #[.pointer (some ⟨b,0,none⟩),a] 133)).alloc (.map #[] 0)):=by
 have c:Below W.heap.size W ((W.alloc (.cells #[.pointer (some ⟨b,0,none⟩),a] 133)).alloc (.map #[] 0)):=(bwA).alloc (by simp) _;refine⟨h.below c,But.of_below c,(Below.heap_alloc _ _ _ (by simp)).trans (qac W _),⟨.map [],?_,λl=>by simp[Maps.has]⟩,⟨[],World.ownsRow_nil _ _ _ _,λi f d e=>by simp at e⟩,by simp⟩;have:=World.ownsMap_made (W.alloc (.cells #[.pointer (some ⟨b,0,none⟩),a] 133)) prog 9 (unitElem (H:=Unit));rw[World.size_alloc]at this;exact this
theorem qly(k:Nat)(W:World)(b:Nat)(s:Src)(f n:Nat)(E:Nat->Nat×Nat×Nat)(J:Nat->Except (Int×Int) (DataW Unit×Nat))(hn:n<18446744073709551616)(h:qad W b s)(a2:s.bs.length<=200000000)(hU:∀V,But b W V->U8 V)(av:7<b)(cH:qf6 f E b W)(ai:qrY k f b s W J)(ag:∀p d q,J p=.ok (d,q)->p<q):Calls prog 223 #[.agg #[.pointer (some ⟨b,0,none⟩),.func (.func f) #[] #[]],.int .u64 n] W (qii W b s (λV ak B=>(∃a n c,ak=.slice a n c)/\qai (k+1) V (λj=>W.heap.size<=j/\j<V.heap.size) (.iface 196 ak) (.map B)) (qa7 (qes E s.bs s.lim) J n s.pos [] [])):=by
 obtain⟨i0,hi,a8,a9,ba⟩:=info_parts Tryz.infoEntry;have a3:∀V:World,(Instr.makeMap 308 none).run prog V=.ok (.map (some V.heap.size)) (V.alloc (.map #[] 0)):=λV=>by kernel_rfl
 have ae:Hid (qr3 k W b (.func (.func f) #[] #[]) s s.pos (.slice none 0 0) [] [] ((W.alloc (.cells #[.pointer (some ⟨b,0,none⟩),.func (.func f) #[] #[]] 133)).alloc (.map #[] 0))):=qv3 _ _ h;have v:=ltA h.row;have ac:Hid (∀g off,s.bs≠[]->s.ia=some ⟨g,off,none⟩->g≠W.heap.size+1):=λg off a4 e=>by
  have hl:0<s.bs.length:=by cases ax:s.bs with|nil=>exact absurd ax a4|cons _ _=>simp
  obtain⟨g',bi,H,_,e3⟩:=h.inp 0 hl;rw[e]at H;injection H with H;injection H with H;have:g'<W.heap.size:=block_lt_of_cell e3;omega
 have Y:∀(V:World) (p:Nat) (i:List (List UInt8)),qad V b {s with pos:=p}->But b W V->qaL V (W.heap.size+1) i->i.length<1000000000->Calls prog 225 #[.agg #[.pointer (some ⟨b,0,none⟩),.func (.func f) #[] #[]],.map (some (W.heap.size+1))] V (qiJ V b (W.heap.size+1) {s with pos:=p} i (qes E s.bs s.lim i p)):=λV p i hV D hk hl=>qlV V b (W.heap.size+1) {s with pos:=p} i E f hV hk (by omega) ac.out hl a2 (λau aw=>hU au (D.trans aw)) av (cH.but D);have ao:=qab h;have ad:=qab ai;have am:=qab ag;have a1:=h.le;obtain⟨R,C⟩:∃R,Hid (qa7 (qes E s.bs s.lim) J n s.pos [] []=R):=⟨_,show _=_ from rfl⟩
 rw[C.out];clear h ai ag cH hU ac;go_enter func223,ntmps223;go_wp2;generalize(W.alloc (.cells #[.pointer (some ⟨b,0,none⟩),.func (.func f) #[] #[]] 133)).alloc (.map #[] 0)=W0 at *;clear a3
 go_loopg[5,10] n (λg y bc wr=>∃(m p:Nat) (a:Option Addr) (l c:Nat) (B:List (Lit×DataW Unit)) (i:List (List UInt8)),y=.slice a l c/\bc=.int .u64 m/\Hid (m+g=n)/\Hid (p<=s.bs.length)/\Hid (B.length<=p/\i.length<=p)/\Hid (qr3 k W b (.func (.func f) #[] #[]) s p (.slice a l c) B i wr)/\Hid (qa7 (qes E s.bs s.lim) J g p i B=R))
 case atStart=>exact⟨0,s.pos,none,0,0,[],[],rfl,rfl,by show _=_;omega,a1,⟨Nat.zero_le _,Nat.zero_le _⟩,ae,C⟩
 case round =>
  clear ae C;obtain⟨m,p,a,l,c0,B,i,rfl,rfl,S,hp,Q,x,C⟩:=hrel;have kb:=qaa x.out.box 0;have aj:=qaa x.out.box 1
  cases gk with
  |zero =>
   have hk:m=n:=by have:=S.out;omega
   subst hk;have L:Hid (R=.ok (B,p)):=C.out.symm;clear C S Y;go_wp2;go_ret;rw[L.out];exact⟨x.out.but,⟨_,rfl,⟨_,_,_,rfl⟩,x.out.row⟩,x.out.src⟩
  |succ g =>
   have bf:m<n:=by have:=S.out;omega
   have H:decide ((m:Int)<(n:Int))=true:=by simp;omega
   have e2:decide (m<n)=true:=by simp;omega
   have a0:i.length<1000000000:=by have:=Q.out.2;have:=hp.out;omega
   have G:=Y wr p i x.out.src x.out.but x.out.keys a0;have w:=C.out;rw[qa7]at w;clear C Y
   cases O:qes E s.bs s.lim i p with
   |error u =>
    rw[O]at w G;simp only[]at w;obtain⟨Z,pl⟩:=u;have L:=qab w.symm;clear w O
    go_wp2_with(first
     |(go_at_call 225;refine G.mono ?_;clear G;rintro e A ⟨D,hF⟩;obtain⟨hF,pz,aa⟩:=(show qan Z pl e/\∃p,qad A b {s with pos:=p}from hF);obtain rfl:=hF))
    rw[L.out];exact⟨rfl,x.out.but.trans' D,rfl,pz,aa⟩
   |ok lq =>
    obtain⟨F,q⟩:=lq;rw[O]at w G;simp only[]at w;have bg:=qpC O;clear O;have bb:True:=trivial
    cases I:J q with
    |error u =>
     rw[I]at w;simp only[]at w;obtain⟨Z,pl⟩:=u;have L:=qab w.symm;have T:=qab I;clear w I bb
     go_wp2_with(first
      |(go_at_call 225;refine G.mono ?_;rintro e A ⟨D,hF⟩;obtain⟨rfl,U,z⟩:=(show e=.returned (.string ⟨F.toArray⟩)/\qad A b {s with pos:=q}/\qaL A (W.heap.size+1) (F::i)from hF);have o:=qab (x.out.step v U D z);have kb:=qaa o.out.box 0;have aj:=qaa o.out.box 1;have M:=ad.out A q o.out.src o.out.but;rw[T.out]at M)
      |(go_at_call 217;refine M.mono ?_;rintro e K ⟨P,N⟩;obtain⟨N,pz,aa⟩:=(show qan Z pl e/\∃p,qad K b {s with pos:=p}from N);obtain rfl:=N))
     rw[L.out];exact⟨rfl,o.out.but.trans P,rfl,pz,aa⟩
    |ok dr =>
     obtain⟨d,r⟩:=dr;rw[I]at w;simp only[]at w;have T:=qab I;have bh:=am.out q d r I;have HN:=qab w;have be:B.length<=200000000:=by have:=Q.out.1;have:=hp.out;omega
     have ab:Hid (B.length+1<=r/\i.length+1<=r):=⟨by have:=Q.out.1;omega,by have:=Q.out.2;omega⟩
     go_wp2_with(first
      |(go_at_call 225;refine G.mono ?_;rintro e A ⟨D,hF⟩;obtain⟨rfl,U,z⟩:=(show e=.returned (.string ⟨F.toArray⟩)/\qad A b {s with pos:=q}/\qaL A (W.heap.size+1) (F::i)from hF);have o:=qab (x.out.step v U D z);have kb:=qaa o.out.box 0;have aj:=qaa o.out.box 1;have M:=ad.out A q o.out.src o.out.but;rw[T.out]at M;have ap:=qab o.out.size;have an:Hid (∀g,(Value.slice a l c0).ownBlock=some g->g<A.heap.size):=by{obtain⟨xs,h1,_⟩:=o.out.own;exact qid h1})
      |(go_at_call 217;refine M.mono ?_;rintro e K ⟨P,N⟩;obtain⟨⟨t,y,rfl,ay⟩,af⟩:=(show(∃t y,e=.returned (.iface t y)/\qai k K (λj=>A.heap.size<=j/\j<K.heap.size) (.iface t y) d)/\qad K b {s with pos:=r}from N);have X:=qab (o.out.step v af (.of1 P) (o.out.keys.but (by omega) P));have HD:=qab ay;have HQ:Hid (r<=s.bs.length):=af.le;obtain⟨xs,a5,a7⟩:=X.out.own;have HO:=qab a5;have ar:=qab a7;have al:=qab X.out.size)
      |(at_builtin;refine qbg _ rfl _ _ 196 rfl (W.heap.size+2) 198 i0 (.agg #[.string ByteArray.empty,.nilIface]) 2 32 underlying196 hi a8 a9 ba rfl (by decide) _ _ _ rfl (HO.out.alloc _) ⟨K.heap.size,0,none⟩ 1 1 [.string ⟨F.toArray⟩,.iface t y] rfl rfl (qag _ _ _) (λbj hu=>by simp at hu;rcases hu with rfl|rfl<;>rfl) (by decide) (by unfold maxLen;omega) (by omega) (by simp;have:=al.out;omega) ?_;intro v' w5 ah az a6;have aq:=qab (X.out.push ao.out HO.out ar.out HD.out an.out ap.out ah az a6);obtain⟨g5,bd,rfl⟩:=ownsRow_succ ah))
     go_roundg g
     case measure=>omega
     case rel=>exact⟨m+1,r,_,_,_,B++[(.string F,d)],F::i,rfl,by go_num,by show _=_;have:=S.out;omega,HQ,⟨by rw[List.length_append];exact ab.out.1,ab.out.2⟩,aq,HN⟩

end
end Go.Proofs.YtpifimohecagoaaGreatDoor
