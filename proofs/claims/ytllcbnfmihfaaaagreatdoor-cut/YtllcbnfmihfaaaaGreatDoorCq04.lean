import Derived.BigCall
import Derived.Maps.AppendAt
import Derived.Deep.OwnRows
import Derived.RangeFuncBox
import Derived.Test.YtllcbnfmihfaaaaGreatDoorCq03
set_option maxRecDepth 100000
set_option maxHeartbeats 8000000
namespace Go.Proofs.YtllcbnfmihfaaaaGreatDoor
open Go.Proofs.Tryz
variable {W W':World}{b:UInt8}{base g n:Nat}{u v v':Value}{s:Src}{xs:List Value}{bs ys:List UInt8}
section
open Go.RowKit
def qws (x:Nat)(w:Int):Int:=if (w==1)=true then wrap64 (IntKind.i8.wrap x) else if (w==2)=true then wrap64 (IntKind.i16.wrap x) else if (w==4)=true then wrap64 (wrap32 x) else wrap64 x
theorem qg8 (x:Nat)(w:Int)(_hx:x<18446744073709551616)(W:World):Calls prog 332 #[.int .u64 x,.int .i64 w] W fun e W'=>e=.returned (.int .i64 (qws x w))∧W'=W:=by
 obtain⟨R,HR⟩:∃R,Hid (qws x w=R):=⟨_,show _=_ from rfl⟩
 rw[HR.out];have hr:=HR.out;unfold qws at hr;cases h1:(w==1)
 ·rw[h1,if_neg (by decide)] at hr;cases h2:(w==2)
  ·rw[h2,if_neg (by decide)] at hr;cases h4:(w==4)
   ·rw[h4,if_neg (by decide)] at hr;have HR:=qaa hr;go_enter func332,ntmps332;go_wp2;go_ret;rw[←HR.out];exact⟨rfl,rfl⟩
   rw[h4,if_pos rfl] at hr;have HR:=qaa hr;go_enter func332,ntmps332;go_wp2;go_ret;rw[←HR.out];exact⟨rfl,rfl⟩
  rw[h2,if_pos rfl] at hr;have HR:=qaa hr;go_enter func332,ntmps332;go_wp2;go_ret;rw[←HR.out];exact⟨rfl,rfl⟩
 rw[h1,if_pos rfl] at hr;have HR:=qaa hr;go_enter func332,ntmps332;go_wp2;go_ret;rw[←HR.out];exact⟨rfl,rfl⟩
def nbF (so w:Int)(x:Nat)(pos:Int):Except (Int×Int) Int :=
 if (so==5)=true then .ok (qws x w) else if 9223372036854775807<x then .error (10,pos-1) else if (so==6)=true then .ok (-1-(x:Int)) else .ok x
def qgc {α:Type}(W:World)(b:Nat)(s:Src)(val:α→Value)(r:Except (Int×Int) (α×Nat))(e:Ending)(W':World):Prop :=
 But b W W'∧match r with
 |.ok (x,p)=>e=.returned (val x)∧qad W' b {s with pos:=p}
 |.error (en,pl)=>qao en pl e∧∃p,qad W' b {s with pos:=p}
def qsC (W:World)(b:Nat)(s:Src)(r:Except (Int×Int) Int)(e:Ending)(W':World):Prop :=
 But b W W'∧match r with
 |.ok z=>e=.returned (.int .i64 z)∧qad W' b s
 |.error (en,pl)=>qao en pl e∧∃p,qad W' b {s with pos:=p}
structure qld (W0:World)(b N:Nat)(fv:Value)(so w:Int)(g:Nat)(s:Src)(W:World):Prop where
 src:qad W b s
 but:But b W0 W
 box:W.heap[N]? = some (.cells #[.pointer (some ⟨b,0,none⟩),fv] 201)
 hd:W.heap[N+1]? = some (.cells #[.int .i64 so,.int .i64 w,.int .u64 g] 273)
 ne:b<N
theorem qld.step {W0:World}{b N:Nat}{fv:Value}{so w:Int}{s':Src}(h:qld W0 b N fv so w g s W)(hs:qad W' b s')(hb:But b W W'):qld W0 b N fv so w g s' W' :=
 ⟨hs,h.but.trans hb,(hb.block _ (ltA h.box) (by have:=h.ne;omega)).trans h.box,(hb.block _ (ltA h.hd) (by have:=h.ne;omega)).trans h.hd,h.ne⟩
theorem qlr {b:Nat}(fv:Value)(so w:Int)(g:Nat)(h:qad W b s):qld W b W.heap.size fv so w g s ((W.alloc (.cells #[.pointer (some ⟨b,0,none⟩),fv] 201)).alloc (.cells #[.int .i64 so,.int .i64 w,.int .u64 g] 273)):=by
 have hB:Below W.heap.size W ((W.alloc (.cells #[.pointer (some ⟨b,0,none⟩),fv] 201)).alloc (.cells #[.int .i64 so,.int .i64 w,.int .u64 g] 273)):=(bwA).alloc (by simp) _;refine⟨h.below hB,But.of_below hB,?_,?_,(ltA h.row)⟩
 ·have:=qac W (.cells #[.pointer (some ⟨b,0,none⟩),fv] 201);rw[←this];exact(((Below.refl (W.heap.size+1) (W.alloc (.cells #[.pointer (some ⟨b,0,none⟩),fv] 201))).alloc (by simp) _).block _ (by omega))
 have:=qac (W.alloc (.cells #[.pointer (some ⟨b,0,none⟩),fv] 201)) (.cells #[.int .i64 so,.int .i64 w,.int .u64 g] 273);rw[World.size_alloc] at this;exact this
theorem qiU (W:World)(b:Nat)(s:Src)(f:Nat)(so w:Int)(g x:Nat)(hx:x<18446744073709551616)(h:qad W b s):Calls prog 327 #[.agg #[.pointer (some ⟨b,0,none⟩),.func (.func f) #[] #[]],.agg #[.int .i64 so,.int .i64 w,.int .u64 g],.int .u64 x] W (qsC W b s (nbF so w x s.pos)):=by
 have HX:Hid (qld W b W.heap.size (.func (.func f) #[] #[]) so w g s ((W.alloc (.cells #[.pointer (some ⟨b,0,none⟩),.func (.func f) #[] #[]] 201)).alloc (.cells #[.int .i64 so,.int .i64 w,.int .u64 g] 273))):=qlr _ so w g h;obtain⟨R,HR⟩:∃R,Hid (nbF so w x s.pos=R):=⟨_,show _=_ from rfl⟩
 rw[HR.out];have hr:=HR.out;unfold nbF at hr;have k0:=qab HX.out.box 0;have k1:=qab HX.out.hd 0;have k2:=qab HX.out.hd 1;cases h5:(so==5)
 ·rw[h5,if_neg (by decide)] at hr;by_cases hm:9223372036854775807<x
  ·rw[if_pos hm] at hr;subst hr;have cR:=qat _ b s 10 HX.out.src;have hm2:decide ((9223372036854775807:Int)<x)=true:=by simp;omega
   go_enter func327,ntmps327
   go_wp2_with (first
    |(go_at_call 295;refine cR.mono ?_;rintro e w7 ⟨hF,rfl⟩;obtain rfl:=hF))
   exact⟨rfl,HX.out.but,rfl,_,HX.out.src⟩
  rw[if_neg hm] at hr;have hm2:decide ((9223372036854775807:Int)<x)=false:=by simp;omega
  cases h6:(so==6)
  ·rw[h6,if_neg (by decide)] at hr;subst hr;go_enter func327,ntmps327;go_wp2;go_ret;exact⟨HX.out.but,rfl,HX.out.src⟩
  rw[h6,if_pos rfl] at hr;subst hr;go_enter func327,ntmps327;go_wp2;go_ret;exact⟨HX.out.but,rfl,HX.out.src⟩
 rw[h5,if_pos rfl] at hr;subst hr;have cE:=fun V=>qg8 x w hx V;go_enter func327,ntmps327
 go_wp2_with (first
  |(go_at_call 332;refine(cE _).mono ?_;rintro e w7 ⟨rfl,rfl⟩))
 go_ret;exact⟨HX.out.but,rfl,HX.out.src⟩
def qd9 (bs:List UInt8)(lim:Int):Nat→Nat→Nat→Except (Int×Int) (Nat×Nat)
 |0,p,a=>.ok (a,p)
 |k+1,p,a=>match bs[p]? with
  |none=>.error (9,p)
  |some c=>if (p:Int)=lim then .error (8,p) else qd9 bs lim k (p+1) (a*256+c.toNat)
theorem qps (a c:Nat)(ha:a<72057594037927936)(hc:c<256):bits .or .u64 ((a:Int)*256) (c:Int)=((a*256+c:Nat):Int):=by
 have e1:BitVec.ofInt 64 ((a:Int)*256)=BitVec.ofNat 64 (a*256):=by
  rw[show((a:Int)*256)=((a*256:Nat):Int) by simp];exact BitVec.ofInt_natCast ..
 have e2:BitVec.ofInt 64 (c:Int)=BitVec.ofNat 64 c:=BitVec.ofInt_natCast ..;have e3:(BitVec.ofNat 64 (a*256) ||| BitVec.ofNat 64 c).toNat=a*256+c:=by
  rw[BitVec.toNat_or,BitVec.toNat_ofNat,BitVec.toNat_ofNat,Nat.mod_eq_of_lt (by omega),Nat.mod_eq_of_lt (by omega)];have:=Nat.shiftLeft_add_eq_or_of_lt (b:=c) (i:=8) (by omega) a;rw[Nat.shiftLeft_eq] at this;exact this.symm
 show IntKind.u64.wrap ((BitVec.ofInt 64 ((a:Int)*256) ||| BitVec.ofInt 64 (c:Int)).toNat:Int)=_;rw[e1,e2,e3];unfold IntKind.wrap;simp[IntKind.bits,IntKind.signed];omega
theorem qbN (W:World)(b:Nat)(s:Src)(f:Nat)(so:Int)(w g:Nat)(hw:w≤8)(hg:w=0∨g=0)(h:qad W b s):Calls prog 326 #[.agg #[.pointer (some ⟨b,0,none⟩),.func (.func f) #[] #[]],.agg #[.int .i64 so,.int .i64 w,.int .u64 g]] W (qgc W b s (fun x:Nat=>.int .u64 x) (qd9 s.bs s.lim w s.pos g)):=by
 have HX0:Hid (qld W b W.heap.size (.func (.func f) #[] #[]) so w g s ((W.alloc (.cells #[.pointer (some ⟨b,0,none⟩),.func (.func f) #[] #[]] 201)).alloc (.cells #[.int .i64 so,.int .i64 w,.int .u64 g] 273))):=qlr _ so w g h;obtain⟨R,HR⟩:∃R,Hid (qd9 s.bs s.lim w s.pos g=R):=⟨_,show _=_ from rfl⟩
 rw[HR.out];have k1:=qab HX0.out.hd 1;have k2:=qab HX0.out.hd 2;have HG:=qaa hg;clear hg h;go_enter func326,ntmps326;go_wp2;clear k1 k2
 go_loopg [5,10] w (fun m y z wr=>∃(k acc:Nat),y=.int .u64 acc∧z=.int .i64 k∧Hid (m+k=w)∧Hid (m=0∨acc<256^k)∧Hid (qld W b W.heap.size (.func (.func f) #[] #[]) so w g {s with pos:=s.pos+k} wr)∧Hid (qd9 s.bs s.lim m (s.pos+k) acc=R))
 case atStart=>exact⟨0,g,rfl,rfl,rfl,by show _∨_;rcases HG.out with h|h;exact .inl h;exact .inr (by omega),HX0,HR⟩
 case round =>
  clear HX0 HR HG;obtain⟨k,acc,rfl,rfl,hm,ha,HX,HR⟩:=hrel;have kb:=qab HX.out.box 0
  cases gk with
  |zero =>
   have e:k=w:=by have:=hm.out;omega
   subst e;have HE:Hid (R=.ok (acc,s.pos+k)):=HR.out.symm;clear HR hm ha kb;go_wp2;go_ret;rw[HE.out];exact⟨HX.out.but,rfl,HX.out.src⟩
  |succ m =>
   have hlt:k<w:=by have:=hm.out;omega
   have hlt2:decide ((k:Int)<w)=true:=by simp;omega
   have hacc:acc<256^k:=by rcases ha.out with h|h;exact absurd h (by omega);exact h
   have hacc7:acc<72057594037927936:=Nat.lt_of_lt_of_le hacc (Nat.le_trans (Nat.pow_le_pow_right (by decide) (show k≤7 from by omega)) (by decide));rcases qaM HX.out.src with h1|h1|⟨c,h1⟩
   ·have HE:Hid (R=.error (9,((s.pos+k:Nat):Int))):=by
     show _=_;rw[←HR.out,qd9,List.getElem?_eq_none (by have:s.pos+k=s.bs.length:=h1;omega)]
    have cT:=qbm _ b {s with pos:=s.pos+k} HX.out.src h1;clear HR ha hm h1 hacc
    go_wp2_with (first
     |(go_at_call 294;refine cT.mono ?_;rintro e w2 ⟨hF,hB⟩;obtain rfl:=hF))
    rw[HE.out];exact⟨rfl,HX.out.but.trans (But.of_below hB),rfl,_,HX.out.src.below hB⟩
   ·have HE:Hid (R=.error (8,((s.pos+k:Nat):Int))):=by
     show _=_;have h2:((s.pos+k:Nat):Int)=s.lim:=h1.2;have h3:s.pos+k<s.bs.length:=h1.1;rw[←HR.out,qd9,List.getElem?_eq_getElem h3];simp only[];rw[if_pos h2]
    have cT:=qaP _ b {s with pos:=s.pos+k} HX.out.src h1
    go_wp2_with (first
     |(go_at_call 294;refine cT.mono ?_;rintro e w2 ⟨hF,hB⟩;obtain rfl:=hF))
    rw[HE.out];exact⟨rfl,HX.out.but.trans (But.of_below hB),rfl,_,HX.out.src.below hB⟩
   have hc1:s.bs[s.pos+k]? = some c:=h1.1;have hc2:¬((s.pos+k:Nat):Int)=s.lim:=h1.2;have HN:Hid (qd9 s.bs s.lim m (s.pos+(k+1)) (acc*256+c.toNat)=R):=by
    show _=_;have:=HR.out;rw[qd9,hc1] at this;simp only[] at this;rw[if_neg hc2] at this;exact this
   have hcl:c.toNat<256:=c.toNat_lt;have ho:=qps acc c.toNat hacc7 hcl;have HA:Hid (acc*256+c.toNat<256^(k+1)):=by show _<_;rw[Nat.pow_succ];omega
   have cT:Calls prog 294 #[.pointer (some ⟨b,0,none⟩)] wr fun e W'=>e=.returned (.int .u8 c.toNat)∧qad W' b {s with pos:=s.pos+(k+1)}∧But b wr W':=qau _ b {s with pos:=s.pos+k} c HX.out.src h1
   go_wp2_with (first
    |(go_at_call 294;refine cT.mono ?_;rintro e w2 ⟨rfl,hS,hB⟩;have HX2:=qaa (HX.out.step hS hB)))
   go_roundg m
   case measure=>omega
   case rel=>exact⟨k+1,acc*256+c.toNat,by simp,by go_num,by show _=_;have:=hm.out;omega,.inr HA.out,HX2,HN⟩
theorem Tryz.infoU8:(prog.info? 5).map (fun i=>(i.zero,i.size,i.bytes))=some (some (.int .u8 0),1,1):=by kernel_rfl
def qav (b:UInt8):Value:=.int .u8 b.toNat
theorem qbA {e:TypeId}{size:Nat}(ho:W.ownsRow base e size v n xs)(h:v.ownBlock=some g):base≤g:=by
 rcases ho.2 with ⟨h0,_⟩|⟨g',cap,cur,rfl,hb',_⟩
 ·subst h0;cases h
 cases h;exact hb'
theorem qag (w:World)(cs:Array Value)(t:TypeId):∀(j:Nat) (u:Value),cs.toList[j]? = some u→(w.alloc (.cells cs t)).cell? ((⟨w.heap.size,0,none⟩:Addr).add j)=some u:=fun j u hu=>by
 have e:(⟨w.heap.size,0,none⟩:Addr).add j=⟨w.heap.size,j,none⟩:=by by_cases h:j=0<;>simp[Addr.add,h]
 rw[e,cell_of_row _ _ _ _ _ _ (qac _ _)];simpa using hu
def Own (W:World)(base:Nat)(v:Value)(bs:List UInt8):Prop:=W.ownsRow base 5 1 v bs.length (bs.map qav)∧base≤W.heap.size∧∃a n c,v=.slice a n c
def beF (x:Nat):Nat→List UInt8
 |0=>[]
 |k+1=>UInt8.ofNat (x / 2^(8*k)%256)::beF x k
theorem qlF (x k:Nat):qav (UInt8.ofNat (x / 2^(8*k)%256))=.int .u8 ((x:Int) / 2^(8*k)%256):=by
 unfold qav;have e:(UInt8.ofNat (x / 2^(8*k)%256)).toNat=x / 2^(8*k)%256:=by
  rw[UInt8.toNat_ofNat'];have:x / 2^(8*k)%256<256:=Nat.mod_lt _ (by decide);omega
 rw[e];congr 1
theorem qbG (h:W'.ownsRow base 5 1 v' (ys.length+1) (ys.map qav++[u]))(hu:qav b=u):W'.ownsRow base 5 1 v' (ys++[b]).length ((ys++[b]).map qav):=by
 rw[List.length_append,List.map_append];subst hu;exact h
theorem qaz {V:World}{t:TypeId}{z:Nat}(hb:Below base W V)(ho:V.ownsRow base t z v n xs)(hg:V.grownBy W' v.ownBlock)(hs:base≤V.heap.size):Below base W W' :=
 hb.trans ⟨hg.os,hg.tape,hg.output,hg.size,fun i hi=>hg.block i (by omega) (fun e=>by have:=qbA ho e.symm;omega)⟩
theorem qaq (W:World)(base:Nat)(v:Value)(bs:List UInt8)(x w:Nat)(_hx:x<18446744073709551616)(hw:w≤8)(hl:bs.length≤1000000000)(h:Own W base v bs):Calls prog 202 #[v,.int .u64 x,.int .i64 w] W fun e W'=>∃v',e=.returned v'∧Own W' base v' (bs++beF x w)∧Below base W W':=by
 obtain⟨i0,hi,hz0,hz1,hz2⟩:=info_parts Tryz.infoU8;obtain⟨ho,hb,a,n,c,rfl⟩:=h;have HO:=qaa ho;go_enter func202,ntmps202;go_wp2
 go_loopg [0,7] w (fun g y z wr=>∃(ys:List UInt8) (a n c:_),y=.slice a n c∧z=.int .i64 ((g:Int)-1)∧g≤w∧ys.length≤1000000000+(w-g)∧base≤wr.heap.size∧Hid (wr.ownsRow base 5 1 (.slice a n c) ys.length (ys.map qav))∧Hid (Below base W wr)∧Hid (ys++beF x g=bs++beF x w))
 case atStart=>exact⟨bs,a,n,c,rfl,by go_num,Nat.le_refl _,by omega,hb,HO,Below.refl _ _,rfl⟩
 case round =>
  obtain⟨ys,a,n,c,rfl,rfl,hg,hyl,hb,HO,HB,HE⟩:=hrel
  cases gk with
  |zero =>
   go_wp2;go_ret;have e:ys=bs++beF x w:=by have:=HE.out;simpa [beF] using this
   subst e;exact⟨_,rfl,⟨HO.out,hb,_,_,_,rfl⟩,HB.out⟩
  |succ k =>
   go_wp2_with (first
    |(at_builtin;refine wpList_append_own _ rfl _ _ 28 rfl base 5 i0 (.int .u8 0) 1 1 underlying28 hi hz0 hz1 hz2 rfl (by decide) _ _ _ rfl (HO.out.alloc _) ⟨wr.heap.size,0,none⟩ 1 1 [.int .u8 ((x:Int) / 2^(8*k)%256)] rfl rfl (qag _ _ _) (fun u hu=>by simp at hu;subst hu;rfl) (by unfold maxLen;omega) (by omega) (by simp;omega) ?_;intro v' w5 hown' hgrow5 hnil5;obtain⟨g5,cap5,rfl⟩:=ownsRow_succ hown'))
   go_roundg k
   case measure=>omega
   case rel =>
    refine⟨ys++[UInt8.ofNat (x / 2^(8*k)%256)],_,_,_,rfl,by go_num,by omega,by rw[List.length_append];simp;omega,?_,qbG hown' (qlF x k),qaz (HB.out.trans ((Below.refl base wr).alloc hb _)) (HO.out.alloc _) hgrow5 (by simp;omega),?_⟩
    ·have:=hgrow5.size;simp at this;omega
    show _=_;have:=HE.out;rw[beF] at this;rw[List.append_assoc];exact this
def qbf (x:Nat):List UInt8 :=
 if x<128 then [UInt8.ofNat x] else if x≤255 then 204::beF x 1 else if x≤65535 then 205::beF x 2 else if x≤4294967295 then 206::beF x 4 else 207::beF x 8
def qbo (z:Int):List UInt8 :=
 if -32≤z then [UInt8.ofNat (z%256).toNat] else if -128≤z then 208::beF (z%18446744073709551616).toNat 1 else if -32768≤z then 209::beF (z%18446744073709551616).toNat 2 else if -2147483648≤z then 210::beF (z%18446744073709551616).toNat 4 else 211::beF (z%18446744073709551616).toNat 8
def qaj (s x:Nat):List UInt8 :=
 if x<24 then [UInt8.ofNat (32*s+x)] else if x≤255 then UInt8.ofNat (32*s+24)::beF x 1 else if x≤65535 then UInt8.ofNat (32*s+25)::beF x 2 else if x≤4294967295 then UInt8.ofNat (32*s+26)::beF x 4 else UInt8.ofNat (32*s+27)::beF x 8
theorem qaQ (x:Nat)(h:x<256):qav (UInt8.ofNat x)=.int .u8 (x:Int):=by
 unfold qav;rw[UInt8.toNat_ofNat',Nat.mod_eq_of_lt (by omega)]
theorem qax {a:Option Addr}{c:Nat}(hb:base≤W.heap.size)(ho:W.ownsRow base 5 1 (.slice a n c) bs.length (bs.map qav))(hu:qav b=u)(hown:W'.ownsRow base 5 1 v' (bs.length+1) (bs.map qav++[u]))(hgrow:(W.alloc (Obj.cells #[u] 5)).grownBy W' (Value.slice a n c).ownBlock):Own W' base v' (bs++[b])∧Below base W W':=by
 have h2:=qbG hown hu;obtain⟨g5,cap5,rfl⟩:=ownsRow_succ hown;refine⟨⟨h2,?_,_,_,_,rfl⟩,qaz ((Below.refl base W).alloc hb _) (ho.alloc _) hgrow (by simp;omega)⟩;have:=hgrow.size;simp at this;omega
theorem qaJ {W2:World}{zs:List UInt8}{v2:Value}(h:Own W' base v' (bs++[b])∧Below base W W')(h2:Own W2 base v2 ((bs++[b])++ys))(hB:Below base W' W2)(e:b::ys=zs):Own W2 base v2 (bs++zs)∧Below base W W2:=by
 subst e;refine⟨?_,h.2.trans hB⟩;rw[List.append_assoc] at h2;exact h2
theorem qlh (W:World)(base:Nat)(v:Value)(bs:List UInt8)(x:Nat)(hx:x<18446744073709551616)(hl:bs.length≤999999999)(h:Own W base v bs):Calls prog 166 #[v,.int .u64 x] W fun e W'=>∃v',e=.returned v'∧Own W' base v' (bs++qbf x)∧Below base W W':=by
 obtain⟨i0,hi,hz0,hz1,hz2⟩:=info_parts Tryz.infoU8;obtain⟨ho,hb,a,n,c,rfl⟩:=h;have HO:=qaa ho;by_cases c0:x<128
 ·have hr:Hid (qbf x=UInt8.ofNat x::[]):=by show _=_;unfold qbf;rw[if_pos c0]
  go_enter func166,ntmps166
  go_wp2_with (first
    |(at_builtin;refine wpList_append_own _ rfl _ _ 28 rfl base 5 i0 (.int .u8 0) 1 1 underlying28 hi hz0 hz1 hz2 rfl (by decide) _ _ _ rfl (HO.out.alloc _) ⟨W.heap.size,0,none⟩ 1 1 [.int .u8 (x:Int)] rfl rfl (qag _ _ _) (fun u hu=>by simp at hu;subst hu;rfl) (by unfold maxLen;omega) (by omega) (by simp;omega) ?_;intro v' w5 hown' hgrow5 hnil5;obtain⟨g5,cap5,rfl⟩:=ownsRow_succ hown';have HB:Hid (Own w5 base _ (bs++[UInt8.ofNat x])∧Below base W w5):=qax hb HO.out (qaQ _ (by omega)) hown' hgrow5))
  go_ret;rw[hr.out];exact⟨_,rfl,HB.out⟩
 skip
 by_cases c1:x≤255
 ·have hr:Hid (qbf x=204::beF x 1):=by show _=_;unfold qbf;rw[if_neg c0];rw[if_pos c1]
  go_enter func166,ntmps166
  go_wp2_with (first
    |(at_builtin;refine wpList_append_own _ rfl _ _ 28 rfl base 5 i0 (.int .u8 0) 1 1 underlying28 hi hz0 hz1 hz2 rfl (by decide) _ _ _ rfl (HO.out.alloc _) ⟨W.heap.size,0,none⟩ 1 1 [.int .u8 204] rfl rfl (qag _ _ _) (fun u hu=>by simp at hu;subst hu;rfl) (by unfold maxLen;omega) (by omega) (by simp;omega) ?_;intro v' w5 hown' hgrow5 hnil5;obtain⟨g5,cap5,rfl⟩:=ownsRow_succ hown';have HB:Hid (Own w5 base _ (bs++[204])∧Below base W w5):=qax hb HO.out (rfl) hown' hgrow5)
    |(go_at_call 202;refine(qaq _ base _ _ (x) 1 (by omega) (by omega) (by simp;omega) HB.out.1).mono ?_;rintro e w6 ⟨v6,rfl,h6,hB6⟩;obtain⟨h61,h62,a6,n6,c6,rfl⟩:=h6;have HC:=qaa (qaJ HB.out ⟨h61,h62,a6,n6,c6,rfl⟩ hB6 (hr.out.symm))))
  go_ret;exact⟨_,rfl,HC.out⟩
 skip
 by_cases c2:x≤65535
 ·have hr:Hid (qbf x=205::beF x 2):=by show _=_;unfold qbf;rw[if_neg c0];rw[if_neg c1];rw[if_pos c2]
  go_enter func166,ntmps166
  go_wp2_with (first
    |(at_builtin;refine wpList_append_own _ rfl _ _ 28 rfl base 5 i0 (.int .u8 0) 1 1 underlying28 hi hz0 hz1 hz2 rfl (by decide) _ _ _ rfl (HO.out.alloc _) ⟨W.heap.size,0,none⟩ 1 1 [.int .u8 205] rfl rfl (qag _ _ _) (fun u hu=>by simp at hu;subst hu;rfl) (by unfold maxLen;omega) (by omega) (by simp;omega) ?_;intro v' w5 hown' hgrow5 hnil5;obtain⟨g5,cap5,rfl⟩:=ownsRow_succ hown';have HB:Hid (Own w5 base _ (bs++[205])∧Below base W w5):=qax hb HO.out (rfl) hown' hgrow5)
    |(go_at_call 202;refine(qaq _ base _ _ (x) 2 (by omega) (by omega) (by simp;omega) HB.out.1).mono ?_;rintro e w6 ⟨v6,rfl,h6,hB6⟩;obtain⟨h61,h62,a6,n6,c6,rfl⟩:=h6;have HC:=qaa (qaJ HB.out ⟨h61,h62,a6,n6,c6,rfl⟩ hB6 (hr.out.symm))))
  go_ret;exact⟨_,rfl,HC.out⟩
 skip
 by_cases c3:x≤4294967295
 ·have hr:Hid (qbf x=206::beF x 4):=by show _=_;unfold qbf;rw[if_neg c0];rw[if_neg c1];rw[if_neg c2];rw[if_pos c3]
  go_enter func166,ntmps166
  go_wp2_with (first
    |(at_builtin;refine wpList_append_own _ rfl _ _ 28 rfl base 5 i0 (.int .u8 0) 1 1 underlying28 hi hz0 hz1 hz2 rfl (by decide) _ _ _ rfl (HO.out.alloc _) ⟨W.heap.size,0,none⟩ 1 1 [.int .u8 206] rfl rfl (qag _ _ _) (fun u hu=>by simp at hu;subst hu;rfl) (by unfold maxLen;omega) (by omega) (by simp;omega) ?_;intro v' w5 hown' hgrow5 hnil5;obtain⟨g5,cap5,rfl⟩:=ownsRow_succ hown';have HB:Hid (Own w5 base _ (bs++[206])∧Below base W w5):=qax hb HO.out (rfl) hown' hgrow5)
    |(go_at_call 202;refine(qaq _ base _ _ (x) 4 (by omega) (by omega) (by simp;omega) HB.out.1).mono ?_;rintro e w6 ⟨v6,rfl,h6,hB6⟩;obtain⟨h61,h62,a6,n6,c6,rfl⟩:=h6;have HC:=qaa (qaJ HB.out ⟨h61,h62,a6,n6,c6,rfl⟩ hB6 (hr.out.symm))))
  go_ret;exact⟨_,rfl,HC.out⟩
 skip
 have hr:Hid (qbf x=207::beF x 8):=by show _=_;unfold qbf;rw[if_neg c0];rw[if_neg c1];rw[if_neg c2];rw[if_neg c3]
 go_enter func166,ntmps166
 go_wp2_with (first
   |(at_builtin;refine wpList_append_own _ rfl _ _ 28 rfl base 5 i0 (.int .u8 0) 1 1 underlying28 hi hz0 hz1 hz2 rfl (by decide) _ _ _ rfl (HO.out.alloc _) ⟨W.heap.size,0,none⟩ 1 1 [.int .u8 207] rfl rfl (qag _ _ _) (fun u hu=>by simp at hu;subst hu;rfl) (by unfold maxLen;omega) (by omega) (by simp;omega) ?_;intro v' w5 hown' hgrow5 hnil5;obtain⟨g5,cap5,rfl⟩:=ownsRow_succ hown';have HB:Hid (Own w5 base _ (bs++[207])∧Below base W w5):=qax hb HO.out (rfl) hown' hgrow5)
   |(go_at_call 202;refine(qaq _ base _ _ (x) 8 (by omega) (by omega) (by simp;omega) HB.out.1).mono ?_;rintro e w6 ⟨v6,rfl,h6,hB6⟩;obtain⟨h61,h62,a6,n6,c6,rfl⟩:=h6;have HC:=qaa (qaJ HB.out ⟨h61,h62,a6,n6,c6,rfl⟩ hB6 (hr.out.symm))))
 go_ret;exact⟨_,rfl,HC.out⟩
end
end Go.Proofs.YtllcbnfmihfaaaaGreatDoor
