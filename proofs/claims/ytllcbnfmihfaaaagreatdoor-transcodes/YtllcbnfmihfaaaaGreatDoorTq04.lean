import Derived.Test.YtllcbnfmihfaaaaGreatDoorTq02
import Derived.Test.YtllcbnfmihfaaaaGreatDoorTq03
set_option maxRecDepth 100000
set_option maxHeartbeats 8000000
namespace Go.Proofs.YtllcbnfmihfaaaaGreatDoor
open Go.Proofs.Tryz
variable {fn:Func}{b g p so w:Nat}{V V' W W':World}{s:Src}{P:Program}{R:Ending→World→Prop}{fv v:Value}{acc:List UInt8}
section
open Go.RowKit
def qd9 (bs:List UInt8)(lim:Int):Nat→Nat→Nat→Except (Int×Int) (Nat×Nat)
 |0,p,a=>.ok (a,p)
 |k+1,p,a=>match bs[p]? with
  |none=>.error (9,p)
  |some c=>if (p:Int)=lim then .error (8,p) else qd9 bs lim k (p+1) (a*256+c.toNat)
theorem qps (a c:Nat)(ha:a<72057594037927936)(hc:c<256):bits .or .u64 ((a:Int)*256) (c:Int)=((a*256+c:Nat):Int):=by
 have e1:BitVec.ofInt 64 ((a:Int)*256)=BitVec.ofNat 64 (a*256):=by
  rw[show((a:Int)*256)=((a*256:Nat):Int) by simp];exact BitVec.ofInt_natCast ..
 have e2:BitVec.ofInt 64 (c:Int)=BitVec.ofNat 64 c:=BitVec.ofInt_natCast ..;have e3:(BitVec.ofNat 64 (a*256) ||| BitVec.ofNat 64 c).toNat=a*256+c:=by
  rw[BitVec.toNat_or,BitVec.toNat_ofNat,BitVec.toNat_ofNat,Nat.mod_eq_of_lt (by omega),Nat.mod_eq_of_lt (by omega)];have:=Nat.shiftLeft_add_eq_or_of_lt (b:=c) (i:=8) (by omega) a;rw[Nat.shiftLeft_eq] at this;exact this.symm
 show IntKind.u64.wrap ((BitVec.ofInt 64 ((a:Int)*256) ||| BitVec.ofInt 64 (c:Int)).toNat:Int)=_;rw[e1,e2,e3];unfold IntKind.wrap;simp[IntKind.bits,IntKind.signed];omega
theorem qbN (W:World)(b:Nat)(s:Src)(f:Nat)(so:Int)(w g:Nat)(hw:w≤8)(hg:w=0∨g=0)(h:qad W b s):Calls prog 326 #[.agg #[.pointer (some ⟨b,0,none⟩),.func (.func f) #[] #[]],.agg #[.int .i64 so,.int .i64 w,.int .u64 g]] W (qgc W b s (fun x:Nat=>.int .u64 x) (qd9 s.bs s.lim w s.pos g)):=by
 have HX0:Hid (qld W b W.heap.size (.func (.func f) #[] #[]) so w g s ((W.alloc (.cells #[.pointer (some ⟨b,0,none⟩),.func (.func f) #[] #[]] 201)).alloc (.cells #[.int .i64 so,.int .i64 w,.int .u64 g] 273))):=qlr _ so w g h;obtain⟨R,HR⟩:∃R,Hid (qd9 s.bs s.lim w s.pos g=R):=⟨_,show _=_ from rfl⟩
 rw[HR.out];have k1:=qab HX0.out.hd 1;have k2:=qab HX0.out.hd 2;have HG:=qaa hg;clear hg h;go_enter func326,ntmps326;go_wp2;clear k1 k2
 go_loopg [5,10] w (fun m y z wr=>∃(k acc:Nat),y=.int .u64 acc∧z=.int .i64 k∧Hid (m+k=w)∧Hid (m=0∨acc<256^k)∧Hid (qld W b W.heap.size (.func (.func f) #[] #[]) so w g {s with pos:=s.pos+k} wr)∧Hid (qd9 s.bs s.lim m (s.pos+k) acc=R))
 case atStart=>exact⟨0,g,rfl,rfl,rfl,by show _∨_;rcases HG.out with h|h;exact .inl h;exact .inr (by omega),HX0,HR⟩
 case round =>
  clear HX0 HR HG;obtain⟨k,acc,rfl,rfl,hm,ha,HX,HR⟩:=hrel;have kb:=qab HX.out.box 0
  cases gk with
  |zero =>
   have e:k=w:=by have:=hm.out;omega
   subst e;have HE:Hid (R=.ok (acc,s.pos+k)):=HR.out.symm;clear HR hm ha kb;go_wp2;go_ret;rw[HE.out];exact⟨HX.out.but,rfl,HX.out.src⟩
  |succ m =>
   have hlt:k<w:=by have:=hm.out;omega
   have hlt2:decide ((k:Int)<w)=true:=by simp;omega
   have hacc:acc<256^k:=by rcases ha.out with h|h;exact absurd h (by omega);exact h
   have hacc7:acc<72057594037927936:=Nat.lt_of_lt_of_le hacc (Nat.le_trans (Nat.pow_le_pow_right (by decide) (show k≤7 from by omega)) (by decide));rcases qaM HX.out.src with h1|h1|⟨c,h1⟩
   ·have HE:Hid (R=.error (9,((s.pos+k:Nat):Int))):=by
     show _=_;rw[←HR.out,qd9,List.getElem?_eq_none (by have:s.pos+k=s.bs.length:=h1;omega)]
    have cT:=qbm _ b {s with pos:=s.pos+k} HX.out.src h1;clear HR ha hm h1 hacc
    go_wp2_with (first
     |(go_at_call 294;refine cT.mono ?_;rintro e w2 ⟨hF,hB⟩;obtain rfl:=hF))
    rw[HE.out];exact⟨rfl,HX.out.but.trans (But.of_below hB),rfl,_,HX.out.src.below hB⟩
   ·have HE:Hid (R=.error (8,((s.pos+k:Nat):Int))):=by
     show _=_;have h2:((s.pos+k:Nat):Int)=s.lim:=h1.2;have h3:s.pos+k<s.bs.length:=h1.1;rw[←HR.out,qd9,List.getElem?_eq_getElem h3];simp only[];rw[if_pos h2]
    have cT:=qaP _ b {s with pos:=s.pos+k} HX.out.src h1
    go_wp2_with (first
     |(go_at_call 294;refine cT.mono ?_;rintro e w2 ⟨hF,hB⟩;obtain rfl:=hF))
    rw[HE.out];exact⟨rfl,HX.out.but.trans (But.of_below hB),rfl,_,HX.out.src.below hB⟩
   have hc1:s.bs[s.pos+k]? = some c:=h1.1;have hc2:¬((s.pos+k:Nat):Int)=s.lim:=h1.2;have HN:Hid (qd9 s.bs s.lim m (s.pos+(k+1)) (acc*256+c.toNat)=R):=by
    show _=_;have:=HR.out;rw[qd9,hc1] at this;simp only[] at this;rw[if_neg hc2] at this;exact this
   have hcl:c.toNat<256:=c.toNat_lt;have ho:=qps acc c.toNat hacc7 hcl;have HA:Hid (acc*256+c.toNat<256^(k+1)):=by show _<_;rw[Nat.pow_succ];omega
   have cT:Calls prog 294 #[.pointer (some ⟨b,0,none⟩)] wr fun e W'=>e=.returned (.int .u8 c.toNat)∧qad W' b {s with pos:=s.pos+(k+1)}∧But b wr W':=qau _ b {s with pos:=s.pos+k} c HX.out.src h1
   go_wp2_with (first
    |(go_at_call 294;refine cT.mono ?_;rintro e w2 ⟨rfl,hS,hB⟩;have HX2:=qaa (HX.out.step hS hB)))
   go_roundg m
   case measure=>omega
   case rel=>exact⟨k+1,acc*256+c.toNat,by simp,by go_num,by show _=_;have:=hm.out;omega,.inr HA.out,HX2,HN⟩
def qq5 (u:Nat):Nat:=if u=0 then 4 else if u=1 then 6 else if u=2 then 7 else if u=3 then 8 else if u=4 then 9 else if u=5 then 10 else 0
def qiN (c:Nat):Nat×Nat×Nat :=
 if c=244 then (2,0,0) else if c=245 then (3,0,0) else if c=246 then (1,0,0) else
 if qq5 (c / 32)=0∨27<c%32 then (0,0,0) else if 24≤c%32 then (qq5 (c / 32),2^(c%32-24),0) else (qq5 (c / 32),0,c%32)
def qgC:List (Nat×Nat):=[(1,0),(0,0),(2,0),(3,0),(7,1),(7,2),(7,4),(0,0),(0,0),(0,0),(0,0),(0,0),(4,1),(4,2),(4,4),(4,8),(5,1),(5,2),(5,4),(5,8),(0,0),(0,0),(0,0),(0,0),(0,0),(8,1),(8,2),(8,4),(9,2),(9,4),(10,2),(10,4)]
def qfo (c:Nat):Nat×Nat×Nat :=
 if c<128 then (4,0,c) else if c<144 then (10,0,c-128) else if c<160 then (9,0,c-144) else if c<192 then (8,0,c-160) else
 if c<224 then ((qgC.getD (c-192) (0,0)).1,(qgC.getD (c-192) (0,0)).2,0) else (5,0,18446744073709551360+c)
structure qdh (W:World):Prop where
 cb:∀u,u<8→W.cell? ⟨0,u,none⟩=some (.int .i64 (qq5 u))
 pk:∀u,u<32→W.cell? ⟨1,u*3,none⟩=some (.int .i64 (qgC.getD u (0,0)).1)∧W.cell? ⟨1,u*3+1,none⟩=some (.int .i64 (qgC.getD u (0,0)).2)∧W.cell? ⟨1,u*3+2,none⟩=some (.int .u64 0)
def hdA (x:Nat×Nat×Nat):Array Value:=#[.int .i64 x.1,.int .i64 x.2.1,.int .u64 x.2.2]
theorem qgr:(prog.info? 273).map (·.size)=some 3:=by kernel_rfl
theorem qdD (W:World)(cs:Array Value)(hc:cs.size=3)(tmps:Array Value)(hp:tmps.getD 2 undef=.pointer (some ⟨W.heap.size,0,none⟩))(h:fn.results=#[.cell 2 273]):(results fn tmps).run prog (W.alloc (.cells cs 273))=.ok (.agg cs) (W.alloc (.cells cs 273)) :=
 results_cell_row h tmps _ W.heap.size 273 cs (0,0) _ hp (qac _ _) underlying273 rfl (by rw[hc];exact qgr)
theorem qmv (x:Nat)(hx:x<256):bits .and .u8 (x:Int) 31=((x%32:Nat):Int):=by
 have e1:BitVec.ofInt 8 (x:Int)=BitVec.ofNat 8 x:=BitVec.ofInt_natCast ..;have e3:(BitVec.ofNat 8 x &&& BitVec.ofInt 8 31).toNat=x%32:=by
  rw[BitVec.toNat_and,BitVec.toNat_ofNat,Nat.mod_eq_of_lt (by omega)];exact Nat.and_two_pow_sub_one_eq_mod x 5
 show IntKind.u8.wrap ((BitVec.ofInt 8 (x:Int) &&& BitVec.ofInt 8 31).toNat:Int)=_;rw[e1,e3];unfold IntKind.wrap;simp[IntKind.bits,IntKind.signed];omega
theorem qwO {u x:Nat}(h0:¬u=0)(h1:((u:Int)==0)=true∨(27:Int)<(x:Int)%32):27<x%32:=by
 rcases h1 with h1|h1
 ·exact absurd (by simpa using h1) h0
 omega
theorem qbH (W:World)(cs:Array Value):Below W.heap.size W (W.alloc (.cells cs 273)):=bwA
theorem qjL (W:World)(x:Nat)(hx:x<256)(h:qdh W):Calls prog 107 #[.int .u8 x] W fun e W'=>e=.returned (.agg (hdA (qiN x)))∧Below W.heap.size W W':=by
 by_cases c0:x=244
 ·subst c0;go_enter func107,ntmps107;go_wp2;exact bodyPost_ret (qdD W _ rfl _ rfl results107) rfl ⟨rfl,qbH _ _⟩
 by_cases c1:x=245
 ·subst c1;go_enter func107,ntmps107;go_wp2;exact bodyPost_ret (qdD W _ rfl _ rfl results107) rfl ⟨rfl,qbH _ _⟩
 by_cases c2:x=246
 ·subst c2;go_enter func107,ntmps107;go_wp2;exact bodyPost_ret (qdD W _ rfl _ rfl results107) rfl ⟨rfl,qbH _ _⟩
 have b0:((x:Int)==244)=false:=by simp;omega
 have b1:((x:Int)==245)=false:=by simp;omega
 have b2:((x:Int)==246)=false:=by simp;omega
 have ha:=qmv x hx;have hq:x / 32<8:=by omega
 have hcell:=h.cb (x / 32) hq;have hk:(W.alloc (.cells #[.int .i64 0,.int .i64 0,.int .u64 0] 273)).cell? ⟨0,x / 32,none⟩=some (.int .i64 (qq5 (x / 32))):=(World.cell?_alloc_some W _ _ (by rw[hcell];rfl)).trans hcell;have HC:Hid (qiN x=if qq5 (x / 32)=0∨27<x%32 then (0,0,0) else if 24≤x%32 then (qq5 (x / 32),2^(x%32-24),0) else (qq5 (x / 32),0,x%32)):=by
  show _=_;unfold qiN;rw[if_neg c0,if_neg c1,if_neg c2]
 go_enter func107,ntmps107;go_wp2
 all_goals refine bodyPost_ret (qdD W _ rfl _ rfl results107) rfl ⟨?_,qbH _ _⟩
 all_goals rw[HC.out]
 ·rename_i h0
  rw[if_pos (.inl h0)];rfl
 ·rename_i h0 h1
  rw[if_pos (.inr (qwO h0 h1))];rfl
 ·rename_i h0 h1 h2
  rw[if_neg (by have:=h1.2;omega),if_pos (by omega)];have e:wrap64 (2^(x%32-24))=((2^(x%32-24):Nat):Int):=by
   have h3:x%32-24=0∨x%32-24=1∨x%32-24=2∨x%32-24=3:=by have:=h1.2;omega
   rcases h3 with h3|h3|h3|h3<;>rw[h3]<;>simp[wrap64]
  rw[e];rfl
 rename_i h0 h1 h2
 rw[if_neg (by have:=h1.2;omega),if_neg (by omega)];unfold hdA;simp
theorem qwv (x:Nat)(h:224≤x)(hx:x<256):IntKind.u64.wrap (IntKind.i8.wrap (x:Int))=((18446744073709551360+x:Nat):Int):=by
 have e:IntKind.i8.wrap (x:Int)=(x:Int)-256:=by
  unfold IntKind.wrap;simp only[IntKind.bits,IntKind.signed,Bool.true_and];split<;>rename_i h<;>simp at h<;>omega
 rw[e];unfold IntKind.wrap;simp only[IntKind.bits,IntKind.signed,Bool.false_and];rw[if_neg (by decide)];omega
theorem qj7 (W:World)(x:Nat)(hx:x<256)(h:qdh W):Calls prog 108 #[.int .u8 x] W fun e W'=>e=.returned (.agg (hdA (qfo x)))∧Below W.heap.size W W':=by
 by_cases c0:x<128
 ·have HC:Hid (qfo x=(4,0,x)):=by show _=_;unfold qfo;rw[if_pos c0]
  have d0:decide ((x:Int)<128)=true:=by simp;omega
  have hxi:IntKind.u64.wrap (x:Int)=x:=by unfold IntKind.wrap;simp[IntKind.bits,IntKind.signed];omega
  clear h c0 hx;go_enter func108,ntmps108;go_wp2;refine bodyPost_ret (qdD W _ rfl _ rfl results108) rfl ⟨?_,qbH _ _⟩;rw[HC.out];rfl
 by_cases c1:192≤x∧x<224
 ·have HC:Hid (qfo x=((qgC.getD (x-192) (0,0)).1,(qgC.getD (x-192) (0,0)).2,0)):=by
   show _=_;unfold qfo;rw[if_neg (by omega),if_neg (by omega),if_neg (by omega),if_neg (by omega),if_pos (by omega)]
  obtain⟨p0,p1,p2⟩:=h.pk (x-192) (by omega);obtain⟨u,hu⟩:∃u:Nat,x=192+u:=⟨x-192,by omega⟩
  subst hu;have e0:192+u-192=u:=by omega
  rw[e0] at p0 p1 p2;have k0:(W.alloc (.cells #[.int .i64 0,.int .i64 0,.int .u64 0] 273)).cell? ⟨1,u*3,none⟩=_:=(World.cell?_alloc_some W _ _ (by rw[p0];rfl)).trans p0;have k1:(W.alloc (.cells #[.int .i64 0,.int .i64 0,.int .u64 0] 273)).cell? ⟨1,u*3+1,none⟩=_:=(World.cell?_alloc_some W _ _ (by rw[p1];rfl)).trans p1;have k2:(W.alloc (.cells #[.int .i64 0,.int .i64 0,.int .u64 0] 273)).cell? ⟨1,u*3+2,none⟩=_:=(World.cell?_alloc_some W _ _ (by rw[p2];rfl)).trans p2;have hul:u<32:=by omega
  clear h p0 p1 p2 hx c0 c1;go_enter func108,ntmps108;go_wp2
  all_goals refine bodyPost_ret (qdD W _ rfl _ rfl results108) rfl ⟨?_,qbH _ _⟩
  all_goals rw[HC.out,e0]
  all_goals rfl
 by_cases c2:x<192
 ·obtain⟨R,HC⟩:∃R,Hid (qfo x=R):=⟨_,show _=_ from rfl⟩
  rw[HC.out];have hr:=HC.out;unfold qfo at hr;rw[if_neg c0] at hr;have HX:Hid (128≤x∧x<192):=⟨by omega,c2⟩
  have d0:decide ((x:Int)<128)=false:=by simp;omega
  by_cases c3:x<144
  ·rw[if_pos c3] at hr;have d1:decide ((x:Int)<144)=true:=by simp;omega
   have HR:=qaa hr.symm;clear hr HC h hx c0 c1 c2 c3;go_enter func108,ntmps108;go_wp2;refine bodyPost_ret (qdD W _ rfl _ rfl results108) rfl ⟨?_,qbH _ _⟩;rw[HR.out,show((x:Int)-128)%256=((x-128:Nat):Int) by have:=HX.out.1;have:=HX.out.2;omega];rfl
  rw[if_neg c3] at hr;have d1:decide ((x:Int)<144)=false:=by simp;omega
  by_cases c4:x<160
  ·rw[if_pos c4] at hr;have d2:decide ((x:Int)<160)=true:=by simp;omega
   have HR:=qaa hr.symm;have HX2:Hid (144≤x):=by show _≤_;omega
   clear hr HC h hx c0 c1 c2 c3 c4;go_enter func108,ntmps108;go_wp2;refine bodyPost_ret (qdD W _ rfl _ rfl results108) rfl ⟨?_,qbH _ _⟩;rw[HR.out,show((x:Int)-144)%256=((x-144:Nat):Int) by have:=HX2.out;have:=HX.out.2;omega];rfl
  rw[if_neg c4,if_pos c2] at hr;have d2:decide ((x:Int)<160)=false:=by simp;omega
  have d3:decide ((x:Int)<192)=true:=by simp;omega
  have HR:=qaa hr.symm;have HX2:Hid (160≤x):=by show _≤_;omega
  clear hr HC h hx c0 c1 c2 c3 c4;go_enter func108,ntmps108;go_wp2;refine bodyPost_ret (qdD W _ rfl _ rfl results108) rfl ⟨?_,qbH _ _⟩;rw[HR.out,show((x:Int)-160)%256=((x-160:Nat):Int) by have:=HX2.out;have:=HX.out.2;omega];rfl
 have HC:Hid (qfo x=(5,0,18446744073709551360+x)):=by
  show _=_;unfold qfo;rw[if_neg (by omega),if_neg (by omega),if_neg (by omega),if_neg (by omega),if_neg (by omega)]
 have d0:decide ((x:Int)<128)=false:=by simp;omega
 have d1:decide ((x:Int)<144)=false:=by simp;omega
 have d2:decide ((x:Int)<160)=false:=by simp;omega
 have d3:decide ((x:Int)<192)=false:=by simp;omega
 have d4:decide ((x:Int)<224)=false:=by simp;omega
 have hw:=qwv x (by omega) hx;have HW:=qaa hw;clear h hx c0 c1 c2 hw;go_enter func108,ntmps108;go_wp2;refine bodyPost_ret (qdD W _ rfl _ rfl results108) rfl ⟨?_,qbH _ _⟩;rw[HC.out,HW.out];rfl
theorem qad.same {s0:Src}(h0:qad W b s0)(hia:s.ia=s0.ia)(hbs:s.bs=s0.bs)(h:qad V b s)(hk:∀k,k<W.heap.size→V'.heap[k]? = V.heap[k]?):qad V' b s:=by
 have hb:=ltA h0.row;refine⟨(hk b hb).trans h.row,fun i hi => ?_,h.len,h.le⟩;obtain⟨g,off,e1,e2,e3⟩:=h.inp i hi;obtain⟨g0,off0,f1,f2,f3⟩:=h0.inp i (by rw[←hbs];exact hi);have hg:g=g0:=by
  rw[hia,f1] at e1;injection e1 with e1;injection e1 with e1;exact e1.symm
 refine⟨g,off,e1,e2,?_⟩;rw[World.cell?_of_block (w:=V) (hk g (by rw[hg];exact block_lt_of_cell f3))];exact e3
theorem qdK {t t':Array Value}(h:results fn t=results fn t'):∀(ds:List Deferred) (u:FrameMode) (w:World),Leaves P fn t R ds u w→Leaves P fn t' R ds u w
 |[],.returning,_,H=>by
  unfold Leaves at *;rw[←h];exact H
 |[],.panicking _,_,H=>H
 |[],.run,_,H=>H
 |_::ds,_,_,H=>by
  obtain⟨h1,fv,cap,f,args,h2,h3,h4⟩:=H;refine⟨h1,fv,cap,f,args,h2,h3,h4.mono fun e u' w' hh => ?_⟩
  cases e with
  |returned v=>exact qdK h ds _ _ hh
  |panicked c=>exact qdK h ds _ _ hh
  |outgrown=>exact hh
theorem qbt (hres:fn.results=#[.tmp 2])(d:Tmp)(hd:d≠2)(v:Value)(c:List PanicEntry)(a:Act)(w:World)(h:bodyPostD P fn R (.panic c) (a.put (some d) v) w):bodyPostD P fn R (.panic c) a w:=by
 refine qdK (t:=(a.put (some d) v).tmps) ?_ _ _ _ h;unfold results;rw[hres];have e:(a.put (some d) v).tmps[2]?.getD undef=a.tmps[2]?.getD undef:=by
  show(a.tmps.setIfInBounds d v)[2]?.getD undef=_;rw[Array.getElem?_setIfInBounds_ne hd]
 simp[e]
theorem qev (hres:fn.results=#[.tmp 2])(t:Array Value)(w:World):(results fn t).run P w=.ok (t.getD 2 undef) w:=by
 unfold results;rw[hres];simp
structure qnk (W0:World)(b N M:Nat)(fv:Value)(so w g:Nat)(s:Src)(W:World):Prop where
 src:qad W b s
 but:But b W0 W
 box:W.heap[N]? = some (.cells #[.pointer (some ⟨b,0,none⟩),fv] 201)
 hd:W.heap[M]? = some (.cells #[.int .i64 so,.int .i64 w,.int .u64 g] 273)
 ne:b<N
 nm:b<M
theorem qnk.step {W0:World}{N M:Nat}{s':Src}(h:qnk W0 b N M fv so w g s W)(hs:qad W' b s')(hb:But b W W'):qnk W0 b N M fv so w g s' W' :=
 ⟨hs,h.but.trans hb,(hb.block _ (ltA h.box) (by have:=h.ne;omega)).trans h.box,(hb.block _ (ltA h.hd) (by have:=h.nm;omega)).trans h.hd,h.ne,h.nm⟩
theorem qe3 (M:Nat)(h0:qad W b s)(hV:qad V b s.next)(hB:But b W V)(hbox:V.heap[W.heap.size]? = some (.cells #[.pointer (some ⟨b,0,none⟩),fv] 201))(hM:W.heap.size<M)(hz:V.heap[M]? = some (.cells #[.int .i64 0,.int .i64 0,.int .u64 0] 273)):qnk W b W.heap.size M fv so w g s.next (V.setRow M #[.int .i64 so,.int .i64 w,.int .u64 g]):=by
 have hb:=ltA h0.row;refine⟨h0.same rfl rfl hV (fun k hk=>setRow_other _ _ _ _ (by omega)),⟨hB.os,hB.tape,hB.output,by simpa using hB.size,fun k hk hne=>sx (by omega) (hB.block k hk hne)⟩,sx (by omega) hbox,setRow_heap _ _ _ _ _ _ hz,hb,by omega⟩
def qhb (bs:List UInt8)(lim:Int):Nat→Nat→List UInt8→Except (Int×Int) (List UInt8×Nat)
 |0,p,acc=>.ok (acc,p)
 |k+1,p,acc=>match bs[p]? with
  |none=>.error (9,p)
  |some c=>if (p:Int)=lim then .error (8,p) else qhb bs lim k (p+1) (acc++[c])
def qhz {α:Type}(W:World)(b:Nat)(s:Src)(val:World→Value→α→Prop)(r:Except (Int×Int) (α×Nat))(e:Ending)(W':World):Prop :=
 But b W W'∧match r with
 |.ok (x,p)=>(∃v,e=.returned v∧val W' v x)∧qad W' b {s with pos:=p}
 |.error (en,pl)=>qao en pl e∧∃p,qad W' b {s with pos:=p}
structure qrK (W:World)(b:Nat)(fv:Value)(s:Src)(p:Nat)(v:Value)(acc:List UInt8)(V:World):Prop where
 src:qad V b {s with pos:=p}
 but:But b W V
 box:V.heap[W.heap.size]? = some (.cells #[.pointer (some ⟨b,0,none⟩),fv] 201)
 own:Own V (W.heap.size+1) v acc
theorem quv {base:Nat}{bs:List UInt8}(h:Own W base v bs)(hB:But b W W')(hn:b<base):Own W' base v bs:=by
 obtain⟨⟨h1,h2⟩,h3,h4⟩:=h;refine⟨⟨h1,?_⟩,Nat.le_trans h3 hB.size,h4⟩;rcases h2 with h2|⟨g,cap,cur,e,hb,hg,h5⟩
 ·exact .inl h2
 exact .inr ⟨g,cap,cur,e,hb,(hB.block g (ltA hg) (by omega)).trans hg,h5⟩
theorem qrK.take {q:Nat}(h:qrK W b fv s p v acc V)(hb:b<W.heap.size)(hs:qad V' b {s with pos:=q})(hB:But b V V'):qrK W b fv s q v acc V' :=
 ⟨hs,h.but.trans hB,(hB.block _ (ltA h.box) (by omega)).trans h.box,quv h.own hB (by omega)⟩
theorem qrK.grow {v':Value}{acc':List UInt8}(h:qrK W b fv s p v acc V)(h0:qad W b s)(hB:Below (W.heap.size+1) V V')(ho:Own V' (W.heap.size+1) v' acc'):qrK W b fv s p v' acc' V' :=
 ⟨h0.same rfl rfl h.src (fun k hk=>hB.block k (by omega)),⟨hB.os.trans h.but.os,hB.tape.trans h.but.tape,hB.output.trans h.but.output,Nat.le_trans h.but.size hB.size,fun k hk hn=>(hB.block k (by omega)).trans (h.but.block k hk hn)⟩,(hB.block _ (by omega)).trans h.box,ho⟩
theorem qtP (fv:Value)(h:qad W b s):qrK W b fv s s.pos (.slice none 0 0) [] (W.alloc (.cells #[.pointer (some ⟨b,0,none⟩),fv] 201)):=by
 have hB:Below W.heap.size W (W.alloc (.cells #[.pointer (some ⟨b,0,none⟩),fv] 201)):=bwA;refine⟨h.below hB,But.of_below hB,qac W _,World.ownsRow_nil _ _ _ _,?_,none,0,0,rfl⟩;simp
theorem qiw (W:World)(b:Nat)(s:Src)(f n:Nat)(hn:n<18446744073709551616)(h:qad W b s)(hlen:s.bs.length≤200000000):Calls prog 328 #[.agg #[.pointer (some ⟨b,0,none⟩),.func (.func f) #[] #[]],.int .u64 n] W (qhz W b s (fun V v l=>Own V (W.heap.size+1) v l) (qhb s.bs s.lim n s.pos [])):=by
 obtain⟨i0,hi,hz0,hz1,hz2⟩:=info_parts Tryz.infoU8;have HX0:Hid (qrK W b (.func (.func f) #[] #[]) s s.pos (.slice none 0 0) [] (W.alloc (.cells #[.pointer (some ⟨b,0,none⟩),.func (.func f) #[] #[]] 201))):=qtP _ h;have HS0:=qaa h;have hbN:=ltA h.row;have hle:=h.le;obtain⟨R,HR⟩:∃R,Hid (qhb s.bs s.lim n s.pos []=R):=⟨_,show _=_ from rfl⟩
 rw[HR.out];clear h;go_enter func328,ntmps328;go_wp2;generalize W.alloc (.cells #[.pointer (some ⟨b,0,none⟩),.func (.func f) #[] #[]] 201)=W0 at *
 go_loopg [5,7] n (fun g y z wr=>∃(k p:Nat) (a:Option Addr) (m c:Nat) (acc:List UInt8),y=.slice a m c∧z=.int .u64 k∧Hid (k+g=n)∧Hid (p≤s.bs.length)∧Hid (acc.length≤p)∧Hid (qrK W b (.func (.func f) #[] #[]) s p (.slice a m c) acc wr)∧Hid (qhb s.bs s.lim g p acc=R))
 case atStart=>exact⟨0,s.pos,none,0,0,[],rfl,rfl,by show _=_;omega,hle,by show 0≤_;omega,HX0,HR⟩
 case round =>
  clear HX0 HR;obtain⟨k,p,a,m,c0,acc,rfl,rfl,hg,hp,ha,HX,HR⟩:=hrel;have kb:=qab HX.out.box 0
  cases gk with
  |zero =>
   have hk:k=n:=by have:=hg.out;omega
   subst hk;have HE:Hid (R=.ok (acc,p)):=HR.out.symm;clear HR hg;go_wp2;go_ret;rw[HE.out];exact⟨HX.out.but,⟨_,rfl,HX.out.own⟩,HX.out.src⟩
  |succ g =>
   have hkn:k<n:=by have:=hg.out;omega
   have e1:decide ((k:Int)<(n:Int))=true:=by simp;omega
   have e2:decide (k<n)=true:=by simp;omega
   rcases qaM HX.out.src with h1|h1|⟨c,h1⟩
   ·have HE:Hid (R=.error (9,(p:Int))):=by
     show _=_;rw[←HR.out,qhb,List.getElem?_eq_none (by have:p=s.bs.length:=h1;omega)]
    have cT:=qbm _ b {s with pos:=p} HX.out.src h1;clear HR h1
    go_wp2_with (first
     |(go_at_call 294;refine cT.mono ?_;clear cT;rintro e w2 ⟨hF,hB⟩;obtain rfl:=hF))
    rw[HE.out];exact⟨rfl,HX.out.but.trans (But.of_below hB),rfl,_,HX.out.src.below hB⟩
   ·have HE:Hid (R=.error (8,(p:Int))):=by
     show _=_;have h2:(p:Int)=s.lim:=h1.2;have h3:p<s.bs.length:=h1.1;rw[←HR.out,qhb,List.getElem?_eq_getElem h3];simp only[];rw[if_pos h2]
    have cT:=qaP _ b {s with pos:=p} HX.out.src h1;clear HR h1
    go_wp2_with (first
     |(go_at_call 294;refine cT.mono ?_;rintro e w2 ⟨hF,hB⟩;obtain rfl:=hF))
    rw[HE.out];exact⟨rfl,HX.out.but.trans (But.of_below hB),rfl,_,HX.out.src.below hB⟩
   have hc1:s.bs[p]? = some c:=h1.1;have hc2:¬(p:Int)=s.lim:=h1.2;have HPL:Hid (p<s.bs.length):=h1.lt;have hr:=HR.out;rw[qhb,hc1] at hr;simp only[] at hr;rw[if_neg hc2] at hr;have HN:=qaa hr;have cT:Calls prog 294 #[.pointer (some ⟨b,0,none⟩)] wr fun e W'=>e=.returned (.int .u8 c.toNat)∧qad W' b {s with pos:=p+1}∧But b wr W':=qau _ b {s with pos:=p} c HX.out.src h1;have hal:acc.length≤999999999:=by have:=ha.out;have:=hp.out;omega
   go_wp2_with (first
    |(go_at_call 294;refine cT.mono ?_;rintro e w2 ⟨rfl,hS,hB⟩;have HX2:=qaa (HX.out.take hbN hS hB);have HO:=qaa HX2.out.own.1;have HBS:=qaa HX2.out.own.2.1)
    |(at_builtin;refine wpList_append_own _ rfl _ _ 202 rfl (W.heap.size+1) 5 i0 (.int .u8 0) 1 1 underlying202 hi hz0 hz1 hz2 rfl (by decide) _ _ _ rfl (HO.out.alloc _) ⟨w2.heap.size,0,none⟩ 1 1 [.int .u8 c.toNat] rfl rfl (qag _ _ _) (fun u hu=>by simp at hu;subst hu;rfl) (by unfold maxLen;omega) (by omega) (by simp;have:=HBS.out;omega) ?_;intro v' w5 hown' hgrow5 hnil5;obtain⟨g5,cap5,rfl⟩:=ownsRow_succ hown';have HB5:=qaa (qaz ((Below.refl _ w2).alloc HBS.out _) (HO.out.alloc _) hgrow5 (by simp;have:=HBS.out;omega));have HX5:=qaa (HX2.out.grow HS0.out HB5.out ⟨qbG hown' rfl,Nat.le_trans HBS.out HB5.out.size,_,_,_,rfl⟩)))
   go_roundg g
   case measure=>omega
   case rel=>exact⟨k+1,p+1,_,_,_,acc++[c],rfl,by go_num,by show _=_;have:=hg.out;omega,HPL,by show _≤_;rw[List.length_append];have:=ha.out;simp;omega,HX5,HN⟩
def skR (bs:List UInt8)(l:Int):Nat→Nat→Nat
 |0,p=>p
 |g+1,p=>match bs[p]? with
  |none=>p
  |some c=>if (p:Int)<l then (if qxm c=true then skR bs l g (p+1) else p) else p
theorem qxH (bs:List UInt8)(k:Nat)(c:UInt8)(hc:bs[k]? = some c)(V:World):(Instr.index 9 (.string ⟨bs.toArray⟩) (.int .i64 (k:Int))).run prog V=.ok (.int .u8 c.toNat) V:=by
 have hk:=ltL hc;have hs:=qym bs;have hh:(0:Int)≤(k:Int)∧(k:Int)<((⟨bs.toArray⟩:ByteArray).size:Int):=by rw[hs];omega
 rw[run_index_string (h:=underlying9),dif_pos hh];have h2:(⟨bs.toArray⟩:ByteArray)[(k:Int).toNat]'(by rw[hs];omega)=c:=by
  show bs.toArray[(k:Int).toNat]'(by simp;omega)=c;have h3:=(List.getElem?_eq_some_iff.1 hc).2;simp only[Int.toNat_natCast,List.getElem_toArray];exact h3
 rw[h2]
theorem qyY (W:World)(bs:List UInt8)(fm d l:Int)(i:Nat)(hb:bs.length≤200000000)(hi:i≤bs.length):Calls prog 69 #[inV bs fm d l,.int .i64 i] W fun e W'=>e=.returned (.int .i64 (skR bs l (bs.length+1-i) i))∧Below W.heap.size W W':=by
 obtain⟨R,HR⟩:∃R,Hid (skR bs l (bs.length+1-i) i=R):=⟨_,show _=_ from rfl⟩
 rw[HR.out];have HX:Hid ((W.alloc (.cells #[.string ⟨bs.toArray⟩,.int .i64 fm,.int .i64 d,.int .i64 l] 143)).heap[W.heap.size]? = some (.cells #[.string ⟨bs.toArray⟩,.int .i64 fm,.int .i64 d,.int .i64 l] 143)):=qac _ _;have HB:Hid (Below W.heap.size W (W.alloc (.cells #[.string ⟨bs.toArray⟩,.int .i64 fm,.int .i64 d,.int .i64 l] 143))):=bwA;have cH:∀(V:World) (k:Nat),Calls prog 113 #[.agg #[.string ⟨bs.toArray⟩,.int .i64 fm,.int .i64 d,.int .i64 l],.int .i64 k] V fun e W'=>e=.returned (.bool (qyb bs l k))∧Below V.heap.size V W':=fun V k=>qzK V bs fm d l k;unfold inV;go_enter func69,ntmps69;go_wp2;generalize W.alloc (.cells #[.string ⟨bs.toArray⟩,.int .i64 fm,.int .i64 d,.int .i64 l] 143)=W0 at *
 go_loopg [1] (bs.length+1-i) (fun g z wr=>∃k:Nat,z=.int .i64 k∧Hid (bs.length+1≤k+g)∧Hid (k≤bs.length)∧Hid (wr.heap[W.heap.size]? = some (.cells #[.string ⟨bs.toArray⟩,.int .i64 fm,.int .i64 d,.int .i64 l] 143))∧Hid (Below W.heap.size W wr)∧Hid (skR bs l g k=R))
 case atStart=>exact⟨i,rfl,by show _≤_;omega,hi,HX,HB,HR⟩
 case round =>
  clear HX HB HR;obtain⟨k,rfl,hg,hk,HX,HB,HR⟩:=hrel;obtain⟨g,rfl⟩:∃g,gk=g+1:=⟨gk-1,by have:=hg.out;have:=hk.out;omega⟩
  have hkk:=hk.out;have c0:=qab HX.out 0;have c1:=qab HX.out 1;have c2:=qab HX.out 2;have c3:=qab HX.out 3;have hlt:=ltA HX.out;have hr:=HR.out;rw[skR] at hr;have cH1:=cH wr k;clear HR cH
  cases hc:bs[k]? with
  |none =>
   rw[hc] at hr;simp only[] at hr;have hh:qyb bs l k=false:=by
    unfold qyb;rw[decide_eq_false (by have:=List.getElem?_eq_none_iff.1 hc;omega)];rfl
   rw[hh] at cH1;have HE:=qaa hr.symm;clear hr hc hh
   go_wp2_with (first
    |(go_at_call 113;refine cH1.mono ?_;clear cH1;rintro e w2 ⟨rfl,hB2⟩))
   go_ret;rw[HE.out];exact⟨rfl,HB.out.trans (hB2.mono HB.out.size)⟩
  |some c =>
   rw[hc] at hr;simp only[] at hr;have hkl:=ltL hc;have HIX:Hid (∀V,(Instr.index 9 (.string ⟨bs.toArray⟩) (.int .i64 (k:Int))).run prog V=.ok (.int .u8 c.toNat) V):=fun V=>qxH bs k c hc V;by_cases hl:(k:Int)<l
   ·rw[if_pos hl] at hr;have hh:qyb bs l k=true:=by
     unfold qyb;rw[decide_eq_true hkl,decide_eq_true hl];rfl
    rw[hh] at cH1;have cW:=fun V=>q3C V c;have hix:=HIX.out;cases hs:qxm c
    ·rw[hs] at hr cW;have HE:Hid (R=k):=hr.symm;clear hr hc hh hs
     go_wp2_with (first
      |(go_at_call 113;refine cH1.mono ?_;clear cH1 c0 c1 c2 c3;rintro e w2 ⟨rfl,hB2⟩;have HX2:=(hB2.block _ hlt).trans HX.out;have c0:=qab HX2 0)
      |(go_at_call 114;refine(cW _).mono ?_;clear cW;rintro e w3 ⟨rfl,rfl⟩))
     go_ret;rw[HE.out];exact⟨rfl,HB.out.trans (hB2.mono HB.out.size)⟩
    rw[hs] at hr cW;have HN:Hid (skR bs l g (k+1)=R):=hr;clear hr hc hh hs
    go_wp2_with (first
     |(go_at_call 113;refine cH1.mono ?_;clear cH1 c0 c1 c2 c3;rintro e w2 ⟨rfl,hB2⟩;have HX2:=qaa ((hB2.block _ hlt).trans HX.out);have c0:=qab HX2.out 0)
     |(go_at_call 114;refine(cW _).mono ?_;clear cW;rintro e w3 ⟨rfl,rfl⟩))
    go_roundg g
    case measure=>omega
    case rel=>exact⟨k+1,by go_num,by show _≤_;have:=hg.out;omega,hkl,HX2,HB.out.trans (hB2.mono HB.out.size),HN⟩
   rw[if_neg hl] at hr;have hh:qyb bs l k=false:=by
    unfold qyb;rw[decide_eq_false hl,Bool.and_false]
   rw[hh] at cH1;have HE:=qaa hr.symm;clear hr hc hh
   go_wp2_with (first
    |(go_at_call 113;refine cH1.mono ?_;clear cH1;rintro e w2 ⟨rfl,hB2⟩))
   go_ret;rw[HE.out];exact⟨rfl,HB.out.trans (hB2.mono HB.out.size)⟩
def q0j (bs:List UInt8)(l:Int)(i:Nat):Bool:=match bs[i]? with
 |none=>false
 |some c=>decide ((i:Int)<l)&&qcQ c
theorem q1t (W:World)(bs:List UInt8)(fm d l:Int)(i:Nat):Calls prog 206 #[inV bs fm d l,.int .i64 i] W fun e W'=>e=.returned (.bool (q0j bs l i))∧Below W.heap.size W W':=by
 obtain⟨R,HR⟩:∃R,Hid (q0j bs l i=R):=⟨_,show _=_ from rfl⟩
 rw[HR.out];have hr:=HR.out;unfold q0j at hr;have HX:Hid ((W.alloc (.cells #[.string ⟨bs.toArray⟩,.int .i64 fm,.int .i64 d,.int .i64 l] 143)).heap[W.heap.size]? = some (.cells #[.string ⟨bs.toArray⟩,.int .i64 fm,.int .i64 d,.int .i64 l] 143)):=qac _ _;have HB:Hid (Below W.heap.size W (W.alloc (.cells #[.string ⟨bs.toArray⟩,.int .i64 fm,.int .i64 d,.int .i64 l] 143))):=bwA;have cH:Calls prog 113 #[.agg #[.string ⟨bs.toArray⟩,.int .i64 fm,.int .i64 d,.int .i64 l],.int .i64 i] (W.alloc (.cells #[.string ⟨bs.toArray⟩,.int .i64 fm,.int .i64 d,.int .i64 l] 143)) fun e W'=>e=.returned (.bool (qyb bs l i))∧Below (W.alloc (.cells #[.string ⟨bs.toArray⟩,.int .i64 fm,.int .i64 d,.int .i64 l] 143)).heap.size (W.alloc (.cells #[.string ⟨bs.toArray⟩,.int .i64 fm,.int .i64 d,.int .i64 l] 143)) W':=qzK _ bs fm d l i;have hlt:=ltA HX.out;unfold inV;have hno:qyb bs l i=false→R=false:=fun hh=>by
  rw[←hr];unfold qyb at hh
  cases hc:bs[i]? with
  |none=>rfl
  |some c =>
   rw[decide_eq_true (ltL hc),Bool.true_and] at hh;simp only[];rw[hh];rfl
 cases hh:qyb bs l i
 ·have HE:=qaa (hno hh);rw[hh] at cH;go_enter func206,ntmps206
  go_wp2_with (first
   |(go_at_call 113;refine cH.mono ?_;rintro e w2 ⟨rfl,hB2⟩))
  go_ret;rw[HE.out];exact⟨rfl,HB.out.trans (hB2.mono HB.out.size)⟩
 rw[hh] at cH;unfold qyb at hh;rw[Bool.and_eq_true] at hh;have h1:=of_decide_eq_true hh.1;obtain⟨c,hc⟩:∃c,bs[i]? = some c:=⟨bs[i],List.getElem?_eq_getElem h1⟩
 rw[hc] at hr;simp only[] at hr;rw[hh.2,Bool.true_and] at hr;have hix:=qxH bs i c hc;unfold qcQ at hr;by_cases g1:(48:Int)≤(c.toNat:Int)
 ·by_cases g2:(c.toNat:Int)≤57
  ·have HE:Hid (R=true):=by show _=_;rw[←hr];exact decide_eq_true ⟨g1,g2⟩
   go_enter func206,ntmps206
   go_wp2_with (first
    |(go_at_call 113;refine cH.mono ?_;rintro e w2 ⟨rfl,hB2⟩;have c0:=qab ((hB2.block _ hlt).trans HX.out) 0))
   go_ret;rw[HE.out];exact⟨rfl,HB.out.trans (hB2.mono HB.out.size)⟩
  have HE:Hid (R=false):=by show _=_;rw[←hr];exact decide_eq_false (fun hh=>g2 hh.2)
  go_enter func206,ntmps206
  go_wp2_with (first
   |(go_at_call 113;refine cH.mono ?_;rintro e w2 ⟨rfl,hB2⟩;have c0:=qab ((hB2.block _ hlt).trans HX.out) 0))
  go_ret;rw[HE.out];have g3:decide ((c.toNat:Int)≤57)=false:=decide_eq_false (by omega);exact⟨by rw[g3];rfl,HB.out.trans (hB2.mono HB.out.size)⟩
 have HE:Hid (R=false):=by show _=_;rw[←hr];exact decide_eq_false (fun hh=>g1 hh.1)
 go_enter func206,ntmps206
 go_wp2_with (first
  |(go_at_call 113;refine cH.mono ?_;rintro e w2 ⟨rfl,hB2⟩;have c0:=qab ((hB2.block _ hlt).trans HX.out) 0))
 go_ret;rw[HE.out];exact⟨rfl,HB.out.trans (hB2.mono HB.out.size)⟩
end
end Go.Proofs.YtllcbnfmihfaaaaGreatDoor
