import Derived.Test.YtllcbnfmihfaaaaGreatDoorUq02
set_option maxRecDepth 100000
set_option maxHeartbeats 8000000
namespace Go.Proofs.YtllcbnfmihfaaaaGreatDoor
open Go.Proofs.Tryz
section
open Go.RowKit
def qcQ (u:Nat):Nat:=if u=0 then 4 else if u=1 then 6 else if u=2 then 7 else if u=3 then 8 else if u=4 then 9 else if u=5 then 10 else 0
def qcs (c:Nat):Nat×Nat×Nat :=
 if c=244 then (2,0,0) else if c=245 then (3,0,0) else if c=246 then (1,0,0) else
 if qcQ (c / 32)=0∨27<c%32 then (0,0,0) else if 24≤c%32 then (qcQ (c / 32),2^(c%32-24),0) else (qcQ (c / 32),0,c%32)
def qeF:List (Nat×Nat):=[(1,0),(0,0),(2,0),(3,0),(7,1),(7,2),(7,4),(0,0),(0,0),(0,0),(0,0),(0,0),(4,1),(4,2),(4,4),(4,8),(5,1),(5,2),(5,4),(5,8),(0,0),(0,0),(0,0),(0,0),(0,0),(8,1),(8,2),(8,4),(9,2),(9,4),(10,2),(10,4)]
def qbG (c:Nat):Nat×Nat×Nat :=
 if c<128 then (4,0,c) else if c<144 then (10,0,c-128) else if c<160 then (9,0,c-144) else if c<192 then (8,0,c-160) else
 if c<224 then ((qeF.getD (c-192) (0,0)).1,(qeF.getD (c-192) (0,0)).2,0) else (5,0,18446744073709551360+c)
structure qcv (W:World):Prop where
 cb:∀u,u<8→W.cell? ⟨0,u,none⟩=some (.int .i64 (qcQ u))
 pk:∀u,u<32→W.cell? ⟨1,u*3,none⟩=some (.int .i64 (qeF.getD u (0,0)).1)∧W.cell? ⟨1,u*3+1,none⟩=some (.int .i64 (qeF.getD u (0,0)).2)∧W.cell? ⟨1,u*3+2,none⟩=some (.int .u64 0)
def hdA (x:Nat×Nat×Nat):Array Value:=#[.int .i64 x.1,.int .i64 x.2.1,.int .u64 x.2.2]
theorem qew:(prog.info? 273).map (·.size)=some 3:=by kernel_rfl
theorem qcX (W:World)(cs:Array Value)(hc:cs.size=3)(tmps:Array Value)(hp:tmps.getD 2 undef=.pointer (some ⟨W.heap.size,0,none⟩)){fn:Func}(h:fn.results=#[.cell 2 273]):(results fn tmps).run prog (W.alloc (.cells cs 273))=.ok (.agg cs) (W.alloc (.cells cs 273)) :=
 results_cell_row h tmps _ W.heap.size 273 cs (0,0) _ hp (qab _ _) underlying273 rfl (by rw[hc];exact qew)
theorem qkf (x:Nat)(hx:x<256):bits .and .u8 (x:Int) 31=((x%32:Nat):Int):=by
 have e1:BitVec.ofInt 8 (x:Int)=BitVec.ofNat 8 x:=BitVec.ofInt_natCast ..
 have e3:(BitVec.ofNat 8 x &&& BitVec.ofInt 8 31).toNat=x%32:=by
  rw[BitVec.toNat_and,BitVec.toNat_ofNat,Nat.mod_eq_of_lt (by omega)]
  exact Nat.and_two_pow_sub_one_eq_mod x 5
 show IntKind.u8.wrap ((BitVec.ofInt 8 (x:Int) &&& BitVec.ofInt 8 31).toNat:Int)=_
 rw[e1,e3]
 unfold IntKind.wrap
 simp[IntKind.bits,IntKind.signed]
 omega
theorem qoq {u x:Nat}(h0:¬u=0)(h1:((u:Int)==0)=true∨(27:Int)<(x:Int)%32):27<x%32:=by
 rcases h1 with h1|h1
 ·exact absurd (by simpa using h1) h0
 ·omega
theorem qb3 (W:World)(cs:Array Value):Below W.heap.size W (W.alloc (.cells cs 273)):=bwA
theorem qgv (W:World)(x:Nat)(hx:x<256)(h:qcv W):Calls prog 107 #[.int .u8 x] W fun e W'=>e=.returned (.agg (hdA (qcs x)))∧Below W.heap.size W W':=by
 by_cases c0:x=244
 ·subst c0
  clear h hx
  go_enter func107,ntmps107
  go_wp2
  exact bodyPost_ret (qcX W _ rfl _ rfl results107) rfl ⟨rfl,qb3 _ _⟩
 by_cases c1:x=245
 ·subst c1
  clear h hx c0
  go_enter func107,ntmps107
  go_wp2
  exact bodyPost_ret (qcX W _ rfl _ rfl results107) rfl ⟨rfl,qb3 _ _⟩
 by_cases c2:x=246
 ·subst c2
  clear h hx c0 c1
  go_enter func107,ntmps107
  go_wp2
  exact bodyPost_ret (qcX W _ rfl _ rfl results107) rfl ⟨rfl,qb3 _ _⟩
 have b0:((x:Int)==244)=false:=by simp;omega
 have b1:((x:Int)==245)=false:=by simp;omega
 have b2:((x:Int)==246)=false:=by simp;omega
 have ha:=qkf x hx
 have hq:x / 32<8:=by omega
 have hcell:=h.cb (x / 32) hq
 have hk:(W.alloc (.cells #[.int .i64 0,.int .i64 0,.int .u64 0] 273)).cell? ⟨0,x / 32,none⟩=some (.int .i64 (qcQ (x / 32))):=(World.cell?_alloc_some W _ _ (by rw[hcell];rfl)).trans hcell
 have HC:Hid (qcs x=if qcQ (x / 32)=0∨27<x%32 then (0,0,0) else if 24≤x%32 then (qcQ (x / 32),2^(x%32-24),0) else (qcQ (x / 32),0,x%32)):=by
  show _=_
  unfold qcs
  rw[if_neg c0,if_neg c1,if_neg c2]
 clear h hcell c0 c1 c2
 go_enter func107,ntmps107
 go_wp2
 all_goals refine bodyPost_ret (qcX W _ rfl _ rfl results107) rfl ⟨?_,qb3 _ _⟩
 all_goals rw[HC.out]
 ·rename_i h0
  rw[if_pos (.inl h0)]
  rfl
 ·rename_i h0 h1
  rw[if_pos (.inr (qoq h0 h1))]
  rfl
 ·rename_i h0 h1 h2
  rw[if_neg (by have:=h1.2;omega),if_pos (by omega)]
  have e:wrap64 (2^(x%32-24))=((2^(x%32-24):Nat):Int):=by
   have h3:x%32-24=0∨x%32-24=1∨x%32-24=2∨x%32-24=3:=by have:=h1.2;omega
   rcases h3 with h3|h3|h3|h3<;>rw[h3]<;>simp[wrap64]
  rw[e]
  rfl
 ·rename_i h0 h1 h2
  rw[if_neg (by have:=h1.2;omega),if_neg (by omega)]
  unfold hdA
  simp
theorem qoi (x:Nat)(h:224≤x)(hx:x<256):IntKind.u64.wrap (IntKind.i8.wrap (x:Int))=((18446744073709551360+x:Nat):Int):=by
 have e:IntKind.i8.wrap (x:Int)=(x:Int)-256:=by
  unfold IntKind.wrap
  simp only[IntKind.bits,IntKind.signed,Bool.true_and]
  split<;>rename_i h<;>simp at h<;>omega
 rw[e]
 unfold IntKind.wrap
 simp only[IntKind.bits,IntKind.signed,Bool.false_and]
 rw[if_neg (by decide)]
 omega
theorem qhj (W:World)(x:Nat)(hx:x<256)(h:qcv W):Calls prog 108 #[.int .u8 x] W fun e W'=>e=.returned (.agg (hdA (qbG x)))∧Below W.heap.size W W':=by
 by_cases c0:x<128
 ·have HC:Hid (qbG x=(4,0,x)):=by show _=_;unfold qbG;rw[if_pos c0]
  have d0:decide ((x:Int)<128)=true:=by simp;omega
  have hxi:IntKind.u64.wrap (x:Int)=x:=by unfold IntKind.wrap;simp[IntKind.bits,IntKind.signed];omega
  clear h c0 hx
  go_enter func108,ntmps108
  go_wp2
  refine bodyPost_ret (qcX W _ rfl _ rfl results108) rfl ⟨?_,qb3 _ _⟩
  rw[HC.out]
  rfl
 by_cases c1:192≤x∧x<224
 ·have HC:Hid (qbG x=((qeF.getD (x-192) (0,0)).1,(qeF.getD (x-192) (0,0)).2,0)):=by
   show _=_
   unfold qbG
   rw[if_neg (by omega),if_neg (by omega),if_neg (by omega),if_neg (by omega),if_pos (by omega)]
  obtain⟨p0,p1,p2⟩:=h.pk (x-192) (by omega)
  obtain⟨u,hu⟩:∃u:Nat,x=192+u:=⟨x-192,by omega⟩
  subst hu
  have e0:192+u-192=u:=by omega
  rw[e0] at p0 p1 p2
  have k0:(W.alloc (.cells #[.int .i64 0,.int .i64 0,.int .u64 0] 273)).cell? ⟨1,u*3,none⟩=_:=(World.cell?_alloc_some W _ _ (by rw[p0];rfl)).trans p0
  have k1:(W.alloc (.cells #[.int .i64 0,.int .i64 0,.int .u64 0] 273)).cell? ⟨1,u*3+1,none⟩=_:=(World.cell?_alloc_some W _ _ (by rw[p1];rfl)).trans p1
  have k2:(W.alloc (.cells #[.int .i64 0,.int .i64 0,.int .u64 0] 273)).cell? ⟨1,u*3+2,none⟩=_:=(World.cell?_alloc_some W _ _ (by rw[p2];rfl)).trans p2
  have hul:u<32:=by omega
  clear h p0 p1 p2 hx c0 c1
  go_enter func108,ntmps108
  go_wp2
  all_goals refine bodyPost_ret (qcX W _ rfl _ rfl results108) rfl ⟨?_,qb3 _ _⟩
  all_goals rw[HC.out,e0]
  all_goals rfl
 by_cases c2:x<192
 ·obtain⟨R,HC⟩:∃R,Hid (qbG x=R):=⟨_,show _=_ from rfl⟩
  rw[HC.out]
  have hr:=HC.out
  unfold qbG at hr
  rw[if_neg c0] at hr
  have HX:Hid (128≤x∧x<192):=⟨by omega,c2⟩
  have d0:decide ((x:Int)<128)=false:=by simp;omega
  by_cases c3:x<144
  ·rw[if_pos c3] at hr
   have d1:decide ((x:Int)<144)=true:=by simp;omega
   have HR:Hid (R=(10,0,x-128)):=hr.symm
   clear hr HC h hx c0 c1 c2 c3
   go_enter func108,ntmps108
   go_wp2
   refine bodyPost_ret (qcX W _ rfl _ rfl results108) rfl ⟨?_,qb3 _ _⟩
   rw[HR.out,show((x:Int)-128)%256=((x-128:Nat):Int) by have:=HX.out.1;have:=HX.out.2;omega]
   rfl
  rw[if_neg c3] at hr
  have d1:decide ((x:Int)<144)=false:=by simp;omega
  by_cases c4:x<160
  ·rw[if_pos c4] at hr
   have d2:decide ((x:Int)<160)=true:=by simp;omega
   have HR:Hid (R=(9,0,x-144)):=hr.symm
   have HX2:Hid (144≤x):=by show _≤_;omega
   clear hr HC h hx c0 c1 c2 c3 c4
   go_enter func108,ntmps108
   go_wp2
   refine bodyPost_ret (qcX W _ rfl _ rfl results108) rfl ⟨?_,qb3 _ _⟩
   rw[HR.out,show((x:Int)-144)%256=((x-144:Nat):Int) by have:=HX2.out;have:=HX.out.2;omega]
   rfl
  rw[if_neg c4,if_pos c2] at hr
  have d2:decide ((x:Int)<160)=false:=by simp;omega
  have d3:decide ((x:Int)<192)=true:=by simp;omega
  have HR:Hid (R=(8,0,x-160)):=hr.symm
  have HX2:Hid (160≤x):=by show _≤_;omega
  clear hr HC h hx c0 c1 c2 c3 c4
  go_enter func108,ntmps108
  go_wp2
  refine bodyPost_ret (qcX W _ rfl _ rfl results108) rfl ⟨?_,qb3 _ _⟩
  rw[HR.out,show((x:Int)-160)%256=((x-160:Nat):Int) by have:=HX2.out;have:=HX.out.2;omega]
  rfl
 ·have HC:Hid (qbG x=(5,0,18446744073709551360+x)):=by
   show _=_
   unfold qbG
   rw[if_neg (by omega),if_neg (by omega),if_neg (by omega),if_neg (by omega),if_neg (by omega)]
  have d0:decide ((x:Int)<128)=false:=by simp;omega
  have d1:decide ((x:Int)<144)=false:=by simp;omega
  have d2:decide ((x:Int)<160)=false:=by simp;omega
  have d3:decide ((x:Int)<192)=false:=by simp;omega
  have d4:decide ((x:Int)<224)=false:=by simp;omega
  have hw:=qoi x (by omega) hx
  have HW:Hid (IntKind.u64.wrap (IntKind.i8.wrap (x:Int))=((18446744073709551360+x:Nat):Int)):=hw
  clear h hx c0 c1 c2 hw
  go_enter func108,ntmps108
  go_wp2
  refine bodyPost_ret (qcX W _ rfl _ rfl results108) rfl ⟨?_,qb3 _ _⟩
  rw[HC.out,HW.out]
  rfl
end
end Go.Proofs.YtllcbnfmihfaaaaGreatDoor
