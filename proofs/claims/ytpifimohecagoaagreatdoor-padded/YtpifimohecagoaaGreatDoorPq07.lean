import Derived.Laws.CopyRow
import Derived.Laws.MakeOwn
import Derived.Shelf.Unicode.DecodeSlow
import Derived.Lib.AppendStr
import Derived.Test.YtpifimohecagoaaGreatDoorShelf
import Derived.Laws.Runes
import Derived.Laws.RangeAny
import Derived.Lib.AppendIntMem
import Derived.Lib.ItoaLen
import Derived.RangeFuncBound
import Derived.RangeFuncCalls
import Derived.RangeFuncLeaves
import Derived.Shelf.Abstract
import Derived.OwnWalkIn
import Derived.TacticsInMore
import Derived.LoopNIn
import Derived.LoopIn
import Derived.Sort.LoopGhostIn
import Derived.Lib.Strings
import Derived.Lib.IndexBytes
import Derived.Test.YtpifimohecagoaaGreatDoorPq03
import Derived.Test.YtpifimohecagoaaGreatDoorPq06
set_option maxRecDepth 100000
set_option maxHeartbeats 8000000
namespace Go.Proofs.YtpifimohecagoaaGreatDoor
open Go.Proofs.Tryz
variable{W W' w w' w2 wr:World}{base k n:Nat}{v:Value}{Q:Exit->Act->World->Prop}{a:Act}{A:Array Value}{c:UInt8}{r:ByteArray}
section
open Go.RowKit
def qaY(L:List (Int×Int)):List Value:=L.flatMap λe=>[.int .i64 e.1,.int .i64 e.2]
theorem qf2:∀(L:List (Int×Int)) (i:Nat) (h:i<L.length),(qaY L)[i*2]?=some (.int .i64 L[i].1)/\(qaY L)[i*2+1]?=some (.int .i64 L[i].2)
 |[],i,h=>by simp at h
 |e::L,0,_=>⟨rfl,rfl⟩
 |e::L,i+1,h=>by
  have a:=qf2 L i (by simpa using h);have b:(i+1)*2=i*2+2:=by omega
  have c:(i+1)*2+1=i*2+1+2:=by omega
  constructor
  ·show([Value.int .i64 e.1,.int .i64 e.2]++qaY L)[(i+1)*2]?=_;rw[b,List.getElem?_append_right (by simp)];simpa using a.1
  show([Value.int .i64 e.1,.int .i64 e.2]++qaY L)[(i+1)*2+1]?=_;rw[c,List.getElem?_append_right (by simp)];simpa using a.2
theorem qfM(A B:List (Int×Int)):qaY (A++B)=qaY A++qaY B:=by simp[qaY]

theorem qdg(b off j:Nat):(⟨b,off,none⟩:Addr).add j=⟨b,off+j,none⟩:=by unfold Addr.add;split<;>simp_all

structure Cfg where
 labels:Int
 L:List (Int×Int)
 ea:Option Addr
 ecap:Nat
 dflt:Int
 pol:ByteArray
 clr:Int
 key:Int
 inn:Int
 out:Int
 depth:Int
 bytes:Int
 B:List Int
 ba:Option Addr
 bcap:Nat
def Cfg.arr(c:Cfg):Array Value:=#[.int .i64 c.labels,.slice c.ea c.L.length c.ecap,.int .i64 c.dflt,.string c.pol,.int .i64 c.clr,.int .i64 c.key,.int .i64 c.inn,.int .i64 c.out,.int .i64 c.depth,.int .i64 c.bytes,.slice c.ba c.B.length c.bcap]
theorem Cfg.size(c:Cfg):c.arr.size=11:=rfl
theorem Cfg.one(c:Cfg):c.arr.all (·.oneCell')=true:=by simp[Cfg.arr,Value.oneCell']
structure qin(w:World)(c:Cfg):Prop where
 edges:qba w c.ea c.L
 ints:qcR w c.ba c.B
 en:c.ea=none->c.L.length=0/\c.ecap=0
 bn:c.ba=none->c.B.length=0/\c.bcap=0
 eb:(c.L.length+8)*16<=281474976710656
 bb:(c.B.length+8)*8<=281474976710656
theorem qin.below{c:Cfg}(h:qin w c)(a:Below w.heap.size w w'):qin w' c:=⟨h.edges.below a,h.ints.below a,h.en,h.bn,h.eb,h.bb⟩
structure qmF(w:World):Prop where
 signs:∃t fr,w.heap[2]?=some (.cells #[.string ⟨#[42]⟩,.int .i64 0,.string ⟨#[42,42]⟩,.int .i64 1,.string ⟨#[91,93]⟩,.int .i64 2] t fr)
 tabs:Lib.Utf8Tabs 4 5 w
 mlen:∃m,w.cell? ⟨3,0,none⟩=some (.int .i64 m)
theorem qmF.below(h:qmF w)(a:Below w.heap.size w w'):qmF w':=by
 obtain⟨t,d,b⟩:=h.signs;obtain⟨m,c⟩:=h.mlen;exact⟨⟨t,d,(a.block _ (ltA b)).trans b⟩,Utf8Tabs_below h.tabs a,⟨m,(a.cell (p:=⟨_,0,none⟩) (block_lt_of_cell c)).trans c⟩⟩
def qz4(f:Nat)(E N:Cfg->Int):Prop:=∀(c:Cfg) (w:World),qin w c->qmF w->Calls prog f #[.agg c.arr] w λe w'=>e=.returned (.tuple #[.int .i64 (E c),.int .i64 (N c)])/\Below w.heap.size w w'

theorem Cfg.f1(c:Cfg):c.arr[1]?=some (.slice c.ea c.L.length c.ecap):=rfl
theorem Cfg.f10(c:Cfg):c.arr[10]?=some (.slice c.ba c.B.length c.bcap):=rfl

def qaZ(c:Int)(n:Nat):Nat:=((if c<0 then -(c+1)else c)%(n:Int)).toNat
theorem qbi(c:Int)(n:Nat)(h:1<=n):qaZ c n<n:=by
 unfold qaZ;have a:=Int.emod_nonneg (if c<0 then -(c+1)else c) (show(n:Int)≠0 by omega);have b:=Int.emod_lt_of_pos (if c<0 then -(c+1)else c) (show(0:Int)<n by omega);omega

def qmU(u:Nat):Nat:=if u=0 then 4 else if u=1 then 6 else if u=2 then 7 else if u=3 then 8 else if u=4 then 9 else if u=5 then 10 else 0
def qdO(c:Nat):Nat×Nat×Nat :=
 if c=244 then(2,0,0)else if c=245 then(3,0,0)else if c=246 then(1,0,0)else
 if qmU (c/32)=0\/27<c%32 then(0,0,0)else if 24<=c%32 then(qmU (c/32),2^(c%32-24),0)else(qmU (c/32),0,c%32)
def qhC:List (Nat×Nat):=[(1,0),(0,0),(2,0),(3,0),(7,1),(7,2),(7,4),(0,0),(0,0),(0,0),(0,0),(0,0),(4,1),(4,2),(4,4),(4,8),(5,1),(5,2),(5,4),(5,8),(0,0),(0,0),(0,0),(0,0),(0,0),(8,1),(8,2),(8,4),(9,2),(9,4),(10,2),(10,4)]
def qcb(c:Nat):Nat×Nat×Nat :=
 if c<128 then(4,0,c)else if c<144 then(10,0,c-128)else if c<160 then(9,0,c-144)else if c<192 then(8,0,c-160)else
 if c<224 then((qhC.getD (c-192) (0,0)).1,(qhC.getD (c-192) (0,0)).2,0)else(5,0,18446744073709551360+c)
structure qdB(W:World):Prop where
 cb:∀u,u<8->W.cell? ⟨0,u,none⟩=some (.int .i64 (qmU u))
 pk:∀u,u<32->W.cell? ⟨1,u*3,none⟩=some (.int .i64 (qhC.getD u (0,0)).1)/\W.cell? ⟨1,u*3+1,none⟩=some (.int .i64 (qhC.getD u (0,0)).2)/\W.cell? ⟨1,u*3+2,none⟩=some (.int .u64 0)
def hdA(x:Nat×Nat×Nat):Array Value:=#[.int .i64 x.1,.int .i64 x.2.1,.int .u64 x.2.2]
theorem qhq:(prog.info? 171).map (·.size)=some 3:=by kernel_rfl
theorem qeh(W:World)(cs:Array Value)(b:cs.size=3)(a:Array Value)(c:a.getD 2 undef=.pointer (some ⟨W.heap.size,0,none⟩)){fn:Func}(h:fn.results=#[.cell 2 171]):(results fn a).run prog (W.alloc (.cells cs 171))=.ok (.agg cs) (W.alloc (.cells cs 171)) :=
 results_cell_row h a _ W.heap.size 171 cs (0,0) _ c (qac _ _) underlying171 rfl (by rw[b];exact qhq)
theorem qoo(x:Nat)(c:x<256):bits .and .u8 (x:Int) 31=((x%32:Nat):Int):=by
 have a:BitVec.ofInt 8 (x:Int)=BitVec.ofNat 8 x:=BitVec.ofInt_natCast ..;have b:(BitVec.ofNat 8 x&&&BitVec.ofInt 8 31).toNat=x%32:=by
  rw[BitVec.toNat_and,BitVec.toNat_ofNat,Nat.mod_eq_of_lt (by omega)];exact Nat.and_two_pow_sub_one_eq_mod x 5
 show IntKind.u8.wrap ((BitVec.ofInt 8 (x:Int)&&&BitVec.ofInt 8 31).toNat:Int)=_;rw[a,b];unfold IntKind.wrap;simp[IntKind.bits,IntKind.signed];omega
theorem qz0{u x:Nat}(b:¬u=0)(a:((u:Int)==0)=true\/(27:Int)<(x:Int)%32):27<x%32:=by
 rcases a with a|a
 ·exact absurd (by simpa using a) b
 omega
theorem qbQ(W:World)(cs:Array Value):Below W.heap.size W (W.alloc (.cells cs 171)):=bwA
theorem qjK(W:World)(x:Nat)(j:x<256)(h:qdB W):Calls prog 53 #[.int .u8 x] W λe g=>e=.returned (.agg (hdA (qdO x)))/\Below W.heap.size W g:=by
 by_cases b:x=244
 ·subst b;go_enter func53,ntmps53;go_wp2;exact bodyPost_ret (qeh W _ rfl _ rfl results53) rfl ⟨rfl,qbQ _ _⟩
 by_cases c:x=245
 ·subst c;go_enter func53,ntmps53;go_wp2;exact bodyPost_ret (qeh W _ rfl _ rfl results53) rfl ⟨rfl,qbQ _ _⟩
 by_cases c2:x=246
 ·subst c2;go_enter func53,ntmps53;go_wp2;exact bodyPost_ret (qeh W _ rfl _ rfl results53) rfl ⟨rfl,qbQ _ _⟩
 have k:((x:Int)==244)=false:=by simp;omega
 have l:((x:Int)==245)=false:=by simp;omega
 have m:((x:Int)==246)=false:=by simp;omega
 have n:=qoo x j;have i:x/32<8:=by omega
 have d:=h.cb (x/32) i;have o:(W.alloc (.cells #[.int .i64 0,.int .i64 0,.int .u64 0] 171)).cell? ⟨0,x/32,none⟩=some (.int .i64 (qmU (x/32))):=(World.cell?_alloc_some W _ _ (by rw[d];rfl)).trans d;have f:Hid (qdO x=if qmU (x/32)=0\/27<x%32 then(0,0,0)else if 24<=x%32 then(qmU (x/32),2^(x%32-24),0)else(qmU (x/32),0,x%32)):=by
  show _=_;unfold qdO;rw[if_neg b,if_neg c,if_neg c2]
 go_enter func53,ntmps53;go_wp2
 all_goals refine bodyPost_ret (qeh W _ rfl _ rfl results53) rfl ⟨?_,qbQ _ _⟩
 all_goals rw[f.out]
 ·rename_i h0
  rw[if_pos (.inl h0)];rfl
 ·rename_i h0 h1
  rw[if_pos (.inr (qz0 h0 h1))];rfl
 ·rename_i h0 h1 h2
  rw[if_neg (by have:=h1.2;omega),if_pos (by omega)];have e:wrap64 (2^(x%32-24))=((2^(x%32-24):Nat):Int):=by
   have a:x%32-24=0\/x%32-24=1\/x%32-24=2\/x%32-24=3:=by have:=h1.2;omega
   rcases a with a|a|a|a<;>rw[a]<;>simp[wrap64]
  rw[e];rfl
 rename_i h0 h1 h2
 rw[if_neg (by have:=h1.2;omega),if_neg (by omega)];unfold hdA;simp
theorem qyx(x:Nat)(h:224<=x)(a:x<256):IntKind.u64.wrap (IntKind.i8.wrap (x:Int))=((18446744073709551360+x:Nat):Int):=by
 have e:IntKind.i8.wrap (x:Int)=(x:Int)-256:=by
  unfold IntKind.wrap;simp only[IntKind.bits,IntKind.signed,Bool.true_and];split<;>rename_i h<;>simp at h<;>omega
 rw[e];unfold IntKind.wrap;simp only[IntKind.bits,IntKind.signed,Bool.false_and];rw[if_neg (by decide)];omega
theorem qjS(W:World)(x:Nat)(d:x<256)(h:qdB W):Calls prog 54 #[.int .u8 x] W λe w=>e=.returned (.agg (hdA (qcb x)))/\Below W.heap.size W w:=by
 by_cases c:x<128
 ·have b:Hid (qcb x=(4,0,x)):=by show _=_;unfold qcb;rw[if_pos c]
  have p:decide ((x:Int)<128)=true:=by simp;omega
  have C:IntKind.u64.wrap (x:Int)=x:=by unfold IntKind.wrap;simp[IntKind.bits,IntKind.signed];omega
  clear h c d;go_enter func54,ntmps54;go_wp2;refine bodyPost_ret (qeh W _ rfl _ rfl results54) rfl ⟨?_,qbQ _ _⟩;rw[b.out];rfl
 by_cases g:192<=x/\x<224
 ·have b:Hid (qcb x=((qhC.getD (x-192) (0,0)).1,(qhC.getD (x-192) (0,0)).2,0)):=by
   show _=_;unfold qcb;rw[if_neg (by omega),if_neg (by omega),if_neg (by omega),if_neg (by omega),if_pos (by omega)]
  obtain⟨l,m,n⟩:=h.pk (x-192) (by omega);obtain⟨u,z⟩:∃u:Nat,x=192+u:=⟨x-192,by omega⟩
  subst z;have s:192+u-192=u:=by omega
  rw[s]at l m n;have D:(W.alloc (.cells #[.int .i64 0,.int .i64 0,.int .u64 0] 171)).cell? ⟨1,u*3,none⟩=_:=(World.cell?_alloc_some W _ _ (by rw[l];rfl)).trans l;have E:(W.alloc (.cells #[.int .i64 0,.int .i64 0,.int .u64 0] 171)).cell? ⟨1,u*3+1,none⟩=_:=(World.cell?_alloc_some W _ _ (by rw[m];rfl)).trans m;have F:(W.alloc (.cells #[.int .i64 0,.int .i64 0,.int .u64 0] 171)).cell? ⟨1,u*3+2,none⟩=_:=(World.cell?_alloc_some W _ _ (by rw[n];rfl)).trans n;have B:u<32:=by omega
  clear h l m n d c g;go_enter func54,ntmps54;go_wp2
  all_goals refine bodyPost_ret (qeh W _ rfl _ rfl results54) rfl ⟨?_,qbQ _ _⟩
  all_goals rw[b.out,s]
  all_goals rfl
 by_cases c2:x<192
 ·obtain⟨R,b⟩:∃R,Hid (qcb x=R):=⟨_,show _=_ from rfl⟩
  rw[b.out];have a:=b.out;unfold qcb at a;rw[if_neg c]at a;have j:Hid (128<=x/\x<192):=⟨by omega,c2⟩
  have p:decide ((x:Int)<128)=false:=by simp;omega
  by_cases i:x<144
  ·rw[if_pos i]at a;have q:decide ((x:Int)<144)=true:=by simp;omega
   have f:=qab a.symm;clear a b h d c g c2 i;go_enter func54,ntmps54;go_wp2;refine bodyPost_ret (qeh W _ rfl _ rfl results54) rfl ⟨?_,qbQ _ _⟩;rw[f.out,show((x:Int)-128)%256=((x-128:Nat):Int) by have:=j.out.1;have:=j.out.2;omega];rfl
  rw[if_neg i]at a;have q:decide ((x:Int)<144)=false:=by simp;omega
  by_cases k:x<160
  ·rw[if_pos k]at a;have r:decide ((x:Int)<160)=true:=by simp;omega
   have f:=qab a.symm;have o:Hid (144<=x):=by show _<=_;omega
   clear a b h d c g c2 i k;go_enter func54,ntmps54;go_wp2;refine bodyPost_ret (qeh W _ rfl _ rfl results54) rfl ⟨?_,qbQ _ _⟩;rw[f.out,show((x:Int)-144)%256=((x-144:Nat):Int) by have:=o.out;have:=j.out.2;omega];rfl
  rw[if_neg k,if_pos c2]at a;have r:decide ((x:Int)<160)=false:=by simp;omega
  have y:decide ((x:Int)<192)=true:=by simp;omega
  have f:=qab a.symm;have o:Hid (160<=x):=by show _<=_;omega
  clear a b h d c g c2 i k;go_enter func54,ntmps54;go_wp2;refine bodyPost_ret (qeh W _ rfl _ rfl results54) rfl ⟨?_,qbQ _ _⟩;rw[f.out,show((x:Int)-160)%256=((x-160:Nat):Int) by have:=o.out;have:=j.out.2;omega];rfl
 have b:Hid (qcb x=(5,0,18446744073709551360+x)):=by
  show _=_;unfold qcb;rw[if_neg (by omega),if_neg (by omega),if_neg (by omega),if_neg (by omega),if_neg (by omega)]
 have p:decide ((x:Int)<128)=false:=by simp;omega
 have q:decide ((x:Int)<144)=false:=by simp;omega
 have r:decide ((x:Int)<160)=false:=by simp;omega
 have y:decide ((x:Int)<192)=false:=by simp;omega
 have A:decide ((x:Int)<224)=false:=by simp;omega
 have t:=qyx x (by omega) d;have v:=qab t;clear h d c g c2 t;go_enter func54,ntmps54;go_wp2;refine bodyPost_ret (qeh W _ rfl _ rfl results54) rfl ⟨?_,qbQ _ _⟩;rw[b.out,v.out];rfl

end
section
open Go.RowKit Go.Lib
def wmF(s b:Nat):Nat:=((s^^^b)*1099511628211)%18446744073709551616
theorem qhQ(s b:Nat):wmF s b<18446744073709551616:=Nat.mod_lt _ (by decide)
theorem qzy(a b:Nat)(e:a<18446744073709551616)(f:b<18446744073709551616):bits .xor .u64 (a:Int) (b:Int)=((a^^^b:Nat):Int):=by
 have h:(BitVec.ofNat 64 a^^^BitVec.ofNat 64 b).toNat=a^^^b:=by
  rw[BitVec.toNat_xor,BitVec.toNat_ofNat,BitVec.toNat_ofNat,Nat.mod_eq_of_lt (by omega),Nat.mod_eq_of_lt (by omega)]
 have c:BitVec.ofInt 64 (a:Int)=BitVec.ofNat 64 a:=BitVec.ofInt_natCast ..;have d:BitVec.ofInt 64 (b:Int)=BitVec.ofNat 64 b:=BitVec.ofInt_natCast ..;show IntKind.u64.wrap ((BitVec.ofInt 64 (a:Int)^^^BitVec.ofInt 64 (b:Int)).toNat:Int)=_;have g:a^^^b<2^64:=Nat.xor_lt_two_pow (by omega) (by omega);rw[c,d,h];unfold IntKind.wrap;simp[IntKind.bits,IntKind.signed];omega
theorem qw5(x:Nat):IntKind.u64.wrap ((x:Int)*1099511628211)=(((x*1099511628211)%18446744073709551616:Nat):Int):=by
 unfold IntKind.wrap;simp[IntKind.bits,IntKind.signed]
theorem qiH(s b:Nat)(c:s<18446744073709551616)(d:b<256)(W:World):Calls prog 100 #[.int .u64 s,.int .u8 b] W λe a=>e=.returned (.int .u64 (wmF s b))/\a=W:=by
 have f:=qzy s b c (by omega);go_enter func100,ntmps100;go_wp2;rw[qw5];go_ret;exact⟨rfl,rfl⟩

theorem qp6(l:List UInt8):strCells ⟨l.toArray⟩=l.map qax:=by
 unfold strCells;simp[qax]
theorem qaU{v':Value}{bs l:List UInt8}(h:Own W base v bs)(a:W'.ownsRow base 5 1 v' (bs.length+(⟨l.toArray⟩:ByteArray).size) (bs.map qax++strCells ⟨l.toArray⟩))(d:W.grownBy W' v.ownBlock):Own W' base v' (bs++l)/\Below base W W':=by
 obtain⟨f,c,_⟩:=h;have b:=qa3 (Below.refl base W) f d c;have i:(⟨l.toArray⟩:ByteArray).size=l.length:=List.size_toArray ..;rw[i,qp6]at a;refine⟨⟨by rw[List.length_append,List.map_append];exact a,Nat.le_trans c b.size,?_⟩,b⟩;rcases a.2 with⟨e,_⟩|⟨g,j,k,e,_⟩
 ·exact⟨none,0,0,e⟩
 exact⟨_,_,_,e⟩
theorem qk7(W:World)(b:Nat)(v:Value)(bs l:List UInt8)(y:bs.length<=999999999)(J:l.length<=999999999)(h:Own W b v bs):Calls prog 108 #[v,.string ⟨l.toArray⟩] W λe f=>∃d,e=.returned d/\Own f b d (bs++(qaj 3 l.length++l))/\Below b W f:=by
 obtain⟨D,w,A,B,C⟩:=info_parts Tryz.infoU8;have q:Calls prog 107 #[v,.int .u8 3,.int .u64 l.length] W λe f=>∃d,e=.returned d/\Own f b d (bs++qaj 3 l.length)/\Below b W f:=qbw W b v bs 3 l.length (by decide) (by omega) y h;have I:(qaj 3 l.length).length<=9:=by
  unfold qaj;have t:∀x k,(beF x k).length=k:=λx k=>by induction k with|zero=>rfl|succ k E=>rw[beF,List.length_cons,E]
  repeat' split
  all_goals simp[t]
 have j:(⟨l.toArray⟩:ByteArray).size=l.length:=List.size_toArray ..;obtain⟨_,_,a,n,c,rfl⟩:=h;go_enter func108,ntmps108
 go_wp2_with(first
  |(go_at_call 107;refine q.mono ?_;rintro e H ⟨L,rfl,r,s⟩;obtain⟨G,p,o,F,c2,rfl⟩:=r;have i:Hid (Own H b (.slice o F c2) (bs++qaj 3 l.length)):=⟨G,p,_,_,_,rfl⟩;have m:=qab s)
  |(at_builtin;refine wpList_append_own_string _ rfl _ _ 35 9 rfl b 5 D underlying35 underlying9 w A B C _ _ _ rfl i.out.1 ⟨l.toArray⟩ rfl (by rw[j,List.length_append];unfold maxLen;omega) (by rw[j,List.length_append];omega) i.out.2.1 ?_;intro d M z u K;have g:=qab (qaU i.out z u)))
 go_ret;rw[List.append_assoc]at g;exact⟨_,rfl,g.out.1,m.out.trans g.out.2⟩

end
section
open Go.RowKit
theorem qd8(z:Int):∀w:World,(Instr.typeAssert (.iface 219 (.int .i64 z)) 82 217 true).run prog w=.ok (.tuple #[.bool false,.bool false]) w:=λw=>by kernel_rfl
theorem qg4(z:Int):∀w:World,(Instr.typeAssert (.iface 219 (.int .i64 z)) 82 219 true).run prog w=.ok (.tuple #[.int .i64 z,.bool true]) w:=λw=>by kernel_rfl
def qeW(z:Int):List UInt8:=if z<0 then qbs z else qbm z.toNat
def qfm(z:Int):List UInt8:=if z<0 then qaj 1 (-1-z).toNat else qaj 0 z.toNat
theorem qrX(W:World)(b:Nat)(v:Value)(bs:List UInt8)(z:Int)(w : -9223372036854775808<=z)(F:z<=9223372036854775807)(p:bs.length<=999999999)(h:Own W b v bs):Calls prog 87 #[v,qqp z] W λe m=>∃q,e=.returned q/\Own m b q (bs++qeW z)/\Below b W m:=by
 unfold qqp;obtain⟨y,u,a,n,c,rfl⟩:=h;have l:Hid (Own W b (.slice a n c) bs):=⟨y,u,a,n,c,rfl⟩
 have o:Hid (qeW z=if z<0 then qbs z else qbm z.toNat):=rfl;by_cases d:z<0
 ·have k:Hid (qeW z=qbs z):=by show _=_;rw[o.out,if_pos d]
  have s:decide (z<0)=true:=by simp;exact d
  have B:=qd8 z;have C:=qg4 z;go_enter func87,ntmps87
  go_wp2_with(first
   |(go_at_call 109;refine(qm4 _ b _ bs z w d p l.out).mono ?_;rintro e E ⟨D,rfl,f,j⟩;obtain⟨g,i,r,A,t,rfl⟩:=f))
  go_ret;rw[k.out];exact⟨_,rfl,⟨g,i,_,_,_,rfl⟩,j⟩
 have k:Hid (qeW z=qbm z.toNat):=by show _=_;rw[o.out,if_neg d]
 obtain⟨x,rfl⟩:∃x:Nat,z=x:=⟨z.toNat,by omega⟩
 have s:decide ((x:Int)<0)=false:=by simp
 have B:=qd8 (x:Int);have C:=qg4 (x:Int);go_enter func87,ntmps87
 go_wp2_with(first
  |(go_at_call 110;refine(qmo _ b _ bs x (by omega) p l.out).mono ?_;rintro e E ⟨D,rfl,f,j⟩;obtain⟨g,i,r,A,t,rfl⟩:=f))
 go_ret;rw[k.out];exact⟨_,rfl,⟨g,i,_,_,_,rfl⟩,j⟩
theorem qqh(W:World)(b:Nat)(v:Value)(bs:List UInt8)(z:Int)(G : -9223372036854775808<=z)(H:z<=9223372036854775807)(q:bs.length<=999999999)(h:Own W b v bs):Calls prog 86 #[v,qqp z] W λe d=>∃f,e=.returned f/\Own d b f (bs++qfm z)/\Below b W d:=by
 unfold qqp;obtain⟨y,w,a,n,c,rfl⟩:=h;have m:Hid (Own W b (.slice a n c) bs):=⟨y,w,a,n,c,rfl⟩
 have p:Hid (qfm z=if z<0 then qaj 1 (-1-z).toNat else qaj 0 z.toNat):=rfl;by_cases o:z<0
 ·have g:Hid (qfm z=qaj 1 (-1-z).toNat):=by show _=_;rw[p.out,if_pos o]
  obtain⟨x,rfl⟩:∃x:Nat,z = -1-(x:Int):=⟨(-1-z).toNat,by omega⟩
  have t:=λV h=>qbw V b (.slice a n c) bs 1 x (by omega) (by omega) q h;have u:∀V,Own V b (.slice a n c) bs->Calls prog 107 #[.slice a n c,.int .u8 1,.int .u64 (-1-(-1-(x:Int)))] V λe d=>∃f,e=.returned f/\Own d b f (bs++qaj 1 x)/\Below b V d:=by
   rw[show(-1-(-1-(x:Int)))=x by omega];exact t
  rw[show(-1-(-1-(x:Int))).toNat=x by omega]at g;have B:=qd8 (-1-(x:Int));have C:=qg4 (-1-(x:Int));go_enter func86,ntmps86
  go_wp2_with(first
   |(go_at_call 107;refine(u _ m.out).mono ?_;rintro e E ⟨D,rfl,i,l⟩;obtain⟨j,k,r,A,s,rfl⟩:=i))
  go_ret;rw[g.out];exact⟨_,rfl,⟨j,k,_,_,_,rfl⟩,l⟩
 have g:Hid (qfm z=qaj 0 z.toNat):=by show _=_;rw[p.out,if_neg o]
 obtain⟨x,rfl⟩:∃x:Nat,z=x:=⟨z.toNat,by omega⟩
 have F:decide ((x:Int)<0)=false:=by simp
 have B:=qd8 (x:Int);have C:=qg4 (x:Int);go_enter func86,ntmps86
 go_wp2_with(first
  |(go_at_call 107;refine(qbw _ b _ bs 0 x (by omega) (by omega) q m.out).mono ?_;rintro e E ⟨D,rfl,i,l⟩;obtain⟨j,k,r,A,s,rfl⟩:=i))
 go_ret;rw[g.out];exact⟨_,rfl,⟨j,k,_,_,_,rfl⟩,l⟩

theorem qi1(W:World):Own W W.heap.size (.slice none 0 0) []:=by
 refine⟨?_,Nat.le_refl _,none,0,0,rfl⟩;exact World.ownsRow_nil ..

end
section
open Go.RowKit Go.Shelf
theorem qgf{K:Act->World->Prop}(h:Q .ret a w):Exit.then K Q .ret a w:=h
theorem qei(h:Q .ret a w):Exit.inBlock n Q .ret a w:=h
theorem qch(h:Q .ret a w):Exit.noGoto Q .ret a w:=h
theorem qjy(s:ByteArray)(o:s.size=5)(b:∀i (h:i<s.size),(s[i]'h).toNat<128)(w:World):Calls prog 136 #[.string s,.int .i32 65533] w λe k=>e=.returned (.int .i64 (-1))/\Below w.heap.size w k:=by
 have d:Hid (∀i (h:i<s.size),(s[i]'h).toNat<128):=b;clear b;go_enter func136,ntmps136;go_wp2
 go_loopg[5,6] 5 (λg _ _ l=>∃i:Nat,i+g=5/\l=w.iter s i)
 case atStart=>exact⟨0,by omega,rfl⟩
 case round =>
  obtain⟨i,n,rfl⟩:=hrel
  cases gk with
  |zero =>
   obtain rfl:i=5:=by omega
   have j:=λa=>run_next_end (P:=prog) w s 5 a (by omega);go_wp2;go_ret;exact⟨rfl,bwA⟩
  |succ g =>
   have c:i<s.size:=by omega
   have f:=d.out i (by omega);have j:=λa=>run_next_ascii (P:=prog) w s i a c f;have m:¬((s[i]'c).toNat:Int)=65533:=by omega
   go_wp2;go_roundg g
   case measure=>omega
   case rel=>exact⟨i+1,by omega,rfl⟩
theorem qj0(s:ByteArray)(r:Int)(c:128<=r)(d:¬r=65533)(a:Lib.validRune r=false)(w:World):Calls prog 136 #[.string s,.int .i32 r] w λe b=>e=.returned (.int .i64 (-1))/\Below w.heap.size w b:=by
 go_enter func136,ntmps136
 go_wp2_with(first|(go_at_call 150;refine(Tryz.utf8_ValidRune _ _).mono ?_;rintro e f ⟨rfl,rfl⟩;rw[a]))
 go_ret;exact⟨rfl,Below.refl _ _⟩
theorem qh6(s:ByteArray)(B:s.size=5)(o:∀i (h:i<s.size),(s[i]'h).toNat<128)(r:Int)(E:128<=r)(I:¬r=65533)(C:Lib.validRune r=true)(rs:ByteArray)(k:Nat)(J:Utf8.encode r=rs)(G:rs.size=k+1)(D:1<=k)(F:k<=3)(y:128<=(rs[k]'(by omega)).toNat)(w:World):Calls prog 136 #[.string s,.int .i32 r] w λe n=>e=.returned (.int .i64 (-1))/\Below w.heap.size w n:=by
 have v:k<s.size:=by omega
 have f:k<rs.size:=by omega
 have K:=o k v;have H:¬((s[k]'v).toNat:Int)=((rs[k]'f).toNat:Int):=by omega
 have m:Hid (Lib.indexByte (s.extract (k+1) s.size).data.toList (rs[k]'f) = -1):=by
  show _=_;rw[<-Lib.firstIdx_eq];refine firstIdx_ascii s (k+1) s.size _ (λb z=>?_) y;obtain⟨i,u,rfl⟩:=List.getElem_of_mem z;have A:i<s.size:=by rw[Array.length_toList]at u;exact u
  exact o i A
 have p:(((rs[k]'f).toNat:Int)).toNat.toUInt8=rs[k]'f:=by simp
 clear o;obtain rfl|rfl|rfl:k=1\/k=2\/k=3:=by omega
 all_goals
  rw[B]at m;go_enter func136,ntmps136
  go_wp2_with(first|(go_at_call 150;refine(Tryz.utf8_ValidRune _ _).mono ?_;rintro e q ⟨rfl,rfl⟩;rw[C]))
  go_step3;go_wp2
 ·have x:Lib.indexByte (List.take 3 (List.drop 2 s.data.toList)) (rs[1]'f)<0:=by
   have h:=m.out;rw[ByteArray.data_extract,Array.toList_extract,List.extract_eq_take_drop]at h;have t:Lib.indexByte (List.take 3 (List.drop 2 s.data.toList)) (rs[1]'f) = -1:=h;omega
  go_loopg[9,10,11,12] 1 (λg a b c d l=>a=.int .i64 1/\l=q)
  case atStart=>exact⟨rfl,rfl⟩
  case round =>
   obtain⟨rfl,rfl⟩:=hrel;go_wp2;go_step3;go_wp2
   go_region
   go_wp2
   go_region_with(first|(go_at_call 149;refine(Tryz.strings_IndexByte _ _ _).mono ?_;rintro e n ⟨rfl,j⟩;rw[j,p]))
   go_wp2
   all_goals repeat(first|refine qgf ?_|refine qei ?_|refine qch ?_)
   all_goals go_ret
   all_goals exact⟨rfl,(Below.refl _ _).drew.drew⟩
 ·have x:Lib.indexByte (List.take 2 (List.drop 3 s.data.toList)) (rs[2]'f)<0:=by
   have h:=m.out;rw[ByteArray.data_extract,Array.toList_extract,List.extract_eq_take_drop]at h;have t:Lib.indexByte (List.take 2 (List.drop 3 s.data.toList)) (rs[2]'f) = -1:=h;omega
  go_loopg[9,10,11,12] 1 (λg a b c d l=>a=.int .i64 2/\l=q)
  case atStart=>exact⟨rfl,rfl⟩
  case round =>
   obtain⟨rfl,rfl⟩:=hrel;go_wp2;go_step3;go_wp2
   go_region
   go_wp2
   go_region_with(first|(go_at_call 149;refine(Tryz.strings_IndexByte _ _ _).mono ?_;rintro e n ⟨rfl,j⟩;rw[j,p]))
   go_wp2
   all_goals repeat(first|refine qgf ?_|refine qei ?_|refine qch ?_)
   all_goals go_ret
   all_goals exact⟨rfl,(Below.refl _ _).drew.drew⟩
 have x:Lib.indexByte (List.take 1 (List.drop 4 s.data.toList)) (rs[3]'f)<0:=by
  have h:=m.out;rw[ByteArray.data_extract,Array.toList_extract,List.extract_eq_take_drop]at h;have t:Lib.indexByte (List.take 1 (List.drop 4 s.data.toList)) (rs[3]'f) = -1:=h;omega
 go_loopg[9,10,11,12] 1 (λg a b c d l=>a=.int .i64 3/\l=q)
 case atStart=>exact⟨rfl,rfl⟩
 case round =>
  obtain⟨rfl,rfl⟩:=hrel;go_wp2;go_step3;go_wp2
  go_region
  go_wp2
  go_region_with(first|(go_at_call 149;refine(Tryz.strings_IndexByte _ _ _).mono ?_;rintro e n ⟨rfl,j⟩;rw[j,p]))
  go_wp2
  all_goals repeat(first|refine qgf ?_|refine qei ?_|refine qch ?_)
  all_goals go_ret
  all_goals exact⟨rfl,(Below.refl _ _).drew.drew⟩
def qvR(r:Int):Bool:=r==42||(r==91||(r==93||(r==47||r==46)))
theorem qpV:∀k:Nat,k<128->decide (0<=Lib.indexByte [42,91,93,47,46] k.toUInt8)=qvR (k:Int):=by decide
theorem qpf:∀i (h:i<(⟨#[42,91,93,47,46]⟩:ByteArray).size),((⟨#[42,91,93,47,46]⟩:ByteArray)[i]'h).toNat<128:=by decide
theorem qfU(r:Int)(d:0<=r)(w:World):Calls prog 120 #[.string ⟨#[42,91,93,47,46]⟩,.int .i32 r] w λe a=>e=.returned (.bool (qvR r))/\Below w.heap.size w a:=by
 by_cases h:r<128
 ·refine(Tryz.strings_ContainsRune_ascii _ r w d h).mono ?_;rintro e a ⟨rfl,rfl⟩;refine⟨?_,Below.refl _ _⟩;have:=qpV r.toNat (by omega);rw[Int.toNat_of_nonneg d]at this;rw[<-this]
 have f:qvR r=false:=by
  unfold qvR;simp only[Bool.or_eq_false_iff,beq_eq_false_iff_ne];omega
 have g:Calls prog 136 #[.string ⟨#[42,91,93,47,46]⟩,.int .i32 r] w λe a=>e=.returned (.int .i64 (-1))/\Below w.heap.size w a:=by
  by_cases b:r=65533
  ·subst b;exact qjy _ rfl qpf w
  cases c:Lib.validRune r
  ·exact qj0 _ r (by omega) b c w
  obtain⟨k,l,j⟩:=encode_facts r (by rw[validRune_eq];exact c) (by omega);exact qh6 _ rfl qpf r (by omega) b c _ ((Utf8.encode r).size-1) rfl (by omega) (by omega) (by omega) (j (by omega)) w
 rw[f];clear f h;generalize(⟨#[42,91,93,47,46]⟩:ByteArray)=s at *;go_enter func120,ntmps120
 go_wp2_with(first|(go_at_call 136;refine g.mono ?_;rintro e m ⟨rfl,i⟩))
 go_ret;exact⟨rfl,i⟩

end
section
open Go.RowKit
theorem qfw{b:Nat}{s:Src}(k n:Nat)(h:qad W b s):qad ((W.drewN n).setCell ⟨b,4,none⟩ (.int .i64 k)) b {s with within:=k}/\But b W ((W.drewN n).setCell ⟨b,4,none⟩ (.int .i64 k)):=by
 have e:(W.drewN n).heap[b]?=some (.cells s.arr 128):=h.row;have d:∀q,q≠b->((W.drewN n).setCell ⟨b,4,none⟩ (.int .i64 k)).heap[q]?=W.heap[q]?:=λq a=>heap_setCell_other (W.drewN n) _ _ _ (by simpa using a);refine⟨⟨?_,λi l=>?_,h.len,h.le⟩,⟨rfl,rfl,rfl,by simp[World.setCell,World.drewN],λq _ a=>d q a⟩⟩
 ·rw[setCell_eq_setRow _ b 4 _ _ _ _ e,setRow_heap _ _ _ _ _ _ e];rfl
 obtain⟨g,off,f,c,j⟩:=h.inp i l;exact⟨g,off,f,c,(World.cell?_of_block (w:=W) (d g c)).trans j⟩
theorem qjj(W:World)(b:Nat)(s:Src)(h:qad W b s)(d:¬(s.within:Int)=s.depth)(i:s.within<=1000000):Calls prog 181 #[.pointer (some ⟨b,0,none⟩)] W λe c=>e=.returned (.tuple #[])/\qad c b {s with within:=s.within+1}/\But b W c:=by
 have j:W.cell? ⟨b,1,none⟩=some (.int .i64 s.depth):=qaa h.row 1;have k:W.cell? ⟨b,4,none⟩=some (.int .i64 s.within):=qaa h.row 4;have g:=frozen_of_row W b 4 _ _ h.row;have a:Hid (∀n,qad ((W.drewN n).setCell ⟨b,4,none⟩ (.int .i64 ((s.within:Int)+1))) b {s with within:=s.within+1}/\But b W ((W.drewN n).setCell ⟨b,4,none⟩ (.int .i64 ((s.within:Int)+1)))):=λn=>qfw (s.within+1) n h;have f:((s.within:Int)==s.depth)=false:=by simpa using d
 go_enter func181,ntmps181;go_wp2
 go_quiet (fail)
 go_wp2;go_end0;exact⟨rfl,(a.out nq).1,(a.out nq).2⟩
theorem qko(W:World)(b:Nat)(s:Src)(h:qad W b s)(f:(s.within:Int)=s.depth):Calls prog 181 #[.pointer (some ⟨b,0,none⟩)] W λe a=>qan 11 ((s.pos:Int)-1) e/\But b W a/\∃p,qad a b {s with pos:=p}:=by
 have i:W.cell? ⟨b,1,none⟩=some (.int .i64 s.depth):=qaa h.row 1;have j:W.cell? ⟨b,4,none⟩=some (.int .i64 s.within):=qaa h.row 4;have g:((s.within:Int)==s.depth)=true:=by simpa using f
 have d:=λn=>qau (W.drewN n) b s 11 (h.drewN n);have c:=qab h;go_enter func181,ntmps181;go_wp2
 go_quiet (fail)
 go_wp2_with(first
  |(go_at_call 187;refine(d nq).mono ?_;rintro e k ⟨hF,rfl⟩;obtain rfl:=hF))
 exact⟨rfl,rfl,But.of_below (qao W nq),_,c.out.drewN nq⟩
theorem qkg(W:World)(b k:Nat)(s:Src)(h:qad W b s)(d:s.within=k+1)(i:s.within<=1000000):Calls prog 209 #[.pointer (some ⟨b,0,none⟩)] W λe c=>e=.returned (.tuple #[])/\qad c b {s with within:=k}/\But b W c:=by
 have j:W.cell? ⟨b,4,none⟩=some (.int .i64 ((k:Int)+1)):=by
  have:=qaa h.row 4;rw[this];show some (Value.int .i64 (s.within:Int))=_;rw[d];rfl
 have f:=frozen_of_row W b 4 _ _ h.row;have a:Hid (qad (W.setCell ⟨b,4,none⟩ (.int .i64 k)) b {s with within:=k}/\But b W (W.setCell ⟨b,4,none⟩ (.int .i64 k))):=qfw k 0 h;have g:k<=1000000:=by omega
 go_enter func209,ntmps209;go_wp2;go_end0;exact⟨rfl,a.out.1,a.out.2⟩

def qeN(f:Int):Bool:=f==1||f==2||f==3
theorem qc3(f:Int)(w:World):Calls prog 12 #[.int .i64 f] w λe a=>e=.returned (.bool (qeN f))/\a=w:=by
 go_enter func12,ntmps12;go_wp2
 all_goals go_ret
 all_goals exact⟨by simp[qeN, *],rfl⟩
theorem qhN(f:Int)(w:World):Calls prog 22 #[.int .i64 f] w λe a=>e=.returned (.bool (qeN f))/\a=w:=by
 go_enter func22,ntmps22;go_wp2
 all_goals go_ret
 all_goals exact⟨by simp[qeN, *],rfl⟩
def qeZ(i o d b:Int):Bool:=qeN i&&qeN o&&decide (1<=d)&&decide (d<=16)&&decide (1<=b)&&decide (b<=4096)
theorem qjW(i o d b:Int)(w:World):Calls prog 40 #[.int .i64 i,.int .i64 o,.int .i64 d,.int .i64 b] w λe j=>e=.returned (.bool (qeZ i o d b))/\j=w:=by
 cases c:qeN i
 ·have a:Hid (qeZ i o d b=false):=by show _=_;unfold qeZ;rw[c];rfl
  go_enter func40,ntmps40;have h:True:=trivial
  go_wp2_with(first
   |(go_at_call 12;clear h;refine(qc3 _ _).mono ?_;rintro e g ⟨rfl,rfl⟩))
  go_ret;exact⟨by rw[a.out];rfl,rfl⟩
 cases f:qeN o
 ·have a:Hid (qeZ i o d b=false):=by show _=_;unfold qeZ;rw[c,f];rfl
  go_enter func40,ntmps40
  go_wp2_with(first
   |(go_at_call 12;refine(qc3 _ _).mono ?_;rintro e g ⟨rfl,rfl⟩))
  go_ret;exact⟨by rw[a.out];rfl,rfl⟩
 have a:Hid (qeZ i o d b=(decide (1<=d)&&decide (d<=16)&&decide (1<=b)&&decide (b<=4096))):=by show _=_;unfold qeZ;rw[c,f];rfl
 go_enter func40,ntmps40
 go_wp2_with(first
  |(go_at_call 12;refine(qc3 _ _).mono ?_;rintro e g ⟨rfl,rfl⟩))
 all_goals go_ret
 all_goals refine⟨?_,rfl⟩
 all_goals rw[a.out]
 all_goals simp[*]
 all_goals(intros;omega)

def qrt: String := "internal" ++ (String.singleton (Char.ofNat 47) ++ "strconv.uint64pow10")
def qgX(B:Nat)(w:World):Prop:=Lib.TabBelow prog B w qrt .u64 Lib.pow10Tab
theorem qiQ(bs:List UInt8):Lib.byteCells bs=bs.map qax:=by
 unfold Lib.byteCells qax;rfl
theorem qiN(W:World)(a:Nat)(v:Value)(bs:List UInt8)(z:Int)(j : -9223372036854775808<=z)(k:z<=9223372036854775807)(p:bs.length<=999999999)(h:Own W a v bs)(m:qgX a W):Calls prog 103 #[v,.int .i64 z,.int .i64 10] W λe c=>∃b,e=.returned b/\Own c a b (bs++Lib.itoa z)/\Below a W c:=by
 obtain⟨l,i,q⟩:=h;refine(Any.strconv_AppendInt_10 Tryz.laysM176 a bs.length z j k v (bs.map qax) W l i (by omega) (Eq.mp (congrArg (λs=>Lib.TabBelow prog a W s .u64 Lib.pow10Tab) (by kernel_rfl)) m)).mono ?_;rintro e w ⟨b,rfl,f,d,_⟩;refine⟨b,rfl,⟨?_,?_,?_⟩,d⟩
 ·rw[List.length_append,List.map_append,<-qiQ (Lib.itoa z)];exact f
 ·have:=d.size;omega
 rcases f.2 with⟨e,_⟩|⟨g,n,o,e,_⟩
 ·exact⟨_,_,_,e⟩
 exact⟨_,_,_,e⟩

def qbh(n:Nat):List (List UInt8)->Nat->Int
 |[],_=>-1
 |p::q,i=>if qaD n p=true/\i<16 then qbh n q (i+1)else i
def qa5(n:Nat)(l:List UInt8):Int:=if 2000<l.length then 0 else if l.length=0 then -1 else qbh n (qam 10 l) 0
theorem Tryz.infoRule:(prog.info? 99).map (λi=>(i.zero,i.size,i.bytes))=some (some (.agg qcF),3,40):=by kernel_rfl
theorem qd3(w:World)(cs:Array Value)(t:TypeId):∀(j:Nat) (u:Value),cs.toList[j]?=some u->(w.alloc (.cells cs t)).cell? ((⟨w.heap.size,0,none⟩:Addr).add j)=some u:=λj u a=>by
 rw[qdg,Nat.zero_add,cell_of_row _ _ _ _ _ _ (qac _ _)];simpa using a
theorem qju{e:TypeId}{size:Nat}{xs:List Value}(h:W.ownsRow base e size v n xs)(m:∀i,i<W.heap.size->W'.heap[i]?=W.heap[i]?):W'.ownsRow base e size v n xs:=by
 obtain⟨l,f⟩:=h;refine⟨l,?_⟩;rcases f with f|⟨g,j,k,a,b,c,d⟩
 ·exact Or.inl f
 exact Or.inr ⟨g,j,k,a,b,(m g (ltA c)).trans c,d⟩
structure qtF(w2 wr:World)(N:Nat)(A:Array Value)(W:World):Prop where
 below:Below w2.heap.size w2 W
 same:∀i,i<wr.heap.size->W.heap[i]?=wr.heap[i]?
 row:W.heap[N]?=some (.cells A 99)
 lo:wr.heap.size<=N
theorem qy3(h:Below w2.heap.size w2 wr)(a:Below wr.heap.size wr.drew w'):qtF w2 wr w'.heap.size A (w'.alloc (.cells A 99)):=by
 have b:=h.size;have c:wr.heap.size<=w'.heap.size:=a.size;refine⟨(h.drew.trans (a.mono b)).alloc (by omega) _,λi d=>?_,qac _ _,c⟩;rw[Below.heap_alloc _ _ _ (by omega)];exact a.block _ d
theorem qy0(h:Below w2.heap.size w2 wr)(a:Below (wr.heap.size+1) (wr.alloc (.cells qcF 99)).drew w'):qtF w2 wr wr.heap.size A (w'.setRow wr.heap.size A):=by
 have b:=h.size;refine⟨qah (((h.alloc b _).drew).trans (a.mono (by omega))) b _,λi c=>?_,setRow_heap _ _ qcF _ _ _ ((a.block _ (by omega)).trans (qac _ _)),Nat.le_refl _⟩;rw[setRow_other _ _ _ _ (by omega),a.block _ (by omega)];exact Below.heap_alloc _ _ _ c
theorem qob{P:Program}{ev:Operand->Value}{o:Oper}(a:TypeId)(x:Operand)(f:o.op=.load a x)(g:Nat)(i:ev x=.pointer (some ⟨g,0,none⟩))(t:TypeId)(cs:Array Value)(b:Nat×Nat)(d:TypeDesc)(e:W.heap[g]?=some (.cells cs t b))(h:P.underlying a=some d)(c:(match d with|.struct _|.array _ _=>true|_=>false)=true)(hi:(P.info? a).map (·.size)=some cs.size):(execOp ev o).run P W=.ok (.value (.agg cs)) W:=by
 unfold execOp;simp only[f,i,Instr.loadAt,Instr.sureAddr,Sem.run_bind,Sem.run_pure,Result.andThen_ok,run_loadVar_row W g t a cs b d e h c hi]
theorem qqR(c:Cfg)(n:Nat)(hn:c.labels=n)(w:World):Calls prog 24 #[.agg c.arr] w λe A =>
   ∃ab ah R,e=.returned (.tuple #[.slice ab ah R,.int .i64 (qa5 n c.pol.data.toList)])/\Below w.heap.size w A:=by
 have hl:c.pol.data.toList.length=c.pol.size:=Array.length_toList;have f3:c.arr[3]?=some (.string c.pol):=rfl;have aw:Hid (c.arr[0]?=some (.int .i64 n)):=by show _=_;rw[<-hn];rfl
 obtain⟨i0,hi,ar,au,av⟩:=info_parts Tryz.infoRule;by_cases a6:(2000:Int)<c.pol.size
 ·have G:Hid (qa5 n c.pol.data.toList=0):=by show _=_;unfold qa5;rw[if_pos (by omega)]
  go_enter func24,ntmps24;go_wp2
  go_ret2
  first|exact⟨_,_,_,by rw[G.out];rfl,bwA⟩|exact⟨⟨_,_,_,by rw[G.out];rfl⟩,bwA⟩
 cases q:(c.pol.toList==[])
 ·have a2:c.pol.size≠0:=by
   intro h;have:c.pol.toList=[]:=by rw[Lib.toList_data];exact List.eq_nil_of_length_eq_zero (by omega)
   rw[this]at q;exact absurd q (by decide)
  have G:Hid (qa5 n c.pol.data.toList=qbh n (qam 10 c.pol.data.toList) 0):=by show _=_;unfold qa5;rw[if_neg (by omega),if_neg (by omega)]
  have an:c.pol.size<=100000:=by omega
  go_enter func24,ntmps24;have T1:True:=trivial
  go_wp2_with(first
   |(go_at_call 37;clear T1;refine(qhe c.pol 10 10 rfl _ an).mono ?_;rintro e F ⟨v,u,rfl,HO,O,P⟩;obtain⟨g,R,rfl,hg,a0,am⟩:=qel HO (qmE P)))
  have a4:w.heap.size<F.heap.size:=by have:=O.size;simp only[World.size_alloc]at this;omega
  have ay:Hid (F.heap[w.heap.size]?=some (.cells c.arr 25)):=(O.block _ (by simp)).trans (qac _ _);have HX:Hid (∀j,F.cell? ⟨w.heap.size,j,none⟩=c.arr[j]?):=λj=>qaa ((O.block _ (by simp)).trans (qac _ _)) j;have aj:=qab am;have ax:Hid (qa5 n c.pol.data.toList=qbh n (u.map (·.data.toList)) 0):=by show _=_;rw[G.out,P]
  have E:=qab ((bwA).trans (O.mono (by simp)));have al:Hid (∀p,p∈u->p.size<=100000):=λp I=>by
   have:=qb6 10 c.pol.data.toList p.data.toList (by rw[<-P];exact List.mem_map_of_mem I);have h4:p.data.toList.length=p.size:=Array.length_toList;omega
  have a8:u.length<=100001:=by
   have h1:=congrArg List.length P;have h2:=qeV 10 c.pol.data.toList;rw[List.length_map]at h1;omega
  have a7:w.heap.size<g:=by simp only[World.size_alloc]at hg;omega
  clear O HO am P G hg
  go_loopg[4,6] u.length (λgk v x wr=>∃(k:Nat) (xs:List Value) (ao:Option Addr) (cv:Nat),Hid (k+gk=u.length)/\v=.slice ao k cv/\x=.int .i64 k/\Hid (wr.ownsRow F.heap.size 99 3 v k xs)/\Hid (Below F.heap.size F wr)/\Hid (qa5 n c.pol.data.toList=qbh n ((u.map (·.data.toList)).drop k) k))
  case atStart=>exact⟨0,[],none,0,by show _=_;omega,rfl,rfl,World.ownsRow_nil _ _ _ _,Below.refl _ _,ax.out⟩
  case round =>
   obtain⟨k,xs,ao,cv,V,rfl,rfl,ak,H,HL⟩:=hrel;have a9:=H.out.size
   cases gk with
   |zero =>
    have a1:¬(k:Int)<u.length:=by have:=V.out;omega
    have d:Hid (qa5 n c.pol.data.toList = -1):=by
     show _=_;rw[HL.out,List.drop_eq_nil_of_le (by rw[List.length_map];have:=V.out;omega)];rfl
    go_wp2
    go_ret2
    first|exact⟨_,_,_,by rw[d.out];rfl,E.out.trans (H.out.mono (by omega))⟩|exact⟨⟨_,_,_,by rw[d.out];rfl⟩,E.out.trans (H.out.mono (by omega))⟩
   |succ gg =>
    have a1:(k:Int)<u.length:=by have:=V.out;omega
    have ae:k<u.length:=by omega
    have J:=(H.out.cell (p:=⟨g,k,none⟩) a0).trans (aj.out k ae);have y:=(H.out.block _ a4).trans ay.out;have n1:=World.new_ne wr _ J;have Z:w.heap.size<wr.heap.size:=by omega
    have aq:g<wr.heap.size:=by omega
    obtain⟨p,I⟩:∃p,p=u[k]:=⟨_,rfl⟩
    have HP:=qab I;rw[<-I]at J;have cR:∀W,Calls prog 38 #[.agg c.arr,.string p] W λe A=>∃ab ah R x a5,e=.returned (.tuple #[.agg (qfX ab ah R x a5),.bool (qaD n p.data.toList)])/\Below W.heap.size W A:=λW=>qta c.arr n aw.out rfl p W (by rw[I];exact al.out u[k] (List.getElem_mem ae));have L:Hid (qa5 n c.pol.data.toList=if qaD n p.data.toList=true/\k<16 then qbh n ((u.map (·.data.toList)).drop (k+1)) (k+1)else(k:Int)):=by
     show _=_;rw[HL.out,List.drop_eq_getElem_cons (by rw[List.length_map];exact ae),qbh,List.getElem_map,<-I]
    clear I hl f3 q a2 an HX aj al HL;go_wp2;refine wp_region_held (S:=λW=>W.heap[w.heap.size]?=some (.cells c.arr 25)/\W.cell? ⟨g,k,none⟩=some (.string p)) (by kernel_rfl) ?_;have U:(λW:World=>W.heap[w.heap.size]?=some (.cells c.arr 25)/\W.cell? ⟨g,k,none⟩=some (.string p)) {wr with drawn:=wr.drawn+1}:=⟨y,J⟩
    refine wpAnyH_take (i:=0) (v:=.agg c.arr) rfl (by kernel_rfl) (by kernel_rfl) (by kernel_rfl) (λ_ _ _ h=>h) (.inl ⟨rfl,λW z=>qob 25 (.tmp 1) rfl w.heap.size rfl _ _ _ _ z.1 underlying25 rfl (qaA rfl)⟩) U ?_;refine wpAnyH_take (i:=1) (v:=.slice (some ⟨g,0,none⟩) u.length R) rfl (by kernel_rfl) (by kernel_rfl) (by kernel_rfl) (λ_ _ _ h=>h) (.inl ⟨rfl,λW z=>rfl⟩) U ?_;refine wpAnyH_take (i:=2) (v:=.int .i64 k) rfl (by kernel_rfl) (by kernel_rfl) (by kernel_rfl) (λ_ _ _ h=>h) (.inl ⟨rfl,λW z=>rfl⟩) U ?_;refine wpAnyH_take (i:=3) (v:=.pointer (some ⟨g,k,none⟩)) rfl (by kernel_rfl) (by kernel_rfl) (by kernel_rfl) (λ_ _ _ h=>h) (.inl ⟨rfl,λW z=>?y3⟩) U ?_
    case y3=>go_simp
    refine wpAnyH_take (i:=4) (v:=.string p) rfl (by kernel_rfl) (by kernel_rfl) (by kernel_rfl) (λ_ _ _ h=>h) (.inl ⟨rfl,λW z=>?y4⟩) U ?_
    case y4=>(have h2:=z.2;go_simp)
    refine qll 5 9 (λK f=>?_) (λK f=>?_)
    ·go_simp;refine(cR _).mono ?_;rintro e A ⟨l,r,o,s,t,rfl,M⟩;simp only[];refine f.out _ _ ⟨(M.block _ Z).trans y,(M.cell (p:=⟨g,k,none⟩) aq).trans J⟩ (λB=>?_);clear f;refine wpAnyH_take (i:=6) rfl (by kernel_rfl) (by kernel_rfl) (by kernel_rfl) (λ_ _ _ h=>h) (.inl ⟨rfl,λW z=>rfl⟩) B ?_;refine wpAnyH_take (i:=7) (v:=.agg (qfX l r o s t)) rfl (by kernel_rfl) (by kernel_rfl) (by kernel_rfl) (λ_ _ _ h=>h) (.inl ⟨rfl,λW z=>rfl⟩) B ?_;refine wpAnyH_take (i:=8) (v:=.bool (qaD n p.data.toList)) rfl (by kernel_rfl) (by kernel_rfl) (by kernel_rfl) (λ_ _ _ h=>h) (.inl ⟨rfl,λW z=>rfl⟩) B ?_;have ap:=M.size;refine rdq 9 (λK f=>?_);go_simp;refine f.out _ _ ⟨(Below.heap_alloc _ _ _ (Nat.lt_of_lt_of_le Z ap)).trans B.1,(World.cell?_alloc_some _ _ _ (by rw[B.2];rfl)).trans B.2⟩ (λm=>?_);clear f;refine rdq 10 (λK f=>?_);rw[if_pos (by rfl)];refine wp_store_row 99 _ _ rfl A.heap.size (qfX l r o s t) rfl rfl 99 qcF (qac A _) qdf rfl (qcX _ _ _ _ _) ?_;rw[World.setRow_alloc_new];refine f.out _ _ ⟨(Below.heap_alloc _ _ _ (Nat.lt_of_lt_of_le Z ap)).trans B.1,(World.cell?_alloc_some _ _ _ (by rw[B.2];rfl)).trans B.2⟩ (λac=>?_);clear f;refine wpAnyH_take (i:=11) (v:=.bool (qaD n p.data.toList)) rfl (by kernel_rfl) (by kernel_rfl) (by kernel_rfl) (λ_ _ _ h=>h) (.inl ⟨rfl,λW z=>rfl⟩) ac ?_;refine wdn ?_;have b:Hid (qtF F wr A.heap.size (qfX l r o s t) (A.alloc (.cells (qfX l r o s t) 99))):=qy3 H.out M;generalize A.alloc (.cells (qfX l r o s t) 99)=W4 at *;generalize A.heap.size=N at *;cases T:qaD n p.data.toList
     ·have d:Hid (qa5 n c.pol.data.toList=k):=by show _=_;rw[L.out,if_neg (by rw[T];simp)]
      go_wp2
      go_ret2
      first|exact⟨_,_,_,by rw[d.out];rfl,E.out.trans (b.out.below.mono (by omega))⟩|exact⟨⟨_,_,_,by rw[d.out];rfl⟩,E.out.trans (b.out.below.mono (by omega))⟩
     by_cases az:(16:Int)<=k
     ·have d:Hid (qa5 n c.pol.data.toList=k):=by show _=_;rw[L.out,if_neg (by omega)]
      go_wp2
      go_ret2
      first|exact⟨_,_,_,by rw[d.out];rfl,E.out.trans (b.out.below.mono (by omega))⟩|exact⟨⟨_,_,_,by rw[d.out];rfl⟩,E.out.trans (b.out.below.mono (by omega))⟩
     have d:Hid (qa5 n c.pol.data.toList=qbh n ((u.map (·.data.toList)).drop (k+1)) (k+1)):=by show _=_;rw[L.out,if_pos ⟨T,by omega⟩]
     have Q:=qab (qju ak.out b.out.same);have af:=b.out.below.size;have aa:Hid (W4.heap[N]?=some (.cells #[.slice l r o,.int .i64 s,.int .i64 t] 99)):=b.out.row
     go_wp2_with(first
      |(refine wpList_load_row rfl 99 _ rfl _ rfl _ _ _ _ aa.out underlying99 rfl qdf ?_)
      |(at_builtin;refine wpList_append_own _ rfl _ _ 61 rfl F.heap.size 99 i0 (.agg qcF) 3 40 underlying61 hi ar au av rfl (by decide) _ _ _ rfl (Q.out.alloc _) ⟨W4.heap.size,0,none⟩ 1 1 [.slice l r o,.int .i64 s,.int .i64 t] rfl rfl (qd3 _ _ _) (λx Y=>by simp at Y;rcases Y with rfl|rfl|rfl<;>rfl) (by unfold maxLen;omega) (by omega) (by simp;omega) ?_;intro v' w5 X ad a3))
     go_roundg gg
     case measure=>omega
     case rel =>
      obtain⟨D,C,ag⟩:∃D C,v'=.slice (some ⟨D,0,none⟩) (k+1) C:=by
       rcases X.2 with⟨_,h⟩|⟨D,C,_,h,_⟩
       ·omega
       exact⟨D,C,h⟩
      exact⟨k+1,xs++[Value.slice l r o,Value.int .i64 s,Value.int .i64 t],some ⟨D,0,none⟩,C,by show _=_;have:=V.out;omega,ag,by go_num,(by show World.ownsRow _ _ _ _ _ _ _;exact X),(b.out.below.alloc af _).grown ad (by simp;omega) (λai hq=>(Q.out.lt ai hq).1),d.out⟩
    go_simp;refine f.out _ _ ⟨(Below.heap_alloc _ _ _ Z).trans y,(World.cell?_alloc_some _ _ _ (by rw[J];rfl)).trans J⟩ (λB=>?_);clear f;refine rdq 5 (λK f=>?_);go_simp;refine(cR _).mono ?_;rintro e A ⟨l,r,o,s,t,rfl,M⟩;simp only[];have a:Below (wr.heap.size+1) (wr.alloc (.cells qcF 99)).drew A:=by have:=M;simp only[World.size_alloc,World.drew]at this;exact this
    refine f.out _ _ ⟨(a.block _ (by omega)).trans B.1,(a.cell (p:=⟨g,k,none⟩) (show g<_ by omega)).trans B.2⟩ (λm=>?_);clear f;refine wpAnyH_take (i:=6) rfl (by kernel_rfl) (by kernel_rfl) (by kernel_rfl) (λ_ _ _ h=>h) (.inl ⟨rfl,λW z=>rfl⟩) m ?_;refine wpAnyH_take (i:=7) (v:=.agg (qfX l r o s t)) rfl (by kernel_rfl) (by kernel_rfl) (by kernel_rfl) (λ_ _ _ h=>h) (.inl ⟨rfl,λW z=>rfl⟩) m ?_;refine wpAnyH_take (i:=8) (v:=.bool (qaD n p.data.toList)) rfl (by kernel_rfl) (by kernel_rfl) (by kernel_rfl) (λ_ _ _ h=>h) (.inl ⟨rfl,λW z=>rfl⟩) m ?_;refine rdq 10 (λK f=>?_);rw[if_pos (by rfl)];refine wp_store_row 99 _ _ rfl wr.heap.size (qfX l r o s t) rfl rfl 99 qcF ((a.block _ (by omega)).trans (qac wr _)) qdf rfl (qcX _ _ _ _ _) ?_;have b:Hid (qtF F wr wr.heap.size (qfX l r o s t) (A.setRow wr.heap.size (qfX l r o s t))):=qy0 H.out a;refine f.out _ _ ⟨(b.out.same _ Z).trans y,(World.cell?_of_block (w:=wr) (b.out.same g aq)).trans J⟩ (λac=>?_);clear f;refine wpAnyH_take (i:=11) (v:=.bool (qaD n p.data.toList)) rfl (by kernel_rfl) (by kernel_rfl) (by kernel_rfl) (λ_ _ _ h=>h) (.inl ⟨rfl,λW z=>rfl⟩) ac ?_;refine wdn ?_;generalize A.setRow wr.heap.size (qfX l r o s t)=W4 at *;cases T:qaD n p.data.toList
    ·have d:Hid (qa5 n c.pol.data.toList=k):=by show _=_;rw[L.out,if_neg (by rw[T];simp)]
     go_wp2
     go_ret2
     first|exact⟨_,_,_,by rw[d.out];rfl,E.out.trans (b.out.below.mono (by omega))⟩|exact⟨⟨_,_,_,by rw[d.out];rfl⟩,E.out.trans (b.out.below.mono (by omega))⟩
    by_cases az:(16:Int)<=k
    ·have d:Hid (qa5 n c.pol.data.toList=k):=by show _=_;rw[L.out,if_neg (by omega)]
     go_wp2
     go_ret2
     first|exact⟨_,_,_,by rw[d.out];rfl,E.out.trans (b.out.below.mono (by omega))⟩|exact⟨⟨_,_,_,by rw[d.out];rfl⟩,E.out.trans (b.out.below.mono (by omega))⟩
    have d:Hid (qa5 n c.pol.data.toList=qbh n ((u.map (·.data.toList)).drop (k+1)) (k+1)):=by show _=_;rw[L.out,if_pos ⟨T,by omega⟩]
    have Q:=qab (qju ak.out b.out.same);have af:=b.out.below.size;have aa:Hid (W4.heap[wr.heap.size]?=some (.cells #[.slice l r o,.int .i64 s,.int .i64 t] 99)):=b.out.row
    go_wp2_with(first
     |(refine wpList_load_row rfl 99 _ rfl _ rfl _ _ _ _ aa.out underlying99 rfl qdf ?_)
     |(at_builtin;refine wpList_append_own _ rfl _ _ 61 rfl F.heap.size 99 i0 (.agg qcF) 3 40 underlying61 hi ar au av rfl (by decide) _ _ _ rfl (Q.out.alloc _) ⟨W4.heap.size,0,none⟩ 1 1 [.slice l r o,.int .i64 s,.int .i64 t] rfl rfl (qd3 _ _ _) (λx Y=>by simp at Y;rcases Y with rfl|rfl|rfl<;>rfl) (by unfold maxLen;omega) (by omega) (by simp;omega) ?_;intro v' w5 X ad a3))
    go_roundg gg
    case measure=>omega
    case rel =>
     obtain⟨D,C,ag⟩:∃D C,v'=.slice (some ⟨D,0,none⟩) (k+1) C:=by
      rcases X.2 with⟨_,h⟩|⟨D,C,_,h,_⟩
      ·omega
      exact⟨D,C,h⟩
     exact⟨k+1,xs++[Value.slice l r o,Value.int .i64 s,Value.int .i64 t],some ⟨D,0,none⟩,C,by show _=_;have:=V.out;omega,ag,by go_num,(by show World.ownsRow _ _ _ _ _ _ _;exact X),(b.out.below.alloc af _).grown ad (by simp;omega) (λai hq=>(Q.out.lt ai hq).1),d.out⟩
 have G:Hid (qa5 n c.pol.data.toList = -1):=by
  show _=_;have h0:c.pol.data.toList=[]:=by rw[<-Lib.toList_data];exact eq_of_beq q
  unfold qa5;rw[h0];rfl
 go_enter func24,ntmps24;go_wp2
 go_ret2
 first|exact⟨_,_,_,by rw[G.out];rfl,bwA⟩|exact⟨⟨_,_,_,by rw[G.out];rfl⟩,bwA⟩

end
section
open Go.RowKit Go.Shelf
theorem qrd(s:ByteArray)(w:World)(d:s.size<=1000000):Calls prog 97 #[.string s] w λe c=>e=.returned (.string s)/\Below w.heap.size w c:=by
 have a:=Tryz.stringslite_Clone s w (by omega);go_enter func97,ntmps97
 go_wp2_with(first
  |(go_at_call 121;refine a.mono ?_;clear a;rintro e f ⟨rfl,b⟩))
 go_ret;exact⟨rfl,b⟩

section
attribute[local go_sem] Oper.semAt_some
theorem qf1(s c:ByteArray)(w:World):Calls prog 61 #[.string s,.string c] w λe a =>
   e=.returned (.func (.func 92) #[] #[.pointer (some ⟨w.heap.size+1,0,none⟩),.pointer (some ⟨w.heap.size,0,none⟩),.pointer (some ⟨w.heap.size+1+1,0,none⟩)]) /\
   a=((w.alloc (.cells #[.string s] 9)).alloc (.cells #[.string c] 9)).alloc (.cells #[.int .i64 0] 3):=by
 go_enter func61,ntmps61;go_wp2;go_ret;exact⟨rfl,rfl⟩
abbrev Str:={s:ByteArray // s.size<=2000}
def lst(x:Str):List UInt8:=x.1.data.toList
structure qhg(k:Nat)(c:UInt8)(W:World)(r:ByteArray):Prop where
 rest:W.heap[k]?=some (.cells #[.string r] 9)
 sep:W.heap[k+1]?=some (.cells #[.string ⟨#[c]⟩] 9)
 save:W.heap[k+1+1]?=some (.cells #[.int .i64 0] 3)
theorem qhg.keep(h:qhg k c W r)(a:qcC k (k+3) W W'):qhg k c W' r :=
 ⟨(a.same _ (by omega) (by omega)).trans h.rest,(a.same _ (by omega) (by omega)).trans h.sep,(a.same _ (by omega) (by omega)).trans h.save⟩
theorem qhg.store(h:qhg k c W r)(a:ByteArray):qhg k c (W.setCell ⟨k,0,none⟩ (.string a)) a :=
 ⟨by rw[heap_setCell_same W _ _ _ _ _ h.rest];rfl,(heap_setCell_other W _ _ _ (by simp)).trans h.sep,(heap_setCell_other W _ _ _ (by simp;omega)).trans h.save⟩
theorem qjd(W:World)(k o:Nat)(v:Value):W.grownBy (W.setCell ⟨k,o,none⟩ v) (some k) :=
 ⟨rfl,rfl,rfl,by simp[World.setCell],λi _ a=>heap_setCell_other W _ _ _ (by intro e;exact a (by rw[e]))⟩
theorem qsw(s:ByteArray)(o:Nat):(s.extract 0 o).data.toList=s.data.toList.take o:=by
 rw[Lib.extract_data];simp
theorem qtI(s:ByteArray)(o:Nat):(s.extract o s.size).data.toList=s.data.toList.drop o:=by
 exact Lib.extract_to_end s o
theorem qqB(s:ByteArray)(o:Nat)(h:o<=s.size):(s.extract 0 o).size=o:=by simp[ByteArray.size_extract];omega
theorem qky(s:ByteArray)(o:Nat):(s.extract o s.size).size=s.size-o:=by simp[ByteArray.size_extract]
theorem qlc(n:Nat)(k:Nat)(c:UInt8)(s:Str)(w:World)(d:qhg k c w s.1):qyQ Fence.wide n prog 92 #[.pointer (some ⟨k+1,0,none⟩),.pointer (some ⟨k,0,none⟩),.pointer (some ⟨k+1+1,0,none⟩)]
   (λx:Str=>#[.string x.1]) k (k+3) k (λxs=>xs.map lst=qam c (lst s)) (λpre=>∃r,qam c (lst s)=pre.map lst++r) w:=by
 intro aa J N W u S T U R;have ag:=ltA d.save;have a:Hid (qhg k c W s.1):=⟨(u.block _ (by omega)).trans d.rest,(u.block _ (by omega)).trans d.sep,(u.block _ (by omega)).trans d.save⟩
 have L:=qab S;have ac:=qab T;have D:Hid (∀pre x j,J pre j->YieldAt Fence.wide (n-1) prog aa #[.string x.1] j λe i =>
   (e=.returned (.bool true)/\J (pre++[x]) i/\qcC k (k+3) j i)\/(e=.returned (.bool false)/\N (pre++[x]) i)):=U
 have K:=qab R;have ad:=qaa a.out.sep 0;refine callsIn_of_wp func92 rfl trivial ?_ rfl;simp only[ntmps92,List.size_toArray,List.length_cons,List.length_nil,Nat.reduceAdd,Nat.reduceSub,Array.replicate_succ,Array.replicate_zero,List.push_toArray,List.append_toArray,List.nil_append,List.cons_append]
 gi_wp2
 gi_loopg[7,8] 2001 (λg x al wr=>∃(pre:List Str) (r:Str),r.1.size<g/\Hid (qam c (lst s)=pre.map lst++qam c (lst r))/\Hid (qhg k c wr r.1)/\Hid (J pre wr))
 case atStart=>exact⟨[],s,by have:=s.2;omega,rfl,a,K⟩
 case round =>
  obtain⟨pre,r,hg,z,a,C⟩:=hrel;have V:=qaa a.out.rest 0;have X:=qaa a.out.sep 0;have ae:=qaa a.out.save 0;rcases Int.lt_or_le (Lib.indexByte (lst r) c) 0 with ah|y
  ·have F:Lib.indexByte (lst r) c = -1:=by have:=Lib.indexByte_ge (lst r) c;omega
   have A:Hid (qam c (lst s)=pre.map lst++[lst r]):=by show _=_;rw[z.out,qfS F]
   have Y:Lib.indexByte r.1.data.toList c = -1:=F;obtain⟨Q,ab,O,P,I,t⟩:=D.out pre r wr C.out
   gi_wp2_with fail
   refine⟨trivial,(λh=>by cases h),?_⟩;refine(callsIn_wide.2 (Tryz.strings_Index_one r.1 c _)).mono ?_;rintro e w2 ⟨rfl,rfl⟩
   gi_wp2
   refine⟨(λh=>by cases h),t.mono ?_⟩;rintro e m (⟨rfl,p,E⟩|⟨rfl,q⟩)
   ·gi_wp2
    go_end0;exact⟨⟨_,rfl⟩,.inl ⟨pre++[r],by rw[A.out];simp,p⟩⟩
   gi_wp2
   go_end0;exact⟨⟨_,rfl⟩,.inr ⟨pre++[r],⟨[],by rw[A.out];simp⟩,q⟩⟩
  obtain⟨o,G⟩:=Int.eq_ofNat_of_zero_le y;obtain⟨Z,l⟩:=qfP G;have Y:Lib.indexByte r.1.data.toList c=o:=G;have ai:o<r.1.size:=by simpa[lst]using Z
  have aj:=r.2;have M:Hid (qam c (lst s)=pre.map lst++((lst r).take o::qam c ((lst r).drop (o+1)))):=by show _=_;rw[z.out,l]
  have v:(r.1.extract 0 o).size<=2000:=by rw[qqB _ _ (by omega)];omega
  have H:(r.1.extract (o+1) r.1.size).size<=2000:=by rw[qky];omega
  have B:Hid (qam c (lst s)=(pre++[(⟨r.1.extract 0 o,v⟩:Str)]).map lst++qam c (lst (⟨r.1.extract (o+1) r.1.size,H⟩:Str))):=by
   show _=_;rw[M.out];simp only[List.map_append,List.map_cons,List.map_nil,lst];rw[qsw,qtI,List.append_assoc];rfl
  have ak:(r.1.extract (o+1) r.1.size).size<r.1.size:=by rw[qky];omega
  obtain⟨Q,ab,O,P,I,t⟩:=D.out pre ⟨r.1.extract 0 o,v⟩ wr C.out;dsimp only at I
  gi_wp2_with fail
  refine⟨trivial,(λh=>by cases h),?_⟩;refine(callsIn_wide.2 (Tryz.strings_Index_one r.1 c _)).mono ?_;rintro e w2 ⟨rfl,rfl⟩
  gi_wp2
  refine⟨(λh=>by cases h),t.mono ?_⟩;rintro e m (⟨rfl,p,E⟩|⟨rfl,q⟩)
  ·have b:=qab (a.out.keep E);have V:=qaa b.out.rest 0;have X:=qaa b.out.sep 0;have af:=frozen_of_row m k 0 _ _ b.out.rest;have f:=qab p
   gi_wp2
   gi_roundg ((r.1.extract (o+1) r.1.size).size+1)
   case measure=>omega
   case rel=>exact⟨pre++[⟨r.1.extract 0 o,v⟩],⟨r.1.extract (o+1) r.1.size,H⟩,Nat.lt_succ_self _,B,b.out.store _,L.out _ _ _ f.out (qjd m k 0 _)⟩
  have f:=qab q
  gi_wp2
  refine bodyPost_ret (results_none rfl _ _ _) rfl ?_;exact⟨⟨_,rfl⟩,.inr ⟨_,⟨_,B.out⟩,f.out⟩⟩
end

end
section
open Go.RowKit
theorem qsq(bs:List UInt8):(⟨bs.toArray⟩:ByteArray).size=bs.length:=by
 show bs.toArray.size=_;simp

end
end Go.Proofs.YtpifimohecagoaaGreatDoor
