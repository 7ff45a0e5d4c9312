import Derived.Shelf.Unicode.DecodeSlow
import Derived.Recover
import Derived.Lib.AppendIntMem
import Derived.Lib.ItoaLen
import Derived.Maps.OwnSet
import Derived.RangeFuncBound
import Derived.RangeFuncCalls
import Derived.RangeFuncLeaves
import Derived.Shelf.Abstract
import Derived.OwnWalkIn
import Derived.TacticsInMore
import Derived.LoopNIn
import Derived.LoopIn
import Derived.Sort.LoopGhostIn
import Derived.Lib.Strings
import Derived.Lib.IndexBytes
import Derived.Test.YtmajcjammmjimaaGreatDoorCq07
set_option maxRecDepth 100000
set_option maxHeartbeats 8000000
set_option linter.all false
namespace Go.Proofs.YtmajcjammmjimaaGreatDoor
open Go.Proofs.Tryz
variable{V V' W W' w w' w2 wr:World}{A base k lo lo' m n rc:Nat}{pa ra:Option Addr}{X st:Nat->Nat}{P:Program}{f:Lit->Option Nat}{key v:Value}{kl:Lit}{ev:Operand->Value}{o:Oper}{cs xs:List Value}{c:UInt8}{r:ByteArray}{l:List UInt8}{es:List (List Value×Nat×Int×Int)}
section
open Go.RowKit
structure Cfg where
 labels:Int
 L:List (Int×Int)
 ea:Option Addr
 ecap:Nat
 dflt:Int
 pol:ByteArray
 clr:Int
 key:Int
 inn:Int
 out:Int
 depth:Int
 bytes:Int
 B:List Int
 ba:Option Addr
 bcap:Nat
def Cfg.arr(c:Cfg):Array Value:=#[.int .i64 c.labels,.slice c.ea c.L.length c.ecap,.int .i64 c.dflt,.string c.pol,.int .i64 c.clr,.int .i64 c.key,.int .i64 c.inn,.int .i64 c.out,.int .i64 c.depth,.int .i64 c.bytes,.slice c.ba c.B.length c.bcap]
theorem Cfg.size(c:Cfg):c.arr.size=11:=rfl
theorem Cfg.one(c:Cfg):c.arr.all (·.oneCell')=true:=by simp[Cfg.arr,Value.oneCell']
structure qia(w:World)(c:Cfg):Prop where
 edges:qaZ w c.ea c.L
 ints:qc9 w c.ba c.B
 en:c.ea=none->c.L.length=0/\c.ecap=0
 bn:c.ba=none->c.B.length=0/\c.bcap=0
 eb:(c.L.length+8)*16<=281474976710656
 bb:(c.B.length+8)*8<=281474976710656
theorem qia.below{c:Cfg}(h:qia w c)(a:Below w.heap.size w w'):qia w' c:=⟨h.edges.below a,h.ints.below a,h.en,h.bn,h.eb,h.bb⟩
structure qmS(w:World):Prop where
 signs:∃t fr,w.heap[2]?=some (.cells #[.string ⟨#[42]⟩,.int .i64 0,.string ⟨#[42,42]⟩,.int .i64 1,.string ⟨#[91,93]⟩,.int .i64 2] t fr)
 tabs:Lib.Utf8Tabs 5 6 w
 mlen:∃m,w.cell? ⟨3,0,none⟩=some (.int .i64 m)
theorem qmS.below(h:qmS w)(a:Below w.heap.size w w'):qmS w':=by
 obtain⟨t,d,b⟩:=h.signs;obtain⟨m,c⟩:=h.mlen;exact⟨⟨t,d,(a.block _ (ltA b)).trans b⟩,Utf8Tabs_below h.tabs a,⟨m,(a.cell (p:=⟨_,0,none⟩) (kaI c)).trans c⟩⟩
def q0j(f:Nat)(E N:Cfg->Int):Prop:=∀(c:Cfg) (w:World),qia w c->qmS w->Calls prog f #[.agg c.arr] w λe w'=>e=.returned (.tuple #[.int .i64 (E c),.int .i64 (N c)])/\Below w.heap.size w w'

theorem Cfg.f1(c:Cfg):c.arr[1]?=some (.slice c.ea c.L.length c.ecap):=rfl
theorem Cfg.f10(c:Cfg):c.arr[10]?=some (.slice c.ba c.B.length c.bcap):=rfl

def qaI(c:Int)(n:Nat):Nat:=((if c<0 then -(c+1)else c)%(n:Int)).toNat
theorem qaV(c:Int)(n:Nat)(h:1<=n):qaI c n<n:=by
 unfold qaI;have a:=kd2 (if c<0 then -(c+1)else c) (show(n:Int)≠0 by omega);have b:=Int.emod_lt_of_pos (if c<0 then -(c+1)else c) (show(0:Int)<n by omega);omega

theorem qiQ(W:World):Own W W.heap.size (.slice none 0 0) []:=by
 refine⟨?_,kaf _,none,0,0,rfl⟩;exact kaV ..

theorem qij(p q:Addr)(w:World):CallsD prog 31 #[.pointer (some p),.pointer (some q)] .returning w λe c d=>e=.returned (.tuple #[])/\c=.returning/\d=w:=by
 refine kdv func31 rfl λa cs b=>?_;simp only[ntmps31,kaT,kah,kay,Nat.reduceAdd,Nat.reduceSub,kbz,kb0,kbG,kb4,kbl,kbo];apply wpS_seq;apply keb;simp[wpOpsS,go_sem,recoverD,b,Exit.thenS];refine ket ?_;go_wp2;cases a
 simp_all[bodyPostS,results,results31]
theorem qhY(p q:Nat)(a b x y:Int)(w:World)(c:w.cell? ⟨p,0,none⟩=some (.int .i64 x))(d:w.cell? ⟨q,0,none⟩=some (.int .i64 y))(o:w.frozen? ⟨p,0,none⟩=false)(r:w.frozen? ⟨q,0,none⟩=false)(j:p≠q):CallsD prog 31 #[.pointer (some ⟨p,0,none⟩),.pointer (some ⟨q,0,none⟩)] (.panicking [{v:=qdB a b,recovered:=false}]) w λe D g=>e=.returned (.tuple #[])/\D=.panicking [{v:=qdB a b,recovered:=true}] /\
   (g.cell? ⟨p,0,none⟩=some (.int .i64 a)/\g.cell? ⟨q,0,none⟩=some (.int .i64 b)/\∀B,B<=p->B<=q->B<=w.heap.size->Below B w g):=by
 refine kdv func31 rfl λG cs u=>?_;simp only[ntmps31,kaT,kah,kay,Nat.reduceAdd,Nat.reduceSub,kbz,kb0,kbG,kb4,kbl,kbo];apply wpS_seq;apply keb;simp[wpOpsS,go_sem,recoverD,u,Exit.thenS,qdB];refine ket ?_;have N:∀w:World,(Instr.typeAssert (.iface 75 (.agg #[.int .i64 a,.int .i64 b])) 20 75 true).run prog w=.ok (.tuple #[.agg #[.int .i64 a,.int .i64 b],.bool true]) w:=λw=>by kernel_rfl
 go_wp2;have i:w.heap.size≠p/\w.heap.size≠q:=⟨by have h:p<w.heap.size:=kaI c;omega,by have h:q<w.heap.size:=kaI d;omega⟩
 have m:(w.alloc (.cells #[.int .i64 a,.int .i64 b] 75)).cell? ⟨p,0,none⟩=some (.int .i64 x):=(kal w _ _ (by rw[c];rfl)).trans c;have n:(w.alloc (.cells #[.int .i64 a,.int .i64 b] 75)).cell? ⟨q,0,none⟩=some (.int .i64 y):=(kal w _ _ (by rw[d];rfl)).trans d;have f:Below w.heap.size w (w.alloc (.cells #[.int .i64 a,.int .i64 b] 75)):=bwA;have H:=(f.frozen (p:=⟨p,0,none⟩) (kaI c)).trans o;have I:=(f.frozen (p:=⟨q,0,none⟩) (kaI d)).trans r;have E:(w.alloc (.cells #[.int .i64 a,.int .i64 b] 75)).cell? ⟨w.heap.size,0,none⟩=some (.int .i64 a):=qaa (qac _ _) 0;have F:(w.alloc (.cells #[.int .i64 a,.int .i64 b] 75)).cell? ⟨w.heap.size,1,none⟩=some (.int .i64 b):=qaa (qac _ _) 1;have l:=qab f;have L:=i.1;have M:=i.2;have t:q≠p:=λe=>j e.symm;generalize w.alloc (.cells #[.int .i64 a,.int .i64 b] 75)=V at *
 go_region
 have z:((V.setCell ⟨p,0,none⟩ (.int .i64 a)).setCell ⟨q,0,none⟩ (.int .i64 b)).drew.cell? ⟨p,0,none⟩=some (.int .i64 a):=by
  show((V.setCell ⟨p,0,none⟩ (.int .i64 a)).setCell ⟨q,0,none⟩ (.int .i64 b)).cell? ⟨p,0,none⟩=_;rw[kaN (w:=V.setCell ⟨p,0,none⟩ (.int .i64 a)) (kat _ _ _ _ (by simpa using j))];exact kci _ _ _ (by rw[m];rfl)
 have A:((V.setCell ⟨p,0,none⟩ (.int .i64 a)).setCell ⟨q,0,none⟩ (.int .i64 b)).drew.cell? ⟨q,0,none⟩=some (.int .i64 b):=by
  show((V.setCell ⟨p,0,none⟩ (.int .i64 a)).setCell ⟨q,0,none⟩ (.int .i64 b)).cell? ⟨q,0,none⟩=_;refine kci _ _ _ ?_;rw[kaN (w:=V) (kat _ _ _ _ (by simpa using t)),n];rfl
 have C:∀B,B<=p->B<=q->B<=w.heap.size->Below B w ((V.setCell ⟨p,0,none⟩ (.int .i64 a)).setCell ⟨q,0,none⟩ (.int .i64 b)).drew:=λB h J s =>
  (l.out.mono s).trans ⟨rfl,rfl,rfl,by simp[World.setCell,World.drew],λk K=>(kat _ _ _ _ (by simp;omega)).trans (kat V _ _ _ (by simp;omega))⟩
 generalize((V.setCell ⟨p,0,none⟩ (.int .i64 a)).setCell ⟨q,0,none⟩ (.int .i64 b)).drew=X at *;exact⟨rfl,_,rfl,_,kei rfl _ _ _,rfl,rfl,z,A,C⟩

def qeD(f:Int):Bool:=f==1||f==2||f==3
theorem qc3(f:Int)(w:World):Calls prog 18 #[.int .i64 f] w λe a=>e=.returned (.bool (qeD f))/\a=w:=by
 go_enter func18,ntmps18;go_wp2
 all_goals go_ret
 all_goals exact⟨by simp[qeD, *],rfl⟩
theorem qiw(f:Int)(w:World):Calls prog 28 #[.int .i64 f] w λe a=>e=.returned (.bool (qeD f))/\a=w:=by
 go_enter func28,ntmps28;go_wp2
 all_goals go_ret
 all_goals exact⟨by simp[qeD, *],rfl⟩
def qe3(i o d b:Int):Bool:=qeD i&&qeD o&&decide (1<=d)&&decide (d<=16)&&decide (1<=b)&&decide (b<=4096)
theorem qfJ(i o d b:Int)(w:World):Calls prog 10 #[.int .i64 i,.int .i64 o,.int .i64 d,.int .i64 b] w λe j=>e=.returned (.bool (qe3 i o d b))/\j=w:=by
 cases c:qeD i
 ·have a:Hid (qe3 i o d b=false):=by show _=_;unfold qe3;rw[c];rfl
  go_enter func10,ntmps10;have h:True:=trivial
  go_wp2_with(first
   |(go_at_call 18;clear h;refine(qc3 _ _).mono ?_;rintro e g ⟨rfl,rfl⟩))
  go_ret;exact⟨by rw[a.out];rfl,rfl⟩
 cases f:qeD o
 ·have a:Hid (qe3 i o d b=false):=by show _=_;unfold qe3;rw[c,f];rfl
  go_enter func10,ntmps10
  go_wp2_with(first
   |(go_at_call 18;refine(qc3 _ _).mono ?_;rintro e g ⟨rfl,rfl⟩))
  go_ret;exact⟨by rw[a.out];rfl,rfl⟩
 have a:Hid (qe3 i o d b=(decide (1<=d)&&decide (d<=16)&&decide (1<=b)&&decide (b<=4096))):=by show _=_;unfold qe3;rw[c,f];rfl
 go_enter func10,ntmps10
 go_wp2_with(first
  |(go_at_call 18;refine(qc3 _ _).mono ?_;rintro e g ⟨rfl,rfl⟩))
 all_goals go_ret
 all_goals refine⟨?_,rfl⟩
 all_goals rw[a.out]
 all_goals simp[*]
 all_goals(intros;omega)

def qpT: String := "internal" ++ (String.singleton (Char.ofNat 47) ++ "strconv.uint64pow10")
def qgc(B:Nat)(w:World):Prop:=Lib.TabBelow prog B w qpT .u64 Lib.pow10Tab
theorem qje(bs:List UInt8):Lib.byteCells bs=bs.map qax:=by
 unfold Lib.byteCells qax;rfl
theorem qj5(W:World)(a:Nat)(v:Value)(bs:List UInt8)(z:Int)(j : -9223372036854775808<=z)(k:z<=9223372036854775807)(p:bs.length<=999999999)(h:Own W a v bs)(m:qgc a W):Calls prog 66 #[v,.int .i64 z,.int .i64 10] W λe c=>∃b,e=.returned b/\Own c a b (bs++Lib.itoa z)/\Below a W c:=by
 obtain⟨l,i,q⟩:=h;refine(Any.strconv_AppendInt_10 Tryz.laysM176 a bs.length z j k v (bs.map qax) W l i (by omega) (Eq.mp (congrArg (λs=>Lib.TabBelow prog a W s .u64 Lib.pow10Tab) (by kernel_rfl)) m)).mono ?_;rintro e w ⟨b,rfl,f,d,_⟩;refine⟨b,rfl,⟨?_,?_,?_⟩,d⟩
 ·rw[kaa,kaW,<-qje (Lib.itoa z)];exact f
 ·have:=d.size;omega
 rcases f.2 with⟨e,_⟩|⟨g,n,o,e,_⟩
 ·exact⟨_,_,_,e⟩
 exact⟨_,_,_,e⟩

structure AuR(W:World)(A:Nat)(ra:Option Addr)(rc n:Nat)(st:Nat->Nat):Prop where
 lt:A<W.heap.size
 rules:W.cell? ⟨A,0,none⟩=some (.slice ra n rc)
 stays:∀r,r<16->W.cell? ⟨A,3+r,none⟩=some (.int .u16 (st r))
theorem AuR.below(h:AuR W A ra rc n st)(a:Below W.heap.size W W'):AuR W' A ra rc n st :=
 ⟨kai h.lt a.size,(a.cell (p:=⟨A,_,none⟩) h.lt).trans h.rules,λr b=>(a.cell (p:=⟨A,_,none⟩) h.lt).trans (h.stays r b)⟩
def WdY(n:Nat)(st P Y:Nat->Nat):Prop:=(∀r,r<n->∀k,(Y r).testBit k=wdB (st r) (P r) k)/\(∀r,n<=r->Y r=P r)/\∀r,Y r<512
def qr1(n:Nat)(st P:Nat->Nat)(e:Ending):Prop:=∃Y,e=.returned (.agg (plA Y))/\WdY n st P Y
theorem qyK(h:AuR W A ra rc n st)(P:Nat->Nat)(b:∀r,P r<512)(d:∀r,st r<256)(c:n<=16):Calls prog 85 #[.pointer (some ⟨A,0,none⟩),.agg (plA P)] W λe a=>qr1 n st P e/\Below W.heap.size W a :=
 qmy W A ra rc n st P b d c h.lt h.rules h.stays
def one(k:Nat):Nat->Nat:=λr=>if r<k then 1 else 0
theorem qs3:one 0=zPl:=by funext r;rfl
theorem qtF(k:Nat):(λi=>if i=k then(one k k|||2^0:Nat)else one k i)=one (k+1):=by
 funext r;unfold one;by_cases h:r=k
 ·subst h;rw[kag rfl,kac (by omega),kag (by omega)];rfl
 rw[kac h];by_cases a:r<k
 ·rw[kag a,kag (by omega)]
 rw[kac a,kac (by omega)]
theorem qun(k r:Nat):one k r<512:=by unfold one;split<;>omega
structure qv3(W:World)(X:Nat->Nat)(V:World):Prop where
 ret:V.heap[W.heap.size]?=some (.cells (plA zPl) 135)
 p:V.heap[W.heap.size+1]?=some (.cells (plA X) 135)
 below:Below W.heap.size W V
theorem qv3.next(h:qv3 W X V)(a:Below V.heap.size V V'):qv3 W X V' :=
 ⟨(a.block _ (ltA h.ret)).trans h.ret,(a.block _ (ltA h.p)).trans h.p,h.below.trans (a.mono h.below.size)⟩
theorem qxq(W:World):qv3 W zPl ((W.alloc (.cells (plA zPl) 135)).alloc (.cells (plA zPl) 135)) :=
 ⟨(kae _ _ _ (by simp)).trans (qac _ _),by have:=qac (W.alloc (.cells (plA zPl) 135)) (.cells (plA zPl) 135);simpa using this,(bwA).alloc (by simp) _⟩
theorem qrI(W:World)(A:Nat)(B:Option Addr)(C n:Nat)(st:Nat->Nat)(y:∀r,st r<256)(x:n<=16)(h:AuR W A B C n st):Calls prog 59 #[.pointer (some ⟨A,0,none⟩)] W λe W'=>qr1 n st (one n) e/\Below W.heap.size W W':=by
 have d:=qab h;have i:Hid (qv3 W zPl ((W.alloc (.cells #[.int .u16 0,.int .u16 0,.int .u16 0,.int .u16 0,.int .u16 0,.int .u16 0,.int .u16 0,.int .u16 0,.int .u16 0,.int .u16 0,.int .u16 0,.int .u16 0,.int .u16 0,.int .u16 0,.int .u16 0,.int .u16 0] 135)).alloc (.cells #[.int .u16 0,.int .u16 0,.int .u16 0,.int .u16 0,.int .u16 0,.int .u16 0,.int .u16 0,.int .u16 0,.int .u16 0,.int .u16 0,.int .u16 0,.int .u16 0,.int .u16 0,.int .u16 0,.int .u16 0,.int .u16 0] 135))):=qxq W;have E:=h.rules;have G:=h.lt;go_enter func59,ntmps59;go_wp2
 go_loopg[10] n (λg z V=>∃k:Nat,z=.int .i64 k/\Hid (k+g=n)/\Hid (qv3 W (one k) V))
 case atStart=>exact⟨0,rfl,by show _=_;omega,by rw[qs3];exact i⟩
 case round =>
  obtain⟨k,rfl,b,a⟩:=hrel
  cases gk with
  |zero =>
   have w:¬(k:Int)<(n:Int):=by have:=b.out;omega
   have v:k=n:=by have:=b.out;omega
   subst v;have m:=λV s=>qyK (d.out.below (W':=V) s) (one k) (qun k) y x
   go_wp2_with(first
    |(go_at_call 85;refine(m _ a.out.below).mono ?_;rintro e D ⟨⟨Y,rfl,q⟩,o⟩;have c:=qab (a.out.next o);have j:=qab q)
    |(refine kak rfl 135 (.tmp 3) rfl (W.heap.size+1) rfl _ _ _ _ a.out.p underlying135 rfl (qbo _) ?_)
    |(refine kan rfl 135 (.tmp 2) (.tmp 18) rfl W.heap.size (plA Y) rfl rfl 135 (plA zPl) c.out.ret (qbo Y) (qlj _ _) (qhf Y) ?_))
   refine kaw (kcb results59 _ _ W.heap.size 135 (plA Y) (0,0) _ rfl (kaA _ _ _ _ _ _ c.out.ret) underlying135 rfl (qbo Y)) rfl ⟨⟨Y,rfl,j.out⟩,qai c.out.below (kaf _) _⟩
  |succ g =>
   have F:k<n:=by have:=b.out;omega
   have w:(k:Int)<(n:Int):=by omega
   have t:wr.cell? ⟨W.heap.size+1,0+k,none⟩=some (.int .u16 (one k k)):=by
    have h:=qaa a.out.p (0+k);rw[qdk _ (0+k) (by omega)]at h;rw[h,kaL]
   have u:=kaK wr (W.heap.size+1) (0+k) _ _ a.out.p;have l:=qdy wr (W.heap.size+1) 0 (one k k) k 0 (by omega) (by omega) (by have:=qun k k;omega) t u;have f:Hid (qv3 W (one (k+1)) (wr.setCell ⟨W.heap.size+1,k,none⟩ (.int .u16 ((one k k|||1:Nat):Int))).drew):=by
    refine⟨(kaG wr _ _ _ (by simp)).trans a.out.ret,?_,(a.out.below.setCell (by simp) _).drew⟩;have h:=kaO wr (W.heap.size+1) k _ _ (.int .u16 ((one k k|||1:Nat):Int)) a.out.p;rw[qiL,show(1:Nat)=2^0 from rfl,qtF]at h;exact h
   go_wp2_with(first
    |(go_at_call 83;refine l.mono ?_;rintro e D ⟨rfl,rfl⟩))
   go_roundg g
   case measure=>omega
   case rel=>exact⟨k+1,by go_num,by show _=_;have:=b.out;omega,f⟩

structure AuT(W:World)(A tb L tc:Nat)(tk:Nat->Nat->Nat):Prop where
 lt:A<W.heap.size
 tlt:tb<W.heap.size
 takes:W.cell? ⟨A,19,none⟩=some (.slice (some ⟨tb,0,none⟩) L tc)
 at_:∀x r,x<L->r<16->W.cell? ⟨tb,x*16+r,none⟩=some (.int .u16 (tk x r))
theorem AuT.below{tb L tc:Nat}{tk:Nat->Nat->Nat}(h:AuT W A tb L tc tk)(a:Below W.heap.size W W'):AuT W' A tb L tc tk :=
 ⟨kai h.lt a.size,kai h.tlt a.size,(a.cell (p:=⟨A,_,none⟩) h.lt).trans h.takes,λx r c b=>(a.cell (p:=⟨tb,_,none⟩) h.tlt).trans (h.at_ x r c b)⟩
def gon(st tk x:Nat):Nat:=(x&&&st)|||((x&&&tk)<<<1)
def qj0(st tk P:Nat->Nat)(k:Nat):Nat->Nat:=λr=>if r<k then gon (st r) (tk r) (P r)else 0
theorem qzn{st tk x:Nat}(d:st<256)(e:tk<256):gon st tk x<512:=by
 have b:x&&&st<2^8:=kbU _ (by omega);have c:x&&&tk<2^8:=kbU _ (by omega);have a:(x&&&tk)<<<1<2^9:=by rw[kcn];omega
 exact kdm (n:=9) (by omega) a
theorem qpF(st tk P:Nat->Nat):qj0 st tk P 0=zPl:=by funext r;unfold qj0 zPl;rw[kac (by omega)]
theorem qp8(st tk P:Nat->Nat)(k:Nat):(λi=>if i=k then gon (st k) (tk k) (P k)else qj0 st tk P k i)=qj0 st tk P (k+1):=by
 funext r;unfold qj0;by_cases h:r=k
 ·subst h;rw[kag rfl,kag (by omega)]
 rw[kac h];by_cases a:r<k
 ·rw[kag a,kag (by omega)]
 rw[kac a,kac (by omega)]
theorem qvz{tk:Nat->Nat}(a:∀r,st r<256)(b:∀r,tk r<256)(P:Nat->Nat)(k r:Nat):qj0 st tk P k r<512:=by
 unfold qj0;split
 ·exact qzn (a r) (b r)
 omega
structure qtY(W:World)(P X:Nat->Nat)(V:World):Prop where
 box:V.heap[W.heap.size]?=some (.cells (plA P) 135)
 ret:V.heap[W.heap.size+1]?=some (.cells (plA zPl) 135)
 nx:V.heap[W.heap.size+2]?=some (.cells (plA X) 135)
 below:Below W.heap.size W V
theorem qtY.next{P:Nat->Nat}(h:qtY W P X V)(a:Below V.heap.size V V'):qtY W P X V' :=
 ⟨(a.block _ (ltA h.box)).trans h.box,(a.block _ (ltA h.ret)).trans h.ret,(a.block _ (ltA h.nx)).trans h.nx,h.below.trans (a.mono h.below.size)⟩
theorem qxk(W:World)(P:Nat->Nat):qtY W P zPl (((W.alloc (.cells (plA P) 135)).alloc (.cells (plA zPl) 135)).alloc (.cells (plA zPl) 135)) :=
 ⟨((kae _ _ _ (by simp;omega)).trans (kae _ _ _ (by simp))).trans (qac _ _),(kae _ _ _ (by simp)).trans (by have:=qac (W.alloc (.cells (plA P) 135)) (.cells (plA zPl) 135);simpa using this),by have:=qac ((W.alloc (.cells (plA P) 135)).alloc (.cells (plA zPl) 135)) (.cells (plA zPl) 135);simpa using this,((bwA).alloc (by simp) _).alloc (by simp;omega) _⟩
theorem qqK(W:World)(A:Nat)(R:Option Addr)(T n:Nat)(st:Nat->Nat)(c L i:Nat)(tk:Nat->Nat->Nat)(o:∀r,st r<256)(u:∀x r,tk x r<256)(N:n<=16)(h:AuR W A R T n st)(B:AuT W A c L i tk)(P:Nat->Nat)(E:∀r,P r<512)(x:Nat)(Q:x<L):Calls prog 151 #[.pointer (some ⟨A,0,none⟩),.agg (plA P),.int .i64 x] W λe W'=>qr1 n st (qj0 st (tk x) P n) e/\Below W.heap.size W W':=by
 have p:=qab h;have t:=qab B;have l:Hid (qtY W P zPl (((W.alloc (.cells (plA P) 135)).alloc (.cells #[.int .u16 0,.int .u16 0,.int .u16 0,.int .u16 0,.int .u16 0,.int .u16 0,.int .u16 0,.int .u16 0,.int .u16 0,.int .u16 0,.int .u16 0,.int .u16 0,.int .u16 0,.int .u16 0,.int .u16 0,.int .u16 0] 135)).alloc (.cells #[.int .u16 0,.int .u16 0,.int .u16 0,.int .u16 0,.int .u16 0,.int .u16 0,.int .u16 0,.int .u16 0,.int .u16 0,.int .u16 0,.int .u16 0,.int .u16 0,.int .u16 0,.int .u16 0,.int .u16 0,.int .u16 0] 135))):=qxk W P;have X:=h.rules;have ah:=h.lt;have ai:A<W.heap.size+1:=by omega
 have aj:A<W.heap.size+1+1:=by omega
 go_enter func151,ntmps151;go_wp2
 go_loopg[14] n (λg z V=>∃k:Nat,z=.int .i64 k/\Hid (k+g=n)/\Hid (qtY W P (qj0 st (tk x) P k) V))
 case atStart=>exact⟨0,rfl,by show _=_;omega,by rw[qpF];exact l⟩
 case round =>
  obtain⟨k,rfl,j,d⟩:=hrel
  cases gk with
  |zero =>
   have M:¬(k:Int)<(n:Int):=by have:=j.out;omega
   have J:k=n:=by have:=j.out;omega
   subst J;have y:=λV f=>qyK (p.out.below (W':=V) f) (qj0 st (tk x) P k) (qvz o (u x) P k) o N
   go_wp2_with(first
    |(go_at_call 85;refine(y _ d.out.below).mono ?_;rintro e w2 ⟨⟨Y,rfl,H⟩,C⟩;have m:=qab (d.out.next C);have w:=qab H)
    |(refine kak rfl 135 (.tmp 7) rfl (W.heap.size+1+1) rfl _ _ _ _ d.out.nx underlying135 rfl (qbo _) ?_)
    |(refine kan rfl 135 (.tmp 6) (.tmp 47) rfl (W.heap.size+1) (plA Y) rfl rfl 135 (plA zPl) m.out.ret (qbo Y) (qlj _ _) (qhf Y) ?_))
   refine kaw (kcb results151 _ _ (W.heap.size+1) 135 (plA Y) (0,0) _ rfl (kaA _ _ _ _ _ _ m.out.ret) underlying135 rfl (qbo Y)) rfl ⟨⟨Y,rfl,w.out⟩,qai m.out.below (by omega) _⟩
  |succ g =>
   have ag:k<n:=by have:=j.out;omega
   have M:(k:Int)<(n:Int):=by omega
   have af:(k:Int)<16:=by omega
   have hxL:(x:Int)<(L:Int):=by omega
   have aa:=E k;have al:=o k;have am:=u x k;have ha:=qsU (P k) (st k) (by omega) (by omega);have ac:=qsU (P k) (tk x k) (by omega) (by omega);have ab:P k&&&st k<256:=kbU (n:=8) _ (by omega);have I:P k&&&tk x k<256:=kbU (n:=8) _ (by omega);have ak:=qxW (P k&&&tk x k) I;have O:bits .or .u16 ((P k&&&st k:Nat):Int) (((P k&&&tk x k)<<<1:Nat):Int)=((gon (st k) (tk x k) (P k):Nat):Int):=qzG _ _ (by omega) (by rw[kcn];omega);have ad:wr.cell? ⟨W.heap.size+1+1,k,none⟩=some (.int .u16 (qj0 st (tk x) P k k)):=by
    have h:=qaa d.out.nx k;rwa[qdk _ k (by omega)]at h
   have ae:=kaK wr (W.heap.size+1+1) k _ _ d.out.nx;have s:Hid (qtY W P (qj0 st (tk x) P (k+1)) (wr.drew.setCell ⟨W.heap.size+1+1,k,none⟩ (.int .u16 ((gon (st k) (tk x k) (P k):Nat):Int)))):=by
    refine⟨(kaG wr.drew _ _ _ (by simp;omega)).trans d.out.box,(kaG wr.drew _ _ _ (by simp)).trans d.out.ret,?_,d.out.below.drew.setCell (by simp;omega) _⟩;have h:=kaO wr.drew (W.heap.size+1+1) k _ _ (.int .u16 ((gon (st k) (tk x k) (P k):Nat):Int)) d.out.nx;rw[qiL,qp8]at h;exact h
   have q:∀V,qtY W P (qj0 st (tk x) P k) V\/qtY W P (qj0 st (tk x) P (k+1)) V->V.cell? ⟨W.heap.size,k,none⟩=some (.int .u16 (P k))/\V.cell? ⟨A,3+k,none⟩=some (.int .u16 (st k))/\V.cell? ⟨A,19,none⟩=some (.slice (some ⟨c,0,none⟩) L i)/\V.cell? ⟨c,x*16+k,none⟩=some (.int .u16 (tk x k)):=by
    intro V G;have f:V.heap[W.heap.size]?=some (.cells (plA P) 135)/\Below W.heap.size W V:=by rcases G with h|h<;>exact⟨h.box,h.below⟩
    exact⟨by have h:=qaa f.1 k;rwa[qdk _ k (by omega)]at h,(p.out.below f.2).stays k (by omega),(t.out.below f.2).takes,(t.out.below f.2).at_ x k Q (by omega)⟩
   have l:Hid (_):=q wr (.inl d.out);have v:Hid (_):=q _ (.inr s.out);go_wp2;have a:(λZ:World=>Z.cell? ⟨W.heap.size,k,none⟩=some (.int .u16 (P k))/\Z.cell? ⟨A,3+k,none⟩=some (.int .u16 (st k))/\Z.cell? ⟨A,19,none⟩=some (.slice (some ⟨c,0,none⟩) L i)/\Z.cell? ⟨c,x*16+k,none⟩=some (.int .u16 (tk x k))) {wr with drawn:=wr.drawn+1}:=l.out;have F:(λZ:World=>Z.cell? ⟨W.heap.size,k,none⟩=some (.int .u16 (P k))/\Z.cell? ⟨A,3+k,none⟩=some (.int .u16 (st k))/\Z.cell? ⟨A,19,none⟩=some (.slice (some ⟨c,0,none⟩) L i)/\Z.cell? ⟨c,x*16+k,none⟩=some (.int .u16 (tk x k))) (wr.drew.setCell ⟨W.heap.size+1+1,k,none⟩ (.int .u16 ((gon (st k) (tk x k) (P k):Nat):Int))):=v.out;refine kaM (S:=λZ=>Z.cell? ⟨W.heap.size,k,none⟩=some (.int .u16 (P k))/\Z.cell? ⟨A,3+k,none⟩=some (.int .u16 (st k))/\Z.cell? ⟨A,19,none⟩=some (.slice (some ⟨c,0,none⟩) L i)/\Z.cell? ⟨c,x*16+k,none⟩=some (.int .u16 (tk x k))) (by kernel_rfl) ?_;refine tkp 0 17 (.int .i64 k) a ?_;refine tkp 1 18 (.int .i64 k) a ?_;refine tkq 2 19 (.pointer (some ⟨W.heap.size,k,none⟩)) rfl (λZ b=>?y2) a ?_
   case y2=>go_simp
   refine tkq 3 20 (.int .u16 (P k)) rfl (λZ b=>?y3) a ?_
   case y3=>(have U:=b.1;go_simp)
   refine tkp 4 21 (.pointer (some ⟨A,0,none⟩)) a ?_;refine tkp 5 22 (.int .i64 k) a ?_;refine tkp 6 23 (.pointer (some ⟨A,0,none⟩)) a ?_;refine tkp 7 24 (.pointer (some ⟨A,3,none⟩)) a ?_;refine tkq 8 25 (.pointer (some ⟨A,3+k,none⟩)) rfl (λZ b=>?y8) a ?_
   case y8=>go_simp
   refine tkq 9 26 (.int .u16 (st k)) rfl (λZ b=>?y9) a ?_
   case y9=>(have z2:=b.2.1;go_simp)
   refine tkq 10 27 (.int .u16 ((P k&&&st k:Nat):Int)) rfl (λZ b=>?y10) a ?_
   case y10=>go_simp
   refine tkp 11 28 (.int .i64 k) a ?_;refine tkq 12 29 (.pointer (some ⟨W.heap.size,k,none⟩)) rfl (λZ b=>?y12) a ?_
   case y12=>go_simp
   refine tkq 13 30 (.int .u16 (P k)) rfl (λZ b=>?y13) a ?_
   case y13=>(have U:=b.1;go_simp)
   refine tkp 14 31 (.pointer (some ⟨A,0,none⟩)) a ?_;refine tkp 15 32 (.pointer (some ⟨A,0,none⟩)) a ?_;refine tkp 16 33 (.pointer (some ⟨A,19,none⟩)) a ?_;refine tkq 17 34 (.slice (some ⟨c,0,none⟩) L i) rfl (λZ b=>?y17) a ?_
   case y17=>(have z3:=b.2.2.1;go_simp)
   refine tkp 18 35 (.int .i64 x) a ?_;refine tkp 19 36 (.int .i64 k) a ?_;refine tkq 20 37 (.pointer (some ⟨c,x*16,none⟩)) rfl (λZ b=>?y20) a ?_
   case y20=>go_simp
   refine tkq 21 38 (.pointer (some ⟨c,x*16+k,none⟩)) rfl (λZ b=>?y21) a ?_
   case y21=>go_simp
   refine tkq 22 39 (.int .u16 (tk x k)) rfl (λZ b=>?y22) a ?_
   case y22=>(have z4:=b.2.2.2;go_simp)
   refine tkq 23 40 (.int .u16 ((P k&&&tk x k:Nat):Int)) rfl (λZ b=>?y23) a ?_
   case y23=>go_simp
   refine tkq 24 41 (.int .u16 (((P k&&&tk x k)<<<1:Nat):Int)) rfl (λZ b=>?y24) a ?_
   case y24=>go_simp
   refine tkq 25 42 (.int .u16 ((gon (st k) (tk x k) (P k):Nat):Int)) rfl (λZ b=>?y25) a ?_
   case y25=>(go_simp;exact O)
   refine tkq 26 43 (.pointer (some ⟨W.heap.size+1+1,k,none⟩)) rfl (λZ b=>?y26) a ?_
   case y26=>go_simp
   refine rdq 27 (λK D=>?_);go_simp;refine D.out _ _ F (λ_=>?_);refine wdn ?_;go_simp;go_wp2;go_roundg g
   case measure=>omega
   case rel=>exact⟨k+1,by go_num,by show _=_;have:=j.out;omega,s⟩

def qdo(W:World)(kt:TypeId)(m n:Nat)(f:Lit->Option Nat):Prop :=
 ∃D:DataW Unit,W.ownsMap prog kt (plainElem prog 3) m n D/\∀l,Maps.has D l=(f l).isSome/\∀v:Nat,f l=some v->D.atKey l (.lit (.int .i64 0))=.lit (.int .i64 v)
theorem qdo.kept{kt:TypeId}{row:Option Nat}(h:qdo W kt m n f)(c:W.grownBy W' row)(d:some m≠row):qdo W' kt m n f:=by
 obtain⟨D,a,b⟩:=h;exact⟨D,a.kept c d,b⟩
theorem qdo.lt{kt:TypeId}(h:qdo W kt m n f):m<W.heap.size:=by
 obtain⟨D,a,_⟩:=h;exact a.lt
theorem qmd(W:World)(a:TypeId):qdo (W.alloc (.map #[] 0)) a W.heap.size 0 (λ_=>none) :=
 ⟨_,kcC W prog a _,λl=>⟨by simp[Maps.has],λv h=>by cases h⟩⟩
theorem q00(W:World):(zeroValue 3).run prog W=.ok (.int .i64 0) W:=by kernel_rfl
theorem quP{kt:TypeId}{D:DataW Unit}(_h1:W.ownsMap prog kt (plainElem prog 3) m n D)(b:∀l,Maps.has D l=(f l).isSome/\∀v:Nat,f l=some v->D.atKey l (.lit (.int .i64 0))=.lit (.int .i64 v))(a:Lit):D.atKey a (.lit (.int .i64 0))=.lit (.int .i64 (((f a).getD 0:Nat):Int)):=by
 cases c:f a with
 |some v=>exact(b a).2 v c
 |none =>
  have:=(b a).1;rw[c]at this;exact Maps.atKey_of_not_has this _
theorem qgK{kt t:TypeId}(h:qdo W kt m n f)(K:Maps.Keyed prog kt)(j:prog.underlying t=some (.map kt 3))(g:keyOf prog kt key=some kl):(Instr.lookup t (.map (some m)) key false).run prog W=.ok (.int .i64 (((f kl).getD 0:Nat):Int)) W:=by
 obtain⟨D,a,d⟩:=h;obtain⟨c,i,b,_⟩:=a.lookup_int K j underlying3 (q00 W) g;rw[quP a d kl]at b;have e:(((f kl).getD 0:Nat):Int)=c:=by simpa using b
 rw[i,e]
theorem qdQ{kt t:TypeId}(h:qdo W kt m n f)(K:Maps.Keyed prog kt)(k:prog.underlying t=some (.map kt 3))(i:keyOf prog kt key=some kl):(Instr.lookup t (.map (some m)) key true).run prog W=.ok (.tuple #[.int .i64 (((f kl).getD 0:Nat):Int),.bool (f kl).isSome]) W:=by
 obtain⟨D,a,b⟩:=h;obtain⟨v,l,j,d⟩:=a.look_ok K k (q00 W) (kdS underlying3 (by decide)) i;rw[quP a b kl]at d;obtain⟨c,rfl,g,_⟩:=plainElem_int_inv underlying3 d;have e:(((f kl).getD 0:Nat):Int)=c:=by
  have:=congrArg Prod.fst g;simpa using this
 rw[j,(b kl).1,e]
theorem qmQ{kt t:TypeId}(h:qdo W kt m n f)(K:Maps.Keyed prog kt)(r:prog.underlying t=some (.map kt 3))(x:n<1000000000)(i:keyOf prog kt key=some kl)(v:Nat)(y:v<1000000000):∃a,(Instr.mapUpdate t (.map (some m)) key (.int .i64 v)).run prog W=.ok () a/\(∀c:Lit->Option Nat,c kl=some v->(∀l,l≠kl->c l=f l)->qdo a kt m (n+1) c)/\W.grownBy a (some m):=by
 obtain⟨D,g,k⟩:=h;have w:(Lit.int .i64 (v:Int)).wf=true:=by
  have b:IntKind.i64.min = -9223372036854775808:=by kernel_rfl
  have d:IntKind.i64.max=9223372036854775807:=by kernel_rfl
  simp[Lit.wf,b,d];omega
 obtain⟨a,q,p,o⟩:=g.store K r (by unfold maxLen;omega) i (kdS underlying3 w);refine⟨a,q,λc b d=>⟨_,p,λl=>?_⟩,o.grown⟩;by_cases e:l=kl
 ·subst e;refine⟨(kdk g.isMap (K.key i) _).trans (by rw[b];rfl),λu j=>?_⟩;have s:=kaE (b.symm.trans j);rw[<-s];exact kdK g.isMap (K.key i) _ _
 rw[d l e];exact⟨(kdg e _).trans (k l).1,λu j=>(kdB e _ _).trans ((k l).2 u j)⟩
theorem plK:Maps.Keyed prog 135:=ked qqO
theorem mvK:Maps.Keyed prog 267:=ked quQ

structure Aut where
 ra:Option Addr
 rc:Nat
 rs:List (List (Nat×List UInt8)×Int×Int)
 dflt:Int
 lm:Nat
 ln:Nat
 lf:Lit->Option Nat
 st:Nat->Nat
 tb:Nat
 L:Nat
 tc:Nat
 tk:Nat->Nat->Nat
 nb:Nat
 mb:Nat
def qzu(q:Aut)(sv:Value):Array Value:=#[.slice q.ra q.rs.length q.rc,.int .i64 q.dflt,.map (some q.lm),.int .u16 (q.st 0),.int .u16 (q.st 1),.int .u16 (q.st 2),.int .u16 (q.st 3),.int .u16 (q.st 4),.int .u16 (q.st 5),.int .u16 (q.st 6),.int .u16 (q.st 7),.int .u16 (q.st 8),.int .u16 (q.st 9),.int .u16 (q.st 10),.int .u16 (q.st 11),.int .u16 (q.st 12),.int .u16 (q.st 13),.int .u16 (q.st 14),.int .u16 (q.st 15),.slice (some ⟨q.tb,0,none⟩) q.L q.tc,sv,.map (some q.nb),.map (some q.mb)]
def stC(x:(Nat->Nat)×Int×Int):List Value:=(plA x.1).toList++[.int .i64 x.2.1,.int .i64 x.2.2]
structure qcy(W0:World)(A:Nat)(q:Aut)(sts:List ((Nat->Nat)×Int×Int))(sv:Value)(nf:Lit->Option Nat)(mn:Nat)(mf:Lit->Option Nat)(W:World):Prop where
 row:W.heap[A]?=some (.cells (qzu q sv) 139)
 rules:qep W0 q.ra q.rs
 few:q.rs.length<=16/\∀i (h:i<q.rs.length),q.rs[i].1.length<=8
 below:Below W0.heap.size W0 W
 letters:qdo W 9 q.lm q.ln q.lf
 takes:∃cur,W.heap[q.tb]?=some (.cells cur 135)/\∀(x r:Nat),x<q.L->r<16->cur[x*16+r]?=some (.int .u16 (q.tk x r))
 states:W.ownsRow W0.heap.size 189 18 sv sts.length (sts.flatMap stC)
 numbers:qdo W 135 q.nb sts.length nf
 moves:qdo W 267 q.mb mn mf
 high:W0.heap.size<=A/\W0.heap.size<=q.lm/\W0.heap.size<=q.tb/\W0.heap.size<=q.nb/\W0.heap.size<=q.mb
 apart:A≠q.lm/\A≠q.tb/\A≠q.nb/\A≠q.mb/\q.lm≠q.tb/\q.lm≠q.nb/\q.lm≠q.mb/\q.tb≠q.nb/\q.tb≠q.mb/\q.nb≠q.mb
 own:∀g,sv.ownBlock=some g->g≠A/\g≠q.lm/\g≠q.tb/\g≠q.nb/\g≠q.mb
 bits:(∀r,q.st r<256)/\∀x r,q.tk x r<256
 here:∀(i:Nat) (x:(Nat->Nat)×Int×Int),sts[i]?=some x->x.2=jdg q.dflt q.rs x.1 0/\∀r,x.1 r<512
 num:∀(i:Nat) (x:(Nat->Nat)×Int×Int),sts[i]?=some x->∀l,keyOf prog 135 (.agg (plA x.1))=some l->nf l=some i
 num':∀(l:Lit) (i:Nat),nf l=some i->∃x,sts[i]?=some x/\keyOf prog 135 (.agg (plA x.1))=some l
theorem qjp(a:TypeId)(x:Operand)(f:o.op=.load a x)(g:Nat)(i:ev x=.pointer (some ⟨g,0,none⟩))(t:TypeId)(cs:Array Value)(b:Nat×Nat)(d:TypeDesc)(e:W.heap[g]?=some (.cells cs t b))(h:P.underlying a=some d)(c:(match d with|.struct _|.array _ _=>true|_=>false)=true)(hi:(P.info? a).map (·.size)=some cs.size):(execOp ev o).run P W=.ok (.value (.agg cs)) W:=by
 unfold execOp;simp only[f,i,Instr.loadAt,Instr.sureAddr,kbb,kby,kaJ,kbZ W g t a cs b d e h c hi]
theorem qk3(k:World)(A:Nat)(q:Aut)(d:List ((Nat->Nat)×Int×Int))(t:Value)(c:Lit->Option Nat)(s:Nat)(r:Lit->Option Nat)(W:World)(h:qcy k A q d t c s r W)(Y:Nat->Nat)(l:Lit)(o:keyOf prog 135 (.agg (plA Y))=some l)(i:Nat)(hi:c l=some i):Calls prog 58 #[.pointer (some ⟨A,0,none⟩),.agg (plA Y)] W λe j=>e=.returned (.int .i64 i)/\Below W.heap.size W j:=by
 have f:Hid ((W.alloc (.cells (plA Y) 135)).heap[W.heap.size]?=some (.cells (plA Y) 135)):=qac _ _;have n:=ltA h.row;have m:W.cell? ⟨A,21,none⟩=some (.map (some q.nb)):=qaa h.row 21;have g:=qab (h.numbers.kept (kbd W (.cells (plA Y) 135) none) (by simp));go_enter func58,ntmps58;go_wp2;have a:(λZ:World=>Z.cell? ⟨A,21,none⟩=some (.map (some q.nb))/\Z.heap[W.heap.size]?=some (.cells (plA Y) 135)/\qdo Z 135 q.nb d.length c) {W.alloc (.cells (plA Y) 135)with drawn:=(W.alloc (.cells (plA Y) 135)).drawn+1}:=⟨((((kam W.heap.size W).alloc (kaf _) (.cells (plA Y) 135)).cell (p:=⟨A,21,none⟩) n).trans m :),f.out,g.out⟩
 refine kaM (S:=λZ=>Z.cell? ⟨A,21,none⟩=some (.map (some q.nb))/\Z.heap[W.heap.size]?=some (.cells (plA Y) 135)/\qdo Z 135 q.nb d.length c) (by kernel_rfl) ?_;refine tkp 0 10 (.pointer (some ⟨A,0,none⟩)) a ?_;refine tkp 1 11 (.pointer (some ⟨A,0,none⟩)) a ?_;refine tkp 2 12 (.pointer (some ⟨A,21,none⟩)) a ?_;refine tkq 3 13 (.map (some q.nb)) rfl (λZ b=>?y3) a ?_
 case y3=>(have v:=b.1;go_simp)
 refine tkq 4 14 (.agg (plA Y)) rfl (λZ b=>?y4) a ?_
 case y4=>exact qjp 135 (.tmp 3) rfl W.heap.size rfl _ _ _ _ b.2.1 underlying135 rfl (qbo Y)
 refine tkq 5 15 (.tuple #[.int .i64 i,.bool true]) rfl (λZ b=>?y5) a ?_
 case y5=>(have u:=qdQ b.2.2 plK underlying131 o;rw[hi]at u;go_simp)
 refine tkp 6 9 (.tuple #[.int .i64 i,.bool true]) a ?_;refine tkp 7 16 (.int .i64 i) a ?_;refine tkp 8 17 (.bool true) a ?_;refine tkp 9 5 (.int .i64 i) a ?_;refine tkp 10 6 (.bool true) a ?_;refine wdn ?_;go_simp;go_wp2;go_ret;exact⟨rfl,(bwA).drew⟩

def qbf(n:Nat):List (List UInt8)->Nat->Int
 |[],_=>-1
 |p::q,i=>if qaC n p=true/\i<16 then qbf n q (i+1)else i
def qa2(n:Nat)(l:List UInt8):Int:=if 2000<l.length then 0 else if l.length=0 then -1 else qbf n (qam 10 l) 0
theorem Tryz.infoRule:(prog.info? 107).map (λi=>(i.zero,i.size,i.bytes))=some (some (.agg qcI),3,40):=by kernel_rfl
theorem qdI(w:World)(cs:Array Value)(t:TypeId):∀(j:Nat) (u:Value),cs.toList[j]?=some u->(w.alloc (.cells cs t)).cell? ((⟨w.heap.size,0,none⟩:Addr).add j)=some u:=λj u a=>by
 rw[qdb,kaL,kbg _ _ _ _ _ _ (qac _ _)];simpa using a
theorem qiS{e:TypeId}{size:Nat}(h:W.ownsRow base e size v n xs)(m:∀i,i<W.heap.size->W'.heap[i]?=W.heap[i]?):W'.ownsRow base e size v n xs:=by
 obtain⟨l,f⟩:=h;refine⟨l,?_⟩;rcases f with f|⟨g,j,k,a,b,c,d⟩
 ·exact kew f
 exact kd4 ⟨g,j,k,a,b,(m g (ltA c)).trans c,d⟩
structure qs5(w2 wr:World)(N:Nat)(A:Array Value)(W:World):Prop where
 below:Below w2.heap.size w2 W
 same:∀i,i<wr.heap.size->W.heap[i]?=wr.heap[i]?
 row:W.heap[N]?=some (.cells A 107)
 lo:wr.heap.size<=N
theorem qyN{A:Array Value}(h:Below w2.heap.size w2 wr)(a:Below wr.heap.size wr.drew w'):qs5 w2 wr w'.heap.size A (w'.alloc (.cells A 107)):=by
 have b:=h.size;have c:wr.heap.size<=w'.heap.size:=a.size;refine⟨(h.drew.trans (a.mono b)).alloc (by omega) _,λi d=>?_,qac _ _,c⟩;rw[kae _ _ _ (by omega)];exact a.block _ d
theorem qyn{A:Array Value}(h:Below w2.heap.size w2 wr)(a:Below (wr.heap.size+1) (wr.alloc (.cells qcI 107)).drew w'):qs5 w2 wr wr.heap.size A (w'.setRow wr.heap.size A):=by
 have b:=h.size;refine⟨qai (((h.alloc b _).drew).trans (a.mono (by omega))) b _,λi c=>?_,kaA _ _ qcI _ _ _ ((a.block _ (by omega)).trans (qac _ _)),kaf _⟩;rw[kb3 _ _ _ _ (by omega),a.block _ (by omega)];exact kae _ _ _ c
theorem qoL(a:TypeId)(x:Operand)(f:o.op=.load a x)(g:Nat)(i:ev x=.pointer (some ⟨g,0,none⟩))(t:TypeId)(cs:Array Value)(b:Nat×Nat)(d:TypeDesc)(e:W.heap[g]?=some (.cells cs t b))(h:P.underlying a=some d)(c:(match d with|.struct _|.array _ _=>true|_=>false)=true)(hi:(P.info? a).map (·.size)=some cs.size):(execOp ev o).run P W=.ok (.value (.agg cs)) W:=by
 unfold execOp;simp only[f,i,Instr.loadAt,Instr.sureAddr,kbb,kby,kaJ,kbZ W g t a cs b d e h c hi]
theorem qr2(c:Cfg)(n:Nat)(hn:c.labels=n)(w:World):Calls prog 30 #[.agg c.arr] w λe A =>
   ∃ab ah R,e=.returned (.tuple #[.slice ab ah R,.int .i64 (qa2 n c.pol.data.toList)])/\Below w.heap.size w A:=by
 have hl:c.pol.data.toList.length=c.pol.size:=ka8;have f3:c.arr[3]?=some (.string c.pol):=rfl;have aw:Hid (c.arr[0]?=some (.int .i64 n)):=by show _=_;rw[<-hn];rfl
 obtain⟨i0,hi,ar,au,av⟩:=kaF Tryz.infoRule;by_cases a6:(2000:Int)<c.pol.size
 ·have G:Hid (qa2 n c.pol.data.toList=0):=by show _=_;unfold qa2;rw[kag (by omega)]
  go_enter func30,ntmps30;go_wp2
  go_ret2
  first|exact⟨_,_,_,by rw[G.out];rfl,bwA⟩|exact⟨⟨_,_,_,by rw[G.out];rfl⟩,bwA⟩
 cases q:(c.pol.toList==[])
 ·have a2:c.pol.size≠0:=by
   intro h;have:c.pol.toList=[]:=by rw[kaX];exact ka7 (by omega)
   rw[this]at q;exact absurd q (by decide)
  have G:Hid (qa2 n c.pol.data.toList=qbf n (qam 10 c.pol.data.toList) 0):=by show _=_;unfold qa2;rw[kac (by omega),kac (by omega)]
  have an:c.pol.size<=100000:=by omega
  go_enter func30,ntmps30;have T1:True:=trivial
  go_wp2_with(first
   |(go_at_call 46;clear T1;refine(qhw c.pol 10 10 rfl _ an).mono ?_;rintro e F ⟨v,u,rfl,HO,O,P⟩;obtain⟨g,R,rfl,hg,a0,am⟩:=qex HO (qn3 P)))
  have a4:w.heap.size<F.heap.size:=by have:=O.size;simp only[kad]at this;omega
  have ay:Hid (F.heap[w.heap.size]?=some (.cells c.arr 25)):=(O.block _ (by simp)).trans (qac _ _);have HX:Hid (∀j,F.cell? ⟨w.heap.size,j,none⟩=c.arr[j]?):=λj=>qaa ((O.block _ (by simp)).trans (qac _ _)) j;have aj:=qab am;have ax:Hid (qa2 n c.pol.data.toList=qbf n (u.map (·.data.toList)) 0):=by show _=_;rw[G.out,P]
  have E:=qab ((bwA).trans (O.mono (by simp)));have al:Hid (∀p,p∈u->p.size<=100000):=λp I=>by
   have:=qb6 10 c.pol.data.toList p.data.toList (by rw[<-P];exact kc6 I);have h4:p.data.toList.length=p.size:=ka8;omega
  have a8:u.length<=100001:=by
   have h1:=congrArg List.length P;have h2:=qfc 10 c.pol.data.toList;rw[kaP]at h1;omega
  have a7:w.heap.size<g:=by simp only[kad]at hg;omega
  clear O HO am P G hg
  go_loopg[4,6] u.length (λgk v x wr=>∃(k:Nat) (xs:List Value) (ao:Option Addr) (cv:Nat),Hid (k+gk=u.length)/\v=.slice ao k cv/\x=.int .i64 k/\Hid (wr.ownsRow F.heap.size 107 3 v k xs)/\Hid (Below F.heap.size F wr)/\Hid (qa2 n c.pol.data.toList=qbf n ((u.map (·.data.toList)).drop k) k))
  case atStart=>exact⟨0,[],none,0,by show _=_;omega,rfl,rfl,kaV _ _ _ _,kam _ _,ax.out⟩
  case round =>
   obtain⟨k,xs,ao,cv,V,rfl,rfl,ak,H,HL⟩:=hrel;have a9:=H.out.size
   cases gk with
   |zero =>
    have a1:¬(k:Int)<u.length:=by have:=V.out;omega
    have d:Hid (qa2 n c.pol.data.toList = -1):=by
     show _=_;rw[HL.out,kbA (by rw[kaP];have:=V.out;omega)];rfl
    go_wp2
    go_ret2
    first|exact⟨_,_,_,by rw[d.out];rfl,E.out.trans (H.out.mono (by omega))⟩|exact⟨⟨_,_,_,by rw[d.out];rfl⟩,E.out.trans (H.out.mono (by omega))⟩
   |succ gg =>
    have a1:(k:Int)<u.length:=by have:=V.out;omega
    have ae:k<u.length:=by omega
    have J:=(H.out.cell (p:=⟨g,k,none⟩) a0).trans (aj.out k ae);have y:=(H.out.block _ a4).trans ay.out;have n1:=World.new_ne wr _ J;have Z:w.heap.size<wr.heap.size:=by omega
    have aq:g<wr.heap.size:=by omega
    obtain⟨p,I⟩:∃p,p=u[k]:=⟨_,rfl⟩
    have HP:=qab I;rw[<-I]at J;have cR:∀W,Calls prog 47 #[.agg c.arr,.string p] W λe A=>∃ab ah R x a5,e=.returned (.tuple #[.agg (qg0 ab ah R x a5),.bool (qaC n p.data.toList)])/\Below W.heap.size W A:=λW=>qtv c.arr n aw.out rfl p W (by rw[I];exact al.out u[k] (kbC ae));have L:Hid (qa2 n c.pol.data.toList=if qaC n p.data.toList=true/\k<16 then qbf n ((u.map (·.data.toList)).drop (k+1)) (k+1)else(k:Int)):=by
     show _=_;rw[HL.out,ka6 (by rw[kaP];exact ae),qbf,kcR,<-I]
    clear I hl f3 q a2 an HX aj al HL;go_wp2;refine kaM (S:=λW=>W.heap[w.heap.size]?=some (.cells c.arr 25)/\W.cell? ⟨g,k,none⟩=some (.string p)) (by kernel_rfl) ?_;have U:(λW:World=>W.heap[w.heap.size]?=some (.cells c.arr 25)/\W.cell? ⟨g,k,none⟩=some (.string p)) {wr with drawn:=wr.drawn+1}:=⟨y,J⟩
    refine kaD (i:=0) (v:=.agg c.arr) rfl (by kernel_rfl) (by kernel_rfl) (by kernel_rfl) (λ_ _ _ h=>h) (.inl ⟨rfl,λW z=>qoL 25 (.tmp 1) rfl w.heap.size rfl _ _ _ _ z.1 underlying25 rfl (qaD rfl)⟩) U ?_;refine kaD (i:=1) (v:=.slice (some ⟨g,0,none⟩) u.length R) rfl (by kernel_rfl) (by kernel_rfl) (by kernel_rfl) (λ_ _ _ h=>h) (.inl ⟨rfl,λW z=>rfl⟩) U ?_;refine kaD (i:=2) (v:=.int .i64 k) rfl (by kernel_rfl) (by kernel_rfl) (by kernel_rfl) (λ_ _ _ h=>h) (.inl ⟨rfl,λW z=>rfl⟩) U ?_;refine kaD (i:=3) (v:=.pointer (some ⟨g,k,none⟩)) rfl (by kernel_rfl) (by kernel_rfl) (by kernel_rfl) (λ_ _ _ h=>h) (.inl ⟨rfl,λW z=>?y3⟩) U ?_
    case y3=>go_simp
    refine kaD (i:=4) (v:=.string p) rfl (by kernel_rfl) (by kernel_rfl) (by kernel_rfl) (λ_ _ _ h=>h) (.inl ⟨rfl,λW z=>?y4⟩) U ?_
    case y4=>(have h2:=z.2;go_simp)
    refine qmU 5 9 (λK f=>?_) (λK f=>?_)
    ·go_simp;refine(cR _).mono ?_;rintro e A ⟨l,r,o,s,t,rfl,M⟩;simp only[];refine f.out _ _ ⟨(M.block _ Z).trans y,(M.cell (p:=⟨g,k,none⟩) aq).trans J⟩ (λB=>?_);clear f;refine kaD (i:=6) rfl (by kernel_rfl) (by kernel_rfl) (by kernel_rfl) (λ_ _ _ h=>h) (.inl ⟨rfl,λW z=>rfl⟩) B ?_;refine kaD (i:=7) (v:=.agg (qg0 l r o s t)) rfl (by kernel_rfl) (by kernel_rfl) (by kernel_rfl) (λ_ _ _ h=>h) (.inl ⟨rfl,λW z=>rfl⟩) B ?_;refine kaD (i:=8) (v:=.bool (qaC n p.data.toList)) rfl (by kernel_rfl) (by kernel_rfl) (by kernel_rfl) (λ_ _ _ h=>h) (.inl ⟨rfl,λW z=>rfl⟩) B ?_;have ap:=M.size;refine rdq 9 (λK f=>?_);go_simp;refine f.out _ _ ⟨(kae _ _ _ (kai Z ap)).trans B.1,(kal _ _ _ (by rw[B.2];rfl)).trans B.2⟩ (λm=>?_);clear f;refine rdq 10 (λK f=>?_);rw[kag (by rfl)];refine kbL 107 _ _ rfl A.heap.size (qg0 l r o s t) rfl rfl 107 qcI (qac A _) qcX rfl (qda _ _ _ _ _) ?_;rw[kaB];refine f.out _ _ ⟨(kae _ _ _ (kai Z ap)).trans B.1,(kal _ _ _ (by rw[B.2];rfl)).trans B.2⟩ (λac=>?_);clear f;refine kaD (i:=11) (v:=.bool (qaC n p.data.toList)) rfl (by kernel_rfl) (by kernel_rfl) (by kernel_rfl) (λ_ _ _ h=>h) (.inl ⟨rfl,λW z=>rfl⟩) ac ?_;refine wdn ?_;have b:Hid (qs5 F wr A.heap.size (qg0 l r o s t) (A.alloc (.cells (qg0 l r o s t) 107))):=qyN H.out M;generalize A.alloc (.cells (qg0 l r o s t) 107)=W4 at *;generalize A.heap.size=N at *;cases T:qaC n p.data.toList
     ·have d:Hid (qa2 n c.pol.data.toList=k):=by show _=_;rw[L.out,kac (by rw[T];simp)]
      go_wp2
      go_ret2
      first|exact⟨_,_,_,by rw[d.out];rfl,E.out.trans (b.out.below.mono (by omega))⟩|exact⟨⟨_,_,_,by rw[d.out];rfl⟩,E.out.trans (b.out.below.mono (by omega))⟩
     by_cases az:(16:Int)<=k
     ·have d:Hid (qa2 n c.pol.data.toList=k):=by show _=_;rw[L.out,kac (by omega)]
      go_wp2
      go_ret2
      first|exact⟨_,_,_,by rw[d.out];rfl,E.out.trans (b.out.below.mono (by omega))⟩|exact⟨⟨_,_,_,by rw[d.out];rfl⟩,E.out.trans (b.out.below.mono (by omega))⟩
     have d:Hid (qa2 n c.pol.data.toList=qbf n ((u.map (·.data.toList)).drop (k+1)) (k+1)):=by show _=_;rw[L.out,kag ⟨T,by omega⟩]
     have Q:=qab (qiS ak.out b.out.same);have af:=b.out.below.size;have aa:Hid (W4.heap[N]?=some (.cells #[.slice l r o,.int .i64 s,.int .i64 t] 107)):=b.out.row
     go_wp2_with(first
      |(refine kak rfl 107 _ rfl _ rfl _ _ _ _ aa.out underlying107 rfl qcX ?_)
      |(at_builtin;refine kao _ rfl _ _ 71 rfl F.heap.size 107 i0 (.agg qcI) 3 40 underlying71 hi ar au av rfl (by decide) _ _ _ rfl (Q.out.alloc _) ⟨W4.heap.size,0,none⟩ 1 1 [.slice l r o,.int .i64 s,.int .i64 t] rfl rfl (qdI _ _ _) (λx Y=>by simp at Y;rcases Y with rfl|rfl|rfl<;>rfl) (by unfold maxLen;omega) (by omega) (by simp;omega) ?_;intro v' w5 X ad a3))
     go_roundg gg
     case measure=>omega
     case rel =>
      obtain⟨D,C,ag⟩:∃D C,v'=.slice (some ⟨D,0,none⟩) (k+1) C:=by
       rcases X.2 with⟨_,h⟩|⟨D,C,_,h,_⟩
       ·omega
       exact⟨D,C,h⟩
      exact⟨k+1,xs++[Value.slice l r o,Value.int .i64 s,Value.int .i64 t],some ⟨D,0,none⟩,C,by show _=_;have:=V.out;omega,ag,by go_num,(by show World.ownsRow _ _ _ _ _ _ _;exact X),(b.out.below.alloc af _).grown ad (by simp;omega) (λai hq=>(Q.out.lt ai hq).1),d.out⟩
    go_simp;refine f.out _ _ ⟨(kae _ _ _ Z).trans y,(kal _ _ _ (by rw[J];rfl)).trans J⟩ (λB=>?_);clear f;refine rdq 5 (λK f=>?_);go_simp;refine(cR _).mono ?_;rintro e A ⟨l,r,o,s,t,rfl,M⟩;simp only[];have a:Below (wr.heap.size+1) (wr.alloc (.cells qcI 107)).drew A:=by have:=M;simp only[kad,World.drew]at this;exact this
    refine f.out _ _ ⟨(a.block _ (by omega)).trans B.1,(a.cell (p:=⟨g,k,none⟩) (show g<_ by omega)).trans B.2⟩ (λm=>?_);clear f;refine kaD (i:=6) rfl (by kernel_rfl) (by kernel_rfl) (by kernel_rfl) (λ_ _ _ h=>h) (.inl ⟨rfl,λW z=>rfl⟩) m ?_;refine kaD (i:=7) (v:=.agg (qg0 l r o s t)) rfl (by kernel_rfl) (by kernel_rfl) (by kernel_rfl) (λ_ _ _ h=>h) (.inl ⟨rfl,λW z=>rfl⟩) m ?_;refine kaD (i:=8) (v:=.bool (qaC n p.data.toList)) rfl (by kernel_rfl) (by kernel_rfl) (by kernel_rfl) (λ_ _ _ h=>h) (.inl ⟨rfl,λW z=>rfl⟩) m ?_;refine rdq 10 (λK f=>?_);rw[kag (by rfl)];refine kbL 107 _ _ rfl wr.heap.size (qg0 l r o s t) rfl rfl 107 qcI ((a.block _ (by omega)).trans (qac wr _)) qcX rfl (qda _ _ _ _ _) ?_;have b:Hid (qs5 F wr wr.heap.size (qg0 l r o s t) (A.setRow wr.heap.size (qg0 l r o s t))):=qyn H.out a;refine f.out _ _ ⟨(b.out.same _ Z).trans y,(kaN (w:=wr) (b.out.same g aq)).trans J⟩ (λac=>?_);clear f;refine kaD (i:=11) (v:=.bool (qaC n p.data.toList)) rfl (by kernel_rfl) (by kernel_rfl) (by kernel_rfl) (λ_ _ _ h=>h) (.inl ⟨rfl,λW z=>rfl⟩) ac ?_;refine wdn ?_;generalize A.setRow wr.heap.size (qg0 l r o s t)=W4 at *;cases T:qaC n p.data.toList
    ·have d:Hid (qa2 n c.pol.data.toList=k):=by show _=_;rw[L.out,kac (by rw[T];simp)]
     go_wp2
     go_ret2
     first|exact⟨_,_,_,by rw[d.out];rfl,E.out.trans (b.out.below.mono (by omega))⟩|exact⟨⟨_,_,_,by rw[d.out];rfl⟩,E.out.trans (b.out.below.mono (by omega))⟩
    by_cases az:(16:Int)<=k
    ·have d:Hid (qa2 n c.pol.data.toList=k):=by show _=_;rw[L.out,kac (by omega)]
     go_wp2
     go_ret2
     first|exact⟨_,_,_,by rw[d.out];rfl,E.out.trans (b.out.below.mono (by omega))⟩|exact⟨⟨_,_,_,by rw[d.out];rfl⟩,E.out.trans (b.out.below.mono (by omega))⟩
    have d:Hid (qa2 n c.pol.data.toList=qbf n ((u.map (·.data.toList)).drop (k+1)) (k+1)):=by show _=_;rw[L.out,kag ⟨T,by omega⟩]
    have Q:=qab (qiS ak.out b.out.same);have af:=b.out.below.size;have aa:Hid (W4.heap[wr.heap.size]?=some (.cells #[.slice l r o,.int .i64 s,.int .i64 t] 107)):=b.out.row
    go_wp2_with(first
     |(refine kak rfl 107 _ rfl _ rfl _ _ _ _ aa.out underlying107 rfl qcX ?_)
     |(at_builtin;refine kao _ rfl _ _ 71 rfl F.heap.size 107 i0 (.agg qcI) 3 40 underlying71 hi ar au av rfl (by decide) _ _ _ rfl (Q.out.alloc _) ⟨W4.heap.size,0,none⟩ 1 1 [.slice l r o,.int .i64 s,.int .i64 t] rfl rfl (qdI _ _ _) (λx Y=>by simp at Y;rcases Y with rfl|rfl|rfl<;>rfl) (by unfold maxLen;omega) (by omega) (by simp;omega) ?_;intro v' w5 X ad a3))
    go_roundg gg
    case measure=>omega
    case rel =>
     obtain⟨D,C,ag⟩:∃D C,v'=.slice (some ⟨D,0,none⟩) (k+1) C:=by
      rcases X.2 with⟨_,h⟩|⟨D,C,_,h,_⟩
      ·omega
      exact⟨D,C,h⟩
     exact⟨k+1,xs++[Value.slice l r o,Value.int .i64 s,Value.int .i64 t],some ⟨D,0,none⟩,C,by show _=_;have:=V.out;omega,ag,by go_num,(by show World.ownsRow _ _ _ _ _ _ _;exact X),(b.out.below.alloc af _).grown ad (by simp;omega) (λai hq=>(Q.out.lt ai hq).1),d.out⟩
 have G:Hid (qa2 n c.pol.data.toList = -1):=by
  show _=_;have h0:c.pol.data.toList=[]:=by rw[<-kaX];exact kdo q
  unfold qa2;rw[h0];rfl
 go_enter func30,ntmps30;go_wp2
 go_ret2
 first|exact⟨_,_,_,by rw[G.out];rfl,bwA⟩|exact⟨⟨_,_,_,by rw[G.out];rfl⟩,bwA⟩

end
section
open Go.RowKit Go.Shelf
section
attribute[local go_sem] Oper.semAt_some
theorem qfE(s c:ByteArray)(w:World):Calls prog 81 #[.string s,.string c] w λe a =>
   e=.returned (.func (.func 113) #[] #[.pointer (some ⟨w.heap.size+1,0,none⟩),.pointer (some ⟨w.heap.size,0,none⟩),.pointer (some ⟨w.heap.size+1+1,0,none⟩)]) /\
   a=((w.alloc (.cells #[.string s] 9)).alloc (.cells #[.string c] 9)).alloc (.cells #[.int .i64 0] 3):=by
 go_enter func81,ntmps81;go_wp2;go_ret;exact⟨rfl,rfl⟩
abbrev Str:={s:ByteArray // s.size<=2000}
def lst(x:Str):List UInt8:=x.1.data.toList
structure qhm(k:Nat)(c:UInt8)(W:World)(r:ByteArray):Prop where
 rest:W.heap[k]?=some (.cells #[.string r] 9)
 sep:W.heap[k+1]?=some (.cells #[.string ⟨#[c]⟩] 9)
 save:W.heap[k+1+1]?=some (.cells #[.int .i64 0] 3)
theorem qhm.keep(h:qhm k c W r)(a:qcE k (k+3) W W'):qhm k c W' r :=
 ⟨(a.same _ (by omega) (by omega)).trans h.rest,(a.same _ (by omega) (by omega)).trans h.sep,(a.same _ (by omega) (by omega)).trans h.save⟩
theorem qhm.store(h:qhm k c W r)(a:ByteArray):qhm k c (W.setCell ⟨k,0,none⟩ (.string a)) a :=
 ⟨by rw[kaO W _ _ _ _ _ h.rest];rfl,(kat W _ _ _ (by simp)).trans h.sep,(kat W _ _ _ (by simp;omega)).trans h.save⟩
theorem qiD(W:World)(k o:Nat)(v:Value):W.grownBy (W.setCell ⟨k,o,none⟩ v) (some k) :=
 ⟨rfl,rfl,rfl,by simp[World.setCell],λi _ a=>kat W _ _ _ (by intro e;exact a (by rw[e]))⟩
theorem qsw(s:ByteArray)(o:Nat):(s.extract 0 o).data.toList=s.data.toList.take o:=by
 rw[kem];simp
theorem qtg(s:ByteArray)(o:Nat):(s.extract o s.size).data.toList=s.data.toList.drop o:=by
 exact kdT s o
theorem qp7(s:ByteArray)(o:Nat)(h:o<=s.size):(s.extract 0 o).size=o:=by simp[kdz];omega
theorem qlp(s:ByteArray)(o:Nat):(s.extract o s.size).size=s.size-o:=by simp[kdz]
theorem qkT(n:Nat)(k:Nat)(c:UInt8)(s:Str)(w:World)(d:qhm k c w s.1):qys Fence.wide n prog 113 #[.pointer (some ⟨k+1,0,none⟩),.pointer (some ⟨k,0,none⟩),.pointer (some ⟨k+1+1,0,none⟩)]
   (λx:Str=>#[.string x.1]) k (k+3) k (λxs=>xs.map lst=qam c (lst s)) (λpre=>∃r,qam c (lst s)=pre.map lst++r) w:=by
 intro aa J N W u S T U R;have ag:=ltA d.save;have a:Hid (qhm k c W s.1):=⟨(u.block _ (by omega)).trans d.rest,(u.block _ (by omega)).trans d.sep,(u.block _ (by omega)).trans d.save⟩
 have L:=qab S;have ac:=qab T;have D:Hid (∀pre x j,J pre j->YieldAt Fence.wide (n-1) prog aa #[.string x.1] j λe i =>
   (e=.returned (.bool true)/\J (pre++[x]) i/\qcE k (k+3) j i)\/(e=.returned (.bool false)/\N (pre++[x]) i)):=U
 have K:=qab R;have ad:=qaa a.out.sep 0;refine callsIn_of_wp func113 rfl trivial ?_ rfl;simp only[ntmps113,kaT,kah,kay,Nat.reduceAdd,Nat.reduceSub,kbz,kb0,kbG,kb4,kbl,kbo]
 gi_wp2
 gi_loopg[7,8] 2001 (λg x al wr=>∃(pre:List Str) (r:Str),r.1.size<g/\Hid (qam c (lst s)=pre.map lst++qam c (lst r))/\Hid (qhm k c wr r.1)/\Hid (J pre wr))
 case atStart=>exact⟨[],s,by have:=s.2;omega,rfl,a,K⟩
 case round =>
  obtain⟨pre,r,hg,z,a,C⟩:=hrel;have V:=qaa a.out.rest 0;have X:=qaa a.out.sep 0;have ae:=qaa a.out.save 0;rcases Int.lt_or_le (Lib.indexByte (lst r) c) 0 with ah|y
  ·have F:Lib.indexByte (lst r) c = -1:=by have:=Lib.indexByte_ge (lst r) c;omega
   have A:Hid (qam c (lst s)=pre.map lst++[lst r]):=by show _=_;rw[z.out,qge F]
   have Y:Lib.indexByte r.1.data.toList c = -1:=F;obtain⟨Q,ab,O,P,I,t⟩:=D.out pre r wr C.out
   gi_wp2_with fail
   refine⟨trivial,(λh=>by cases h),?_⟩;refine(kbS.2 (Tryz.strings_Index_one r.1 c _)).mono ?_;rintro e w2 ⟨rfl,rfl⟩
   gi_wp2
   refine⟨(λh=>by cases h),t.mono ?_⟩;rintro e m (⟨rfl,p,E⟩|⟨rfl,q⟩)
   ·gi_wp2
    go_end0;exact⟨⟨_,rfl⟩,.inl ⟨pre++[r],by rw[A.out];simp,p⟩⟩
   gi_wp2
   go_end0;exact⟨⟨_,rfl⟩,.inr ⟨pre++[r],⟨[],by rw[A.out];simp⟩,q⟩⟩
  obtain⟨o,G⟩:=kbH y;obtain⟨Z,l⟩:=qfV G;have Y:Lib.indexByte r.1.data.toList c=o:=G;have ai:o<r.1.size:=by simpa[lst]using Z
  have aj:=r.2;have M:Hid (qam c (lst s)=pre.map lst++((lst r).take o::qam c ((lst r).drop (o+1)))):=by show _=_;rw[z.out,l]
  have v:(r.1.extract 0 o).size<=2000:=by rw[qp7 _ _ (by omega)];omega
  have H:(r.1.extract (o+1) r.1.size).size<=2000:=by rw[qlp];omega
  have B:Hid (qam c (lst s)=(pre++[(⟨r.1.extract 0 o,v⟩:Str)]).map lst++qam c (lst (⟨r.1.extract (o+1) r.1.size,H⟩:Str))):=by
   show _=_;rw[M.out];simp only[kaW,kaH,kb8,lst];rw[qsw,qtg,kap];rfl
  have ak:(r.1.extract (o+1) r.1.size).size<r.1.size:=by rw[qlp];omega
  obtain⟨Q,ab,O,P,I,t⟩:=D.out pre ⟨r.1.extract 0 o,v⟩ wr C.out;dsimp only at I
  gi_wp2_with fail
  refine⟨trivial,(λh=>by cases h),?_⟩;refine(kbS.2 (Tryz.strings_Index_one r.1 c _)).mono ?_;rintro e w2 ⟨rfl,rfl⟩
  gi_wp2
  refine⟨(λh=>by cases h),t.mono ?_⟩;rintro e m (⟨rfl,p,E⟩|⟨rfl,q⟩)
  ·have b:=qab (a.out.keep E);have V:=qaa b.out.rest 0;have X:=qaa b.out.sep 0;have af:=kaK m k 0 _ _ b.out.rest;have f:=qab p
   gi_wp2
   gi_roundg ((r.1.extract (o+1) r.1.size).size+1)
   case measure=>omega
   case rel=>exact⟨pre++[⟨r.1.extract 0 o,v⟩],⟨r.1.extract (o+1) r.1.size,H⟩,kcS _,B,b.out.store _,L.out _ _ _ f.out (qiD m k 0 _)⟩
  have f:=qab q
  gi_wp2
  refine kaw (kei rfl _ _ _) rfl ?_;exact⟨⟨_,rfl⟩,.inr ⟨_,⟨_,B.out⟩,f.out⟩⟩
end

end
section
open Go.RowKit
theorem qhu(c:UInt8):∀l:List UInt8,(Lib.index l [c] = -1/\qam c l=[l])\/∃a r,l=a++c::r/\Lib.index l [c]=a.length/\qam c l=a::qam c r
 |[]=>kew ⟨rfl,rfl⟩
 |x::r=>by
  by_cases e:x=c
  ·subst e;right;exact⟨[],r,rfl,by simp[Lib.index],by simp[qam]⟩
  have g:([c].isPrefixOf (x::r))=false:=by simp[List.isPrefixOf,Ne.symm e]
  have f:(x==c)=false:=by simp[e]
  rcases qhu c r with⟨b,d⟩|⟨a,q,b,d,h⟩
  ·left;refine⟨?_,?_⟩
   ·unfold Lib.index;rw[g,b];rfl
   unfold qam;rw[f,d];rfl
  right;refine⟨x::a,q,by rw[b];rfl,?_,?_⟩
  ·unfold Lib.index;rw[g,d];have:((a.length:Int) == -1)=false:=by rw[ka1];omega
   rw[this];simp
  rw[qam,f,h];rfl
theorem qbL(c:UInt8)(l:List UInt8):(Lib.cut l [c]=(l,[],false)/\qam c l=[l])\/∃a r,Lib.cut l [c]=(a,r,true)/\l=a++c::r/\qam c l=a::qam c r:=by
 rcases qhu c l with⟨b,d⟩|⟨a,r,b,d,e⟩
 ·left;refine⟨?_,d⟩;unfold Lib.cut;rw[b,kac (by omega)]
 right;refine⟨a,r,?_,b,e⟩;unfold Lib.cut;rw[d,kag (by omega)];simp[b]
def qsz(n:Nat)(l:List UInt8):Bool :=
 qfe (Lib.cut l [32]).1&&(qjh (Lib.cut (Lib.cut l [32]).2.1 [32]).1 n&&qeT ⟨(Lib.cut (Lib.cut l [32]).2.1 [32]).2.1.toArray⟩ != 0)
theorem qjf(l:List UInt8):qeT ⟨l.toArray⟩=if l==[100,114,111,112]then 1 else if l==[109,97,115,107]then 2 else if l==[116,97,103]then 3 else 0:=by
 unfold qeT;rw[kaX]
theorem qkQ(a r:List UInt8):qeT ⟨(a++32::r).toArray⟩=0:=by
 have b:(32:UInt8)∈a++32::r:=by simp
 rw[qjf];generalize a++32::r=l at *;rw[kac (by intro h;rw[kdo h]at b;revert b;decide),kac (by intro h;rw[kdo h]at b;revert b;decide),kac (by intro h;rw[kdo h]at b;revert b;decide)]
theorem qpI(n:Nat)(l:List UInt8):qsz n l=qaC n l:=by
 unfold qsz qaC;rcases qbL 32 l with⟨g,h⟩|⟨a,r,g,_,h⟩
 ·rw[g,h];rcases qbL 32 []with⟨c,f⟩|⟨a,r,_,c,_⟩
  ·simp[c,qjh,qku]
  simp at c
 rw[g,h];rcases qbL 32 r with⟨c,f⟩|⟨b,q,c,_,f⟩
 ·rw[c,f];have:qeT ⟨([]:List UInt8).toArray⟩=0:=by rw[qjf];rfl
  simp[this,qku]
 rw[c,f];rcases qbL 32 q with⟨j,i⟩|⟨d,e,j,i,k⟩
 ·rw[i];rfl
 rw[k,qk2 (by have:=kc5.2 (qgN 32 e);simp only[kah];omega),i];simp[qkQ]

def sgS(l:List UInt8):Nat×List UInt8:=if l==[42]then(0,[])else if l==[42,42]then(1,[])else if l==[91,93]then(2,[])else(3,l)
def sgC(s:Nat×List UInt8):List Value:=[.int .i64 s.1,.string ⟨s.2.toArray⟩]
def qjP(l:List UInt8):List (List UInt8):=if l==[46]then[]else qam 47 l
def qea(l:List UInt8):List (List UInt8)×Int×Int:=match qam 32 l with
 |[p,b,c]=>(qjP p,qsh b,qeT ⟨c.toArray⟩)
 |_=>([],0,0)
def qcH(l:List UInt8):List (List (List UInt8)×Int×Int):=if l.length=0 then[]else(qam 10 l).map qea
def enS(r:List (List UInt8)×Int×Int):List (Nat×List UInt8)×Int×Int:=(r.1.map sgS,r.2)
theorem qts(l:List UInt8):(sgS l).1<=3:=by
 unfold sgS;split
 ·exact kaY _
 split
 ·show(1:Nat)<=3;omega
 split
 ·show(2:Nat)<=3;omega
 exact kaf _
theorem qxg(l:List UInt8):(sgS l).2.length<=l.length:=by
 unfold sgS;split
 ·simp
 split
 ·simp
 split
 ·simp
 exact kaf _
theorem qir(h:qaC n l=true):qam 32 l=[(Lib.cut l [32]).1,(Lib.cut (Lib.cut l [32]).2.1 [32]).1,(Lib.cut (Lib.cut l [32]).2.1 [32]).2.1]:=by
 rw[<-qpI]at h;unfold qsz at h;rcases qbL 32 l with⟨f,j⟩|⟨a,r,f,_,j⟩
 ·rw[f]at h;rcases qbL 32 []with⟨c,g⟩|⟨a,r,_,c,_⟩
  ·simp[c,qjh]at h
  simp at c
 rw[f]at h ⊢;rw[j];rcases qbL 32 r with⟨c,g⟩|⟨b,q,c,_,g⟩
 ·rw[c]at h;have:qeT ⟨([]:List UInt8).toArray⟩=0:=by rw[qjf];rfl
  simp[this]at h
 rw[c]at h ⊢;rw[g];rcases qbL 32 q with⟨k,i⟩|⟨d,e,k,i,m⟩
 ·rw[i]
 rw[i]at h;simp[qkQ]at h
theorem qrf{p b c:List UInt8}(h:qam 32 l=[p,b,c]):qea l=(qjP p,qsh b,qeT ⟨c.toArray⟩):=by
 unfold qea;rw[h]
def qlu(W:World)(lo:Nat)(t:TypeId)(pa:Option Addr)(cs:List Value):Prop :=
 cs=[]\/∃b off cur fr,pa=some ⟨b,off,none⟩/\lo<=b/\W.heap[b]?=some (.cells cur t fr)/\∀j (h:j<cs.length),cur[off+j]?=some cs[j]
theorem qlu.kept{t:TypeId}(h:qlu W lo t pa cs)(i:∀b a c,lo<=b->W.heap[b]?=some (.cells a t c)->lo'<=b/\W'.heap[b]?=some (.cells a t c)):qlu W' lo' t pa cs:=by
 rcases h with h|⟨b,off,a,c,d,e,f,g⟩
 ·exact .inl h
 obtain⟨j,k⟩:=i b a c e f;exact .inr ⟨b,off,a,c,d,j,k,g⟩
theorem qlu.below{t:TypeId}(h:qlu W lo t pa cs)(d:Below W.heap.size W W'):qlu W' lo t pa cs :=
 h.kept λb _ _ c a=>⟨c,(d.block b (ltA a)).trans a⟩
theorem qvL{e:TypeId}{size:Nat}(h:W.ownsRow base e size v n xs)(p:lo<=base):∃f c,v=.slice f n c/\qlu W lo e f xs:=by
 obtain⟨o,⟨b,d⟩|⟨g,c,i,b,d,k,_,_,_,l⟩⟩:=h
 ·subst d;exact⟨none,0,b,.inl (ka7 (by omega))⟩
 refine⟨_,_,b,.inr ⟨g,0,i,_,rfl,by omega,k,λj m=>?_⟩⟩;have a:=congrArg (·[j]?) l;simp only[kcu]at a;rw[kag (by omega),kab m]at a;rw[kaL];simpa using a
def RwB(W:World)(lo:Nat)(t:TypeId)(xs:List Value)(es:List (List Value×Nat×Int×Int)):Prop :=
 xs.length=es.length*3/\∀i (h:i<es.length),∃pa pc,xs[i*3]?=some (.slice pa es[i].2.1 pc)/\xs[i*3+1]?=some (.int .i64 es[i].2.2.1)/\xs[i*3+2]?=some (.int .i64 es[i].2.2.2)/\qlu W lo t pa es[i].1
theorem qqT(W:World)(lo:Nat)(t:TypeId):RwB W lo t [] []:=⟨rfl,λi h=>by simp at h⟩
theorem RwB.kept{t:TypeId}(h:RwB W lo t xs es)(k:∀b a c,lo<=b->W.heap[b]?=some (.cells a t c)->lo'<=b/\W'.heap[b]?=some (.cells a t c)):RwB W' lo' t xs es:=by
 refine⟨h.1,λi j=>?_⟩;obtain⟨l,m,d,e,f,g⟩:=h.2 i j;exact⟨l,m,d,e,f,g.kept k⟩
theorem RwB.below{t:TypeId}(h:RwB W lo t xs es)(d:Below W.heap.size W W'):RwB W' lo t xs es :=
 h.kept λb _ _ c a=>⟨c,(d.block b (ltA a)).trans a⟩
theorem RwB.push{t:TypeId}(h:RwB W lo t xs es){e:List Value×Nat×Int×Int}{pc:Nat}(j:qlu W lo t pa e.1):RwB W lo t (xs++[.slice pa e.2.1 pc,.int .i64 e.2.2.1,.int .i64 e.2.2.2]) (es++[e]):=by
 have a:=h.1;refine⟨by simp[a];omega,λi k=>?_⟩;by_cases b:i<es.length
 ·obtain⟨m,n,c,d,f,g⟩:=h.2 i b;rw[List.getElem_append_left b];refine⟨m,n,?_,?_,?_,g⟩
  ·rw[kau (by omega)];exact c
  ·rw[kau (by omega)];exact d
  rw[kau (by omega)];exact f
 have l:i=es.length:=by simp at k;omega
 subst l;rw[List.getElem_append_right (kaf _)];simp only[kcO,List.getElem_cons_zero];refine⟨pa,pc,?_,?_,?_,j⟩
 ·rw[kas (by omega),a,kcO];rfl
 ·rw[kas (by omega),a,show es.length*3+1-es.length*3=1 by omega];rfl
 rw[kas (by omega),a,show es.length*3+2-es.length*3=2 by omega];rfl
theorem qyz:∀(ss:List (Nat×List UInt8)) (j:Nat) (h:j<ss.length),(ss.flatMap sgC)[j*2]?=some (.int .i64 ss[j].1)/\(ss.flatMap sgC)[j*2+1]?=some (.string ⟨ss[j].2.toArray⟩)
 |x::ss,0,_=>⟨rfl,rfl⟩
 |x::ss,j+1,h=>by
  have a:=qyz ss j (by simpa using h);rw[kaZ,show(j+1)*2=j*2+2 by omega];exact a
theorem qxI(a:List (Nat×List UInt8)):(a.flatMap sgC).length=a.length*2:=by
 induction a with
 |nil=>rfl
 |cons x a b =>
  rw[kaZ,kaa,b,kah];show 2+_=_;omega
def enP(r:List (Nat×List UInt8)×Int×Int):List Value×Nat×Int×Int:=(r.1.flatMap sgC,r.1.length,r.2.1,r.2.2)
theorem qwu{t:TypeId}{ss:List (Nat×List UInt8)}(h:qlu W lo t pa (ss.flatMap sgC)):qlT W pa ss:=by
 refine⟨λi n=>?_⟩;have j:=qxI ss;rcases h with h|⟨b,off,e,f,m,o,a,g⟩
 ·rw[h]at j;simp at j;omega
 obtain⟨k,l⟩:=qyz ss i n;have c:=g (i*2) (by omega);have d:=g (i*2+1) (by omega);rw[<-kab]at c d;refine⟨b,off,m,(ltA a),?_,?_⟩
 ·rw[kbg W b _ e _ f a,c,k]
 rw[kbm,kbg W b _ e _ f a,d,l]
theorem qvQ{t:TypeId}{rs:List (List (Nat×List UInt8)×Int×Int)}(h:W.ownsRow base 178 3 v rs.length xs)(x:RwB W lo t xs (rs.map enP)):∃a f,v=.slice a rs.length f/\qep W a rs:=by
 obtain⟨A,⟨c,k⟩|⟨g,f,r,c,k,l,_,_,_,w⟩⟩:=h
 ·exact⟨none,0,by rw[c,k],⟨λi d=>by omega⟩⟩
 refine⟨_,_,c,⟨λi d=>?_⟩⟩;obtain⟨y,z,n,o,p,q⟩:=x.2 i (by simpa using d);have e:∀j u,xs[j]?=some u->W.cell? ⟨g,0+j,none⟩=some u:=by
  intro j u m;have B:=ltL m;have b:=congrArg (·[j]?) w;simp only[kcu]at b;rw[kag (by omega),m]at b;rw[kaL,kbg W g j r _ _ l];simpa using b
 have s:(rs.map enP)[i]'(by simpa using d)=enP rs[i]:=by simp
 rw[s]at n o p q;exact⟨g,0,y,z,rfl,(ltA l),e _ _ n,by have:=e _ _ o;rwa[kaL]at this ⊢,by have:=e _ _ p;rwa[kaL]at this ⊢,qwu q⟩

end
end Go.Proofs.YtmajcjammmjimaaGreatDoor
