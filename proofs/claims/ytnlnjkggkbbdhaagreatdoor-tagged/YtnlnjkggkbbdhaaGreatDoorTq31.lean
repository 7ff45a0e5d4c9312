import Derived.Test.YtnlnjkggkbbdhaaGreatDoorTq29
import Derived.Test.YtnlnjkggkbbdhaaGreatDoorTq30
set_option maxRecDepth 100000
set_option maxHeartbeats 8000000
set_option linter.all false
namespace Go.Proofs.YtnlnjkggkbbdhaaGreatDoor
open Go.Proofs.Tryz
open Go.Value renaming int->I,slice->G
open Option renaming some->U,none->Y
open Go.IntKind renaming i64->K
open Go renaming World->O
open Go.Obj renaming cells->E
open Go.Proofs.Tryz renaming prog->X
open Go.Value renaming string->A9,bool->Ac,iface->Ad
open Go.Ending renaming returned->Af
open Go renaming World->Ak,Value->Al,Calls->Am
variable{V V' W w:O}{c:BX}{N g k last p:Nat}{A a b f td y:A3}{bs l:A1}{d:A2}{fm lim:Int}{kv u:Al}{o:Obj}
section
open Go.RowKit Go.Lib
structure J3(w:World)(c:BX)(N:Nat)(td:A3)(V:World):Prop where
 below:A0 w V
 cfg:V.heap[w.heap.size]?=some (.cells c.arr 25)
 told:V.heap[N]?=some (.cells td 33)
 lt:w.heap.size<N
def J3.step{b:Nat}(h:J3 w c N td V)(hb:Below b V V')(a:N<b):J3 w c N td V' :=
 ⟨h.below.trans (hb.mono (Ao h.lt)),(hb.block _ (Ao h.lt)).trans h.cfg,(hb.block _ a).trans h.told,h.lt⟩
def J3.next(h:J3 w c N td V)(hb:A0 V V'):J3 w c N td V' :=
 h.step hb (BC h.told)
def Vp(s:A1)(R:Cl)(e p:Int)(h:V.heap[N]?=U (E (DQ s R e p) 33)):∀(j:Nat) (u:Al),(C4 R)[j]?=U u->V.cell? ⟨N,1+j,Y⟩=U u:=by
 intro j u a;refine(BB h (1+j)).trans ?_;have b:j<4:=BC a
 match j,b,a with
 |0,_,a=>exact a
 |1,_,a=>exact a
 |2,_,a=>exact a
 |3,_,a=>exact a
def rU{w2:O}(h:Jt w c V)(hb:A0 V w2)(a:A3):J3 w c w2.heap.size a (w2.alloc (E a 33)):=by
 have d:=hb.size;have b:=BC h.box;exact⟨(h.below.trans (hb.mono h.below.size)).alloc (Ao h.below.size) _,(BT _ _ _ J).trans ((hb.block _ b).trans h.box),BI w2 _,J⟩
end
section
open Go.ChangeShapes Go.WideShapes Go.ChangeAt Go.RowKit Go.Lib Go.Deep Go.ChangeMaps
def rV:(prog.globals[6]?).map (·.type)=U 312:=M
def rW:prog.cellsOf 312=20:=M
def rX:(Rows.laid_internal_strconv_uint64pow10:A2)=tabData .u64 pow10Tab:=M
def rY:List Int:=[0,1,56,2,57,49,28,3,61,58,42,50,38,29,17,4,62,47,59,36,45,43,51,22,53,39,33,30,24,18,12,5,63,55,48,27,60,41,37,16,46,35,44,21,52,32,23,11,54,26,40,15,34,20,31,10,25,14,19,9,13,8,7,6]
def rZ:(prog.globals[8]?).map (·.type)=U 321:=M
def s7:prog.cellsOf 321=64:=M
def s8:prog.cellsOf 5=1:=M
def s9:(Rows.laid_math_bits_deBruijn64tab:A2)=tabData .u8 rY:=M
def sb(e:laidMetH X Rows.taggedRow.laid W)(l:W.ShapedOpen X):G2 W.heap.size W:=by
 have k:laidMet X Rows.taggedRow.laid W:=e;have i:W.cell? ⟨8,15,Y⟩=U (I .u8 4)/\9<=W.heap.size:=by
  obtain⟨g,t,cs,m,p,c,j,a,b⟩:=laidMet.reads k (d:=Rows.laid_math_bits_deBruijn64tab) (.tail _ (.head _));obtain rfl:g=8:=EB (c.symm.trans M);obtain rfl:=EB (rZ.symm.trans j);rw[s9]at b;have f:=cells_of_tab underlying321 underlying5 s8 s7 b;have n:=OE c a 15;refine⟨?_,?_⟩
  ·rw[n,<-Ka,f];rfl
  unfold World.var? at a;rw[c]at a;simp only[WK]at a;split at a
  ·next h=>exact BC h
  cases a
 refine⟨⟨(X5 e l).tabs,gE e,i.2⟩,?_,i.1,X5 e l,i.2,BM _⟩;refine Lib.tabBelow_of_tabIs ?_;obtain⟨g,t,cs,m,p,c,j,a,b⟩:=laidMet.reads k (d:=Rows.laid_internal_strconv_uint64pow10) (.tail _ (.tail _ (.head _)));obtain rfl:g=6:=EB (c.symm.trans M);obtain rfl:=EB (rV.symm.trans j);rw[rX]at b;have f:=cells_of_tab underlying312 underlying199 Xe rW b;have o:W.var? X YG=U cs:=by
  refine Eq.trans ?_ a;exact congrArg (λs=>W.var? X s) M
 unfold TabIs;rw[o,<-f]
section
variable{H:Type} {enc:TypeId×Al->H} {w:Ak}
end
end
section
open Go.RowKit Go.Lib
def sA:∀(u:Nat) (g:Nat) (r:A1),Gj (g+1) (Ef (u%16)::r)=Ef (u%16)::Gj g r:=by
 have h:∀x,x<16->∀(g:Nat) (r:A1),Gj (g+1) (Ef x::r)=Ef x::Gj g r:=by
  intro x a g r;rcases(by omega:x=0\/x=1\/x=2\/x=3\/x=4\/x=5\/x=6\/x=7\/x=8\/x=9\/x=10\/x=11\/x=12\/x=13\/x=14\/x=15)with rfl|rfl|rfl|rfl|rfl|rfl|rfl|rfl|rfl|rfl|rfl|rfl|rfl|rfl|rfl|rfl<;>rfl
 exact λu g r=>h _ (ON _ J) g r
def Hx(l:A1):Prop:=∀c∈l,∃x,c=Ef (x%16)
def bD:∀(l:A1),Hx l->Gj l.length l=l
 |[],_=>rfl
 |c::r,h=>by
  obtain⟨x,rfl⟩:=h c (.head _);rw[Cu,sA,bD r λc a=>h c (.tail _ a)]
def bE:∀(k u:Nat),u<16^(k+1)->Hx (Es u)
 |k,u,hu=>by
  by_cases h:u<16
  ·rw[QT h];intro c a;rw[KP]at a;exact⟨u,by rw[a,FC h]⟩
  rw[TK h];intro c a;rcases KS.1 a with a|a
  ·match k with
   |0=>omega
   |k+1=>exact bE k (u/16) (by rw[Jf]at hu;omega) c a
  rw[KP]at a;exact⟨u,a⟩
def bF(key:Int)(b:A1):Hx (EM key 1 b):=by
 intro c a;unfold EM LS at a;rcases KS.1 a with a|a
 ·exact⟨0,(WD.1 a).2⟩
 exact bE 15 _ (CA (TM _ _ (NB _ _)) Ay) c a
def S7(s n:Nat):1<=(BW s n).length:=by
 unfold BW
 repeat' split
 all_goals simp
def tH(n:Nat):1<=(Fc n).length/\1<=(Fd n).length/\1<=(EY n).length/\1<=(CY n).length:=by
 unfold Fc Fd EY CY;refine⟨?_,?_,?_,?_⟩
 all_goals
  repeat' split
  all_goals simp
def S8:A1:=[46,32,48,32,100,114,111,112,10,91,93,32,48,32,100,114,111,112,10,91,93,47,91,93,32,49,32,116,97,103]
def VK:A1:=[46,32,48,32,100,114,111,112,10,42,32,48,32,100,114,111,112,10,91,93,47,91,93,32,49,32,116,97,103]
structure Ma(c:BX):Prop where
 chn:∃k:Nat,(k=1\/k=2\/k=3\/k=4\/k=5)/\c.labels=1+(k:Int)/\c.labels.toNat=1+k/\c.L=FM k
 dfl:0<=c.dflt/\c.dflt<c.labels
 clr:c.clr=0
 inn:c.inn=1\/c.inn=2\/c.inn=3
 out:c.out=1
 dep:c.depth=16
 byt:c.bytes=4096
 bk:c.B=[]
 pol:c.pol.data.toList=S8
def VL:∀k:Nat,k=1\/k=2\/k=3\/k=4\/k=5->E9 (1+(k:Int)) (FM k)=true/\Jr (1+k) (Cb (1+k) (FM k))=true/\Js (1+k) (Cb (1+k) (FM k))=true/\CU (1+k) (FM k) 1 0=false/\CU (1+k) (FM k) 0 0=true/\Dc (1+k) S8 = -1:=by
 rintro k (rfl|rfl|rfl|rfl|rfl)<;>exact⟨M,M,M,M,M,M⟩
def df(h:Ma c):CB c=0:=by
 obtain⟨k,p,m,n,o⟩:=h.chn;obtain⟨g,i,j,_,_,l⟩:=VL k p;have a:CE (1+k) c.dflt=true:=CH (Ao h.dfl);have b:CE (1+k) c.clr=true:=CH (Ao h.clr);have d:EG c.inn c.out c.depth c.bytes=true:=by
  rw[h.out,h.dep,h.byt];rcases h.inn with e|e|e<;>rw[e]<;>rfl
 have f:Ge c.B=true:=by rw[h.bk];rfl
 unfold CB JW;rw[n,o,h.pol,m,g,a,b,i,j,d,f,l];rfl
def DJ(t:A1):A1:=[91,91,34]++t++[34,93,44,91,34]++t++[34,93,93]
def dg(h:Ma c)(v:A2):De (Eh c) 17 [] (.agg [.agg [v],.agg [v]]) (0,0,0,0)=(U (.agg [.agg [.lit (.string (EM c.key 1 (CC 15 v)))],.agg [.lit (.string (EM c.key 1 (CC 15 v)))]]),(3,0,0,2))/\J0 17 (.agg [.agg [.lit (.string (EM c.key 1 (CC 15 v)))],.agg [.lit (.string (EM c.key 1 (CC 15 v)))]])=DJ (EM c.key 1 (CC 15 v)):=by
 obtain⟨k,j,r,d,f⟩:=h.chn;obtain⟨_,_,_,g,i,_⟩:=VL k j;have a:Fz c=(Dd S8).map DP:=by unfold Fz;rw[h.pol]
 have l:DF (Eh c).dflt (Eh c).rs ([]:List (A1×Bool)).reverse=(0,1):=Bo
 have o:DF (Eh c).dflt (Eh c).rs [(([]:A1),true)].reverse=(0,1):=Bo
 have b:DF (Eh c).dflt (Eh c).rs [(([]:A1),true),([],true)].reverse=(1,3):=Bo
 have y:(Eh c).m 0 (Eh c).clr=true:=by show CU c.labels.toNat c.L 0 c.clr.toNat=true;rw[h.clr,d,f];exact i
 have n:¬(Eh c).m 1 (Eh c).clr=true:=by show¬CU c.labels.toNat c.L 1 c.clr.toNat=true;rw[h.clr,d,f];show¬CU (1+k) (FM k) 1 0=true;rw[g];decide
 have q:∀R,De (Eh c) 15 [([],true),([],true)] v R=(U (.lit (.string (EM c.key 1 (CC 15 v)))),(R.1,R.2.1,R.2.2.1,R.2.2.2+1)):=λR=>by
  rw[az (by rw[b];exact n) (by rw[b]),b];rfl
 have p:∀R,De (Eh c) 16 [([],true)] (.agg [v]) R=(U (.agg [.lit (.string (EM c.key 1 (CC 15 v)))]),(R.1+1,R.2.1,R.2.2.1,R.2.2.2+1)):=λR=>by
  rw[UI (by rw[o];exact y)];unfold JZ IA;simp only[List.foldl,q];rfl
 refine⟨?_,?_⟩
 ·rw[UI (by rw[l];exact y)];unfold JZ IA;simp only[List.foldl,p];rfl
 have e:Hv (EM c.key 1 (CC 15 v))=[34]++EM c.key 1 (CC 15 v)++[34]:=by unfold Hv;rw[bD _ (bF _ _)]
 generalize EM c.key 1 (CC 15 v)=t at *;show([91]++(([91]++(Hv t++[]))++[93]++(44::(([91]++(Hv t++[]))++[93])++[])))++[93]=_;rw[e];simp[DJ]
def tI(h:Ma c){v:A2}(a:Cj c.inn l 16 4096=.ok (.agg [.agg [v],.agg [v]])):IB c l=.ok ((3,0,0,2),.ok (DJ (EM c.key 1 (CC 15 v)))):=by
 obtain⟨d,b⟩:=dg h v;unfold IB;rw[h.dep,h.byt,a,h.out,h.bk];dsimp only;rw[show kC c=17 by unfold kC;rw[h.dep];rfl,d,aV (λh=>by have e:=h.2;rw[show Jn 17 _=false from rfl]at e;cases e) (show NW 1 _ []=U _ from rfl)];exact congrArg (λx=>Except.ok ((3,0,0,2),Except.ok x)) b
def dh(a:fm=2\/fm=3)(h:Gd 17 d)(b:(G1 fm 17 d).length<=4096):Cj fm (G1 fm 17 d) 16 4096=.ok d:=by
 have e:EF fm (G1 fm 17 d) 16 4096 0=.ok (d,(G1 fm 17 d).length):=by
  generalize hb:G1 fm 17 d=bs at *;unfold EF;rcases a with rfl|rfl
  ·have:=VF tu (λn=>⟨S7 _ _,S7 _ _,S7 _ _,S7 _ _⟩) bs 4096 16 J J 17 17 0 d 0 [] h (BM _) J (by rw[IK];exact hb.symm);rw[show(16:Int).toNat+1=17 from rfl,Bz Ay,BA rfl,this,DY,<-hb];rfl
  have:=VF tw tH bs 4096 16 J J 17 17 0 d 0 [] h (BM _) J (by rw[IK];exact hb.symm);rw[show(16:Int).toNat+1=17 from rfl,Bz Ay,Bz Ay,this,DY,<-hb];rfl
 unfold Cj FI;simp only[show∀p,GI fm (G1 fm 17 d) 4096 p=.ok ((),p)from λp=>Bz (by rcases a with rfl|rfl<;>decide)];rw[e];dsimp only;unfold Gz;dsimp only;rw[Dz (BM _)]
def FN(d:BX)(fm:Int):BX:={d with pol:=⟨S8.toArray⟩,clr:=0,inn:=fm,out:=1,depth:=16,bytes:=4096,B:=[],ba:=none,bcap:=0}
def tJ(i:1<=c.labels/\c.labels<=5){rules:A1}{d:BX}(h:PJ c rules d)(a:fm=1\/fm=2\/fm=3):Ma (FN d fm):=by
 have g:((D7 c.labels 6:Nat):Int)=c.labels:=by unfold D7;rw[Bz J,Int.emod_eq_of_lt J J];omega
 have f:=Kh c.dflt (1+D7 c.labels 6) J;obtain⟨b,e,⟨rfl,_⟩|⟨rfl,_⟩⟩:=h
 all_goals exact⟨⟨D7 c.labels 6,J,rfl,by show(1+(D7 c.labels 6:Int)).toNat=_;omega,rfl⟩,by show(0:Int)<=(D7 c.dflt (1+D7 c.labels 6):Nat)/\((D7 c.dflt (1+D7 c.labels 6):Nat):Int)<1+((D7 c.labels 6:Nat):Int);omega,rfl,a,rfl,rfl,rfl,rfl,rfl⟩
def tK{d:BX}(h:FF w d)(fm:Int):FF w (FN d fm):=⟨h.edges,⟨λi a=>absurd a (Nat.not_lt_zero i)⟩,h.en,λ_=>⟨rfl,rfl⟩,h.eb,by show(0+8)*8<=_;omega⟩
def tL{c:UInt8}(h:∃x,c=Ef (x%16)):(48<=c.toNat/\c.toNat<=57)\/(97<=c.toNat/\c.toNat<=102):=by
 obtain⟨x,rfl⟩:=h;have h:=ON x (show 0<16 by omega);generalize x%16=y at *;rcases(by omega:y=0\/y=1\/y=2\/y=3\/y=4\/y=5\/y=6\/y=7\/y=8\/y=9\/y=10\/y=11\/y=12\/y=13\/y=14\/y=15)with rfl|rfl|rfl|rfl|rfl|rfl|rfl|rfl|rfl|rfl|rfl|rfl|rfl|rfl|rfl|rfl<;>decide
def VM(s t:A1)(i:Nat):Prop:=s[i]?=some 34/\s[i+17]?=some 34/\(∀j,j<16->∃c,s[i+1+j]?=some c/\((48<=c.toNat/\c.toNat<=57)\/(97<=c.toNat/\c.toNat<=102)))/\(s.take (i+17)).drop (i+1)=t
def tM{t:A1}(g:t.length=16)(h:Hx t):VM (DJ t) t 2/\VM (DJ t) t 23/\∀i,i<=25->¬i=2->¬i=23->∃c d:UInt8,(DJ t)[i]?=U c/\(DJ t)[i+17]?=U d/\(((c.toNat:Int)==34)=false\/((c.toNat:Int)==34)=true/\((d.toNat:Int)==34)=false):=by
 match t,g with
 |[a0,a1,a2,a3,a4,a5,a6,a7,a8,a9,a10,a11,a12,a13,a14,a15],_ =>
  have b:∀c∈[a0,a1,a2,a3,a4,a5,a6,a7,a8,a9,a10,a11,a12,a13,a14,a15],(48<=c.toNat/\c.toNat<=57)\/(97<=c.toNat/\c.toNat<=102):=λc a=>tL (h c a);have e:∀c∈[a0,a1,a2,a3,a4,a5,a6,a7,a8,a9,a10,a11,a12,a13,a14,a15],((c.toNat:Int)==34)=false:=λc a=>by have:=b c a;rw[EJ];omega
  refine⟨⟨Z,Z,λj f=>?_,Z⟩,⟨Z,Z,λj f=>?_,Z⟩,λi m k l=>?_⟩
  ·have:j=0\/j=1\/j=2\/j=3\/j=4\/j=5\/j=6\/j=7\/j=8\/j=9\/j=10\/j=11\/j=12\/j=13\/j=14\/j=15:=J
   rcases this with rfl|rfl|rfl|rfl|rfl|rfl|rfl|rfl|rfl|rfl|rfl|rfl|rfl|rfl|rfl|rfl<;>exact⟨_,rfl,b _ Az⟩
  ·have:j=0\/j=1\/j=2\/j=3\/j=4\/j=5\/j=6\/j=7\/j=8\/j=9\/j=10\/j=11\/j=12\/j=13\/j=14\/j=15:=J
   rcases this with rfl|rfl|rfl|rfl|rfl|rfl|rfl|rfl|rfl|rfl|rfl|rfl|rfl|rfl|rfl|rfl<;>exact⟨_,rfl,b _ Az⟩
  have:i=0\/i=1\/i=3\/i=4\/i=5\/i=6\/i=7\/i=8\/i=9\/i=10\/i=11\/i=12\/i=13\/i=14\/i=15\/i=16\/i=17\/i=18\/i=19\/i=20\/i=21\/i=22\/i=24\/i=25:=J
  rcases this with rfl|rfl|rfl|rfl|rfl|rfl|rfl|rfl|rfl|rfl|rfl|rfl|rfl|rfl|rfl|rfl|rfl|rfl|rfl|rfl|rfl|rfl|rfl|rfl
  all_goals first|exact⟨_,_,rfl,rfl,.inl rfl⟩|exact⟨_,_,rfl,rfl,.inr ⟨rfl,e _ Az⟩⟩|exact⟨_,_,rfl,rfl,.inl (e _ Az)⟩
def K7(i:Nat):Nat:=(if 2<i then 1 else 0)+(if 23<i then 1 else 0)
def tN{i:Nat}(a:¬i=2)(b:¬i=23):K7 (i+1)=K7 i:=by
 unfold K7
 repeat' split
 all_goals omega
def tO(i:Nat):K7 i<=2:=by
 unfold K7
 repeat' split
 all_goals omega
def tP(W:Ak)(t:A1)(i g:Nat)(v:Al)(V:Ak):Prop:=i+g=26/\(∃a cap,v=.slice a (K7 i) cap)/\V.ownsRow W.heap.size 9 1 v (K7 i) (List.replicate (K7 i) (A9 ⟨t.toArray⟩))/\A0 W V
def tQ(W:Ak)(t:A1)(e:Ending)(W':Ak):Prop:=∃g cap,e=Af (.slice (some ⟨g,0,none⟩) 2 cap)/\W'.cell? ⟨g,0,none⟩=some (A9 ⟨t.toArray⟩)/\W'.cell? ⟨g,1,none⟩=some (A9 ⟨t.toArray⟩)/\A0 W W'
def tR(W:O)(t:A1)(F:t.length=16)(w:Hx t):Am X 8 #[A9 ⟨(DJ t).toArray⟩] W (tQ W t):=by
 obtain⟨i0,hi,al,am,an⟩:=DZ Tryz.infoStr;have b:=tM F w;have D:(DJ t).length=43:=by simp[DJ,F]
 obtain⟨s,Q⟩:∃s,DJ t=s:=⟨_,rfl⟩
 rw[Q]at b D ⊢;obtain⟨q1,d,q⟩:=b;have HQ:Hid (∀i,i=2\/i=23->VM s t i):=by rintro i (rfl|rfl);exact q1;exact d
 have HN:=T q;have ai:=M5 s;rw[D]at ai;have a:=rL s;rw[D]at a;clear Q F w D q1 d q;go_enter func8,ntmps8
 go_wp2_with fail
 go_loopg[3,4] 26 (λg yl yi V=>∃i:Nat,yi=I K i/\Hid (tP W t i g yl V))
 case atStart=>exact⟨0,rfl,rfl,⟨Y,0,rfl⟩,FQ _ _ _ _,C5 _ _⟩
 case round =>
  obtain⟨i,rfl,o⟩:=hrel
  cases gk with
  |zero =>
   have e:i=26:=Ao o.1
   subst e;obtain⟨_,⟨aa,ab,rfl⟩,B,A⟩:=o.out;have h0:¬(((26:Nat):Int)+18<=43):=J
   go_wp2_with fail
   go_ret;obtain⟨g,cp,e,_,_,v⟩:=Re (ps:=[⟨t.toArray⟩,⟨t.toArray⟩]) B Az;exact⟨g,cp,congrArg Ending.returned e,v 0 Az,v 1 Az,A⟩
  |succ g =>
   have h0:(i:Int)+18<=43:=Ao o.1
   have hj:i<=25:=J
   have au:=I0 ((i:Int)+1) J;by_cases b:i=2\/i=23
   ·obtain⟨k,l,m,z⟩:=HQ.out i b;have x1:=DI s i 34 k;have H:=DI s (i+17) 34 l;rw[show((i+17:Nat):Int)=(i:Int)+17 by omega]at H;have HX:=T m;have HT:=T z;clear k l m z
    go_wp2_with fail
    go_loopg[5,6] 16 (λg N L V=>∃j:Nat,N=Ac true/\L=I K ((i:Int)+1+j)/\Hid (j<=16/\16<=j+g)/\Hid (V=wr))
    case atStart=>exact⟨0,rfl,Az,⟨J,J⟩,rfl⟩
    case round =>
     obtain⟨j,rfl,rfl,p,f⟩:=hrel;by_cases ag:(i:Int)+1+j<(i:Int)+17
     ·cases gk with
      |zero=>have:=p.out;omega
      |succ g =>
       obtain⟨c,v,C⟩:=HX.out j J;have af:=DI s (i+1+j) c v;rw[show((i+1+j:Nat):Int)=(i:Int)+1+j by omega]at af;have ak:=I0 ((i:Int)+1+j+1) J;clear v;rcases C with C|C;have k:(48:Int)<=(c.toNat:Int):=J
       have l:(c.toNat:Int)<=57:=J
       rotate_left
       have k:(48:Int)<=(c.toNat:Int):=J
       have l:¬(c.toNat:Int)<=57:=J
       have m:(97:Int)<=(c.toNat:Int):=J
       have z:(c.toNat:Int)<=102:=J
       rotate_left
       all_goals
        clear C
        go_wp2_with fail
        go_roundg g
        case measure=>omega
        case rel=>exact⟨j+1,rfl,congrArg (Value.int K) J,by have:=p.out;show _/\_;omega,f⟩
     have f:=f.out;subst f;obtain⟨ad,⟨aa,ab,rfl⟩,B,A⟩:=o.out;have P:=T B;have y:=T A;have ah:=a (i+1) (i+17) J J;rw[HT.out,show((i+1:Nat):Int)=(i:Int)+1 by omega,show((i+17:Nat):Int)=(i:Int)+17 by omega]at ah;have ap:=tO i;have S:Hid (K7 (i+1)=K7 i+1):=by
      show _=_;rcases b with rfl|rfl<;>rfl
     generalize K7 i=n at *;have ar:=y.size;clear B A o
     go_wp2_with(first
      |(at_builtin;refine JG _ Z _ _ 36 Z W.heap.size 9 i0 (.string ByteArray.empty) 1 16 underlying36 hi al am an Z Ay _ _ _ Z (P.alloc _) ⟨wr.heap.size,0,Y⟩ 1 1 [A9 ⟨t.toArray⟩] Z Z (SU _ _ _) (λav w=>by simp at w;subst w;rfl) AC J Ax ?_;intro v' w3 x ae aq))
     go_roundg g
     case measure=>omega
     case rel =>
      obtain⟨u,r,aj⟩:∃u r,v'=G (U ⟨u,0,Y⟩) (n+1) r:=by
       rcases x.2 with⟨_,h⟩|⟨u,r,_,h,_⟩
       ·omega
       exact⟨u,r,h⟩
      refine⟨i+1,AE,J,⟨U ⟨u,0,Y⟩,r,by rw[S.out];exact aj⟩,?_,(y.alloc y.size _).grown ae (As y.size) (λao b=>(P.lt ao b).1)⟩;rw[S.out,Sz];exact x
   obtain⟨c,ac,k,l,m⟩:=HN.out i hj (λe=>b (.inl e)) (λe=>b (.inr e));have x1:=DI s i c k;have H:=DI s (i+17) ac l;rw[show((i+17:Nat):Int)=(i:Int)+17 by omega]at H;clear k l;rcases m with m|⟨m,z⟩
   all_goals
    go_wp2_with fail
    go_loopg[5,6] 16 (λg N L V=>∃j:Nat,N=Ac false/\L=I K ((i:Int)+1+j)/\Hid (j<=16/\16<=j+g)/\Hid (V=wr))
    case atStart=>exact⟨0,rfl,Az,⟨J,J⟩,rfl⟩
    case round =>
     obtain⟨j,rfl,rfl,p,f⟩:=hrel;by_cases ag:(i:Int)+1+j<(i:Int)+17
     ·cases gk with
      |zero=>have:=p.out;omega
      |succ g =>
       have ak:=I0 ((i:Int)+1+j+1) J
       go_wp2_with fail
       go_roundg g
       case measure=>omega
       case rel=>exact⟨j+1,rfl,congrArg (Value.int K) J,by have:=p.out;show _/\_;omega,f⟩
     have f:=f.out;subst f
     go_wp2_with fail
     go_roundg g
     case measure=>omega
     case rel =>
      obtain⟨ad,R⟩:=o.out;rw[<-tN (λe=>b (.inl e)) (λe=>b (.inr e))]at R;exact⟨i+1,AE,J,R⟩
def tS(U:O)(t:TypeId)(y:Al)(c:A1)(d:Am X 63 #[G Y 0 0,Ad t y] U λe a=>∃b,e=Af b/\BG a U.heap.size b c/\A0 U a):Am X 39 #[I K 1,Ad t y] U λe a=>∃b,e=Af b/\BG a U.heap.size b c/\A0 U a:=by
 go_enter func39,ntmps39
 go_wp2_with(first
  |(go_at_call 63;refine d.mono ?_;rintro e n ⟨m,rfl,f,i⟩;obtain⟨g,h,j,l,k,rfl⟩:=f))
 go_ret;exact⟨_,Z,⟨g,h,_,_,_,Z⟩,i⟩
def S9:Nat->A2->Prop
 |0,d=>∃l,d=.lit (.string l)
 |n+1,d=>∃ds,d=.agg ds/\ds.length<=2/\∀x∈ds,S9 n x
def di{F:Nat->Prop}{ds:List (DataW Unit)}{xs:List Al}(f:Dj W 56 1 F u ds.length xs)(e:∀(i:Nat) (x:Al) (d:A2),xs[i]?=U x->ds[i]?=U d->BQ k W F x d)(i:Nat)(x:Al)(b:xs[i]?=U x):∃t y,x=Ad t y :=
 (e i x _ b (C6 (show i<_ from by
  have c:=Cf b;have a:=f.1;rw[Qr]at a;rwa[a]at c))).iface
def dj:∀(n k:Nat) (W:O) (F:Nat->Prop) (v:Al) (d:A2),S9 n d->(∀j,F j->j<W.heap.size)->BQ k W F v d->Am X 38 #[v] W λe b=>e=Af (Ac false)/\A0 W b
 |_,0,_,_,_,_,_,_,h=>h.elim
 |0,k+1,W,F,v,d,⟨l,hl⟩,_,h=>by
  subst hl;rw[show v=_ from h];exact iA W _
 |n+1,k+1,W,F,v,d,⟨ds,hl,_,hx⟩,hF,h=>by
  subst hl;obtain⟨u,q,rfl,m,g⟩:=h;refine(iE (λ_=>false) W u F hF ds q m (λi x d o c V f=>dj n k V F x d (hx d (Oz c)) (λj a=>CA (hF j a) f.size) ((g i x d o c).same (λ_ h=>h) (λj a=>f.block j (hF j a)))) (di m g)).mono ?_;rintro e b ⟨rfl,p⟩;exact⟨Az,p⟩
def dk:∀(n k:Nat) (W:O) (a:Nat) (F:Nat->Prop) (x:Al) (d:A2),S9 n d->(∀j,F j->j<a)->BQ k W F x d->aD W a x (J0 k d)
 |_,0,_,_,_,_,_,_,_,h=>h.elim
 |0,k+1,W0,a,F,x,d,⟨l,f⟩,hF,h0=>by
  subst f;intro W v b r c f;rw[show x=_ from h0];exact qu W a v b l f c
 |n+1,k+1,W0,a,F,x,d,⟨ds,hd,m,hx⟩,hF,h0=>by
  subst hd;intro W v b r c f;obtain⟨u,A,rfl,o,s⟩:=h0.same (λ_ h=>h) (λj z=>r.block j (hF j z));have e:(J0 (k+1) (.agg ds)).length=1+(Fy (J0 k) ds).length+1:=by simp[J0];omega
  obtain⟨q,p,rfl⟩:=o.sliceR;have t:=qs (J0 k) W a v q p F hF b ds A J J o (λi x g y m=>dk n k W a F x g (hx g (Oz m)) hF (s i x g y m)) (di o s) c;have w:((b++[91])++Fy (J0 k) ds)++[93]=b++J0 (k+1) (.agg ds):=by simp[J0]
  rw[w]at t;exact qv W a v q ds.length p _ c.2.2 t
def tT{n:Nat}(g:S9 n d)(o:Jn k d=false)(i:(J0 k d).length<=999999999):UY 1 k d:=by
 refine⟨λV t y f _ _=>?_,λh=>absurd (o.symm.trans h) Ay,λ_ _ _ _=>i⟩;refine lG V t y _ (dj n k V _ _ d g (λ_ h=>h) f) (λa b=>(tS a t y (G1 1 k d) ?_).mono ?_)
 ·exact dk n k a a.heap.size _ _ d g (λj (c:j<V.heap.size)=>CA c b.size) (f.same (λ_ h=>h) (λj c=>b.block j c)) a _ [] Cm (QN a) (by rw[DX,DY];exact i)
 rintro e q ⟨p,rfl,l,m⟩;exact⟨p,Z,BG.mono l b.size,m.mono b.size⟩
def dl{D:A2->Prop}{c:Rc}(ok:GL c){p:List (A1×Bool)}(s:MZ D c k (([],true)::p)):aA (λd=>∃a,d=.agg a/\∀x∈a,D x) c k p:=by
 rintro W F x d f R N e ⟨a,rfl,r⟩ h o hF n m w;obtain⟨u,t,rfl,b,l⟩:=n;obtain⟨q,g,rfl⟩:=b.sliceR;have v:DH (k+1) (.agg a)=2+(a.map λd=>1+DH k d).sum:=rfl;have i:N+DH (k+1) (.agg a)-1=N+1+(a.map λd=>1+DH k d).sum:=J
 rw[i];have j:CC (k+1) (.agg a)=BW 4 a.length++a.flatMap (CC k):=rfl;refine qa c.B f q a.length g W c (k+1) F _ _ e (q9 c ok k W F _ a t p s r f R N e h o hF b l ?_ J);rw[j,BK]at m;omega
def tU(h:Ma c)(r:Rc)(ok:GL r)(j:r.v=Eh c):MZ (λd=>∃a,d=.agg a/\∀x∈a,∃b,x=.agg b/\∀y∈b,True) r (kC c) []:=by
 obtain⟨k,i,l,f,g⟩:=h.chn;have n:¬r.v.m (DF r.v.dflt r.v.rs [(([]:A1),true),([],true)].reverse).1.toNat r.v.clr=true:=by
  rw[j,show DF (Eh c).dflt (Eh c).rs [(([]:A1),true),([],true)].reverse=(1,3) by show DF c.dflt (Fz c) _=_;unfold Fz;rw[h.pol];kernel_rfl];show¬CU c.labels.toNat c.L 1 c.clr.toNat=true;rw[h.clr,f,g];show¬CU (1+k) (FM k) 1 0=true;rw[(VL k i).2.2.2.1];decide
 rw[show kC c=17 by unfold kC;rw[h.dep];rfl];exact UJ r ok 16 [] λ_=>dl ok (UJ r ok 15 [([],true)] λ_=>dl ok (UJ r ok 14 [([],true),([],true)] λe=>absurd e n))
def tV{s:A1}{d:Int}(f:0<=d)(i:0<=lim)(h:lim<s.length){x:A2}:¬Cj fm s d lim=.ok x:=λg=>by
 have j:(s.take lim.toNat).length=lim.toNat:=kfm
 have c:s.drop lim.toNat≠[]:=λe=>by have:=congrArg List.length e;rw[Eb,DX]at this;omega
 have:=aT fm (s.take lim.toNat) (s.drop lim.toNat) d lim f;rw[Kb,g]at this
 cases b:Cj fm (s.take lim.toNat) d lim with
 |error e =>
  rw[b]at this;rcases this.2.1 with a|⟨_,a⟩
  ·cases a
  cases a J c
 |ok y =>
  rw[b]at this;rcases this.2.2.2 with a|⟨_,_,a⟩
  ·have:=(GT (Except.ok.inj a)).2;omega
  cases a J c
def tW{P:A2->Prop}(h:∀x,(l.length:Int)<=4096->Cj fm l 16 4096=.ok x->P x)(x:A2)(a:Cj fm (l.take 4097) 16 4096=.ok x):P x:=by
 by_cases b:l.length<=4096
 ·rw[II J]at a;exact h x J a
 exact absurd a (tV J J kfm)
def tX(h:Ma c)(e:∀d,Cj c.inn l c.depth c.bytes=.ok d->∃v,d=.agg [.agg [v],.agg [v]]):Vm c l:=by
 refine⟨λg o k=>λb p m=>rf (Pz (df h)) (tU h) g o k p m ?_,by rw[h.bk];exact lW _,λd _ b=>?_⟩
 ·obtain⟨v,rfl⟩:=e _ b;refine⟨_,Z,λx a=>?_⟩;simp at a;exact⟨_,a,λ_ _=>trivial⟩
 obtain⟨v,rfl⟩:=e d b;obtain⟨i,j⟩:=dg h v;rw[show kC c=17 by unfold kC;rw[h.dep];rfl,i,h.out];refine tT (n:=2) ⟨_,Z,Az,λx a=>⟨_,(by simp at a;exact a),Az,λy f=>⟨_,by simp at f;exact f⟩⟩⟩ Z ?_;rw[Option.getD_some,j];simp[DJ,aU]
def tY{ev:Operand->Al}{o:Oper}(x:Nat){M:Nat}{R:Cl}{e p:Int}(a:W.heap[M]?=U (E (DQ l R e p) 33))(b:o.op=.load 30 (.tmp x))(c:ev (.tmp x)=.pointer (U ⟨M,1,Y⟩)):(execOp ev o).run X W=.ok (.value (.agg (C4 R))) W :=
 NZ _ _ b M 1 c _ _ (Vp _ _ _ _ a) underlying30 rfl (G0 _)
def vx(k:Nat)(W:O)(bs:A1)(fm d l lim:Int)(i:Nat)(a:Int)(b:Nat)(h o:A4)(n m s q:Nat)(e:Nat->Prop)(kl:List A1)(ds:List (DataW Unit))(x:Lm bs l lim)(hi:C1 bs lim i)(hb:bs.length<=281474976710656)(C:lim<=200000000)(F:F5 k W b (G h n m) (G o s q) e kl ds)(D:kl.length<=200000000)(z:Nat->Except (Int×Int) (DataW Unit×Nat))(ae:∀p:Nat,(p:Int)=lim->p<bs.length->z p=.error (8,(p:Int)))(aa:b<=W.heap.size)(ad:∀j,e j->j<W.heap.size)(ab:0<=a)(ac:a<=100000)(Q:∀V (p:Nat),C1 bs lim p->Am X 70 #[.agg (BP bs fm d l),I K p,I K (a+1)] V (ER k bs lim V (z p))):Am X 137 #[.agg (BP bs fm d l),.agg (BJ 7 0 ⟨#[]⟩ (G h n m) (G o s q)),I K i,I K a] W (Nc k bs lim W b (G h n m) (G o s q) e kl ds (DO bs lim z (kl.reverse,GP kl ds) i)):=by
 obtain⟨R,N⟩:∃R,DO bs lim z (kl.reverse,GP kl ds) i=R:=⟨_,rfl⟩
 rw[N];rcases vh x ae hi N with⟨u,g⟩|⟨c,w,u,⟨v,g⟩|⟨v,A,⟨f,y,g⟩|⟨t,r,y,H,ai,⟨B,g⟩|⟨B,P,⟨f,L,g⟩|⟨p3,L,af,aj,ag,ah,S⟩⟩⟩⟩⟩
 ·exact vp k W bs fm d l lim i a b h o n m s q e kl ds R _ u g Z
 ·exact vq k W bs fm d l lim i a b h o n m s q e kl ds R _ c w v u g Z
 ·exact vr k W bs fm d l lim i a b h o n m s q e kl ds R f c w v u hb C x A y g
 ·exact vt k W bs fm d l lim i a b h o n m s q e kl ds R _ c w v u hb C x A F D t r y B Z J H.1 g
 ·exact vu k W bs fm d l lim i a b h o n m s q e kl ds R f c w v u hb C x A F D t r y B H.1 _ Z P L g
 exact vw k W bs fm d l lim i a b h o n m s q e kl ds R c w v u hb C x A F D t r y B H.1 _ Z P z aa ad ab ac p3 _ L af.1 Z ag S Q
def vy{α:Type}{itF:α->Nat->A5 α}{acc:α}{R:A5 α}{f:Int×Int}(h:KL bs lim itF last g p acc R)(i:FL bs lim (itF acc p) (.error f))(e:(p:Int)=lim->p<bs.length->itF acc p=.error (8,(p:Int))):R=.error f:=by
 have a:itF acc p=.error f:=by
  rcases i with h|⟨q,_,_,_,x,c⟩
  ·exact h
  cases c
 rcases h.2 with⟨j,_,b⟩|⟨b,d,c⟩
 ·rw[<-b];unfold Me;rw[a]
 rw[e b d]at a;injection a with a;rw[c,a]
def vz{α:Type}{l:Int}(t:Lm bs l lim){itF:α->Nat->A5 α}{q p3:Nat}{acc acc':α}{R:A5 α}(h:KL bs lim itF last g p acc R)(L:FL bs lim (itF acc p) (.ok (acc',q)))(u:(p:Int)=lim->p<bs.length->itF acc p=.error (8,(p:Int)))(H:∀x q,itF acc p=.ok (x,q)->p<q)(v:C1 bs lim q)(V:bs.length+1<=p+g)(r:p3=DR bs l (bs.length+1-q) q):C1 bs lim p3/\((Cy bs l p3=false/\R=.error (CS bs l p3 9))\/∃c,bs[p3]?=U c/\Cy bs l p3=true/\((c.toNat=last/\R=.ok (acc',p3+1)/\C1 bs lim (p3+1))\/(¬c.toNat=last/\c.toNat=44/\C1 bs lim (p3+1)/\∃a,g=a+2/\p<p3/\Dp bs lim itF last (a+1) (p3+1) acc'=R)\/(¬c.toNat=last/\¬c.toNat=44/\R=.error (CS bs l p3 9)))):=by
 rcases L with i|⟨q',d,m,n,x,f⟩
 ·have W:=H acc' q i;rcases h.2 with⟨a,e,o⟩|⟨m,n,f⟩
  ·obtain⟨w,S,j⟩:=dU t v r i o;refine⟨w,?_⟩;rcases j with j|⟨c,s,y,b⟩
   ·exact .inl j
   refine .inr ⟨c,s,y,?_⟩;rcases b with b|⟨z,c2,A,B⟩|b
   ·exact .inl b
   ·have:=Cf s;obtain⟨k,rfl⟩:∃k,a=k+1:=⟨a-1,J⟩
    exact .inr (.inl ⟨z,c2,A,k,J,J,B⟩)
   exact .inr (.inr b)
  rw[u m n]at i;cases i
 injection f with f;injection f with h5 h6;subst h6;obtain⟨C,D,F⟩:=dV t m n;rw[C]at r;subst r;refine⟨v,.inl ⟨D,?_⟩⟩;rw[F];rcases h.2 with⟨a,_,o⟩|⟨N,P,Q⟩
 ·rw[<-o];unfold Me;rw[d]
 rw[u N P]at d;injection d with d;rw[Q,d]
def ek{rd:Nat->Except (Int×Int) (DataW Unit×Nat)}{a:List A1×List (Lit×DataW Unit)}(c:(p:Int)=lim)(b:p<bs.length):DO bs lim rd a p=.error (8,(p:Int)):=by
 unfold DO FH;rw[Ci,C6 b];simp only[];rw[BA c]
def vA(r:Except (Int×Int) ((List A1×List (Lit×DataW Unit))×Nat)):Except (Int×Int) (DataW Unit×Nat):=match r with
 |.error e=>.error e
 |.ok (es,q)=>.ok (.map es.2,q)
def el{kd n:Int}{s:ByteArray}(h:E7 W A (BJ kd n s kv u) V)(x:Int):E7 W A (BJ x n s kv u) (V.setCell ⟨W.heap.size+3,0,Y⟩ (I K x)):=by
 have a:∀j,j≠W.heap.size+3->(V.setCell ⟨W.heap.size+3,0,Y⟩ (I K x)).heap[j]?=V.heap[j]?:=λj b=>CP V _ _ _ Bj;refine⟨(a _ J).trans h.box,(a _ J).trans h.th,(a _ J).trans h.flt,?_,h.below.trans ⟨Z,Z,Z,AJ,λj b=>a j J⟩⟩;rw[ET _ _ _ _ _ _ h.tv];rfl
def vB(h:E7 W A y V)(b:Ol V V' kv u)(d:∀g,kv.ownBlock=U g->W.heap.size+4<=g)(f:∀g,u.ownBlock=U g->W.heap.size+4<=g):E7 W A y V':=by
 have i:=h.size;have a:∀j,j<W.heap.size+4->V'.heap[j]?=V.heap[j]?:=λj c=>b.block j J (λe=>Ao (d j e.symm)) (λe=>Ao (f j e.symm));exact⟨(a _ J).trans h.box,(a _ J).trans h.th,(a _ J).trans h.flt,(a _ J).trans h.tv,h.below.trans ⟨b.os,b.tape,b.output,b.size,λj c=>a j J⟩⟩
def em(h:E7 W A y V)(z:A3):E7 W A z (V.setRow (W.heap.size+3) z) :=
 ⟨sx J h.box,sx J h.th,sx J h.flt,Ca _ _ _ _ _ _ h.tv,CF h.below J _⟩
def eo(h:E7 W A y V)(j:Nat)(a:W.heap.size+4<=j)(z:A3):E7 W A y (V.setRow j z) :=
 ⟨sx J h.box,sx J h.th,sx J h.flt,sx J h.tv,CF h.below J _⟩
def Nd(b:O)(c d:Obj)(a f:A3):A0 b ((((b.alloc c).alloc d).setRow b.heap.size a).setRow (b.heap.size+1) f) :=
 CF (CF ((BN).alloc AY _) (BM _) _) J _
def JA(a:O)(b c:Obj):((a.alloc b).alloc c).heap[a.heap.size]?=U b/\((a.alloc b).alloc c).heap[a.heap.size+1]?=U c:=by
 have d:=BI (a.alloc b) c;simp only[BU,A0]at d;exact⟨(BT _ _ _ AY).trans (BI _ _),d⟩
def PZ{t:TypeId}:((((w.alloc o).alloc (E a t)).setRow w.heap.size b).setRow (w.heap.size+1) f).heap[w.heap.size+1]?=U (E f t):=Ca _ _ _ _ _ _ ((CQ _ _ _ _ J).trans (JA w _ _).2)
def VZ{t:TypeId}:((((w.alloc (E a t)).alloc o).setRow w.heap.size b).setRow (w.heap.size+1) f).heap[w.heap.size]?=U (E b t):=(CQ _ _ _ _ J).trans (Ca _ _ _ _ _ _ (JA w _ _).1)
def vC(k:Nat)(W:O)(bs:A1)(fm d l lim:Int)(i:Nat)(dp:Int)(c:UInt8)(hc:bs[i]?=U c)(hv:c.toNat=123)(hp:¬(i:Int)=lim)(hl:Lm bs l lim)(hi:C1 bs lim i)(hb:bs.length<=281474976710656)(bw:lim<=200000000)(cc:0<=dp)(ck:dp<d)(cl:d<=100000)(q:Nat->Except (Int×Int) (DataW Unit×Nat))(bq:∀p,CK (q p))(bx:∀p:Nat,(p:Int)=lim->p<bs.length->q p=.error (8,(p:Int)))(bt:∀p av aj,q p=.ok (av,aj)->p<aj)(cJ:∀V (p:Nat),C1 bs lim p->Am X 70 #[.agg (BP bs fm d l),I K p,I K (dp+1)] V (ER k bs lim V (q p))):Am X 108 #[.agg (BP bs fm d l),I K i,I K dp] W (ER (k+1) bs lim W (vA (Di bs lim (DO bs lim q) 125 (i+1) ([],[])))):=by
 obtain⟨ax,HR⟩:∃ax,Hid (Di bs lim (DO bs lim q) 125 (i+1) ([],[])=ax):=⟨_,show _=_ from rfl⟩
 rw[HR.out];have cn:=Cf hc;have co:=DI bs i c hc;have c8:((c.toNat:Int)==123)=true:=kfr
 have bu:=Fp hi hc hp;have HL:=T hl;have cH:=Od bs fm d l;have cB:=Oe bs fm d l;have cS:∀V (p:Nat),p<=bs.length->Am X 45 #[.agg #[A9 ⟨bs.toArray⟩,I K fm,I K d,I K l],I K p] V λe W'=>e=Af (I K (DR bs l (bs.length+1-p) p))/\A0 V W':=λV p hp=>Oa V bs fm d l p hb hp;have bh:Hid (∀V (p:Nat),C1 bs lim p->Am X 70 #[.agg #[A9 ⟨bs.toArray⟩,I K fm,I K d,I K l],I K p,I K (dp+1)] V (ER k bs lim V (q p))):=cJ;have bi:=T bt;have b6:=T bq;have b7:=T bx;have ar:=λV=>cS V (i+1) J;obtain⟨D,be⟩:∃D,D=DR bs l (bs.length+1-(i+1)) (i+1):=⟨_,rfl⟩
 obtain⟨b0,ci⟩:=dT hl bu be HR;rw[<-be]at ar;have cu:=b0.1;have ag:=λV=>cH V D;have cm:decide (d<=dp)=false:=Ax
 clear hc hv hp hl hi bu cJ bt bq bx be HR;rcases ci with⟨v,y,A,he,bo,ai⟩|⟨au,bp⟩
 ·rw[A]at ag;have cf:=λV=>DI bs D v y V;have a0:((v.toNat:Int)==125)=true:=by rw[he];rfl
  have a6:=T bo;have b9:=T ai;have cy:=Cf y;clear y A he bo ai cH cB cS bh bi b0;unfold BP;go_enter func108,ntmps108
  go_wp2_with(first
   |(go_at_call 45;have a8:Hid (E7 W (BP bs fm d l) (BJ 7 0 ⟨#[]⟩ BV BV) (F.setCell ⟨W.heap.size+1+1+1,0,Y⟩ (I K 7))):=el n 7;refine CT (ar _) a8.next (λ_ h=>h.box) ?_;clear ar a b c2 m k0 f0;intro w2 t a b c2 m)
   |(go_at_call 68;refine CT (ag _) t.next (λ_ h=>h.box) ?_;clear ag a b c2 m;intro w3 ab a b c2 m)
   |((with_reducible refine zT 9 21 rfl rfl (W.heap.size+3) (BJ 6 0 ⟨#[]⟩ BV BV) ?_ ?_);exact⟨Z,Z,Sg W _,thg⟩;refine F8 ?_;intro F an;have n:Hid (E7 W (BP bs fm d l) (BJ 6 0 ⟨#[]⟩ BV BV) F):=an▸Sf W _ _;clear an;obtain⟨a,b,c2,m⟩:=CL n.box;have k0:F.cell? ⟨W.heap.size+1+1+1,0,Y⟩=U (I K 6):=BB n.tv 0;have f0:F.frozen? ⟨W.heap.size+1+1+1,0,Y⟩=false:=Dx F (W.heap.size+3) 0 _ _ n.tv)
   |((with_reducible refine C8 rfl 74 (.tmp 9) rfl (W.heap.size+3) ?hx 74 (BJ 7 0 ⟨#[]⟩ BV BV) (0,0) _ ?hg underlying74 rfl ?hi ?_);(case hx=>exact rfl);(case hg=>exact ab.tv);(case hi=>exact K8 _ _ _ _ _))
   |((with_reducible refine zT 6 43 rfl rfl (W.heap.size+1) (BJ 7 0 ⟨#[]⟩ BV BV) ?_ ?_);exact⟨Z,Z,ab.th,thg⟩)
   |((with_reducible refine zF 8 46 rfl rfl (W.heap.size+2) (0,0) ?_ ?_);exact⟨Z,Z,G6 ab.rth Cm _⟩))
  have w:=EP ab.rth Cm (BJ 7 0 ⟨#[]⟩ BV BV) (0,0);refine EQ results108 w (I K ((D:Int)+1)) Z Z Z Z ⟨w.2.2,?_⟩;exact⟨.ok (.map [],D+1),.inl (by rw[a6.out];rfl),b9,_,_,_,_,_,_,_,_,_,rfl,(dZ k _ (W.heap.size) (λ_=>False)).map (BM _)⟩
 have aa:=T bp;have cg:(Cy bs l D=false)\/(∃c,bs[D]?=U c/\Cy bs l D=true/\((c.toNat:Int)==125)=false):=by
  rcases au with h|⟨c,h1,h2,h3⟩
  ·exact .inl h
  exact .inr ⟨c,h1,h2,Ax⟩
 clear au bp;rcases cg with au|⟨v,y,A,a0⟩
 focus
  rw[au]at ag;clear au
 rotate_left
 focus
  rw[A]at ag;have cp:=λV=>DI bs D v y V;have cz:=Cf y;clear A y
 all_goals
  unfold BP;go_enter func108,ntmps108
  go_wp2_with(first
   |(go_at_call 45;have a8:Hid (E7 W (BP bs fm d l) (BJ 7 0 ⟨#[]⟩ BV BV) (F.setCell ⟨W.heap.size+1+1+1,0,Y⟩ (I K 7))):=el n 7;refine G3 (ar _) a8.next ?_;clear ar a b c2 m k0 f0;intro w2 ca t;obtain⟨a,b,c2,m⟩:=CL t.box)
   |(go_at_call 68;refine G3 (ag _) t.next ?_;clear ag a b c2 m;intro w3 cb ab;obtain⟨a,b,c2,m⟩:=CL ab.box)
   |((with_reducible refine zT 9 21 rfl rfl (W.heap.size+3) (BJ 6 0 ⟨#[]⟩ BV BV) ?_ ?_);exact⟨Z,Z,Sg W _,thg⟩;refine F8 ?_;intro F an;have n:Hid (E7 W (BP bs fm d l) (BJ 6 0 ⟨#[]⟩ BV BV) F):=an▸Sf W _ _;clear an;obtain⟨a,b,c2,m⟩:=CL n.box;have k0:F.cell? ⟨W.heap.size+1+1+1,0,Y⟩=U (I K 6):=BB n.tv 0;have f0:F.frozen? ⟨W.heap.size+1+1+1,0,Y⟩=false:=Dx F (W.heap.size+3) 0 _ _ n.tv))
  go_loopg[1] (bs.length+1-D) (λg b4 wr=>∃(p:Nat) (C:List A1) (ds:List (DataW Unit)) (ka:A4) (kn kc:Nat) (ua:A4) (un uc:Nat),b4=I K p/\Hid (bs.length+1<=p+g)/\Hid (KL bs lim (DO bs lim q) 125 g p (C.reverse,GP C ds) ax)/\Hid (C.length<=p)/\Hid (E7 W (BP bs fm d l) (BJ 7 0 ⟨#[]⟩ (G ka kn kc) (G ua un uc)) wr)/\Hid (F5 k wr (W.heap.size+4) (G ka kn kc) (G ua un uc) (λ_=>False) C ds))
  case atStart=>exact⟨D,[],[],Y,0,0,Y,0,0,rfl,AL,aa,DK _,ab,dZ _ _ _ _⟩
  case round =>
   clear aa n t ab ca cb a b c2 m;obtain⟨p,C,ds,ka,kn,kc,ua,un,uc,rfl,hg,aa,br,n,ak⟩:=hrel;have cx:(p:Int)<=200000000:=SX aa.1.2 bw;have ct:=aa.1.1;have c7:=n.size;obtain⟨a,b,c2,m⟩:=CL n.box;have k0:wr.cell? ⟨W.heap.size+1+1+1,0,Y⟩=U (I K 7):=BB n.tv 0;have n0:W.heap.size+1+1+1<wr.heap.size:=J
   have n2:W.heap.size+3<wr.heap.size:=J
   have n1:W.heap.size<wr.heap.size:=J
   go_wp2_with(first
    |((with_reducible refine C8 rfl 74 (.tmp 9) rfl (W.heap.size+3) ?hx 74 (#[I K 7,I K 0,A9 ⟨#[]⟩,G ka kn kc,G ua un uc]) (0,0) _ ?hg underlying74 rfl ?hi ?_);(case hx=>exact rfl);(case hg=>exact(BT _ _ _ J).trans n.tv);(case hi=>exact Nb)))
   have bm:Hid (F5 k (wr.alloc (E (BH (0,0)) 76)) (W.heap.size+4) (G ka kn kc) (G ua un uc) (λj=>j=wr.heap.size) C ds):=(ak.other (ex':=λj=>j=wr.heap.size) (λj h=>.inr (OK h.symm))).next Az (λj _ o _=>BT _ _ _ o)
   refine(vx k _ bs fm d l lim p dp (W.heap.size+4) ka ua kn kc un uc (λj=>j=wr.heap.size) C ds HL aa.1 hb bw bm (Ao br.out) q b7 Ax (λj h=>by subst h;simp) cc J bh).mono ?_;clear a b c2 m k0 n0 n1 n2;rintro e w2 ⟨az,r',bz,he⟩;have c6:wr.heap.size+1<=w2.heap.size:=by have:=az.size;simp only[BU,A0]at this;omega
   have a3:Hid (∀g,(Value.slice ka kn kc).ownBlock=U g->W.heap.size+4<=g/\g<wr.heap.size):=λg e=>⟨Fa ak.keys e,IG ak.keys e⟩
   have a7:Hid (∀g,(Value.slice ua un uc).ownBlock=U g->W.heap.size+4<=g/\g<wr.heap.size):=by
    obtain⟨xs,ho,_⟩:=ak.kids;exact λg e=>⟨Fa ho e,IG ho e⟩
   have ao:=T (vB (n.next BN) az (λg e=>(a3 g e).1) (λg e=>(a7 g e).1));have HF:=T ((az.block _ Az (λe=>Ao ((a3 _ e.symm).2)) (λe=>Ao ((a7 _ e.symm).2))).trans (BI _ _));have a4:=T bz;have bj:=T ak.len;clear bz az a3 a7 bm n ak
   cases r' with
   |error f =>
    obtain⟨kd,nn,s,a1,i1,j1,b1,q1,m1,b4,rfl⟩:=he;have cs:(f.1==0)=false:=by
     have:=dI a4 (bl b6 _ p) f.1 f.2 Z;simpa using this
    simp only[]
    go_wp2_with(first
     |((with_reducible refine Co rfl 74 (.tmp 9) (.tmp 56) rfl (W.heap.size+3) (BJ kd nn s (G a1 i1 j1) (G b1 q1 m1)) ?hx ?hy 74 (BJ 7 0 ⟨#[]⟩ (G ka kn kc) (G ua un uc)) ?hg ?hi ?hs ?h1 ?_);(case hx=>exact rfl);(case hy=>exact rfl);(case hg=>exact ao.tv);(case hi=>exact K8 _ _ _ _ _);(case hs=>exact rfl);(case h1=>exact VN _ _ _ _ _ _ _ _ _))
     |((with_reducible refine zF 11 58 rfl rfl (wr.heap.size) (f) ?_ ?_);exact⟨Z,Z,sx J HF⟩;refine F8 ?_;intro V2 a2;have t:=T (a2▸eo (em ao _) _ J _);have ap:=T (a2▸Ca _ _ _ _ _ _ (sx J HF));clear a2;obtain⟨a,b,c2,m⟩:=CL t.box;have u0:V2.cell? ⟨wr.heap.size,0,Y⟩=U (I K (f.1)):=BB ap 0))
    have HE:=T (vy aa a4 (λh1 h2=>ek h1 h2));refine DA (S:=λa9=>a9.heap[wr.heap.size]?=U (E (BH f) 76)) (ap) M ?_;intro hS;refine BL 0 77 (.agg BZ) Z (λa9 hZ=>?y0) hS ?_
    case y0=>(unfold BZ BJ BV;go_simp)
    refine BL 1 78 (.agg (BH f)) Z (λa9 hZ=>yF 11 hZ Z Z) hS ?_;have bc:=(CQ _ (W.heap.size+1) wr.heap.size BZ J).trans hS;refine Jy 2 6 77 (W.heap.size+1) (BZ) M (t.th) thg (bc) ?_;refine BE 3 7 (I K 0) bc ?_;refine sF 4 8 78 (W.heap.size+2) f M (G6 (V:=V2) t.rth Cm _) (sx J bc) ?_;refine Cv ?_;go_simp;go_wp2;have w:=EP t.rth.drew Cm (BZ) (f);refine EQ results108 w (I K 0) Z Z Z Z ⟨w.2.2,?_⟩;exact⟨.error (f),.inl keJ,_,_,_,_,_,_,_,_,_,_,Z⟩
   |ok av =>
    obtain⟨av,aj⟩:=av;obtain⟨ai,lk,dd,L,P,N,Q,R,z,rfl,rfl,hM⟩:=he;have HM:=T hM;clear hM;simp only[]
    go_wp2_with(first
     |((with_reducible refine Co rfl 74 (.tmp 9) (.tmp 56) rfl (W.heap.size+3) (BJ 7 0 ⟨#[]⟩ (G L P N) (G Q R z)) ?hx ?hy 74 (BJ 7 0 ⟨#[]⟩ (G ka kn kc) (G ua un uc)) ?hg ?hi ?hs ?h1 ?_);(case hx=>exact rfl);(case hy=>exact rfl);(case hg=>exact ao.tv);(case hi=>exact K8 _ _ _ _ _);(case hs=>exact rfl);(case h1=>exact VN _ _ _ _ _ _ _ _ _))
     |((with_reducible refine zF 11 58 rfl rfl (wr.heap.size) (0,0) ?_ ?_);exact⟨Z,Z,sx J HF⟩;have t:Hid (E7 W (BP bs fm d l) (BJ 7 0 ⟨#[]⟩ (G L P N) (G Q R z)) ((w2.setRow (W.heap.size+3) (BJ 7 0 ⟨#[]⟩ (G L P N) (G Q R z))).setRow wr.heap.size (BH (0,0)))):=eo (em ao _) _ J _;have ap:Hid (((w2.setRow (W.heap.size+3) (BJ 7 0 ⟨#[]⟩ (G L P N) (G Q R z))).setRow wr.heap.size (BH (0,0))).heap[wr.heap.size]?=U (E (BH (0,0)) 76)):=Ca _ _ _ _ _ _ (sx J HF);have bk:Hid (F5 k ((w2.setRow (W.heap.size+3) (BJ 7 0 ⟨#[]⟩ (G L P N) (G Q R z))).setRow wr.heap.size (BH (0,0))) (W.heap.size+4) (G L P N) (G Q R z) (λ_=>False) (C++[lk]) (ds++[dd])):=(HM.next (V':=(w2.setRow (W.heap.size+3) (BJ 7 0 ⟨#[]⟩ (G L P N) (G Q R z))).setRow wr.heap.size (BH (0,0))) Az (λj h1 _ hx=>by rw[CQ _ _ _ _ hx,CQ _ _ _ _ J])).other (λ_ h=>h.elim);generalize(w2.setRow (W.heap.size+3) (BJ 7 0 ⟨#[]⟩ (G L P N) (G Q R z))).setRow wr.heap.size (BH (0,0))=V2 at *;obtain⟨a,b,c2,m⟩:=CL t.box;have u0:V2.cell? ⟨wr.heap.size,0,Y⟩=U (I K (0)):=BB ap 0))
    obtain⟨r,bf⟩:∃r,r=DR bs l (bs.length+1-aj) aj:=⟨_,rfl⟩
    obtain⟨b2,ch⟩:=vz HL aa a4 (λh1 h2=>ek h1 h2) (λav aj h=>TW bi _ _ _ _ h) ai hg.out bf;have c5:=ai.1;have cw:=b2.1;have ba:=λV=>cS V aj ai.1;rw[<-bf]at ba;have x:=λV=>cH V r;have al:=λV=>cB V r 9;refine(ba _).mono ?_;rintro e w7 ⟨rfl,ay⟩;have aq:=T (t.next ay);have aw:=T (bk.next ay.size (λj _ o _=>ay.block j o));clear ai bf b2 ba a b c2 m u0 t bk ay ap HM HF ao;simp only[];obtain⟨a,b,c2,m⟩:=CL aq.box;rcases ch with⟨A,ad⟩|⟨v,y,A,hx⟩
    ·rw[A]at x;have HE:=T ad;generalize CS bs l r 9=xx at *;clear A ad cS cH cB
     go_wp2_with(first
      |(go_at_call 68;refine G3 (x _) aq.next ?_;clear x a b c2 m;intro w8 H u;have af:=T (aw.next H.size (λj _ o _=>H.block j o));obtain⟨a,b,c2,m⟩:=CL u.box)
      |(go_at_call 47;refine G3 (al _) u.next ?_;clear al a b c2 m;intro w9 ac B;have a5:=T (af.next ac.size (λj _ o _=>ac.block j o));obtain⟨a,b,c2,m⟩:=CL B.box)
      |((with_reducible refine zT 6 101 rfl rfl (W.heap.size+1) (BZ) ?_ ?_);exact⟨Z,Z,B.th,thg⟩)
      |((with_reducible refine zF 8 104 rfl rfl (W.heap.size+2) (xx) ?_ ?_);exact⟨Z,Z,G6 B.rth Cm _⟩))
     have w:=EP B.rth Cm (BZ) (xx);refine EQ results108 w (I K 0) Z Z Z Z ⟨w.2.2,?_⟩;exact⟨.error (xx),.inl keJ,_,_,_,_,_,_,_,_,_,_,Z⟩
    rw[A]at x;have cf:=λV=>DI bs r v y V;have cv:=Cf y;rcases hx with⟨ah,ad,ae⟩|⟨ah,am,ae,g',cd,c4,bv⟩|⟨ah,am,ad⟩
    ·have a0:((v.toNat:Int)==125)=true:=by rw[ah];rfl
     have b3:((v.toNat:Int) != 125)=false:=by rw[ah];rfl
     have a6:=T ad;have b8:=T ae;clear A ah ad ae y cS cH cB al
     go_wp2_with(first
      |(go_at_call 68;refine G3 (x _) aq.next ?_;clear x a b c2 m;intro w8 H u;have af:=T (aw.next H.size (λj _ o _=>H.block j o));obtain⟨a,b,c2,m⟩:=CL u.box)
      |((with_reducible refine C8 rfl 74 (.tmp 9) rfl (W.heap.size+3) ?hx 74 (BJ 7 0 ⟨#[]⟩ (G L P N) (G Q R z)) (0,0) _ ?hg underlying74 rfl ?hi ?_);(case hx=>exact rfl);(case hg=>exact u.tv);(case hi=>exact K8 _ _ _ _ _))
      |((with_reducible refine zT 6 111 rfl rfl (W.heap.size+1) (BJ 7 0 ⟨#[]⟩ (G L P N) (G Q R z)) ?_ ?_);exact⟨Z,Z,u.th,thg⟩)
      |((with_reducible refine zF 8 114 rfl rfl (W.heap.size+2) (0,0) ?_ ?_);exact⟨Z,Z,G6 u.rth Cm _⟩))
     have w:=EP u.rth Cm (BJ 7 0 ⟨#[]⟩ (G L P N) (G Q R z)) (0,0);refine EQ results108 w (I K ((r:Int)+1)) Z Z Z Z ⟨w.2.2,?_⟩;refine⟨.ok (.map (GP C ds++[(.string lk,dd)]),r+1),.inl (by rw[a6.out];rfl),b8,_,_,_,_,_,_,_,_,_,rfl,?_⟩;rw[<-dW bj.out];exact(af.next Az (λj cq cr _=>Bg)).map J
    ·have a0:((v.toNat:Int)==125)=false:=by rw[am];rfl
     have b3:((v.toNat:Int) != 125)=true:=by rw[am];rfl
     have cj:((v.toNat:Int) != 44)=false:=by rw[am];rfl
     subst cd;have bb:=λV=>cS V (r+1) ae.1;obtain⟨p4,bg⟩:∃p4,p4=DR bs l (bs.length+1-(r+1)) (r+1):=⟨_,rfl⟩
     have bd:=dR HL ae bv;rw[<-bg]at bd bb;have bn:Hid (r+1<=p4):=by
      show _<=_;rw[bg];rcases KI HL (bs.length+1-(r+1)) (r+1) ae with⟨q',_,h2,_,h4,_⟩|⟨q',_,h2,h3,_⟩
      ·rw[h2];exact h4
      rw[h2];have:=ae.2;omega
     have b5:Hid (KL bs lim (DO bs lim q) 125 (g'+1) p4 ((C++[lk]).reverse,GP (C++[lk]) (ds++[dd])) ax):=by
      rw[dW bj,List.reverse_append];exact bd
     clear A ah am ae y cS cH cB al bv bg bd
     go_wp2_with(first
      |(go_at_call 68;refine G3 (x _) aq.next ?_;clear x a b c2 m;intro w8 H u;have af:=T (aw.next H.size (λj _ o _=>H.block j o));obtain⟨a,b,c2,m⟩:=CL u.box)
      |(go_at_call 45;refine G3 (bb _) u.next ?_;clear bb a b c2 m;intro w9 ac B;have a5:=T (af.next ac.size (λj _ o _=>ac.block j o));obtain⟨a,b,c2,m⟩:=CL B.box))
     go_roundg (g'+1)
     case measure=>omega
     case rel=>exact⟨p4,C++[lk],ds++[dd],_,_,_,_,_,_,rfl,by show _<=_;have:=hg.out;have:=bn.out;omega,b5,by show _<=_;rw[BK];have:=br.out;have:=bn.out;simp;omega,B,a5⟩
    have a0:((v.toNat:Int)==125)=false:=Ax
    have b3:((v.toNat:Int) != 125)=true:=Ax
    have cj:((v.toNat:Int) != 44)=true:=Ax
    have HE:=T ad;generalize CS bs l r 9=xx at *;clear A ah am ad y cS cH cB
    go_wp2_with(first
     |(go_at_call 68;refine G3 (x _) aq.next ?_;clear x a b c2 m;intro w8 H u;have af:=T (aw.next H.size (λj _ o _=>H.block j o));obtain⟨a,b,c2,m⟩:=CL u.box)
     |(go_at_call 47;refine G3 (al _) u.next ?_;clear al a b c2 m;intro w9 ac B;have a5:=T (af.next ac.size (λj _ o _=>ac.block j o));obtain⟨a,b,c2,m⟩:=CL B.box)
     |((with_reducible refine zT 6 101 rfl rfl (W.heap.size+1) (BZ) ?_ ?_);exact⟨Z,Z,B.th,thg⟩)
     |((with_reducible refine zF 8 104 rfl rfl (W.heap.size+2) (xx) ?_ ?_);exact⟨Z,Z,G6 B.rth Cm _⟩))
    have w:=EP B.rth Cm (BZ) (xx);refine EQ results108 w (I K 0) Z Z Z Z ⟨w.2.2,?_⟩;exact⟨.error (xx),.inl keJ,_,_,_,_,_,_,_,_,_,_,Z⟩
def ep(k:Nat)(W:O)(bs:A1)(fm d l lim:Int)(i:Nat)(b:Int)(c:UInt8)(g:bs[i]?=U c)(o:¬(i:Int)=lim)(n:Lm bs l lim)(hi:C1 bs lim i)(j:d<=b):Am X 108 #[.agg (BP bs fm d l),I K i,I K b] W (ER k bs lim W (.error (11,(i:Int)))):=by
 have u:decide (d<=b)=true:=by simpa using j
 have f:∀V,Am X 47 #[.agg #[A9 ⟨bs.toArray⟩,I K fm,I K d,I K l],I K i,I K 11] V λe q=>e=Af (.agg (BH (11,(i:Int))))/\A0 V q:=λV=>by
  have h:=N6 V bs fm d l i 11;rw[J4 n hi g o]at h;exact h
 have p:=Mb W bs fm d l;clear g o n hi j;unfold BP;go_enter func108,ntmps108
 go_wp2_with(first
  |(go_at_call 47;refine CT (f _) p.next (λ_ h=>h.box) ?_;clear f;intro v a r s c2 t)
  |((with_reducible refine zT 6 17 rfl rfl (W.heap.size+1) (BZ) ?_ ?_);exact⟨Z,Z,a.th,thg⟩)
  |((with_reducible refine zF 8 20 rfl rfl (W.heap.size+2) (11,(i:Int)) ?_ ?_);exact⟨Z,Z,G6 a Cm _⟩))
 have m:=EP a Cm (BZ) (11,(i:Int));refine EQ results108 m (I K 0) Z Z Z Z ⟨m.2.2,?_⟩;exact⟨.error (11,(i:Int)),.inl Z,_,_,_,_,_,_,_,_,_,_,Z⟩
def vD(s:BO)(c:UInt8)(p:Nat):CK (FV s c p):=Vk _ _
def vE{l:Int}{c:UInt8}(a:bs[p]?=U c)(h:Dm c=false):FA bs l p=false:=by
 unfold FA;rw[a];simp only[];rw[h,Qm]
def vF{c:UInt8}(h:Dm c=true):48<=(c.toNat:Int)/\(c.toNat:Int)<=57:=CD h
def vG{c:UInt8}(h:¬Dm c=true):(c.toNat:Int)<48\/57<(c.toNat:Int):=by
 have b:¬(48<=(c.toNat:Int)/\(c.toNat:Int)<=57):=λa=>h (CH a);omega
def vH(W:O)(bs:A1)(fm d l lim:Int)(i:Nat)(c:UInt8)(j:bs[i]?=U c)(y:c.toNat=45\/Dm c=true)(r:¬(i:Int)=lim)(k:Lm bs l lim)(hi:C1 bs lim i)(hb:bs.length<=281474976710656)(s:BO)(v:s.bs=bs)(w:s.lim=lim):Am X 109 #[.agg (BP bs fm d l),I K i] W λe m=>Il bs lim (FV s c (i+1)) e/\A0 W m:=by
 subst v;subst w;unfold FV CR;simp only[];have n:=Fp hi j r;by_cases b:c.toNat=45
 ·rw[BA b];have o:∀x,FA s.bs l (i+1)=false->CS s.bs l (i+1) 9=x->Am X 109 #[.agg (BP s.bs fm d l),I K i] W λe m=>Il s.bs s.lim (.error x) e/\A0 W m:=λx t u=>(ui W s.bs fm d l i c j b hb x t u).mono λe m h=>⟨⟨.error x,.inl rfl,(λz q e=>by cases e),h.1⟩,h.2⟩
  cases a:s.bs[i+1]? with
  |none =>
   simp only[];exact o _ (Sc (K2 a)) (Lu n.1 a 9)
  |some p =>
   simp only[];by_cases g:((i+1:Nat):Int)=s.lim
   ·rw[BA g];exact o _ (Sc (Jw k a g)) (IC k a g 9)
   rw[Bz g];by_cases f:Dm p=true
   ·rw[BA f];have h:=dB W s.bs fm d l s.lim i (i+1) _ true c p j (.inl ⟨Z,b,Z,Z⟩) a f g k n hb;unfold IE at h;simp only[OO]at h;exact h
   rw[Bz f];exact o _ (vE a keP) (J4 k n a g 9)
 rw[Bz b];have f:Dm c=true:=y.resolve_left b;have h:=dB W s.bs fm d l s.lim i i _ false c c j (.inr ⟨Z,b,Z,Z⟩) j f r k hi hb;unfold IE at h;simp only[Bool.false_eq_true,if_false]at h;exact h
def et{depth:Int}{nm:UInt8->Nat->A5 Int}{wi:Nat}(b:(p:Int)=lim)(a:p<bs.length):CI bs lim depth nm (g+1) wi p=.error (8,(p:Int)):=by
 rw[CI,C6 a];simp only[];rw[BA b]
def W5(s:BO)(fm l:Int)(k:Lm s.bs l s.lim)(hb:s.bs.length<=281474976710656)(D:s.lim<=200000000)(P:s.depth<=100000):∀(g a:Nat) (W:O) (i:Nat),(a:Int)<=s.depth->s.depth<a+g->C1 s.bs s.lim i ->
  Am X 70 #[.agg (BP s.bs fm s.depth l),I K i,I K a] W (ER g s.bs s.lim W (CI s.bs s.lim s.depth (FV s) g a i))
 |0,a,W,i,m,n,_=>absurd n J
 |g+1,a,W,i,m,n,hi=>by
  have ad:∀p,(a:Int)+1<=s.depth->CK (CI s.bs s.lim s.depth (FV s) g (a+1) p):=λp h=>RL s.bs s.lim s.depth (FV s) (λc p=>vD s c p) g (a+1) p J J;have ae:(a:Int)<s.depth->∀p:Nat,(p:Int)=s.lim->p<s.bs.length->CI s.bs s.lim s.depth (FV s) g (a+1) p=.error (8,(p:Int)):=λh p w y=>by
   obtain⟨g',rfl⟩:∃g',g=g'+1:=⟨g-1,J⟩
   exact et w y
  rw[CI]
  cases b:s.bs[i]? with
  |none=>exact VV g W s.bs fm s.depth l s.lim i a _ (Lu hi.1 b 9) (PY _) (.inl (K2 b))
  |some c =>
   simp only[];by_cases d:(i:Int)=s.lim
   ·rw[BA d];exact VV g W s.bs fm s.depth l s.lim i a _ (IC k b d 9) (PY _) (.inl (Jw k b d))
   rw[Bz d];have o:=Lv k hi b d;have ab:∀(v:UInt8) (xs:A1) (kd:Int) (R:A2),c=v->(v.toNat,(v::xs).toArray,kd)∈([(110,#[110,117,108,108],0),(102,#[102,97,108,115,101],1),(116,#[116,114,117,101],2)]:List (Nat×Array UInt8×Int))->(∀A:O,CM 1 A (λaf=>W.heap.size<=af/\af<A.heap.size) (.agg (BJ kd 0 ⟨#[]⟩ BV BV)) R)->(v::xs).length<=10->Am X 70 #[.agg (BP s.bs fm s.depth l),I K i,I K a] W (ER (g+1) s.bs s.lim W (match Ci s.bs s.lim xs (i+1)with
     |.error e=>.error e
     |.ok (_,q)=>.ok (R,q))):=λv xs kd R m n w y=>by
    have B:=λV=>RV V s.bs fm s.depth l s.lim i (v::xs) (C7 y Ay) k hi hb;rw[uV (xs:=xs) b d m]at B
    cases t:Ci s.bs s.lim xs (i+1)with
    |error f =>
     rw[t]at B;exact dM g W s.bs fm s.depth l s.lim i a c b o _ _ _ _ _ (by rw[m]) n B (PY f)
    |ok ac =>
     obtain⟨aj,q⟩:=ac;rw[t]at B;exact dM g W s.bs fm s.depth l s.lim i a c b o _ _ _ _ _ (by rw[m]) n B (dL (PT xs (i+1) q (Fp hi b d) t).2 w)
   unfold GH;by_cases j:c.toNat=110
   ·rw[BA j];exact ab 110 [117,108,108] 0 _ (by apply LH.1;rw[j];rfl) Ay (λ_=>rfl) Ay
   rw[Bz j];by_cases r:c.toNat=116
   ·rw[BA r];exact ab 116 [114,117,101] 2 _ (by apply LH.1;rw[r];rfl) Ay (λ_=>rfl) Ay
   rw[Bz r];by_cases u:c.toNat=102
   ·rw[BA u];exact ab 102 [97,108,115,101] 1 _ (by apply LH.1;rw[u];rfl) Ay (λ_=>rfl) Ay
   rw[Bz u];by_cases L:c.toNat=34
   ·rw[BA L];have F:=λV=>PW V s.bs fm s.depth l s.lim i k (Fp hi b d) hb D
    cases t:Ct s.bs s.lim (s.bs.length+1-(i+1)) (i+1) [] 0 with
    |error f =>
     rw[t]at F;exact dN g W s.bs fm s.depth l s.lim i a c b o _ _ _ L F (PY f)
    |ok ac =>
     obtain⟨x,q⟩:=ac;rw[t]at F;exact dN g W s.bs fm s.depth l s.lim i a c b o _ _ _ L F (dL (Se _ (i+1) [] 0 x q (Fp hi b d) t) λ_=>rfl)
   rw[Bz L];have S:((i+1:Nat):Int)-1=(i:Int):=J
   by_cases N:c.toNat=91
   ·rw[BA N];refine VW g W s.bs fm s.depth l s.lim i a c b o (.inl ⟨.inl N,λV=>?_⟩);by_cases C:(a:Int)=s.depth
    ·rw[BA C,S];exact ep (g+1) V s.bs fm s.depth l s.lim i a c b d k hi J
    rw[Bz C];exact vm g V s.bs fm s.depth l s.lim i a c b N d k hi hb D J J P _ (λp=>ad p J) (ae J) (λp x q h=>P8 s _ _ _ _ _ h) (λQ p _ aa=>W5 s fm l k hb D P g (a+1) Q p J J aa)
   rw[Bz N];by_cases H:c.toNat=123
   ·rw[BA H];refine VW g W s.bs fm s.depth l s.lim i a c b o (.inl ⟨.inr H,λV=>?_⟩);by_cases C:(a:Int)=s.depth
    ·rw[BA C,S];exact ep (g+1) V s.bs fm s.depth l s.lim i a c b d k hi J
    rw[Bz C];exact vC g V s.bs fm s.depth l s.lim i a c b H d k hi hb D J J P _ (λp=>ad p J) (ae J) (λp x q h=>P8 s _ _ _ _ _ h) (λQ p aa=>W5 s fm l k hb D P g (a+1) Q p J J aa)
   rw[Bz H];by_cases z:c.toNat=45\/Dm c=true
   ·rw[BA z];have hN:∀V,Am X 109 #[.agg (BP s.bs fm s.depth l),I K i] V λe A=>Il s.bs s.lim (FV s c (i+1)) e/\A0 V A:=λV=>vH V s.bs fm s.depth l s.lim i c b z d k hi hb s Z Z;refine VW g W s.bs fm s.depth l s.lim i a c b o (.inr ⟨z.imp id λh=>Ao (vF h),λV=>(hN V).mono λe A h=>?_⟩);obtain⟨⟨r',m,n,w⟩,y⟩:=h
    cases r' with
    |error f=>exact⟨y,.error f,uX m,_,_,_,_,_,_,_,_,_,_,w⟩
    |ok x=>exact⟨y,.ok (.lit (.int K x.1),x.2),uY m,(n _ _ rfl).1,_,_,_,_,_,_,_,_,_,w,dK ⟨rfl,(n _ _ rfl).2⟩⟩
   rw[Bz z,S];have ai:¬c.toNat=45:=λh=>z (.inl h);have ah:¬Dm c=true:=λh=>z (.inr h);have ag:=J4 k hi b d 9;exact VV g W s.bs fm s.depth l s.lim i a _ ag (PY _) (.inr ⟨o,c,b,λx hx=>by simp at hx;omega,Ao (vG ah)⟩)
def ew(J:Prop)(W:Ak)(e:Ending)(W':Ak):Prop:=∃q E P,e=Af (.tuple #[.string q,.int .i64 E,.int .i64 P])/\(E=0->J)/\A0 W W'
def vR(a:Prop)(W:O)(bs:A1)(d l:Int)(c:Am X 11 #[I K 1,I K 2,I K d,I K l,A9 ⟨bs.toArray⟩] W (ew a W)):Am X 6 #[A9 ⟨bs.toArray⟩,I K d,I K l] W λe k=>∃b,e=Af (Ac b)/\(b=true->a)/\A0 W k:=by
 go_enter func6,ntmps6
 go_wp2_with(first
  |(go_at_call 11;refine c.mono ?_;clear c;rintro e n ⟨q,m,P,rfl,g,f⟩;have j:=T g;have i:=T f;clear g f))
 go_ret;exact⟨_,Z,λh=>j.out B3,i⟩
end
end Go.Proofs.YtnlnjkggkbbdhaaGreatDoor
