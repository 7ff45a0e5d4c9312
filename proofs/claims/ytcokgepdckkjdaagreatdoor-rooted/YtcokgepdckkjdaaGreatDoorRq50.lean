import Derived.Test.YtcokgepdckkjdaaGreatDoorRq43
import Derived.Test.YtcokgepdckkjdaaGreatDoorRq49
set_option maxRecDepth 100000
set_option maxHeartbeats 8000000
namespace Go.Proofs.YtcokgepdckkjdaaGreatDoor
open Go.Proofs.Tryz
variable {w:World}{a:Nat}{c d:Cfg}{x:DataW Unit}{P:Program}
section
open Go.ChangeShapes Go.WideShapes Go.ChangeAt Go.RowKit Go.Lib Go.Deep Go.ChangeMaps
theorem qx7:(prog.globals[6]?).map (·.type)=some 313:=by kernel_rfl
theorem qt9:prog.cellsOf 313=20:=by kernel_rfl
theorem qur:(Rows.laid_internal_strconv_uint64pow10:DataW Unit)=tabData .u64 pow10Tab:=by kernel_rfl
def qxc:List Int:=[0,1,56,2,57,49,28,3,61,58,42,50,38,29,17,4,62,47,59,36,45,43,51,22,53,39,33,30,24,18,12,5,63,55,48,27,60,41,37,16,46,35,44,21,52,32,23,11,54,26,40,15,34,20,31,10,25,14,19,9,13,8,7,6]
theorem qx5:(prog.globals[8]?).map (·.type)=some 320:=by kernel_rfl
theorem quK:prog.cellsOf 320=64:=by kernel_rfl
theorem qt0:prog.cellsOf 5=1:=by kernel_rfl
theorem quP:(Rows.laid_math_bits_deBruijn64tab:DataW Unit)=tabData .u8 qxc:=by kernel_rfl
theorem qu1 {W:World}(e:laidMetH prog Rows.rootedRow.laid W)(l:W.ShapedOpen prog):qko W.heap.size W:=by
 have k:laidMet prog Rows.rootedRow.laid W:=e;have i:W.cell? ⟨8,15,none⟩=some (.int .u8 4)/\9<=W.heap.size:=by
  obtain⟨g,t,cs,m,p,c,j,a,b⟩:=laidMet.reads k (d:=Rows.laid_math_bits_deBruijn64tab) (.tail _ (.head _));obtain rfl:g=8:=Option.some.inj (c.symm.trans (by kernel_rfl));obtain rfl:=Option.some.inj (qx5.symm.trans j);rw[quP] at b;have f:=cells_of_tab underlying320 underlying5 qt0 quK b;have n:=World.var?_cell c a 15;refine⟨?_,?_⟩
  ·rw[n,<-Array.getElem?_toList,f];rfl
  unfold World.var? at a;rw[c] at a;simp only[Option.bind_some] at a;split at a
  ·next h=>exact ltA h
  cases a
 refine⟨⟨(qpC e l).tabs,qrq e,i.2⟩,?_,i.1,qpC e l,i.2,Nat.le_refl _⟩;refine Lib.tabBelow_of_tabIs ?_;obtain⟨g,t,cs,m,p,c,j,a,b⟩:=laidMet.reads k (d:=Rows.laid_internal_strconv_uint64pow10) (.tail _ (.tail _ (.head _)));obtain rfl:g=6:=Option.some.inj (c.symm.trans (by kernel_rfl));obtain rfl:=Option.some.inj (qx7.symm.trans j);rw[qur] at b;have f:=cells_of_tab underlying313 underlying247 qlK qt9 b;have o:W.var? prog qnt=some cs:=by
  refine Eq.trans ?_ a;exact congrArg (fun s=>W.var? prog s) (by kernel_rfl)
 unfold TabIs;rw[o,<-f]
section
variable {H:Type} {enc:TypeId×Value->H} {w:World}
end

end
section
open Go.RowKit Go.Lib
theorem q0D (k:Nat)(W:World)(F:Nat->Prop)(a:Array Value)(d:DataW Unit)(hF:∀j,F j->j<W.heap.size)(h:qxY k W F (.agg a) d)(p:(qaU k d).length<=149999999):Calls prog 20 #[.int .i64 2,.agg a] W fun e l=>e=.returned (.tuple #[qyh (qaU k d),.bool true])/\Below W.heap.size W l:=by
 have b:Hid (qzq W a (W.alloc (.cells a 55))):=qzw _ _;obtain⟨r,n,s,q,t,u,v,w,x,e⟩:=h.shape;injection e with e;have i:∀V,Below W.heap.size W V->qxY k V F (.agg a) d/\∀j,F j->j<V.heap.size:=fun V f=>⟨h.same (fun _ h=>h) (fun j g=>f.block j (hF j g)),fun j g=>Nat.lt_of_lt_of_le (hF j g) f.size⟩
 have m:=qaa (fun V f=>qzZ k V F a d (i V f).2 (i V f).1 (by omega));subst e;unfold thA at *;have z:=qab b.out.box 0;have A:=qab b.out.box 1;have B:=qab b.out.box 2;have C:=qab b.out.box 3;have D:=qab b.out.box 4;have c:=m.out _ b.out.below;unfold WrS qyh at c;unfold qyh;generalize qaU k d=R at *;go_enter func20,ntmps20
 go_wp2_with (first|(go_at_call 33;refine c.mono ?_;rintro e y ⟨rfl,o⟩))
 refine bodyPost_ret (results_tmp2 results20 _ _ _) rfl ?_;exact⟨rfl,(b.out.next o).below⟩
theorem q04 (W:World)(d l:Int)(bs:List UInt8)(hd:1<=d/\d<=16)(hl:1<=l/\l<=4096)(M:∀I pl,qgE 1 bs d l=.error (I,pl)->I≠0)(N:Calls prog 19 #[.int .i64 1,.int .i64 d,.int .i64 l,.string ⟨bs.toArray⟩] W (q1V (fun k y=>(qaU k y).length) (d.toNat+1) bs l W (qgE 1 bs d l))):Calls prog 9 #[.int .i64 1,.int .i64 2,.int .i64 d,.int .i64 l,.string ⟨bs.toArray⟩] W (q2i (∃y,qgE 1 bs d l=.ok y/\(bs.length:Int)<=l) W):=by
 have H:∀V,Calls prog 16 #[.int .i64 1] V fun e c=>e=.returned (.bool true)/\V=c:=fun V=>(qha 1 V).mono fun e c h=>⟨h.1,h.2.symm⟩
 have c2:∀V,Calls prog 16 #[.int .i64 2] V fun e c=>e=.returned (.bool true)/\V=c:=fun V=>(qha 2 V).mono fun e c h=>⟨h.1,h.2.symm⟩
 have h3:¬d<1:=by omega
 have h4:¬16<d:=by omega
 have h5:¬l<1:=by omega
 have h6:¬4096<l:=by omega
 have B:=qaa (show l<=4096 by omega);have A:=qaa M;generalize d.toNat+1=k at *;generalize qgE 1 bs d l=D at *;have G:=qaa N;clear N hd hl M;go_enter func9,ntmps9
 go_wp2_with (first
  |(go_at_call 16;refine(H _).mono ?_;clear H;rintro e w1 ⟨rfl,rfl⟩)
  |(go_at_call 16;refine(c2 _).mono ?_;clear c2;rintro e w1 ⟨rfl,rfl⟩))
 refine G.out.mono ?_;clear G h3 h4 h5 h6;rintro e a ⟨K,R⟩;have o:=qaa K;clear K
 cases D with
 |error f =>
  obtain rfl:=R;have aa:(f.1==0)=false:=by simpa using A.out f.1 f.2 rfl
  clear B;simp only[]
  go_wp2_with (first
   |((with_reducible refine zT 13 47 rfl rfl (a.heap.size) th0 ?_ ?_);exact⟨rfl,rfl,(qxQ a _ _).1,thg⟩)
   |((with_reducible refine zF 14 48 rfl rfl (a.heap.size+1) f ?_ ?_);exact⟨rfl,rfl,sx (by omega) (qxQ a _ _).2⟩;refine nmd ?_;intro i b;have m:=qaa (b▸qye _ _ _ _ _);have p:Hid (i.heap[a.heap.size+1]? = some (.cells (qqp f) 57)):=b▸q0L;clear b;have U:i.cell? ⟨a.heap.size+1,0,none⟩=some (.int .i64 f.1):=qab p.out 0))
  refine rgn (S:=fun Z=>Z.heap[a.heap.size+1]? = some (.cells (qqp f) 57)) p.out (by kernel_rfl) ?_;intro g;refine tkk 0 52 (.pointer (some ⟨a.heap.size+1,0,none⟩)) (by kernel_rfl) iQ3 g ?_;refine tk 1 53 (.int .i64 f.1) rfl (by kernel_rfl) iQ3 (fun Z C => ?y1) g ?_
  case y1=>(have hz:Z.cell? ⟨a.heap.size+1,0,none⟩=some (.int .i64 f.1):=qab C 0;go_simp)
  refine tkk 2 54 (.pointer (some ⟨a.heap.size+1,1,none⟩)) (by kernel_rfl) iQ3 g ?_;refine tk 3 55 (.int .i64 f.2) rfl (by kernel_rfl) iQ3 (fun Z C => ?y2) g ?_
  case y2=>(have hz:Z.cell? ⟨a.heap.size+1,1,none⟩=some (.int .i64 f.2):=qab C 1;go_simp)
  refine tkk 4 10 (.string ⟨#[]⟩) (by kernel_rfl) iQ3 g ?_;refine tkk 5 11 (.int .i64 f.1) (by kernel_rfl) iQ3 g ?_;refine tkk 6 12 (.int .i64 f.2) (by kernel_rfl) iQ3 g ?_;refine wpAnyH_done (by kernel_rfl) ?_ _;go_simp;go_wp2;refine bodyPost_ret (results_tmp3 results9 _ _ _) rfl ?_;exact⟨_,_,_,rfl,fun h=>absurd h (A.out f.1 f.2 rfl),o.out.trans (m.out.drew.mono o.out.size)⟩
 |ok t =>
  obtain⟨⟨w,n,s,q,u,v,r,z,x,rfl,J⟩,Q,T⟩:=R;have HJ:=qaa Q;have F:Hid (∀V,Below a.heap.size a V->Calls prog 20 #[.int .i64 2,.agg (thA w n s (.slice q u v) (.slice r z x))] V fun e c=>e=.returned (.tuple #[qyh (qaU k t),.bool true])/\Below V.heap.size V c):=fun V P=>q0D k V (fun j=>W.heap.size<=j/\j<a.heap.size) _ t (fun j E=>Nat.lt_of_lt_of_le E.2 P.size) (J.same (fun _ h=>h) (fun j E=>P.block j E.2)) (by have h:=T k;have:=B.out;dsimp only at h;omega);clear J Q T A B;unfold qyh at F;generalize qaU k t=O at *;simp only[]
  go_wp2_with (first
   |((with_reducible refine zT 13 47 rfl rfl (a.heap.size) (thA w n s (.slice q u v) (.slice r z x)) ?_ ?_);exact⟨rfl,rfl,(qxQ a _ _).1,thg⟩)
   |((with_reducible refine zF 14 48 rfl rfl (a.heap.size+1) (0,0) ?_ ?_);exact⟨rfl,rfl,sx (by omega) (qxQ a _ _).2⟩;refine nmd ?_;intro i b;have m:=qaa (b▸qye _ _ _ _ _);have p:Hid (i.heap[a.heap.size+1]? = some (.cells (qqp (0,0)) 57)):=b▸q0L;have Y:Hid (i.heap[a.heap.size]? = some (.cells (thA w n s (.slice q u v) (.slice r z x)) 55)):=b▸q23;clear b;have U:i.cell? ⟨a.heap.size+1,0,none⟩=some (.int .i64 0):=qab p.out 0)
   |((with_reducible refine wpList_load_row rfl 55 (.tmp 13) rfl (a.heap.size) ?hx 55 (thA w n s (.slice q u v) (.slice r z x)) (0,0) _ ?hg underlying55 rfl ?hi ?_);(case hx=>exact rfl);(case hg=>exact Y.out);(case hi=>exact qyd _ _ _ _ _))
   |(go_at_call 20;refine(F.out _ m.out).mono ?_;clear U;rintro e w6 ⟨rfl,L⟩;have X:=qaa (m.out.trans (L.mono m.out.size));clear L))
  refine bodyPost_ret (results_tmp3 results9 _ _ _) rfl ?_;exact⟨_,_,_,rfl,fun _=>⟨t,rfl,HJ.out⟩,o.out.trans (X.out.mono o.out.size)⟩

theorem q1N {sp:Nat->Except (Int×Int) (Unit×Nat)}{th:Nat->Except (Int×Int) (DataW Unit×Nat)}{bs:List UInt8}{lim:Int}(c:∀p,Bad (sp p))(d:∀p,Bad (th p)):Bad (qnZ sp th bs lim):=fun a b h=>by
 unfold qnZ at h;split at h
 ·next e he=>injection h with h;subst h;exact c _ a b he
 split at h
 ·next e he=>injection h with h;subst h;exact d _ a b he
 split at h
 ·next e he=>injection h with h;subst h;exact c _ a b he
 split at h
 ·next e he =>
  injection h with h;subst h;unfold qqn at he;split at he
  ·cases he
  split at he
  ·injection he with he;injection he with he;subst he;decide
  injection he with he;injection he with he;subst he;decide
 cases h
theorem q0x (bs:List UInt8)(d l:Int)(a:0<=d):Bad (qgE 1 bs d l) :=
 q1N (fun p=>qdH _ _ _ _) (fun p=>qnJ _ _ _ _ (fun c p=>qqA _ _) _ _ _ (by simpa using a) (by omega))
theorem q2M (bs:List UInt8)(d l:Int)(e:0<=d)(p:Nat)(y:DataW Unit)(q:Nat)(h:thO 1 bs d l p=.ok (y,q))(_hq:q<=bs.length)(k:Nat):(qaU k y).length<=400*q:=by
 have h:thJ bs l d (fun c p=>qg4 ⟨none,bs,0,0,l,p,0⟩ c) (d.toNat+1) 0 p=.ok (y,q):=h;by_cases b:p<=bs.length
 ·have a:=qvV bs [] l d (d.toNat+1) 0 (by omega) (by omega) p b;rw[h] at a;have:=a.2.2.1 k;have:=qjz k y;omega
 rw[thJ,List.getElem?_eq_none (by omega)] at h;cases h
theorem qyZ (W:World)(bs:List UInt8)(d l:Int)(i:1<=d/\d<=16)(j:1<=l/\l<=4096)(f:bs.length<=281474976710656):Calls prog 6 #[.string ⟨bs.toArray⟩,.int .i64 d,.int .i64 l] W fun e h=>∃b,e=.returned (.bool b)/\(b=true->∃y,qgE 1 bs d l=.ok y/\(bs.length:Int)<=l)/\Below W.heap.size W h:=by
 have a:0<=d:=by omega
 have g:∀c m,qgE 1 bs d l=.error (c,m)->c≠0:=q0x bs d l a;refine q0P _ W bs d l (q04 W d l bs i j g (q0M _ W 1 d l bs rfl (by omega) f (q2M bs d l a) g fun V p k => ?_));exact q2E (d.toNat+1) V bs 1 d l l p _ rfl fun V=>qzi ⟨none,bs,0,d,l,0,0⟩ 1 l (fun _ _=>Iff.rfl) f (by show l<=_;omega) (by show d<=100000;omega) (d.toNat+1) 0 V p (by simpa using a) (by show d<_;omega) k

theorem qbD (U:World)(t:TypeId)(y:Value)(c:List UInt8)(d:Calls prog 120 #[.slice none 0 0,.iface t y] U fun e a=>∃b,e=.returned b/\Own a U.heap.size b c/\Below U.heap.size U a):Calls prog 93 #[.int .i64 1,.iface t y] U fun e a=>∃b,e=.returned b/\Own a U.heap.size b c/\Below U.heap.size U a:=by
 go_enter func93,ntmps93
 go_wp2_with (first
  |(go_at_call 120;refine d.mono ?_;rintro e n ⟨m,rfl,f,i⟩;obtain⟨g,h,j,l,k,rfl⟩:=f))
 go_ret;exact⟨_,rfl,⟨g,h,_,_,_,rfl⟩,i⟩
theorem qbt {k:Nat}{d:DataW Unit}(b:d=.nil\/∃l,d=.lit (.string l)/\(jsT l).length<=999999999):WrP 1 (k+1) d:=by
 have n:qkn (k+1) d=false:=by rcases b with rfl|⟨l,rfl,_⟩<;>rfl
 refine⟨fun V t y a _ _ => ?_,fun h=>absurd (n.symm.trans h) (by decide),fun _ _ _ _ => ?_⟩
 ·have i:Calls prog 92 #[.iface t y] V fun e g=>e=.returned (.bool false)/\Below V.heap.size V g:=by
   rcases b with rfl|⟨l,rfl,_⟩
   ·rw[show Value.iface t y=_ from a];exact qmZ V
   rw[show Value.iface t y=_ from a];exact quz V _
  refine qm4 V t y _ i (fun U f=>(qbD U t y (wrO 1 (k+1) d) ?_).mono ?_)
  ·rcases b with rfl|⟨l,rfl,c⟩
   ·rw[show Value.iface t y=_ from a];exact qk9 U _ _ [] (by decide) (qip U)
   rw[show Value.iface t y=_ from a];exact qtB U _ _ [] l (by simpa using c) (qip U)
  rintro e p ⟨o,rfl,j,m⟩;exact⟨o,rfl,Own.mono j f.size,m.mono f.size⟩
 rcases b with rfl|⟨l,rfl,c⟩
 ·exact(by decide:4<=999999999)
 exact c

theorem q1n (W:World)(a:Option Addr)(bs:List UInt8)(e:Nat)(d l:Int)(h:qa4 W a bs)(g:qeK W)(n:0<=d)(o:d<=100000)(q:bs.length<=200000000):Calls prog 66 #[.int .i64 1,.agg #[.int .i64 d,.int .i64 l],.slice a bs.length e] W (qg6 (d.toNat+1) W (qgE 1 bs d l)):=by
 have r:=g.big;show Calls _ _ _ _ (qg6 (d.toNat+1) W (qnZ (fun p=>spF bs l (bs.length+1-p) p) (fun p=>thJ bs l d (fun c p=>qg4 ⟨none,bs,0,0,l,p,0⟩ c) (d.toNat+1) 0 p) bs l));refine qkz (d.toNat+1) W 1 a bs e d l h _ _ (fun V k=>qgQ V a bs e d l k) (fun b V p m f=>qaN V b ⟨a,bs,e,d,l,p,0⟩ f) (fun b V p m i f => ?_);exact qcp (d.toNat+1) V b ⟨a,bs,e,d,l,p,0⟩ f q (fun U j=>(g.below i).u8.but j (by omega) (g.below i).big) (by omega) o (by simpa using n) (by show d<((0:Nat):Int)+((d.toNat+1:Nat):Int);omega)
theorem q0R (bs:List UInt8)(d l:Int)(c:0<=d)(h:qgE 1 bs d l=.ok x)(k:Nat):szF k x+30<=400*bs.length:=by
 have b:Tm False bs.length 0 (fun d _=>∀k,szF k d+30<=400*bs.length) (dcP bs.length (qgE 1 bs d l)) (dcP bs.length (qgE 1 (bs++[]) d l)):=qsW bs [] l (fun p a=>qhj bs [] l p a) (fun p a=>qvV bs [] l d (d.toNat+1) 0 (by omega) (by omega) p a);rw[h] at b;exact b.2.2.1 k
theorem q0q (h:RtC a c):GPr c:=by
 have f:=h.dep;refine⟨fun {U} ht fa fc l hl hb A bv => ?_,fun l => ?_,fun l x b k => ?_⟩
 ·have e:((c.bytes.toNat:Nat):Int)=c.bytes:=Int.toNat_of_nonneg (by have:=h.byt;omega);have d:=q1n U fa l fc c.depth c.bytes hb ht (by omega) (by omega) (by omega);unfold gtC;dsimp only;rw[e,h.inn];exact d
 ·rw[h.inn];exact q0x l c.depth c.bytes (by omega)
 rw[h.inn] at b;exact q0R l c.depth c.bytes (by omega) b k
theorem q2Y (h:RtC a c):¬(rvC c).m (lbF (rvC c).dflt (rvC c).rs [].reverse).1.toNat (rvC c).clr=true:=by
 show ¬qcF c.labels.toNat c.L (lbF c.dflt (qlc c) []).1.toNat c.clr.toNat=true;rw[q0Z h,h.clr];show ¬qcF c.labels.toNat c.L 1 0=true;rw[q2e h];decide
theorem q2C (h:RtC a c)(r:Rc)(ok:qkl r)(b:r.v=rvC c):q1L r (kC c) [] :=
 q03 r ok c.depth.toNat [] (fun e=>absurd (b▸e) (q2Y h))
theorem q1A (h:RtC a c):GPw c :=
 ⟨q1G (qqt (q1Q h)) (q2C h),fun l d i g=>by
  have e:=q2Y h;have b:(lbF (rvC c).dflt (rvC c).rs [].reverse)=(1,(a:Int)):=q0Z h;have f:kC c=c.depth.toNat+1:=rfl;rw[h.out,f];rcases h.act with rfl|rfl|rfl
  ·rw[qrg e (by rw[b];decide) (by rw[b];decide)];exact qbt (.inl rfl)
  ·rw[qrP e (by rw[b];rfl)];exact qbt (.inr ⟨_,rfl,by decide⟩)
  rw[qtq e (by rw[b];rfl),b];refine qbt (.inr ⟨_,rfl,?_⟩);change (jsT (qs5 c.key 1 (qaU (c.depth.toNat+1) d))).length<=_;unfold jsT;rw[q1X _ (q2a _ _)];simp[qrz]⟩
theorem qyQ (h:RtC a c)(w:World)(d:ql7 w c)(k:qko w.heap.size w)(s:List UInt8)(j:s.length<=maxLen)(pc:Nat)(g:1<=pc)(i:pc<=maxLen+1)(l:qgE 1 s c.depth c.bytes=.ok x)(f:(s.length:Int)<=c.bytes):Calls prog 10 #[.agg c.arr,.string ⟨s.toArray⟩,.int .i64 pc] w fun e m=>e=.returned (.tuple #[.agg (tdA (rtS a c.key (qaU (kC c) x)) (rtR a) 0 0),.bool true])/\Below w.heap.size w m:=by
 have b:=qmP c (fun _=>⟨q0q h,q1A h⟩) w d k s j pc g i;rw[q3i h l f] at b;exact b

theorem q0G {x:Int}{n:Nat}(a:0<=x)(b:x<n):((qie x n:Nat):Int)=x:=by
 unfold qie;rw[if_neg (by omega),Int.emod_eq_of_lt a b];omega
def rtC (d:Cfg)(pol:ByteArray):Cfg:={d with pol:=pol,clr:=0,inn:=1,out:=1,B:=[],ba:=none,bcap:=0}
theorem q1W (c:Cfg)(j:1<=c.labels/\c.labels<=5)(b:Option Addr)(d:Nat)(P:ByteArray)(B:List Int)(ba:Option Addr)(bcap a:Nat)(e:a=1\/a=2\/a=3):RtC a (rtC (opG c b d P B ba bcap) ⟨(rtP a).toArray⟩):=by
 have i:=q0G (x:=c.labels) (n:=6) (by omega) (by omega);have f:=qr6 c.dflt (1+qie c.labels 6) (by omega);have g:=qr6 c.depth 16 (by omega);have h:=qr6 c.bytes 4096 (by omega);refine⟨e,⟨qie c.labels 6,by omega,by omega,rfl,rfl⟩,?_,rfl,rfl,rfl,?_,?_,rfl,rfl⟩
 ·show(0:Int)<=(qie c.dflt (1+qie c.labels 6):Nat)/\((qie c.dflt (1+qie c.labels 6):Nat):Int)<1+((qie c.labels 6:Nat):Int);omega
 ·show(1:Int)<=1+((qie c.depth 16:Nat):Int)/\1+((qie c.depth 16:Nat):Int)<=16;omega
 show(1:Int)<=1+((qie c.bytes 4096:Nat):Int)/\1+((qie c.bytes 4096:Nat):Int)<=4096;omega
theorem q3f (g:1<=c.labels/\c.labels<=5){rules:List UInt8}(h:q2G c rules d)(f:a=1\/a=2\/a=3):RtC a (rtC d ⟨(rtP a).toArray⟩):=by
 obtain⟨b,e,⟨rfl,_⟩|⟨rfl,_⟩⟩:=h
 ·exact q1W c g b e _ _ _ _ a f
 exact q1W c g b e _ _ _ _ a f
theorem q3h (h:ql7 w d)(P:ByteArray):ql7 w (rtC d P):=⟨h.edges,⟨fun i a=>absurd a (Nat.not_lt_zero i)⟩,h.en,fun _=>⟨rfl,rfl⟩,h.eb,by show(0+8)*8<=_;omega⟩

theorem q3b {V w2:World}(h:qir w c V)(a:Below V.heap.size V w2)(b:Array Value):qhH w c w2.heap.size b (w2.alloc (.cells b 41)):=by
 have e:=a.size;have d:=ltA h.box;exact⟨(h.below.trans (a.mono h.below.size)).alloc (by have:=h.below.size;omega) _,(Below.heap_alloc _ _ _ (by omega)).trans ((a.block _ d).trans h.box),qac w2 _,by omega⟩
theorem q28 {p q:ByteArray}(h:c.pol=q):({c with pol:=p}:Cfg).arr.setIfInBounds 3 (.string q)=c.arr:=by
 rw[<-h];rfl
def rtT (a:Nat):List UInt8:=if a=1 then [100,114,111,112] else if a=2 then [109,97,115,107] else [116,97,103]
def rtW (a:Nat):List UInt8:=if a=1 then [110,117,108,108] else if a=2 then [34,42,42,42,34] else []
theorem q1j (h:RtC a c)(g:ByteArray)(w:World)(v:ql7 w c)(z:qko w.heap.size w)(s t:List UInt8)(H:s.length<=maxLen)(I:(s.length:Int)<=c.bytes)(J:(t.length:Int)<=c.bytes){y:DataW Unit}(K:qgE 1 s c.depth c.bytes=.ok x)(L:qgE 1 t c.depth c.bytes=.ok y)(G:t.length<=maxLen):Calls prog 7 #[.agg ({c with pol:=g}:Cfg).arr,.string ⟨s.toArray⟩,.string ⟨t.toArray⟩,.string ⟨(rtT a).toArray⟩,.string ⟨(rtW a).toArray⟩] w fun e k=>e=.returned (.bool true)/\Below w.heap.size w k:=by
 have p:Hid (∀V,qir w c V->Calls prog 10 #[.agg c.arr,.string ⟨s.toArray⟩,.int .i64 4] V fun e k=>e=.returned (.tuple #[.agg (tdA (rtS a c.key (qaU (kC c) x)) (rtR a) 0 0),.bool true])/\Below V.heap.size V k):=fun V j=>qyQ h V (v.below j.below) (z.below j.below).top s H 4 (by omega) (by unfold maxLen;omega) K I;have q:Hid (∀V,qir w c V->Calls prog 10 #[.agg c.arr,.string ⟨t.toArray⟩,.int .i64 9] V fun e k=>e=.returned (.tuple #[.agg (tdA (rtS a c.key (qaU (kC c) y)) (rtR a) 0 0),.bool true])/\Below V.heap.size V k):=fun V j=>qyQ h V (v.below j.below) (z.below j.below).top t G 9 (by omega) (by unfold maxLen;omega) L J;have C:=qaa c.size;have O:Hid (c.pol=⟨(rtP a).toArray⟩):=by
  show _=_;rw[<-h.pol]
 have F:=h.act;obtain⟨b,n⟩:∃S,Hid (rtS a c.key (qaU (kC c) x)=S):=⟨_,show _=_ from rfl⟩
 obtain⟨f,r⟩:∃S,Hid (rtS a c.key (qaU (kC c) y)=S):=⟨_,show _=_ from rfl⟩
 rw[n.out] at p;rw[r.out] at q;generalize rtR a=R at *;have P:Hid (a=3->b.length=18/\∀V,Calls prog 11 #[.string ⟨b.toArray⟩] V fun e Q=>(∃a U,e=.returned (.slice a 1 U))/\Below V.heap.size V Q):=fun e=>by
  have D:=n.out;rw[e] at D;have Z:[34]++qs5 c.key 1 (qaU (kC c) x)++[34]=b:=D;rw[<-Z];exact⟨by simp[qrz],fun V=>q18 V _ (qrz _ _ _) (q2a _ _)⟩
 have i:Hid (qir w c (w.alloc (.cells (({c with pol:=g}:Cfg).arr.setIfInBounds 3 (.string (⟨#[46,32,49,32]⟩++⟨(rtT a).toArray⟩))) 25))):=by
  show qir _ _ _;rw[q28 (O.out.trans (by rcases F with rfl|rfl|rfl<;>kernel_rfl))];exact qhW w c
 clear h v z K L I J H G;rcases F with rfl|rfl|rfl
 all_goals
  simp only[rtT] at i
  first
  |obtain⟨W,X⟩:(b==[110,117,108,108])=true/\(f==[110,117,108,108])=true:=⟨n.out▸rfl,r.out▸rfl⟩
  |obtain⟨W,X⟩:(b==[34,42,42,42,34])=true/\(f==[34,42,42,42,34])=true:=⟨n.out▸rfl,r.out▸rfl⟩
  |obtain⟨hl,hT⟩:=P.out rfl
  simp only[rtT,rtW];have T:_=some (Value.string g):=qab (qhW w {c with pol:=g}).box 3;have Y:=frozen_of_row (w.alloc (.cells ({c with pol:=g}:Cfg).arr 25)) w.heap.size 3 _ _ (qhW w {c with pol:=g}).box;go_enter func7,ntmps7
  go_wp2_with (first
   |(refine wpList_load_row rfl 25 _ rfl w.heap.size rfl _ _ _ _ i.out.box underlying25 rfl (qaV C.out) ?_)
   |(go_at_call 10;refine(p.out _ i.out).mono ?_;clear p;rintro e o ⟨rfl,E⟩;have d:=qaa (q3b i.out E (tdA b R 0 0));clear E i T Y)
   |(refine wpList_store_row rfl 41 _ _ rfl o.heap.size (tdA b R 0 0) rfl rfl 41 _ (qac o _) (qh3 _ _ _ _) rfl (qmf _ _ _ _) ?_;rw[World.setRow_alloc_new])
   |(refine wpList_load_row rfl 25 _ rfl w.heap.size rfl _ _ _ _ d.out.cfg underlying25 rfl (qaV C.out) ?_)
   |(go_at_call 10;refine(q.out _ ⟨d.out.below,d.out.cfg⟩).mono ?_;clear q;rintro e l ⟨rfl,u⟩;have A:=qaa (q3b ⟨d.out.below,d.out.cfg⟩ u (tdA f R 0 0));have m:Hid (qhH w c o.heap.size (tdA b R 0 0) (l.alloc (.cells (tdA f R 0 0) 41))):=(d.out.next u).next bwA;clear u d;generalize o.heap.size=N at *)
   |(refine wpList_store_row rfl 41 _ _ rfl l.heap.size (tdA f R 0 0) rfl rfl 41 _ (qac l _) (qh3 _ _ _ _) rfl (qmf _ _ _ _) ?_;rw[World.setRow_alloc_new];generalize l.alloc (.cells (tdA f R 0 0) 41)=V3 at *;generalize l.heap.size=M at *;have x0:_=some (Value.string ⟨b.toArray⟩):=qab m.out.told 0;have x5:_=some (Value.int .i64 0):=qab m.out.told 5;have y0:_=some (Value.string ⟨f.toArray⟩):=qab A.out.told 0;have y5:_=some (Value.int .i64 0):=qab A.out.told 5)
   |(go_at_call 11;refine(hT _).mono ?_;rintro e w5 ⟨⟨ta,tc,rfl⟩,aa⟩;have B:=qaa (m.out.next aa);have x0:_=some (Value.string ⟨b.toArray⟩):=qab B.out.told 0))
  go_ret
  first
  |exact⟨rfl,B.out.below⟩
  |exact⟨rfl,m.out.below⟩

theorem q0C (c:Cfg)(w:World)(i:ql7 w c)(z:q3q c)(A:qko w.heap.size w)(s t:List UInt8)(P:c.pol.size<=281474976710656)(hs:s.length<=281474976710656)(aa:t.length<=281474976710656):Calls prog 3 #[.agg c.arr,.string ⟨s.toArray⟩,.string ⟨t.toArray⟩] w fun e B=>e=.returned (.bool true)/\Below w.heap.size w B:=by
 have D:=qyB c.labels 5 (by omega) (by omega) z.1;have hp:=qr6 c.labels 5 (by omega);generalize qie c.labels 5=p at *;have hw:=q05 (1+(p:Int)) (by omega);have b:Hid (qir w {c with labels:=1+(p:Int)} (w.alloc (.cells (c.arr.setIfInBounds 0 (.int .i64 (1+(p:Int)))) 25))):=qhW w {c with labels:=1+(p:Int)};have C:=q2z {c with labels:=1+(p:Int)} _ (ql7.below ⟨i.edges,i.ints,i.en,i.bn,i.eb,i.bb⟩ b.out.below) ⟨⟨by dsimp only;omega,by dsimp only;omega⟩,z.2⟩ (A.below b.out.below).top [46,32,49,32,100,114,111,112] (by decide) P;have T:Hid (∀d,q2G {c with labels:=1+(p:Int)} [46,32,49,32,100,114,111,112] d->∀a,a=1\/a=2\/a=3->RtC a (rtC d ⟨(rtP a).toArray⟩)):=fun d l a v=>q3f (by dsimp only;omega) l v;have R:=qaa A;have U:=qaa c.size;have Y:_=some (Value.int .i64 c.labels):=qab (qhW w c).box 0;have f0:=frozen_of_row (w.alloc (.cells c.arr 25)) w.heap.size 0 _ _ (qhW w c).box;clear i z A P;go_enter func3,ntmps3
 go_wp2_with (first
  |(go_at_call 4;refine(D _).mono ?_;clear D;rintro e w1 ⟨rfl,rfl⟩)
  |(refine wpList_load_row rfl 25 _ rfl w.heap.size rfl _ _ _ _ b.out.box underlying25 rfl (qaV U.out) ?_)
  |(go_at_call 5;refine C.mono ?_;clear C;rintro e g ⟨d,rfl,l,G,K⟩;have Q:=qaa l;have j:=qaa (b.out.below.trans (G.mono b.out.below.size));have S:=qaa K;clear l G K Y f0 b)
  |(refine wpList_store_row rfl 25 _ _ rfl g.heap.size d.arr rfl rfl 25 _ (qac g _) (qaV d.size) rfl d.one ?_;rw[World.setRow_alloc_new,Cfg.arr.eq_1 d]))
 have b:Hid (qir g (rtC d d.pol) (g.alloc (.cells #[.int .i64 d.labels,.slice d.ea d.L.length d.ecap,.int .i64 d.dflt,.string d.pol,.int .i64 0,.int .i64 d.key,.int .i64 1,.int .i64 1,.int .i64 d.depth,.int .i64 d.bytes,.slice none 0 0] 25))):=qhW g (rtC d d.pol);generalize g.alloc _=V2 at *;have u:=T.out d S.out;have O:1<=d.depth/\d.depth<=16:=(u 1 (.inl rfl)).dep;have N:1<=d.bytes/\d.bytes<=4096:=(u 1 (.inl rfl)).byt;have r:Hid (∀a,a=1\/a=2\/a=3->(∃y,qgE 1 s d.depth d.bytes=.ok y/\(s.length:Int)<=d.bytes)->(∃y,qgE 1 t d.depth d.bytes=.ok y/\(t.length:Int)<=d.bytes)->∀V,qir g (rtC d d.pol) V->Calls prog 7 #[.agg (rtC d d.pol).arr,.string ⟨s.toArray⟩,.string ⟨t.toArray⟩,.string ⟨(rtT a).toArray⟩,.string ⟨(rtW a).toArray⟩] V fun e B=>e=.returned (.bool true)/\Below V.heap.size V B):=fun a v ⟨ad,hx,ab⟩ ⟨y,hy,ac⟩ V M =>
  q1j (u a v) d.pol V (q3h (Q.out.below M.below) _) ((R.out.below (j.out.trans (M.below.mono j.out.size))).top) s t (by unfold maxLen;omega) ab ac hx hy (by unfold maxLen;omega)
 go_at_call 6
 refine(qyZ _ s _ _ O N hs).mono ?_;rintro e w3 ⟨W,rfl,E,H⟩;have k:=qaa (b.out.step H);have m:=qaa E;clear b H E;have Z:_=some (Value.int .i64 d.depth):=k.out.cell 8;have x:_=some (Value.int .i64 d.bytes):=k.out.cell 9
 go_wp2_with fail
 go_at_call 6
 refine(qyZ _ t _ _ O N aa).mono ?_;rintro e w4 ⟨X,rfl,F,I⟩;have f:=qaa (k.out.step I);have n:=qaa F;clear k I F Z x;cases W<;>cases X
 rotate_left 3
 focus
  have o:=fun V h=>r.out 1 (.inl rfl) (m.out rfl) (n.out rfl) V h;have c2:=fun V h=>r.out 2 (.inr (.inl rfl)) (m.out rfl) (n.out rfl) V h;have q:=fun V h=>r.out 3 (.inr (.inr rfl)) (m.out rfl) (n.out rfl) V h;simp only[rtT,rtW] at o c2 q
  go_wp2_with (first
   |(refine wpList_load_row rfl 25 _ rfl g.heap.size rfl _ _ _ _ f.out.box underlying25 rfl (qaV (rtC d d.pol).size) ?_)
   |(go_at_call 7;(first|(refine(o _ f.out).mono ?_;clear o)|(refine(c2 _ f.out).mono ?_;clear c2)|(refine(q _ f.out).mono ?_;clear q));rintro e w5 ⟨rfl,J⟩;replace f:=qaa (f.out.step J);clear J))
  go_ret;exact⟨rfl,j.out.trans (f.out.below.mono j.out.size)⟩
 all_goals
  go_wp2;go_ret;exact⟨rfl,j.out.trans (f.out.below.mono j.out.size)⟩

end
section
open Go.ChangeShapes Go.WideShapes Go.ChangeAt Go.RowKit Go.Lib Go.Deep
theorem qrM {H:Type}{t1 t2 t3:TypeId}{d0 d1 d2:DataW H}(h:(DataW.weightsEach P ([t1,t2,t3]++[]) ([d0,d1,d2]++[])).all (·<=reachBytes)=true):(d0.weights P t1).all (·<=reachBytes)=true/\(d1.weights P t2).all (·<=reachBytes)=true/\(d2.weights P t3).all (·<=reachBytes)=true:=by
 simp only[List.append_nil,DataW.weightsEach,List.all_append,Bool.and_eq_true] at h;exact⟨h.1,h.2.1,h.2.2⟩
theorem q2b {H:Type}{t:TypeId}{s:ByteArray}(h:((DataW.lit (.string s.data.toList):DataW H).weights P t).all (·<=reachBytes)=true):s.data.toList.length<=281474976710656:=by
 have a:=of_decide_eq_true (List.all_eq_true.1 h s.data.toList.length (by unfold DataW.weights;exact List.mem_singleton.2 rfl));have b:reachBytes=140737488351232:=rfl;omega
theorem qyN (H:Type)(enc:TypeId×Value->H)(W:World)(args:Array Value)(ds k:List (DataW H))(A:List MemPlace)(z:Nat)(b:∀(j:Nat) t v,f3.params[j]? = some t->args[j]? = some v->Value.okWide prog W .any z t v)(o:DataW.Whole enc prog f3.params.toList Rows.rootedSpec.vars false W args.toList ds k A)(y:(DataW.weightsEach prog (f3.params.toList++[]) (ds++k)).all (·<=reachBytes)=true)(I:laidMetH prog Rows.rootedRow.laid W)(K:W.ShapedOpen prog):Calls prog 3 args W fun e g=>∃v,e=.returned v/\Rows.rootedSpec.post enc prog f3 false true false false W args v g:=by
 have r:=o;obtain⟨p,ab,F,L,rfl,q,aa⟩:=o;have m:DataW.TrodAll enc prog W 0 (fun _=>true) true f3.params.toList args.toList ds p:=F;rw[Tryz.params3] at m y b;obtain⟨V,X,Y,i,Z,d2,d,p1,p2,rfl,rfl,rfl,C,D,E⟩:=trodAll_three m;obtain⟨rfl,rfl⟩:=trodVars_none L;obtain⟨B,rfl,_⟩:=okWide_struct underlying25 (b 0 25 V rfl rfl);obtain⟨R,S,T⟩:=qrM y;obtain⟨s,rfl,rfl,rfl,P⟩:=Go.ChangeMaps.open_string underlying9 (b 1 9 X rfl rfl) D;obtain⟨t,rfl,rfl,rfl,Q⟩:=Go.ChangeMaps.open_string underlying9 (b 2 9 Y rfl rfl) E;obtain⟨U,l⟩:=C;obtain⟨c,N,G,a,J⟩:=q2A (x:=(i,d)) l R;have M:B=c.arr:=Array.ext' N;subst M;have u:=q0C c W G ⟨a _ (by simp),a _ (by simp),a _ (by simp),a _ (by simp),a _ (by simp),a _ (by simp),a _ (by simp)⟩ (qu1 I K) s.data.toList t.data.toList J (q2b S) (q2b T);have w:∀s:ByteArray,(⟨s.data.toList.toArray⟩:ByteArray)=s:=fun s=>by
  apply ByteArray.ext;simp
 rw[w,w] at u;refine u.mono ?_;rintro e g ⟨rfl,n⟩;have O:∀x∈d++[]++[]++[],x.block<W.heap.size:=fun x f=>r.lt x f;refine⟨_,rfl,[i,.lit (.string s.data.toList),.lit (.string t.data.toList)],[],d++[]++[]++[],[],d++([]++[]),[],r,trodAll_mk1 (shut_bool underlying4 true),?_,rfl,n.frame _,fun h=>by cases h⟩;exact trodAll_mk3 (Below.trod Tryz.laidOut (by kernel_rfl) (of_decide_eq_true (by kernel_rfl)) ⟨U,l⟩ n (fun x f=>O x (by simp[f]))) (Go.ChangeMaps.shut_string underlying9 P) (Go.ChangeMaps.shut_string underlying9 Q)
def qyv:Array Value:=#[.agg qxB.arr,.string ByteArray.empty,.string ByteArray.empty]
theorem q00 (a:Os):laidMet prog Rows.rootedRow.laid ((quD (World.holding prog a ⟨#[],#[],[]⟩)).forCall (fun _ _=>0) ⟨#[],qyv,[]⟩).memory :=
 laidMet_of_run' 8 (by kernel_rfl) (by kernel_rfl)
theorem qzt (b:Os){H:Type}(enc:TypeId×Value->H):∃a c,DataW.whole enc prog ((quD (World.holding prog b ⟨#[],#[],[]⟩)).forCall (fun _ _=>0) ⟨#[],qyv,[]⟩).memory f3.params.toList Rows.rootedSpec.vars false qyv.toList 8=some (a,[],c) :=
 ⟨[.agg [.lit (.int .i64 0),.nil,.lit (.int .i64 0),.lit (.string []),.lit (.int .i64 0),.lit (.int .i64 0),.lit (.int .i64 0),.lit (.int .i64 0),.lit (.int .i64 0),.lit (.int .i64 0),.nil],.lit (.string []),.lit (.string [])],[],by kernel_rfl⟩

end
section
open Go.ChangeShapes Go.WideShapes Go.ChangeAt Go.RowKit Go.Lib
theorem qzn (a:Os)(o:a.Started)(H:Type)(enc:TypeId×Value->H)(F:Stop.Interp):ReturnsInHanded {} Tryz.checked a 3 .any ((OpenSpec.ofChange Rows.rootedSpec).preRow enc prog f3 Rows.rootedRow.domain false Rows.rootedRow.laid) (((OpenSpec.ofChange Rows.rootedSpec).at F).post enc prog f3 false true false false):=by
 obtain⟨b,p,n⟩:=qzt a enc;refine returnsInHanded_of_row (C:=Tryz.checked) (s:=OpenSpec.ofChange Rows.rootedSpec) Tryz.own o (by kernel_rfl) func3
  (witness_row_at (enc:=enc) (C:=Tryz.checked) false (quD (World.holding prog a ⟨#[],#[],[]⟩)) qyv rfl (by kernel_rfl) (by kernel_rfl) (by kernel_rfl)
   (OpenSpec.preRow_of_cond 8 n (by kernel_rfl) (fun k j=>by cases j) (by kernel_rfl) (q00 a))) ?_
 intro W d c b f e l i _ _ m g h _;exact qyN H enc W c b f e d l i m g h
theorem q1w:(Rows.rootedRow.inPlace==Tryz.pinned.checked.prog.inPlace 3)=true:=by kernel_rfl
theorem q1v:(Rows.rootedRow.unfollowed==Tryz.pinned.checked.prog.unfollowed 3)=true:=by kernel_rfl
theorem q1s:(Rows.rootedRow.recurses==Tryz.pinned.checked.prog.recurses 3)=true:=by kernel_rfl
theorem q1g:(Rows.rootedRow.named==Tryz.pinned.checked.prog.varsNamed 3)=true:=by kernel_rfl
theorem qz8:joinedFacts Tryz.pinned.checked.prog 3 f3 (OpenSpec.ofChange Rows.rootedSpec).bare Rows.rootedRow=true:=by
 unfold joinedFacts;rw[q1w,q1v,q1s,q1g];kernel_rfl
theorem q0a:Rows.RootedSaid :=
 OpenClaim.holds_of_cond 3 f3 rfl rfl rfl rfl rfl rfl rfl ⟨rfl,rfl,rfl,rfl,rfl⟩ rfl rfl rfl rfl rfl (by kernel_rfl) func3 qz8
  (of_decide_eq_true (by kernel_rfl)) (by unfold Func.isWrapper;first|(rw[if_pos (by decide +kernel)];kernel_rfl)|(rw[if_neg (by decide +kernel)];exact⟨rfl,rfl⟩))
  (fun b c H a _ F=>by rw[OpenClaim.pre_eq_preRow];exact qzn b c H a F)
theorem qz4 (f:FuncId)(a:Func)(c:Tryz.pinned.checked.prog.funcNamed Rows.rootedRow.func=some f)(d:Tryz.pinned.checked.prog.funcs[f]? = some a):true=Tryz.pinned.checked.prog.looks []/\∀(j:Nat) t,a.params[j]? = some t->Tryz.pinned.checked.prog.wantsStandIn t=false:=by
 obtain rfl:f=3:=Option.some.inj ((show prog.funcNamed Rows.rootedRow.func=some 3 by kernel_rfl).symm.trans c) |>.symm;obtain rfl:a=f3:=(Option.some.inj (func3.symm.trans d)).symm;refine⟨by kernel_rfl,fun j t b => ?_⟩;rw[Tryz.params3] at b;have e:t∈#[(25:TypeId),9,9]:=Array.mem_of_getElem? b;rcases(by simpa using e:t=25\/t=9) with rfl|rfl
 ·exact(show prog.wantsStandIn 25=false by kernel_rfl)
 exact(show prog.wantsStandIn 9=false by kernel_rfl)
theorem rooted_card:Rows.RootedCardSaid :=
 Claim7.holds_tied_plain_at .later [] _ _ _ _ q0a (fun _ h=>by cases h) (by kernel_rfl) (fun _ h=>by cases h) rooted_row_tie rfl ⟨rfl,rfl⟩ (by kernel_rfl) rfl qz4 (by kernel_rfl)

#print axioms rooted_card
end
end Go.Proofs.YtcokgepdckkjdaaGreatDoor
