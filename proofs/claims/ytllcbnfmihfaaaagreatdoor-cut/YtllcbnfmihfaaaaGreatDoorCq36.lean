import Derived.Lib.MakeNoZero
import Derived.Laws.CopyOwn
import Derived.Test.YtllcbnfmihfaaaaGreatDoorCq35
set_option maxRecDepth 100000
set_option maxHeartbeats 8000000
namespace Go.Proofs.YtllcbnfmihfaaaaGreatDoor
open Go.Proofs.Tryz
variable {P:Program}{V W:World}{o:Oper}{v:Value}{N n:Nat}{b:UInt8}{cur:List Value}
section
open Go.RowKit Go.Lib
structure qtR (W:World)(N:Nat)(b:UInt8)(n bp:Nat)(cur:List Value)(V:World):Prop where
 below:Below W.heap.size W V
 row:V.heap[N]? = some (.cells cur.toArray 5 (0,0))
 lo:W.heap.size≤N
 fit:n≤cur.length
 same:∀j,j<bp→cur[j]? = some (.int .u8 b.toNat)
theorem qvM (W:World)(n:Nat)(hn:n≤65536):∃cs:Array Value,(callFunc 192 #[.int .i64 n]).run prog W=.ok (.value (.slice (some ⟨W.heap.size,0,none⟩) n cs.size)) (W.drew.drew.alloc (.cells cs 5))∧n≤cs.size∧cs.size≤maxLen:=by
 obtain⟨cs,hrun,hle,hmax⟩:=Lib.run_makeNoZero (P:=prog) W #[3] 28 5 underlying28 n (by omega);refine⟨cs,?_,hle,hmax (by unfold maxLen;omega)⟩;rw[run_callFunc_extern func192 (by kernel_rfl) (by kernel_rfl) (by kernel_rfl) (e:=Extern.BytealgMakeNoZero.makeNoZero #[3] #[28]) (by kernel_rfl),hrun];rfl
theorem qp6 (b:UInt8):∀v∈[Value.int .u8 (b.toNat:Int)],v.oneCell'=true:=fun v hv=>by simp at hv;subst hv;rfl
theorem qxa (V:World)(N bp n:Nat)(h:bp<n):(Instr.sliceAt 28 (.slice (some ⟨N,0,none⟩) n n) (some (.int .i64 bp)) none none).run prog V=.ok (.slice (some ⟨N,bp,none⟩) (n-bp) (n-bp)) V:=by
 have e:(⟨N,0,none⟩:Addr).add bp=⟨N,bp,none⟩:=by by_cases h:bp=0<;>simp[Addr.add,h]
 have h1:¬n=bp:=by omega
 have h2:(bp:Int)≤n:=by omega
 have hs:(sizeOf (prog.elem 28)).run prog V=.ok 1 V:=by kernel_rfl
 rw[run_sliceAt_slice (P:=prog) V 28 _ _ _ _ (by kernel_rfl)];simp[Instr.slice,run_underlying underlying28,Instr.sliceBounds,run_sliceBound,h2];rw[if_neg h1,e]
theorem qxd (V:World)(N ch n:Nat)(h:ch≤n):(Instr.sliceAt 28 (.slice (some ⟨N,0,none⟩) n n) none (some (.int .i64 ch)) none).run prog V=.ok (.slice (some ⟨N,0,none⟩) ch n) V:=by
 have e:(⟨N,0,none⟩:Addr).add 0=⟨N,0,none⟩:=by simp[Addr.add]
 have h2:(ch:Int)≤n:=by omega
 rw[run_sliceAt_slice (P:=prog) V 28 _ _ _ _ (by kernel_rfl)];simp[Instr.slice,run_underlying underlying28,Instr.sliceBounds,run_sliceBound,h2,e]
theorem qe6 {ev:Operand→Value}(ty:TypeId)(x:Operand)(lo hi:Option Operand)(ho:o.op=.slice ty x lo hi none){X:Value}{L H:Option Value}(hx:ev x=X)(hl:lo.map ev=L)(hh:hi.map ev=H)(h:(Instr.sliceAt ty X L H none).run P W=.ok v W):(execOp ev o).run P W=.ok (.value v) W:=by
 unfold execOp;simp only[ho,hx,hl,hh,Option.map_none,Sem.run_bind,h,Result.andThen_ok];rfl
theorem qqy (h:qtR W N b n n cur V)(hn:n≤65536):qa4 V (some ⟨N,0,none⟩) (List.replicate n b):=by
 refine⟨fun i hi=>⟨N,0,rfl,(ltA h.row),?_⟩,by rw[List.length_replicate];unfold maxLen;omega⟩;have hi':i<n:=by simpa using hi
 rw[Nat.zero_add,qab h.row i];have:=h.same i hi';simpa using this
theorem qtR.copy {V':World}{bp m:Nat}(h:qtR W N b n bp cur V)(hb:Below W.heap.size W V')(hn:bp+m≤n)(hr:V'.heap[N]? = some (.cells (splice cur bp (List.replicate m (.int .u8 b.toNat))).toArray 5 (0,0))):qtR W N b n (bp+m) (splice cur bp (List.replicate m (.int .u8 b.toNat))) V':=by
 have hl:bp+(List.replicate m (Value.int .u8 (b.toNat:Int))).length≤cur.length:=by have:=h.fit;simp;omega
 refine⟨hb,hr,h.lo,by rw[length_splice _ _ _ hl];exact h.fit,fun j hj => ?_⟩;unfold splice;have hf:=h.fit;by_cases h1:j<bp
 ·rw[List.getElem?_append_left (by simp;omega),List.getElem?_take_of_lt h1];exact h.same j h1
 rw[List.getElem?_append_right (by simp;omega),List.getElem?_append_left (by simp;omega),List.getElem?_replicate_of_lt (by simp;omega)]
theorem qmx (W:World)(M:Nat)(b:UInt8)(n:Nat)(h1:1≤n)(hn:n≤65536)(hM:W.cell? ⟨M,0,none⟩=some (.int .u8 b.toNat))(hlt:M<W.heap.size):Calls prog 141 #[.slice (some ⟨M,0,none⟩) 1 1,.int .i64 n] W fun e W'=>∃g,e=.returned (.slice (some ⟨g,0,none⟩) n n)∧qa4 W' (some ⟨g,0,none⟩) (List.replicate n b)∧Below W.heap.size W W':=by
 have cM:=fun V=>Tryz.bits_Mul 1 n (by omega) (by omega) V;have e1:1*n / 18446744073709551616=0:=by omega
 have e2:1*n%18446744073709551616=n:=by omega
 simp only[e1,e2] at cM;have hn0:((n:Int)==0)=false:=by simp;omega
 obtain⟨cs,hcall,hle,hmax⟩:=qvM W n hn;have HC0:Hid ((W.drew.drew.alloc (.cells cs 5)).heap[W.heap.size]? = some (.cells cs.toList.toArray 5 (0,0))):=by
  show _=_;rw[Array.toArray_toList];exact qac W.drew.drew _
 have HB0:Hid (Below W.heap.size W (W.drew.drew.alloc (.cells cs 5))):=((Below.refl _ _).drew.drew).alloc (Nat.le_refl _) _;have HM0:=qaa ((HB0.out.cell hlt).trans hM);have HS1:Hid (∀(j:Nat) (v:Value),[Value.int .u8 b.toNat][j]? = some v→(W.drew.drew.alloc (.cells cs 5)).cell? ((⟨M,0,none⟩:Addr).add j)=some v):=fun j v hv=>by
  cases j with
  |zero=>simp at hv;subst hv;exact HM0.out
  |succ j=>simp at hv
 have HN1:Hid ([Value.int .u8 (b.toNat:Int)].length=Nat.min 1 n):=(Nat.min_eq_left h1).symm;have HF1:Hid (0+[Value.int .u8 (b.toNat:Int)].length≤cs.toList.length):=by show _≤_;simp;omega
 by_cases h8:n≤8192
 all_goals
  go_enter func141,ntmps141
  go_upto_region 17 with (first
   |(go_at_call 191;refine(cM _).mono ?_;rintro e w2 ⟨rfl,rfl⟩))
  refine wp_region_list ?_;refine wpList_plain rfl fun K hK => ?_;go_simp;refine hK _ _ ?_;refine wpList_plain rfl fun K hK => ?_;go_simp;refine hK _ _ ?_;refine wpList_copy_splice rfl (.tmp 58) (.tmp 59) 28 28 rfl 5 underlying28 (by kernel_rfl) (some ⟨w2.heap.size,0,none⟩) (some ⟨M,0,none⟩) n n 1 1 rfl rfl w2.heap.size 0 cs.toList 5 HC0.out [.int .u8 b.toNat] HN1.out (fun _=>⟨rfl,⟨M,0,none⟩,rfl,HS1.out⟩) HF1.out (qp6 b) w2.heap.size w2 HB0.out (Nat.le_refl _) ?_;intro w4 hg4 hb4;refine wpList_plain rfl fun K hK => ?_;go_simp;refine hK _ _ ?_
  go_wp2_with fail
  have HR4:Hid (qtR w2 w2.heap.size b n 1 (splice cs.toList 0 [.int .u8 b.toNat]) w4):=⟨hb4,hg4.out,Nat.le_refl _,by rw[length_splice _ _ _ HF1.out];simpa using hle,fun j hj=>by
   obtain rfl:j=0:=by omega
   simp[splice]⟩
  go_loopg [10] n (fun g y wr=>∃(bp:Nat) (cur:List Value),y=.int .i64 bp∧Hid (1≤bp)∧Hid (bp≤n)∧Hid (n≤bp+g)∧Hid (qtR w2 w2.heap.size b n bp cur wr))
  case atStart=>exact⟨1,_,rfl,Nat.le_refl _,h1,by show _≤_;omega,HR4⟩
  case round =>
   obtain⟨bp,cur,rfl,HB1,HBN,HBG,HR⟩:=hrel;by_cases hbn:bp<n
   ·have hl:(bp:Int)<n:=by omega
    first|(have h9:n≤8192:=(by omega);obtain⟨ch,HCH⟩:∃ch,Hid (min bp n=ch):=⟨_,rfl⟩;have hch:(min (bp:Int) (n:Int))=ch:=(by have:=HCH.out;omega))|(obtain⟨ch,HCH⟩:∃ch,Hid (min bp 8192=ch):=⟨_,rfl⟩;have hch:(min (bp:Int) 8192)=ch:=by have:=HCH.out;omega)
    go_wp2_with fail
    obtain⟨m,HMM⟩:∃m,Hid (min ch (n-bp)=m):=⟨_,rfl⟩
    have HRD:Hid (qtR w2 w2.heap.size b n bp cur {wr with drawn:=wr.drawn+1}):=⟨HR.out.below.drew,HR.out.row,HR.out.lo,HR.out.fit,HR.out.same⟩
    refine rgn (S:=fun _=>True) (trivial) (by kernel_rfl) ?_;intro hS;generalize ({wr with drawn:=wr.drawn+1}:World)=w5 at *;refine tkH 0 67 (.int .i64 bp) rfl (by kernel_rfl) (fun _ _ _ h=>h) (fun Z hZ=>by kernel_rfl) hS ?_;refine tkH 1 68 (.slice (some ⟨w2.heap.size,0,none⟩) n n) rfl (by kernel_rfl) (fun _ _ _ h=>h) (fun Z hZ=>by kernel_rfl) hS ?_;refine tkH 2 69 (.int .i64 bp) rfl (by kernel_rfl) (fun _ _ _ h=>h) (fun Z hZ=>by kernel_rfl) hS ?_;refine tkH 3 70 (.slice (some ⟨w2.heap.size,bp,none⟩) (n-bp) (n-bp)) rfl (by kernel_rfl) (fun _ _ _ h=>h) (fun Z hZ=>qe6 28 (.tmp 68) (some (.tmp 69)) none rfl (X:=.slice (some ⟨w2.heap.size,0,none⟩) n n) (L:=some (.int .i64 bp)) (H:=none) (by kernel_rfl) (by kernel_rfl) (by kernel_rfl) (qxa Z w2.heap.size bp n hbn)) hS ?_;refine tkH 4 71 (.slice (some ⟨w2.heap.size,0,none⟩) n n) rfl (by kernel_rfl) (fun _ _ _ h=>h) (fun Z hZ=>by kernel_rfl) hS ?_;refine tkH 5 72 (.int .i64 ch) rfl (by kernel_rfl) (fun _ _ _ h=>h) (fun Z hZ=>by kernel_rfl) hS ?_;refine tkH 6 73 (.slice (some ⟨w2.heap.size,0,none⟩) ch n) rfl (by kernel_rfl) (fun _ _ _ h=>h) (fun Z hZ=>qe6 28 (.tmp 71) none (some (.tmp 72)) rfl (X:=.slice (some ⟨w2.heap.size,0,none⟩) n n) (L:=none) (H:=some (.int .i64 ch)) (by kernel_rfl) (by kernel_rfl) (by kernel_rfl) (qxd Z w2.heap.size ch n (by have:=HCH.out;omega))) hS ?_;refine rdS 7 rfl (by kernel_rfl) (fun K hK => ?_);refine step_copy_splice rfl (.tmp 70) (.tmp 73) 28 28 rfl 5 underlying28 (by kernel_rfl) (some ⟨w2.heap.size,bp,none⟩) (some ⟨w2.heap.size,0,none⟩) (n-bp) (n-bp) ch n (by kernel_rfl) (by kernel_rfl) w2.heap.size bp cur 5 HRD.out.row (List.replicate m (.int .u8 b.toNat)) ?hn (fun _=>⟨rfl,⟨w2.heap.size,0,none⟩,rfl,?hs⟩) ?hf ?h1 w2.heap.size w2 HRD.out.below (Nat.le_refl _) ?_
    case hn=>rw[List.length_replicate];exact HMM.out.symm
    case hf=>rw[List.length_replicate];have:=HRD.out.fit;have:=HMM.out;omega
    case h1=>intro v hv;rw[(List.mem_replicate.1 hv).2];rfl
    case hs =>
     intro j v hv;have hj:j<m:=by have:=ltL hv;simpa using this
     rw[List.getElem?_replicate_of_lt hj] at hv;have e:(⟨w2.heap.size,0,none⟩:Addr).add j=⟨w2.heap.size,j,none⟩:=by by_cases h:j=0<;>simp[Addr.add,h]
     rw[e,qab HRD.out.row j,←hv];have:=HRD.out.same j (by have:=HMM.out;have:=HCH.out;omega);simpa using this
    intro w6 hg6 hb6;rw[List.length_replicate];have HR6:=qaa (HRD.out.copy hb6 (by have:=HMM.out;omega) hg6.out);refine hK.out _ _ trivial (fun _ => ?_);refine tkH 8 75 (.int .i64 ((bp+m:Nat):Int)) rfl (by kernel_rfl) (fun _ _ _ h=>h) (fun Z hZ => ?y8) trivial ?_
    case y8 =>
     go_simp;exact(IntKind.wrap_i64 _).trans (by have:=HMM.out;omega)
    refine tkH 9 10 (.int .i64 ((bp+m:Nat):Int)) rfl (by kernel_rfl) (fun _ _ _ h=>h) (fun Z hZ=>by kernel_rfl) trivial ?_;refine wpAnyH_done (by kernel_rfl) ?_ _;go_simp
    go_wp2_with fail
    cases gk with
    |zero=>have:=HBG.out;omega
    |succ g =>
     go_roundg g
     case measure=>omega
     case rel=>exact⟨bp+m,_,by go_num,by show _≤_;have:=HB1.out;omega,by show _≤_;have:=HMM.out;omega,by show _≤_;have h1:=HMM.out;have h2:=HCH.out;have h3:=HB1.out;have h4:=HBG.out;omega,HR6⟩
   have hl:¬(bp:Int)<n:=by omega
   have hbe:bp=n:=by have:=HBN.out;omega
   subst hbe
   go_wp2_with fail
   go_ret;exact⟨_,rfl,qqy HR.out hn,HR.out.below⟩
theorem qmz (W:World)(a:Option Addr)(l c:Nat):Calls prog 141 #[.slice a l c,.int .i64 0] W fun e W'=>∃g cap,e=.returned (.slice (some ⟨g,0,none⟩) 0 cap)∧Below W.heap.size W W':=by
 go_enter func141,ntmps141;go_wp2;go_ret;exact⟨_,_,rfl,bwA⟩
theorem qmK (W:World)(M:Nat)(b:UInt8)(n:Nat)(hn:n≤65536)(hM:W.cell? ⟨M,0,none⟩=some (.int .u8 b.toNat))(hlt:M<W.heap.size):Calls prog 141 #[.slice (some ⟨M,0,none⟩) 1 1,.int .i64 n] W fun e W'=>∃g cap,e=.returned (.slice (some ⟨g,0,none⟩) n cap)∧qa4 W' (some ⟨g,0,none⟩) (List.replicate n b)∧Below W.heap.size W W':=by
 by_cases h:n=0
 ·subst h;refine(qmz W _ 1 1).mono ?_;rintro e W' ⟨g,cap,rfl,hB⟩;exact⟨g,cap,rfl,⟨fun i hi=>by simp at hi,by simp⟩,hB⟩
 refine(qmx W M b n (by omega) hn hM hlt).mono ?_;rintro e W' ⟨g,rfl,hb,hB⟩;exact⟨g,n,rfl,hb,hB⟩
def qpk (fm:Int)(bs:List UInt8):List Int→Option (List UInt8)
 |[]=>none
 |x::B=>if (bs.length:Int)≤x then some (bs++List.replicate (x.toNat-bs.length) (UInt8.ofNat (qfX fm))) else qpk fm bs B
def qiC (fm:Int)(bs:List UInt8)(B:List Int):Option (List UInt8):=if B.length=0 then some bs else qpk fm bs B
theorem qnM (fm:Int):(UInt8.ofNat (qfX fm)).toNat=qfX fm:=by
 unfold qfX;split<;>rfl
theorem qtr {g:Nat}(h:qa4 W (some ⟨g,0,none⟩) (List.replicate n b)):∀(j:Nat) (u:Value),((List.replicate n b).map qav)[j]? = some u→W.cell? ((⟨g,0,none⟩:Addr).add j)=some u:=by
 intro j u hu;have hj:j<(List.replicate n b).length:=by have:=ltL hu;simpa using this
 obtain⟨g',off,e1,_,e3⟩:=h.at_ j hj;injection e1 with e1;injection e1 with e1 e2 _;subst e1;subst e2;have e:(⟨g,0,none⟩:Addr).add j=⟨g,j,none⟩:=by by_cases h:j=0<;>simp[Addr.add,h]
 rw[e];rw[Nat.zero_add] at e3;rw[e3,←hu,List.getElem?_map,List.getElem?_eq_getElem hj];rfl
theorem qwD (n:Nat)(b:UInt8):((List.replicate n b).map qav).length=n*1:=by simp
theorem qvr (n:Nat)(b:UInt8):∀u∈(List.replicate n b).map qav,u.oneCell'=true:=fun u hu=>by
 obtain⟨c,_,rfl⟩:=List.mem_map.1 hu;rfl
theorem qsU {W':World}{base:Nat}{v':Value}{bs:List UInt8}(h:Own W base v bs)(hown:W'.ownsRow base 5 1 v' (bs.length+n) (bs.map qav++(List.replicate n b).map qav))(hg:W.grownBy W' v.ownBlock):Own W' base v' (bs++List.replicate n b)∧Below base W W':=by
 refine⟨⟨by rw[List.length_append,List.map_append,List.length_replicate];exact hown,Nat.le_trans h.2.1 hg.size,?_⟩,qaz (Below.refl base W) h.1 hg h.2.1⟩;rcases hown.2 with ⟨e,_⟩|⟨g,cap,cur,e,_⟩
 ·exact⟨none,0,0,e⟩
 exact⟨_,_,_,e⟩
def qvZ (W:World)(base:Nat)(r:Option (List UInt8))(e:Ending)(W':World):Prop :=
 (∃v',e=.returned (.tuple #[v',.bool r.isSome])∧(r=none→v'=.slice none 0 0)∧∀l,r=some l→Own W' base v' l)∧Below base W W'
theorem qqQ (W:World)(base:Nat)(fm:Int)(v:Value)(bs:List UInt8)(ba:Option Addr)(bc:Nat)(B:List Int)(h:Own W base v bs)(hB:qbV W ba B)(hlen:B.length≤8)(hbs:∀i (h:i<B.length),B[i]≤65536)(hl:bs.length≤999999999):Calls prog 90 #[.int .i64 fm,v,.slice ba B.length bc] W (qvZ W base (qiC fm bs B)):=by
 obtain⟨i0,hi,hz0,hz1,hz2⟩:=info_parts Tryz.infoU8;obtain⟨ia,cap,rfl,hby⟩:=qc8 h;have HO:=qaa h;have HBS:=qaa h.2.1;have HI:=qaa hB;have HX:=qaa hbs;have cB:=fun V=>qmV fm V;obtain⟨fb,HFB⟩:∃fb:UInt8,Hid (UInt8.ofNat (qfX fm)=fb):=⟨_,rfl⟩
 have HFN:Hid ((qfX fm:Int)=(fb.toNat:Int)):=by show _=_;rw[←HFB.out,qnM]
 rw[HFN.out] at cB;clear h hB hbs hby;by_cases h0:B.length=0
 ·have HE:Hid (qiC fm bs B=some bs):=by show _=_;unfold qiC;rw[if_pos h0]
  rw[h0];go_enter func90,ntmps90;go_wp2;refine bodyPost_ret (results_tmp2 results90 _ _ _) rfl ?_;rw[HE.out];exact⟨⟨_,rfl,fun h=>by simp at h,fun l h=>by have h':=Option.some.inj h;rw[←h'];exact HO.out⟩,Below.refl _ _⟩
 obtain⟨r,HR⟩:∃r,Hid (qpk fm bs B=r):=⟨_,rfl⟩
 have HE:Hid (qiC fm bs B=r):=by show _=_;unfold qiC;rw[if_neg h0];exact HR.out
 rw[HE.out];have h0':((B.length:Int)==0)=false:=by rw[beq_eq_false_iff_ne];omega
 go_enter func90,ntmps90
 go_wp2_with fail
 go_loopg [17] B.length (fun g z wr=>∃k:Nat,z=.int .i64 k∧Hid (k+g=B.length)∧W=wr∧Hid (qpk fm bs (B.drop k)=r))
 case atStart=>exact⟨0,rfl,by show _=_;omega,rfl,HR⟩
 case round =>
  clear HR HE;obtain⟨k,rfl,hg,rfl,HR⟩:=hrel
  cases gk with
  |zero =>
   have hlt:¬(k:Int)<B.length:=by have:=hg.out;omega
   have hr:r=none:=by
    have:=HR.out;rw[List.drop_of_length_le (by have:=hg.out;omega)] at this;exact this.symm
   subst hr;go_wp2;refine bodyPost_ret (results_tmp2 results90 _ _ _) rfl ?_;exact⟨⟨_,rfl,fun _=>rfl,fun l h=>by cases h⟩,Below.refl _ _⟩
  |succ g =>
   have hkn:k<B.length:=by have:=hg.out;omega
   have hlt:(k:Int)<B.length:=by omega
   obtain⟨b0,off,rfl,hb0,hcs⟩:=HI.out.at_ k hkn;have hc:=hcs k hkn;have hx:=HX.out k hkn;have hr:=HR.out;rw[List.drop_eq_getElem_cons hkn,qpk] at hr;clear hcs;generalize B[k]=x at *;by_cases hfit:(bs.length:Int)≤x
   ·rw[if_pos hfit,HFB.out] at hr;obtain⟨n,hn⟩:∃n:Nat,x=(bs.length:Int)+n:=⟨(x-bs.length).toNat,by omega⟩
    subst hn;have e1:((bs.length:Int)+n).toNat-bs.length=n:=by omega
    rw[e1] at hr;have HRR:=qaa hr.symm;clear hr e1;have HA:Hid (Below W.heap.size W (W.alloc (.cells #[.int .u8 (fb.toNat:Int)] 5))):=bwA;have cR0:=qmK (W.alloc (.cells #[.int .u8 (fb.toNat:Int)] 5)) W.heap.size fb n (by omega) (qab (qac W _) 0) (by simp);have cR:Calls prog 141 #[.slice (some ⟨W.heap.size,0,none⟩) 1 1,.int .i64 ((bs.length:Int)+n-bs.length)] (W.alloc (.cells #[.int .u8 (fb.toNat:Int)] 5)) fun e W'=>∃g cap,e=.returned (.slice (some ⟨g,0,none⟩) n cap)∧Hid (qa4 W' (some ⟨g,0,none⟩) (List.replicate n fb))∧Hid (Below W.heap.size W W'):=by
     rw[show(bs.length:Int)+n-bs.length=n by omega];refine cR0.mono ?_;rintro e W' ⟨g,cap,rfl,h1,h2⟩;exact⟨g,cap,rfl,h1,HA.out.trans (h2.mono HA.out.size)⟩
    clear cR0 HA;have hnl:bs.length+n≤65536:=by omega
    go_wp2_with (first
     |(go_at_call 142;refine(cB _).mono ?_;clear cB;rintro e w2 ⟨rfl,rfl⟩)
     |(go_at_call 141;refine cR.mono ?_;clear cR;rintro e w3 ⟨g3,cap3,rfl,HB3,HW3⟩;have HO3:=qaa (qgt HO.out HW3.out);have HNW:=qaa (qtr HB3.out);have HLW:=qaa (qwD n fb))
     |(at_builtin;refine wpList_append_own _ rfl _ _ 28 rfl base 5 i0 (.int .u8 0) 1 1 underlying28 hi hz0 hz1 hz2 rfl (by decide) _ _ _ rfl HO3.out.1 ⟨g3,0,none⟩ n cap3 ((List.replicate n fb).map qav) rfl HLW.out HNW.out (qvr n fb) (by unfold maxLen;omega) (by omega) HO3.out.2.1 ?_;intro v' w5 hown' hgrow5 hnil5;clear hnil5;have HF5:=qaa (qsU HO3.out hown' hgrow5);clear hown' hgrow5;obtain⟨a5,n5,c5,rfl⟩:=HF5.out.1.2.2))
    refine bodyPost_ret (results_tmp2 results90 _ _ _) rfl ?_;rw[HRR.out];exact⟨⟨_,rfl,fun h=>by simp at h,fun l h=>by have h':=Option.some.inj h;rw[←h'];exact HF5.out.1⟩,(HW3.out.mono HBS.out).trans HF5.out.2⟩
   rw[if_neg hfit] at hr;have HN:=qaa hr;have hnf:=hfit;clear hr HR
   go_wp2_with fail
   go_roundg g
   case measure=>omega
   case rel=>exact⟨k+1,by go_num,by show _=_;have:=hg.out;omega,rfl,HN⟩
structure Gt where
 inF:Int
 out:Int
 depth:Int
 bytes:Nat
 rc:Array Value
 bk:Value
def qay (g:Gt)(fed:Value)(cl:Bool):Array Value:=#[.int .i64 g.inF,.int .i64 g.out,.int .i64 g.depth,.int .i64 g.bytes]++g.rc++#[g.bk,fed,.bool cl]
theorem qe5 {g:Gt}(fed:Value)(cl:Bool)(j:Nat)(h:j<4):(qay g fed cl)[j]? = #[Value.int .i64 g.inF,.int .i64 g.out,.int .i64 g.depth,.int .i64 g.bytes][j]?:=by
 unfold qay;rw[Array.append_assoc,Array.getElem?_append_left (by simpa using h)]
theorem qbO {g:Gt}(hrc:g.rc.size=40)(fed:Value)(cl:Bool)(j:Nat):(qay g fed cl)[44+j]? = #[g.bk,fed,.bool cl][j]?:=by
 unfold qay;rw[Array.getElem?_append_right (by simp[hrc])];simp[hrc]
theorem qrf {g:Gt}(hrc:g.rc.size=40)(fed fed':Value)(cl:Bool):(qay g fed cl).setIfInBounds 45 fed'=qay g fed' cl:=by
 unfold qay;apply Array.ext';have hs:(#[Value.int .i64 g.inF,.int .i64 g.out,.int .i64 g.depth,.int .i64 g.bytes]++g.rc).toList.length=44:=by simp[hrc]
 simp only[Array.toList_setIfInBounds];rw[Array.toList_append,List.set_append_right _ _ (by omega),hs];simp
theorem qpf (W:World)(base:Nat)(v:Value)(acc:List UInt8)(ia:Option Addr)(c:Nat)(news:List UInt8)(h:Own W base v acc)(hb:qa4 W ia news)(hnil:ia=none→c=0)(hl:acc.length+news.length≤999999999):∃v' W',(Builtin.append_ #[28,28] 28 #[v,.slice ia news.length c]).run prog W=.ok v' W'∧Own W' base v' (acc++news)∧W.grownBy W' v.ownBlock:=by
 obtain⟨i0,hi,hz0,hz1,hz2⟩:=info_parts Tryz.infoU8
 cases ia with
 |none =>
  have hn:news=[]:=by
   cases news with
   |nil=>rfl
   |cons a t =>
    obtain⟨g,off,e,_⟩:=hb.at_ 0 (by simp);cases e
  subst hn;rw[hnil rfl];have hr:=run_append_owned_none (P:=prog) (w:=W) base 28 28 5 i0 1 underlying28 hi v acc.length _ h.1;refine⟨v,W,hr,by simpa using h,⟨rfl,rfl,rfl,Nat.le_refl _,fun _ _ _=>rfl⟩⟩
 |some ad =>
  have hnews:∀j u,(news.map qav)[j]? = some u→W.cell? (ad.add j)=some u:=by
   intro j u hu;have hj:j<news.length:=by have:=ltL hu;simpa using this
   obtain⟨g,off,e1,_,e3⟩:=hb.at_ j hj;have e1':=Option.some.inj e1;subst e1';have e:(⟨g,off,none⟩:Addr).add j=⟨g,off+j,none⟩:=by by_cases h:j=0<;>simp[Addr.add,h]
   rw[e,e3,←hu,List.getElem?_map,List.getElem?_eq_getElem hj];rfl
  obtain⟨v',w',hr,h2,h3,_⟩:=run_append_own (P:=prog) W base 28 28 5 i0 (.int .u8 0) 1 1 underlying28 hi hz0 hz1 hz2 rfl (by decide) v acc.length _ h.1 ad news.length c (news.map qav) (by simp) hnews (fun u hu=>by obtain⟨c,_,rfl⟩:=List.mem_map.1 hu;rfl) (by unfold maxLen;omega) (by omega) h.2.1;refine⟨v',w',hr,⟨by rw[List.length_append,List.map_append];exact h2,Nat.le_trans h.2.1 h3.size,?_⟩,h3⟩;rcases h2.2 with ⟨e,_⟩|⟨g,cap,cur,e,_⟩
  ·exact⟨none,0,0,e⟩
  exact⟨_,_,_,e⟩
theorem qvz (V:World)(ia:Option Addr)(n m cap:Nat)(h:m≤cap):(Instr.sliceAt 28 (.slice ia n cap) none (some (.int .i64 m)) none).run prog V=.ok (.slice ia m cap) V:=by
 have e:∀a:Addr,a.add 0=a:=fun a=>by simp[Addr.add]
 have h2:(m:Int)≤cap:=by omega
 rw[run_sliceAt_slice (P:=prog) V 28 _ _ _ _ (by kernel_rfl)];cases ia<;>simp[Instr.slice,run_underlying underlying28,Instr.sliceBounds,run_sliceBound,h2,e]
theorem qx6 {c:Prop}[Decidable c]{A B:Prop}(h:c)(a:A):if c then A else B:=by rw[if_pos h];exact a
theorem qiA {w w':World}{a:Act}{K:Act→World→Prop}{Q:Exit→Act→World→Prop}(s x:Operand)(t:TypeId)(ho:o.op=.call {callee:=.builtin .append,args:=#[s,x],argTypes:=#[t,t]})(v u v':Value)(hs:a.eval s=v)(hx:a.eval x=u)(hr:(Builtin.append_ #[t,t] o.type #[v,u]).run P w=.ok v' w')(h:K (a.put o.dst v') w'):o.wp P a w K Q:=by
 unfold Oper.wp execOp;simp only[ho,resolve,invoke,builtin,Sem.run_bind,Sem.run_pure,Result.andThen_ok,List.map_toArray,List.map_cons,List.map_nil,hs,hx,hr];exact h
def qvd (W:World)(L base:Nat)(g:Gt)(fed:Value)(l:List UInt8)(e:Ending)(W':World):Prop :=
 ∃fa fn fc,e=.returned (.tuple #[])∧Own W' base (.slice fa fn fc) l∧W'.heap[L]? = some (.cells (qay g (.slice fa fn fc) false) 119)∧(W'.os=W.os∧W'.tape=W.tape∧W'.output=W.output)∧W.heap.size≤W'.heap.size∧∀k,k<W.heap.size→k≠L→some k≠fed.ownBlock→W'.heap[k]? = W.heap[k]?
theorem qr9 (W:World)(L base:Nat)(g:Gt)(hrc:g.rc.size=40)(fed:Value)(acc:List UInt8)(ia:Option Addr)(cap:Nat)(bs:List UInt8)(hg:W.heap[L]? = some (.cells (qay g fed false) 119))(ho:Own W base fed acc)(hL:L<base)(hb:qa4 W ia bs)(hnil:ia=none→cap=0)(hcap:bs.length≤cap)(hby:g.bytes≤4096)(hac:acc.length≤g.bytes+1):Calls prog 51 #[.pointer (some ⟨L,0,none⟩),.slice ia bs.length cap] W (qvd W L base g fed (acc++bs.take (g.bytes+1-acc.length))):=by
 obtain⟨fa,fcap,rfl,hfb⟩:=qc8 ho;have HG:=qaa hg;have HO:=qaa ho;have c3:W.cell? ⟨L,3,none⟩=some (.int .i64 g.bytes):=(qab hg 3).trans (qe5 _ _ 3 (by decide));have c45:W.cell? ⟨L,45,none⟩=some (.slice fa acc.length fcap):=(qab hg 45).trans (qbO hrc _ _ 1);obtain⟨rm,HRM⟩:∃rm,Hid (acc.length+rm=g.bytes+1):=⟨g.bytes+1-acc.length,by show _=_;omega⟩
 have hrm:g.bytes+1-acc.length=rm:=by have:=HRM.out;omega
 rw[hrm];obtain⟨m,HM⟩:∃m,Hid (min bs.length rm=m):=⟨_,rfl⟩
 have HT:Hid ((bs.take rm).length=m):=by show _=_;rw[List.length_take];have:=HM.out;omega
 have hbl:=hb.len;have HBT:Hid (qa4 W ia (bs.take rm)):=⟨fun i hi=>by
  have hi2:i<bs.length:=by rw[List.length_take] at hi;omega
  obtain⟨g0,off,e1,e2,e3⟩:=hb.at_ i hi2;exact⟨g0,off,e1,e2,by rw[List.getElem_take];exact e3⟩,by rw[List.length_take];omega⟩
 have HHL:=qaa hL;have HRC:=qaa hrc;have HNI:=qaa hnil;have hmb:m≤bs.length:=by have:=HM.out;omega
 have hrl:rm≤4097:=by have:=HRM.out;omega
 have hal:acc.length≤4097:=by omega
 have hS:(fun Z:World=>Z.cell? ⟨L,3,none⟩=some (.int .i64 g.bytes)∧Z.cell? ⟨L,45,none⟩=some (.slice fa acc.length fcap)) {W with drawn:=W.drawn+1}:=⟨c3,c45⟩
 go_enter func51,ntmps51
 go_wp2_with fail
 refine wp_region_held (S:=fun Z=>Z.cell? ⟨L,3,none⟩=some (.int .i64 g.bytes)∧Z.cell? ⟨L,45,none⟩=some (.slice fa acc.length fcap)) (by kernel_rfl) ?_;refine tkH 0 5 (.pointer (some ⟨L,0,none⟩)) rfl (by kernel_rfl) (fun _ _ _ h=>h) (fun Z hZ=>by kernel_rfl) hS ?_;refine tkH 1 6 (.pointer (some ⟨L,0,none⟩)) rfl (by kernel_rfl) (fun _ _ _ h=>h) (fun Z hZ=>by kernel_rfl) hS ?_;refine tkH 2 7 (.pointer (some ⟨L,2,none⟩)) rfl (by kernel_rfl) (fun _ _ _ h=>h) (fun Z hZ=>by kernel_rfl) hS ?_;refine tkH 3 8 (.pointer (some ⟨L,3,none⟩)) rfl (by kernel_rfl) (fun _ _ _ h=>h) (fun Z hZ=>by kernel_rfl) hS ?_;refine tkH 4 9 (.int .i64 g.bytes) rfl (by kernel_rfl) (fun _ _ _ h=>h) (fun Z hZ => ?y4) hS ?_
 case y4=>(have z1:=hZ.1;go_simp)
 refine tkH 5 10 (.int .i64 ((g.bytes:Int)+1)) rfl (by kernel_rfl) (fun _ _ _ h=>h) (fun Z hZ => ?y5) hS ?_
 case y5=>(go_simp;exact(IntKind.wrap_i64 _).trans (by omega))
 refine tkH 6 11 (.pointer (some ⟨L,0,none⟩)) rfl (by kernel_rfl) (fun _ _ _ h=>h) (fun Z hZ=>by kernel_rfl) hS ?_;refine tkH 7 12 (.pointer (some ⟨L,0,none⟩)) rfl (by kernel_rfl) (fun _ _ _ h=>h) (fun Z hZ=>by kernel_rfl) hS ?_;refine tkH 8 13 (.pointer (some ⟨L,45,none⟩)) rfl (by kernel_rfl) (fun _ _ _ h=>h) (fun Z hZ=>by kernel_rfl) hS ?_;refine tkH 9 14 (.slice fa acc.length fcap) rfl (by kernel_rfl) (fun _ _ _ h=>h) (fun Z hZ => ?y9) hS ?_
 case y9=>(have z1:=hZ.2;go_simp)
 refine tkH 10 15 (.int .i64 acc.length) rfl (by kernel_rfl) (fun _ _ _ h=>h) (fun Z hZ=>by kernel_rfl) hS ?_;refine tkH 11 16 (.int .i64 rm) rfl (by kernel_rfl) (fun _ _ _ h=>h) (fun Z hZ => ?y11) hS ?_
 case y11=>(go_simp;exact(IntKind.wrap_i64 _).trans (by have:=HRM.out;omega))
 refine tkH 12 4 (.int .i64 rm) rfl (by kernel_rfl) (fun _ _ _ h=>h) (fun Z hZ=>by kernel_rfl) hS ?_;refine wpAnyH_done (by kernel_rfl) ?_ _;go_simp
 go_wp2_with fail
 refine wp_region_held (S:=fun _=>True) (by kernel_rfl) ?_;have HG1:Hid (({World.drew W with drawn:=(World.drew W).drawn+1}:World).heap[L]? = some (.cells (qay g (.slice fa acc.length fcap) false) 119)):=HG;have HO1:Hid (Own {World.drew W with drawn:=(World.drew W).drawn+1} base (.slice fa acc.length fcap) acc):=HO;have HB1:Hid (qa4 {World.drew W with drawn:=(World.drew W).drawn+1} ia (bs.take rm)):=HBT.out.below (Below.refl _ _).drew.drew;have HW1:Hid (Below W.heap.size W {World.drew W with drawn:=(World.drew W).drawn+1}):=(Below.refl _ _).drew.drew;generalize ({World.drew W with drawn:=(World.drew W).drawn+1}:World)=W2 at *;have hS:(fun _:World=>True) W2:=trivial;have k45:W2.cell? ⟨L,45,none⟩=some (.slice fa acc.length fcap):=(qab HG1.out 45).trans (qbO HRC.out _ _ 1);obtain⟨v',W3,hr,hO3,hg3⟩:=qpf W2 base (.slice fa acc.length fcap) acc ia cap (bs.take rm) HO1.out HB1.out HNI.out (by rw[HT.out];have:=HM.out;omega);rw[HT.out] at hr;have HO3:=qaa hO3;have HG3:=qaa hg3;obtain⟨a5,n5,c5,rfl⟩:=hO3.2.2;have hLn:some L≠(Value.slice fa acc.length fcap).ownBlock:=fun e=>by have h1:=qbA HO1.out.1 e.symm;have h2:=HHL.out;omega
 have HL3:=qaa ((HG3.out.block L (ltA HG1.out) hLn).trans HG1.out);have j45:W3.cell? ⟨L,45,none⟩=some (.slice fa acc.length fcap):=(qab HL3.out 45).trans (qbO HRC.out _ _ 1);have f45:=frozen_of_row W3 L 45 _ _ HL3.out;refine tkH 0 17 (.pointer (some ⟨L,0,none⟩)) rfl (by kernel_rfl) (fun _ _ _ h=>h) (fun Z hZ=>by kernel_rfl) hS ?_;refine tkH 1 18 (.pointer (some ⟨L,0,none⟩)) rfl (by kernel_rfl) (fun _ _ _ h=>h) (fun Z hZ=>by kernel_rfl) hS ?_;refine tkH 2 19 (.pointer (some ⟨L,0,none⟩)) rfl (by kernel_rfl) (fun _ _ _ h=>h) (fun Z hZ=>by kernel_rfl) hS ?_;refine tkH 3 20 (.pointer (some ⟨L,45,none⟩)) rfl (by kernel_rfl) (fun _ _ _ h=>h) (fun Z hZ=>by kernel_rfl) hS ?_;refine tkH 5 22 (.slice ia bs.length cap) rfl (by kernel_rfl) (fun _ _ _ h=>h) (fun Z hZ=>by kernel_rfl) hS ?_;refine tkH 6 23 (.slice ia bs.length cap) rfl (by kernel_rfl) (fun _ _ _ h=>h) (fun Z hZ=>by kernel_rfl) hS ?_;refine tkH 7 24 (.int .i64 bs.length) rfl (by kernel_rfl) (fun _ _ _ h=>h) (fun Z hZ=>by kernel_rfl) hS ?_;refine tkH 8 25 (.int .i64 rm) rfl (by kernel_rfl) (fun _ _ _ h=>h) (fun Z hZ=>by kernel_rfl) hS ?_;refine tkH 9 26 (.int .i64 m) rfl (by kernel_rfl) (fun _ _ _ h=>h) (fun Z hZ => ?y9) hS ?_
 case y9 =>
  have hmin:min (bs.length:Int) (rm:Int)=m:=by have:=HM.out;omega
  go_simp
 refine tkH 10 27 (.slice ia m cap) rfl (by kernel_rfl) (fun _ _ _ h=>h) (fun Z hZ=>qe6 28 (.tmp 22) none (some (.tmp 26)) rfl (X:=.slice ia bs.length cap) (L:=none) (H:=some (.int .i64 m)) (by kernel_rfl) (by kernel_rfl) (by kernel_rfl) (qvz Z ia bs.length m cap (by omega))) hS ?_;refine rdS 4 rfl (by kernel_rfl) (fun K hK => ?_);go_simp;refine hK.out _ _ trivial (fun _ => ?_);refine rdS 11 rfl (by kernel_rfl) (fun K hK => ?_);refine qx6 (by kernel_rfl) ?_;refine qiA (.tmp 21) (.tmp 27) 28 rfl (.slice fa acc.length fcap) (.slice ia m cap) _ (by kernel_rfl) (by kernel_rfl) hr ?_;refine hK.out _ _ trivial (fun _ => ?_);refine tkH 12 29 (.pointer (some ⟨L,0,none⟩)) rfl (by kernel_rfl) (fun _ _ _ h=>h) (fun Z hZ=>by kernel_rfl) trivial ?_;refine tkH 13 30 (.pointer (some ⟨L,45,none⟩)) rfl (by kernel_rfl) (fun _ _ _ h=>h) (fun Z hZ=>by kernel_rfl) trivial ?_;refine rdS 14 rfl (by kernel_rfl) (fun K hK => ?_);go_simp;refine hK.out _ _ trivial (fun _ => ?_);refine wpAnyH_done (by kernel_rfl) ?_ _;go_simp
 go_wp2_with fail
 go_end0;have hLt:=ltA HL3.out;refine⟨a5,n5,c5,rfl,?_,?_,⟨HG3.out.os.trans HW1.out.os,HG3.out.tape.trans HW1.out.tape,HG3.out.output.trans HW1.out.output⟩,?_,fun k hk h1 h2 => ?_⟩
 ·have ho:=HO3.out;have hne:∀g,(Value.slice a5 n5 c5).ownBlock=some g→g≠L:=fun g e e2=>by have h1:=qbA ho.1 e;have h2:=HHL.out;omega
  refine⟨⟨ho.1.1,?_⟩,by have:=ho.2.1;simpa [World.setCell] using this,ho.2.2⟩;rcases ho.1.2 with h|⟨g1,cap1,cur1,e1,e2,e3,e4⟩
  ·exact .inl h
  exact .inr ⟨g1,cap1,cur1,e1,e2,(heap_setCell_other _ _ _ _ (by simpa using hne g1 (by rw[e1];rfl))).trans e3,e4⟩
 ·rw[heap_setCell_same W3 _ _ _ _ _ HL3.out,qrf HRC.out]
 ·have h1:=HG3.out.size;have h2:=HW1.out.size;simp[World.setCell];omega
 exact(heap_setCell_other _ _ _ _ (by simpa using h1)).trans ((HG3.out.block k (Nat.lt_of_lt_of_le hk HW1.out.size) h2).trans (HW1.out.block k hk))
theorem qw0 {g:Gt}{L:Nat}{fed:Value}{cl:Bool}(hg:V.heap[L]? = some (.cells (qay g fed cl) 119)):∀(j:Nat) (u:Value),#[Value.int .i64 g.depth,.int .i64 g.bytes][j]? = some u→V.cell? ⟨L,2+j,none⟩=some u:=by
 intro j u hu;have hj:j<2:=ltA hu;refine(qab hg (2+j)).trans ((qe5 fed cl (2+j) (by omega)).trans ?_)
 match j,hj,hu with
 |0,_,hu=>exact hu
 |1,_,hu=>exact hu
theorem qpg (k:Nat)(V:World)(p L:Nat)(g:Gt)(hrc:g.rc.size=40)(fa:Option Addr)(fn fc:Nat)(cl:Bool)(r:Except (Int×Int) (DataW Unit))(hp:V.heap[p]? = some (.cells #[.pointer (some ⟨L,0,none⟩)] 60))(hg:V.heap[L]? = some (.cells (qay g (.slice fa fn fc) cl) 119))(cD:∀U,Below V.heap.size V U→Calls prog 41 #[.int .i64 g.inF,.agg #[.int .i64 g.depth,.int .i64 g.bytes],.slice fa fn fc] U (qg6 k U r)):Calls prog 88 #[.pointer (some ⟨p,0,none⟩)] V (qg6 k V r):=by
 have HG:=qaa hg;have hS:(fun Z:World=>Z.cell? ⟨p,0,none⟩=some (.pointer (some ⟨L,0,none⟩))∧Z.cell? ⟨L,0,none⟩=some (.int .i64 g.inF)∧(∀(j:Nat) (u:Value),#[Value.int .i64 g.depth,.int .i64 g.bytes][j]? = some u→Z.cell? ⟨L,2+j,none⟩=some u)∧Z.cell? ⟨L,45,none⟩=some (.slice fa fn fc)) {V with drawn:=V.drawn+1}:=⟨qab hp 0,(qab hg 0).trans (qe5 _ _ 0 (by decide)),qw0 hg,(qab hg 45).trans (qbO hrc _ _ 1)⟩
 have HD:=qaa cD;have hinf:(prog.info? 86).map (·.size)=some (#[Value.int .i64 g.depth,.int .i64 g.bytes]).size:=by kernel_rfl
 go_enter func88,ntmps88
 go_wp2_with fail
 refine wp_region_held (S:=fun Z=>Z.cell? ⟨p,0,none⟩=some (.pointer (some ⟨L,0,none⟩))∧Z.cell? ⟨L,0,none⟩=some (.int .i64 g.inF)∧(∀(j:Nat) (u:Value),#[Value.int .i64 g.depth,.int .i64 g.bytes][j]? = some u→Z.cell? ⟨L,2+j,none⟩=some u)∧Z.cell? ⟨L,45,none⟩=some (.slice fa fn fc)) (by kernel_rfl) ?_;have HV:Hid (Below V.heap.size V {V with drawn:=V.drawn+1}):=(Below.refl _ _).drew;generalize ({V with drawn:=V.drawn+1}:World)=V1 at *;refine tkH 0 2 (.pointer (some ⟨L,0,none⟩)) rfl (by kernel_rfl) (fun _ _ _ h=>h) (fun Z hZ => ?y0) hS ?_
 case y0=>(have z1:=hZ.1;go_simp)
 refine tkH 1 3 (.pointer (some ⟨L,0,none⟩)) rfl (by kernel_rfl) (fun _ _ _ h=>h) (fun Z hZ=>by kernel_rfl) hS ?_;refine tkH 2 4 (.pointer (some ⟨L,0,none⟩)) rfl (by kernel_rfl) (fun _ _ _ h=>h) (fun Z hZ=>by kernel_rfl) hS ?_;refine tkH 3 5 (.int .i64 g.inF) rfl (by kernel_rfl) (fun _ _ _ h=>h) (fun Z hZ => ?y3) hS ?_
 case y3=>(have z1:=hZ.2.1;go_simp)
 refine tkH 4 6 (.pointer (some ⟨L,0,none⟩)) rfl (by kernel_rfl) (fun _ _ _ h=>h) (fun Z hZ => ?y4) hS ?_
 case y4=>(have z1:=hZ.1;go_simp)
 refine tkH 5 7 (.pointer (some ⟨L,0,none⟩)) rfl (by kernel_rfl) (fun _ _ _ h=>h) (fun Z hZ=>by kernel_rfl) hS ?_;refine tkH 6 8 (.pointer (some ⟨L,2,none⟩)) rfl (by kernel_rfl) (fun _ _ _ h=>h) (fun Z hZ=>by kernel_rfl) hS ?_;refine tkH 7 9 (.agg #[.int .i64 g.depth,.int .i64 g.bytes]) rfl (by kernel_rfl) (fun _ _ _ h=>h) (fun Z hZ => ?y7) hS ?_
 case y7=>exact qw8 86 (.tmp 8) rfl L 2 rfl _ _ hZ.2.2.1 underlying86 rfl hinf
 refine tkH 8 10 (.pointer (some ⟨L,0,none⟩)) rfl (by kernel_rfl) (fun _ _ _ h=>h) (fun Z hZ => ?y8) hS ?_
 case y8=>(have z1:=hZ.1;go_simp)
 refine tkH 9 11 (.pointer (some ⟨L,0,none⟩)) rfl (by kernel_rfl) (fun _ _ _ h=>h) (fun Z hZ=>by kernel_rfl) hS ?_;refine tkH 10 12 (.pointer (some ⟨L,45,none⟩)) rfl (by kernel_rfl) (fun _ _ _ h=>h) (fun Z hZ=>by kernel_rfl) hS ?_;refine tkH 11 13 (.slice fa fn fc) rfl (by kernel_rfl) (fun _ _ _ h=>h) (fun Z hZ => ?y11) hS ?_
 case y11=>(have z1:=hZ.2.2.2;go_simp)
 refine rdS 12 rfl (by kernel_rfl) (fun K hK => ?_);go_simp;refine(HD.out V1 HV.out).mono ?_;rintro e w2 ⟨hB,hF⟩;rcases r with ⟨en,pl⟩|d
 ·obtain rfl:=(show qao en pl e from hF)
  exact⟨rfl,HV.out.trans (hB.mono HV.out.size),rfl⟩
 obtain⟨t,y,rfl,hd⟩:=hF;simp only[];have hpl:p<V1.heap.size:=block_lt_of_cell hS.1;have hLl:L<V1.heap.size:=block_lt_of_cell hS.2.1;have hS2:(fun Z:World=>Z.cell? ⟨p,0,none⟩=some (.pointer (some ⟨L,0,none⟩))∧Z.cell? ⟨L,0,none⟩=some (.int .i64 g.inF)∧(∀(j:Nat) (u:Value),#[Value.int .i64 g.depth,.int .i64 g.bytes][j]? = some u→Z.cell? ⟨L,2+j,none⟩=some u)∧Z.cell? ⟨L,45,none⟩=some (.slice fa fn fc)) w2:=⟨(hB.cell (p:=⟨p,0,none⟩) hpl).trans hS.1,(hB.cell (p:=⟨L,0,none⟩) hLl).trans hS.2.1,fun j u hu=>(hB.cell (p:=⟨L,2+j,none⟩) hLl).trans (hS.2.2.1 j u hu),(hB.cell (p:=⟨L,45,none⟩) hLl).trans hS.2.2.2⟩
 have HE:=qaa (HV.out.trans (hB.mono HV.out.size));have HT:Hid (qai k w2 (fun j=>V.heap.size≤j∧j<w2.heap.size) (.iface t y) d):=hd.same (fun j hj=>⟨Nat.le_trans HV.out.size hj.1,hj.2⟩) (fun _ _=>rfl);refine hK.out _ _ hS2 (fun _ => ?_);refine tkH 13 1 (.iface t y) rfl (by kernel_rfl) (fun _ _ _ h=>h) (fun Z hZ=>by kernel_rfl) hS2 ?_;refine wpAnyH_done (by kernel_rfl) ?_ _;go_simp
 go_wp2_with fail
 go_ret;exact⟨HE.out,t,y,rfl,HT.out⟩
theorem qlu (k:Nat)(W:World)(L:Nat)(g:Gt)(hrc:g.rc.size=40)(fa:Option Addr)(fn fc:Nat)(cl:Bool)(r:Except (Int×Int) (DataW Unit))(hg:W.heap[L]? = some (.cells (qay g (.slice fa fn fc) cl) 119))(cD:∀U,Below W.heap.size W U→Calls prog 41 #[.int .i64 g.inF,.agg #[.int .i64 g.depth,.int .i64 g.bytes],.slice fa fn fc] U (qg6 k U r)):Calls prog 52 #[.pointer (some ⟨L,0,none⟩)] W (qvG k W r):=by
 have HB:Hid (Below W.heap.size W (W.alloc (.cells #[.pointer (some ⟨L,0,none⟩)] 60))):=bwA;have hmf:∀(fn:Fn) (first cap:Array Value) (w:World),(Instr.makeFunc fn first cap).run prog w=.ok (.func fn first cap) w:=fun _ _ _ _=>rfl;have cA0:=qjU k (W.alloc (.cells #[.pointer (some ⟨L,0,none⟩)] 60)) #[.pointer (some ⟨W.heap.size,0,none⟩)] r (by
  have b1:Below (W.heap.size+1) (W.alloc (.cells #[.pointer (some ⟨L,0,none⟩)] 60)) (((W.alloc (.cells #[.pointer (some ⟨L,0,none⟩)] 60)).alloc (.cells #[.int .i64 0] 31)).alloc (.cells #[.int .i64 0] 3)):=((Below.refl _ _).alloc (by simp) _).alloc (by simp) _;have hL:=ltA hg;refine qpg k _ W.heap.size L g hrc fa fn fc cl r ((b1.block _ (by omega)).trans (qac W _)) ((b1.block L (by omega)).trans ((HB.out.block L hL).trans hg)) (fun U hU=>cD U ?_);exact(HB.out.trans (b1.mono (by omega))).trans (hU.mono (by simp;omega)))
 have cA:=cA0;rcases r with ⟨en,pl⟩|d
 ·go_enter func52,ntmps52
  go_wp2_with (first
   |(go_at_call 39;refine cA.mono ?_;rintro e w2 ⟨hB2,hF⟩;obtain rfl:=hF;have HE:=qaa (HB.out.trans (hB2.mono HB.out.size))))
  go_ret3
  exact⟨HE.out,rfl⟩
 go_enter func52,ntmps52
 go_wp2_with (first
  |(go_at_call 39;refine cA.mono ?_;rintro e w2 ⟨hB2,hF⟩;obtain⟨t,y,rfl,hd⟩:=hF;have HE:=qaa (HB.out.trans (hB2.mono HB.out.size));have HT:Hid (qai k w2 (fun j=>W.heap.size≤j∧j<w2.heap.size) (.iface t y) d):=hd.same (fun j hj=>⟨Nat.le_trans HB.out.size hj.1,hj.2⟩) (fun _ _=>rfl)))
 go_ret3
 exact⟨HE.out,t,y,rfl,HT.out⟩
def quW (r:Except (Int×Int) (DataW Unit))(n:Nat):Int:=match r with
 |.ok _=>0
 |.error (en,pl)=>if pl=n then 0 else en
def qf6 (W:World)(L base:Nat)(g:Gt)(fed:Value)(l:List UInt8)(en:Int)(e:Ending)(W':World):Prop :=
 ∃fa fn fc,e=.returned (.int .i64 en)∧Own W' base (.slice fa fn fc) l∧W'.heap[L]? = some (.cells (qay g (.slice fa fn fc) false) 119)∧(W'.os=W.os∧W'.tape=W.tape∧W'.output=W.output)∧W.heap.size≤W'.heap.size∧∀k,k<W.heap.size→k≠L→some k≠fed.ownBlock→W'.heap[k]? = W.heap[k]?
theorem qqT (k:Nat)(W:World)(L base:Nat)(g:Gt)(hrc:g.rc.size=40)(fed:Value)(acc:List UInt8)(ia:Option Addr)(cap:Nat)(bs l:List UInt8)(hl:l=acc++bs.take (g.bytes+1-acc.length))(hg:W.heap[L]? = some (.cells (qay g fed false) 119))(ho:Own W base fed acc)(hL:L<base)(hb:qa4 W ia bs)(hnil:ia=none→cap=0)(hcap:bs.length≤cap)(hby:g.bytes≤4096)(hac:acc.length≤g.bytes+1)(r:Except (Int×Int) (DataW Unit))(hbad:∀en pl,r=.error (en,pl)→en≠0)(cD:∀U fa fc,(∀j,j<L→U.heap[j]? = W.heap[j]?)→qa4 U fa l→Calls prog 41 #[.int .i64 g.inF,.agg #[.int .i64 g.depth,.int .i64 g.bytes],.slice fa l.length fc] U (qg6 k U r)):Calls prog 32 #[.pointer (some ⟨L,0,none⟩),.slice ia bs.length cap] W (qf6 W L base g fed l (quW r l.length)):=by
 have cK:=qr9 W L base g hrc fed acc ia cap bs hg ho hL hb hnil hcap hby hac;rw[←hl] at cK;have c46:W.cell? ⟨L,46,none⟩=some (.bool false):=(qab hg 46).trans (qbO hrc _ _ 2);have HD:=qaa cD;have HLB:Hid (∀j,j<L→some j≠fed.ownBlock):=fun j hj e=>by have:=qbA ho.1 e.symm;omega
 have hLW:=ltA hg;have HRC:=qaa hrc;have cK2:Calls prog 51 #[.pointer (some ⟨L,0,none⟩),.slice ia bs.length cap] W fun e W'=>∃fa fc,e=.returned (.tuple #[])∧Hid (qf6 W L base g fed l 0 (.returned (.int .i64 0)) W')∧Hid (W'.heap[L]? = some (.cells (qay g (.slice fa l.length fc) false) 119))∧Hid (Own W' base (.slice fa l.length fc) l)∧Calls prog 52 #[.pointer (some ⟨L,0,none⟩)] W' (qvG k W' r):=cK.mono (by
  rintro e W' ⟨fa,fn,fc,rfl,h1,h2,h3,h4,h5⟩;obtain⟨fa',fc',e1,hbt⟩:=qc8 h1;injection e1 with e1 e2 e3;subst e1;subst e2;subst e3;refine⟨fa,fc,rfl,⟨fa,_,fc,rfl,h1,h2,h3,h4,h5⟩,h2,h1,qlu k W' L g hrc fa l.length fc false r h2 (fun U hU=>HD.out U fa fc (fun j hj => ?_) (hbt.below hU))⟩;exact(hU.block j (by omega)).trans (h5 j (by omega) (by omega) (HLB.out j hj)))
 clear cK cD hg ho hb hnil hrc hl;have fin:∀{W3 w4:World} {fa:Option Addr} {fc:Nat} {en:Int},qf6 W L base g fed l 0 (.returned (.int .i64 0)) W3→W3.heap[L]? = some (.cells (qay g (.slice fa l.length fc) false) 119)→Own W3 base (.slice fa l.length fc) l→Below W3.heap.size W3 w4→qf6 W L base g fed l en (.returned (.int .i64 en)) w4:=by
  rintro W3 w4 fa fc en ⟨_,_,_,_,_,_,h3,h4,h5⟩ h2 h1 hB;exact⟨fa,_,fc,rfl,qgt h1 hB,(hB.block L (ltA h2)).trans h2,⟨hB.os.trans h3.1,hB.tape.trans h3.2.1,hB.output.trans h3.2.2⟩,Nat.le_trans h4 hB.size,fun j a b c=>(hB.block j (Nat.lt_of_lt_of_le a h4)).trans (h5 j a b c)⟩
 rcases r with ⟨en,pl⟩|d
 ·have hne:=hbad en pl rfl;have e1:(en==0)=false:=by simpa using hne
  have e2:(en != 0)=true:=by simpa using hne
  by_cases hpl:pl=l.length
  ·have HE:Hid (quW (.error (en,pl)) l.length=0):=by show(if _ then _ else _)=_;rw[if_pos hpl]
   rw[HE.out];subst hpl;go_enter func32,ntmps32
   go_wp2_with (first
    |(go_at_call 51;refine cK2.mono ?_;clear cK2 c46;rintro e w3 ⟨fa,fc,rfl,H1,H2,H3,cR⟩)
    |(go_at_call 52;refine cR.mono ?_;clear cR;rintro e w4 ⟨hB,hF⟩;obtain rfl:=hF;have HZ:Hid (∀en,qf6 W L base g fed l en (.returned (.int .i64 en)) w4):=fun en=>fin H1.out H2.out H3.out hB;have c45:w4.cell? ⟨L,45,none⟩=some (.slice fa l.length fc):=(qab ((hB.block L (ltA H2.out)).trans H2.out) 45).trans (qbO HRC.out _ _ 1);clear hB))
   go_ret;exact HZ.out 0
  have HE:Hid (quW (.error (en,pl)) l.length=en):=by show(if _ then _ else _)=_;rw[if_neg hpl]
  rw[HE.out];have e3:(pl==(l.length:Int))=false:=by simpa using hpl
  go_enter func32,ntmps32
  go_wp2_with (first
   |(go_at_call 51;refine cK2.mono ?_;clear cK2 c46;rintro e w3 ⟨fa,fc,rfl,H1,H2,H3,cR⟩)
   |(go_at_call 52;refine cR.mono ?_;rintro e w4 ⟨hB,hF⟩;obtain rfl:=hF;have HZ:Hid (∀en,qf6 W L base g fed l en (.returned (.int .i64 en)) w4):=fun en=>fin H1.out H2.out H3.out hB;have c45:w4.cell? ⟨L,45,none⟩=some (.slice fa l.length fc):=(qab ((hB.block L (ltA H2.out)).trans H2.out) 45).trans (qbO HRC.out _ _ 1)))
  go_ret;exact HZ.out en
 have HE:Hid (quW (.ok d) l.length=0):=rfl;rw[HE.out];go_enter func32,ntmps32
 go_wp2_with (first
  |(go_at_call 51;refine cK2.mono ?_;rintro e w3 ⟨fa,fc,rfl,H1,H2,H3,cR⟩)
  |(go_at_call 52;refine cR.mono ?_;rintro e w4 ⟨hB,hF⟩;obtain⟨t,y,rfl,_⟩:=hF;have HZ:Hid (∀en,qf6 W L base g fed l en (.returned (.int .i64 en)) w4):=fun en=>fin H1.out H2.out H3.out hB))
 go_ret;exact HZ.out 0
theorem qkB (W:World)(L:Nat)(g:Gt)(hrc:g.rc.size=40)(fed b:Value)(hg:W.heap[L]? = some (.cells (qay g fed true) 119)):Calls prog 32 #[.pointer (some ⟨L,0,none⟩),b] W fun e W'=>e=.returned (.int .i64 15)∧W'=W:=by
 have c46:W.cell? ⟨L,46,none⟩=some (.bool true):=(qab hg 46).trans (qbO hrc _ _ 2);go_enter func32,ntmps32;go_wp2;go_ret;exact⟨rfl,rfl⟩
theorem qds {fn:Func}{p u u2 u3:Tmp}{ty:TypeId}(h:fn.results=#[.tmp u,.cell p ty,.tmp u2,.tmp u3])(tmps:Array Value)(w:World)(g:Nat)(t:TypeId)(cs:Array Value)(fr:Nat×Nat)(d:TypeDesc)(hp:tmps.getD p undef=.pointer (some ⟨g,0,none⟩))(hg:w.heap[g]? = some (.cells cs t fr))(hu:P.underlying ty=some d)(hd:(match d with|.struct _|.array _ _=>true|_=>false)=true)(hi:(P.info? ty).map (·.size)=some cs.size)(v v2 v3:Value)(hv:tmps.getD u undef=v)(hv2:tmps.getD u2 undef=v2)(hv3:tmps.getD u3 undef=v3):(results fn tmps).run P w=.ok (.tuple #[v,.agg cs,v2,v3]) w:=by
 have e:(results fn tmps).run P w=((asAddr (tmps.getD p undef)).run P w).andThen fun a w₁=>((loadVar ty a).run P w₁).andThen fun v w₂=>.ok (.tuple #[tmps.getD u undef,v,tmps.getD u2 undef,tmps.getD u3 undef]) w₂:=by
  simp only[results,h];simp[Sem.run_bind,Result.andThen]
 subst hv;subst hv2;subst hv3;rw[e,hp];simp only[asAddr,Sem.run_pure,Result.andThen_ok,run_loadVar_row w g t ty cs fr d hg hu hd hi]
theorem qcs:(prog.info? 50).map (·.size)=some (#[Value.int .i64 0,.int .i64 0,.int .i64 0,.int .i64 0]).size:=by kernel_rfl
theorem qjg (W:World)(L:Nat)(g:Gt)(hrc:g.rc.size=40)(fed:Value)(hg:W.heap[L]? = some (.cells (qay g fed true) 119)):Calls prog 33 #[.pointer (some ⟨L,0,none⟩)] W fun e W'=>e=.returned (.tuple #[.slice none 0 0,.agg #[.int .i64 0,.int .i64 0,.int .i64 0,.int .i64 0],.int .i64 15,.int .i64 0])∧Below W.heap.size W W':=by
 have hL:=ltA hg;have c46:(W.alloc (.cells #[.int .i64 0,.int .i64 0,.int .i64 0,.int .i64 0] 50)).cell? ⟨L,46,none⟩=some (.bool true):=(qab ((Below.heap_alloc _ _ _ hL).trans hg) 46).trans (qbO hrc _ _ 2);have HN:Hid ((W.alloc (.cells #[.int .i64 0,.int .i64 0,.int .i64 0,.int .i64 0] 50)).heap[W.heap.size]? = some (.cells #[.int .i64 0,.int .i64 0,.int .i64 0,.int .i64 0] 50)):=qac W _;go_enter func33,ntmps33
 go_wp2_with (first
  |(refine wpList_store_row rfl 50 _ _ rfl W.heap.size #[.int .i64 0,.int .i64 0,.int .i64 0,.int .i64 0] rfl rfl 50 _ HN.out qcs rfl rfl ?_))
 refine bodyPost_ret (qds results33 _ _ W.heap.size 50 #[.int .i64 0,.int .i64 0,.int .i64 0,.int .i64 0] (0,0) _ rfl ?hh underlying50 rfl qcs _ _ _ rfl rfl rfl) rfl ⟨rfl,?hb⟩
 case hh=>first|exact setRow_heap _ _ _ _ _ _ HN.out|exact HN.out
 case hb=>first|exact qah bwA (Nat.le_refl _) _|exact bwA
end
end Go.Proofs.YtllcbnfmihfaaaaGreatDoor
