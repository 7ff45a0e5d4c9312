import Derived.Test.YtllcbnfmihfaaaaGreatDoorCq22
import Derived.Test.YtllcbnfmihfaaaaGreatDoorCq19
set_option maxRecDepth 100000
set_option maxHeartbeats 8000000
namespace Go.Proofs.YtllcbnfmihfaaaaGreatDoor
open Go.Proofs.Tryz
variable {P:Program}{o:Oper}{a:Act}{W W' W0 w:World}{Q:Exit→Act→World→Prop}{A m mn t:Nat}{q:Aut}{sts:List ((Nat→Nat)×Int×Int)}{sv:Value}{mf nf:Lit→Option Nat}{c:Cfg}{ks:List (List UInt8)}{b:List UInt8}
section
open Go.RowKit
theorem qdA (w:World)(g o:Nat)(ty:TypeId)(O:Array Value)(d:TypeDesc)(hc:∀(j:Nat) (u:Value),O[j]? = some u→w.cell? ⟨g,o+j,none⟩=some u)(hu:P.underlying ty=some d)(hd:(match d with|.struct _|.array _ _=>true|_=>false)=true)(hi:(P.info? ty).map (·.size)=some O.size):(loadVar ty ⟨g,o,none⟩).run P w=.ok (.agg O) w:=by
 have hl:(loadCells ⟨g,o,none⟩ O.toList.length).run P w=.ok O.toList.toArray w :=
  run_loadCells_list (P:=P) w ⟨g,o,none⟩ O.toList (fun j u hv=>by
   have hadd:(⟨g,o,none⟩:Addr).add j=⟨g,o+j,none⟩:=by unfold Addr.add;split<;>simp_all
   rw[hadd];exact hc j u (by simpa using hv))
 cases hq:P.info? ty with
 |none=>simp[hq] at hi
 |some i =>
  have hs:i.size=O.size:=by simpa [hq] using hi
  have hagg:(isAgg ty).run P w=.ok true w:=by
   unfold isAgg;rw[Sem.run_bind,run_underlying hu w];cases d<;>simp_all
  simp only[Array.length_toList,Array.toArray_toList] at hl;simp[loadVar,Sem.run_bind,hagg,sizeOf,typeInfo,hq,hs,hl]
theorem qhm {K:Act→World→Prop}(ty:TypeId)(x:Operand)(ho:o.op=.load ty x)(g k:Nat)(hx:a.eval x=.pointer (some ⟨g,k,none⟩))(O:Array Value)(d:TypeDesc)(hc:∀(j:Nat) (u:Value),O[j]? = some u→w.cell? ⟨g,k+j,none⟩=some u)(hu:P.underlying ty=some d)(hd:(match d with|.struct _|.array _ _=>true|_=>false)=true)(hi:(P.info? ty).map (·.size)=some O.size)(h:K (a.put o.dst (.agg O)) w):o.wp P a w K Q:=by
 unfold Oper.wp execOp;simp only[ho,hx,Instr.loadAt,Instr.sureAddr,Sem.run_bind,Sem.run_pure,Result.andThen_ok,qdA w g k ty O d hc hu hd hi];exact h
theorem qcv {ops:Array Oper}{rest:List Oper}(ty:TypeId)(x:Operand)(ho:o.op=.load ty x)(hgd:Region.wanted o (yielded ops a.tmps)=true)(g k:Nat)(hx:a.eval x=.pointer (some ⟨g,k,none⟩))(O:Array Value)(d:TypeDesc)(hc:∀(j:Nat) (u:Value),O[j]? = some u→w.cell? ⟨g,k+j,none⟩=some u)(hu:P.underlying ty=some d)(hd:(match d with|.struct _|.array _ _=>true|_=>false)=true)(hi:(P.info? ty).map (·.size)=some O.size)(h:wpList P ops Q rest (a.put o.dst (.agg O)) w):wpList P ops Q (o::rest) a w :=
 wpList_step fun K hK=>by rw[if_pos hgd];exact qhm ty x ho g k hx O d hc hu hd hi (hK _ _ h)
theorem qw8 {ev:Operand→Value}(ty:TypeId)(x:Operand)(ho:o.op=.load ty x)(g k:Nat)(hx:ev x=.pointer (some ⟨g,k,none⟩))(O:Array Value)(d:TypeDesc)(hc:∀(j:Nat) (u:Value),O[j]? = some u→W.cell? ⟨g,k+j,none⟩=some u)(hu:P.underlying ty=some d)(hd:(match d with|.struct _|.array _ _=>true|_=>false)=true)(hi:(P.info? ty).map (·.size)=some O.size):(execOp ev o).run P W=.ok (.value (.agg O)) W:=by
 unfold execOp;simp only[ho,hx,Instr.loadAt,Instr.sureAddr,Sem.run_bind,Sem.run_pure,Result.andThen_ok,qdA W g k ty O d hc hu hd hi]
theorem qsA (x:(Nat→Nat)×Int×Int):stC x=(stA x.1 x.2).toList:=by simp[stC,stA]
theorem qfy (Y:Nat→Nat)(x:Int×Int):(stA Y x).size=18:=by simp[stA,qbR]
theorem qsI (Y:Nat→Nat)(x:Int×Int):(stA Y x).all (·.oneCell')=true:=by rw[←Array.all_toList,List.all_eq_true];exact qoV Y x
theorem quu (sts:List ((Nat→Nat)×Int×Int)):∀(i j:Nat) (x:(Nat→Nat)×Int×Int),sts[i]? = some x→j<18→(sts.flatMap stC)[i*18+j]? = (stA x.1 x.2)[j]?:=by
 induction sts with
 |nil=>intro i j x h;simp at h
 |cons y ys ih =>
  intro i j x h hj;have hl:(stC y).length=18:=by rw[qsA,Array.length_toList,qfy]
  rw[List.flatMap_cons]
  cases i with
  |zero =>
   have e:y=x:=by simpa using h
   subst e;rw[List.getElem?_append_left (by omega),qsA];simp
  |succ i =>
   rw[List.getElem?_append_right (by omega),hl,show(i+1)*18+j-18=i*18+j by omega];exact ih i j x (by simpa using h) hj
theorem qcj.state_at (h:qcj W0 A q sts sv nf mn mf W){i:Nat}{x:(Nat→Nat)×Int×Int}(hx:sts[i]? = some x):∃g cap,sv=.slice (some ⟨g,0,none⟩) sts.length cap∧g<W.heap.size∧g≠A∧∀(j:Nat) (u:Value),(stA x.1 x.2)[j]? = some u→W.cell? ⟨g,i*18+j,none⟩=some u:=by
 have hi:=ltL hx;rcases h.states.2 with ⟨_,h0⟩|⟨g,cap,cur,hv,hb,hg,hn,hm,hs,ht⟩
 ·omega
 refine⟨g,cap,hv,(ltA hg),(h.own g (by rw[hv];rfl)).1,fun j u hu => ?_⟩;have hj:j<18:=by rw[←qfy x.1 x.2];exact ltA hu
 rw[cell_of_row W g (i*18+j) cur _ _ hg];have e:=quu sts i j x hx hj;rw[hu,←ht,List.getElem?_take_of_lt (by omega)] at e;simpa using e
theorem qn4 (Y:Nat→Nat)(x:Int×Int):(prog.info? 240).map (·.size)=some (stA Y x).size:=by rw[qfy];kernel_rfl
theorem qkq (W0:World)(A:Nat)(q:Aut)(sts:List ((Nat→Nat)×Int×Int))(sv:Value)(nf:Lit→Option Nat)(mn:Nat)(mf:Lit→Option Nat)(W:World)(h:qcj W0 A q sts sv nf mn mf W)(i:Nat)(x:(Nat→Nat)×Int×Int)(hx:sts[i]? = some x):Calls prog 154 #[.pointer (some ⟨A,0,none⟩),.int .i64 i] W fun e W'=>e=.returned (.tuple #[.int .i64 x.2.1,.int .i64 x.2.2])∧Below W.heap.size W W':=by
 have hA:=ltA h.row;obtain⟨g,cap,rfl,hgl,hgA,hc⟩:=h.state_at hx;have c20:W.cell? ⟨A,20,none⟩=some (.slice (some ⟨g,0,none⟩) sts.length cap):=qab h.row 20;have hil:(i:Int)<(sts.length:Int):=by have:=ltL hx;omega
 have HC:=qaa hc;go_enter func154,ntmps154
 go_wp2_with (first
  |(refine qcv 240 (.tmp 12) rfl (by simp[go_sem]) g (i*18) rfl (stA x.1 x.2) _ HC.out underlying240 rfl (qn4 x.1 x.2) ?_)
  |(refine wpList_store_row rfl 240 _ _ rfl W.heap.size (stA x.1 x.2) rfl rfl 240 #[.int .u16 0,.int .u16 0,.int .u16 0,.int .u16 0,.int .u16 0,.int .u16 0,.int .u16 0,.int .u16 0,.int .u16 0,.int .u16 0,.int .u16 0,.int .u16 0,.int .u16 0,.int .u16 0,.int .u16 0,.int .u16 0,.int .i64 0,.int .i64 0] (qac W _) (qn4 x.1 x.2) (by rw[qfy];rfl) (qsI x.1 x.2) ?_;rw[World.setRow_alloc_new]))
 have HB:Hid (Below W.heap.size W (W.alloc (.cells (stA x.1 x.2) 240))):=bwA;have r1:(W.alloc (.cells (stA x.1 x.2) 240)).cell? ⟨W.heap.size,16,none⟩=some (.int .i64 x.2.1):=qab (qac W _) 16;have r2:(W.alloc (.cells (stA x.1 x.2) 240)).cell? ⟨W.heap.size,17,none⟩=some (.int .i64 x.2.2):=qab (qac W _) 17;generalize W.alloc (.cells (stA x.1 x.2) 240)=V at *
 go_quiet (fail)
 go_wp2;refine bodyPost_ret (results_tmp2 results154 _ _ _) rfl ⟨rfl,HB.out.trans ⟨rfl,rfl,rfl,Nat.le_refl _,fun _ _=>rfl⟩⟩
theorem qx0 (x:Nat)(h:x<1000000000):(Lit.int .i64 (x:Int)).wf=true:=by
 have h1:IntKind.i64.min = -9223372036854775808:=by kernel_rfl
 have h2:IntKind.i64.max=9223372036854775807:=by kernel_rfl
 simp[Lit.wf,h1,h2];omega
def mvA (f x:Nat):Array Value:=#[.int .i64 f,.int .i64 x]
theorem qwx (f x:Nat)(hf:f<1000000000)(hx:x<1000000000):∃l,keyOf prog 320 (.agg (mvA f x))=some l:=by
 obtain⟨d,hd⟩:∃d,prog.types.size+1=d+2:=⟨prog.types.size-1,by have:1≤prog.types.size:=Nat.le_of_ble_eq_true (by kernel_rfl);omega⟩
 have h1:prog.keyType 320=true:=by kernel_rfl
 have h2:prog.cellsOf 320=2:=by kernel_rfl
 have h3:prog.cellsOf 3=1:=by kernel_rfl
 have hfm:(Value.agg (mvA f x)).formed prog 320=true:=by
  simp only[Value.formed,underlying320];rw[h2];rfl
 have hone:∀y:Nat,y<1000000000→prog.keyLits (d+1) 3 [.int .i64 y]=some [.int .i64 y]:=by
  intro y hy;unfold Program.keyLits;simp only[underlying3];rw[if_pos ⟨trivial,qx0 _ hy⟩]
 have hl:prog.keyLits (d+2) 320 (mvA f x).toList=some [.int .i64 f,.int .i64 x]:=by
  unfold Program.keyLits;simp only[underlying320];rw[if_pos ⟨by rw[h2];rfl,by kernel_rfl⟩];simp only[List.mapM_cons,List.mapM_nil,h3,mvA];have e1:=hone f hf;have e2:=hone x hx;simp[e1,e2]
 refine⟨.string (keyBytes [.int .i64 f,.int .i64 x]),?_⟩;unfold keyOf;simp only[underlying320];have e:(Value.agg (mvA f x)).cells=mvA f x:=rfl;rw[h1,hfm,hd,if_pos (by rfl),e,hl,Option.map_some]
def qtn (q:Aut)(sts:List ((Nat→Nat)×Int×Int))(mf:Lit→Option Nat):Prop :=
 ∀(f x:Nat) (l:Lit) (k:Nat),keyOf prog 320 (.agg (mvA f x))=some l→mf l=some k→∃s t Y,sts[f]? = some s∧sts[k]? = some t∧WdY q.rs.length q.st (qhV q.st (q.tk x) s.1 q.rs.length) Y∧∀r,r<16→t.1 r=Y r
theorem qmt (W0:World)(A:Nat)(q:Aut)(sts:List ((Nat→Nat)×Int×Int))(sv:Value)(nf:Lit→Option Nat)(mn:Nat)(mf:Lit→Option Nat)(W:World)(h:qcj W0 A q sts sv nf mn mf W)(f:Nat)(key:List UInt8)(ix:Bool)(hb:key.length≤maxLen)(x:Nat)(hx:qlM q.lf key ix=x)(l:Lit)(hl:keyOf prog 320 (.agg (mvA f x))=some l)(i:Nat)(hi:mf l=some i):Calls prog 153 #[.pointer (some ⟨A,0,none⟩),.int .i64 f,.agg #[.string ⟨key.toArray⟩,.bool ix]] W fun e W'=>e=.returned (.int .i64 i)∧Below W.heap.size W W':=by
 have HA:Hid (qcj W0 A q sts sv nf mn mf (W.alloc (.cells #[.string ⟨key.toArray⟩,.bool ix] 259))):=h.next bwA
 have HW:Hid (Below W.heap.size W (W.alloc (.cells #[.string ⟨key.toArray⟩,.bool ix] 259))):=bwA;have cL:=qfa W0 A q sts sv nf mn mf _ HA.out key ix hb;rw[hx] at cL;go_enter func153,ntmps153
 go_wp2_with (first
  |(go_at_call 194;refine cL.mono ?_;rintro e w2 ⟨rfl,hB2⟩;have HA2:=qaa (HA.out.next hB2);have HW2:=qaa (HW.out.trans (hB2.mono HW.out.size))))
 have HA3:Hid (qcj W0 A q sts sv nf mn mf (w2.alloc (.cells (mvA f x) 320))):=HA2.out.next bwA
 have HW3:Hid (Below W.heap.size W (w2.alloc (.cells (mvA f x) 320))):=HW2.out.alloc HW2.out.size _;have HB3:Hid ((w2.alloc (.cells (mvA f x) 320)).heap[w2.heap.size]? = some (.cells (mvA f x) 320)):=qac _ _;have hS:(fun Z:World=>Z.cell? ⟨A,22,none⟩=some (.map (some q.mb))∧Z.heap[w2.heap.size]? = some (.cells (mvA f x) 320)∧qcW Z 320 q.mb mn mf) { (w2.alloc (.cells (mvA f x) 320)) with drawn:=(w2.alloc (.cells (mvA f x) 320)).drawn+1}:=⟨qab HA3.out.row 22,HB3.out,HA3.out.moves⟩
 refine wp_region_held (S:=fun Z=>Z.cell? ⟨A,22,none⟩=some (.map (some q.mb))∧Z.heap[w2.heap.size]? = some (.cells (mvA f x) 320)∧qcW Z 320 q.mb mn mf) (by kernel_rfl) ?_;refine tkH 0 16 (.pointer (some ⟨A,0,none⟩)) rfl (by kernel_rfl) (fun _ _ _ h=>h) (fun Z hZ=>by kernel_rfl) hS ?_;refine tkH 1 17 (.pointer (some ⟨A,0,none⟩)) rfl (by kernel_rfl) (fun _ _ _ h=>h) (fun Z hZ=>by kernel_rfl) hS ?_;refine tkH 2 18 (.pointer (some ⟨A,22,none⟩)) rfl (by kernel_rfl) (fun _ _ _ h=>h) (fun Z hZ=>by kernel_rfl) hS ?_;refine tkH 3 19 (.map (some q.mb)) rfl (by kernel_rfl) (fun _ _ _ h=>h) (fun Z hZ => ?y3) hS ?_
 case y3=>(have z1:=hZ.1;go_simp)
 refine tkH 4 20 (.agg (mvA f x)) rfl (by kernel_rfl) (fun _ _ _ h=>h) (fun Z hZ => ?y4) hS ?_
 case y4=>exact qix 320 (.tmp 7) rfl w2.heap.size rfl _ _ _ _ hZ.2.1 underlying320 rfl (by kernel_rfl)
 refine tkH 5 21 (.tuple #[.int .i64 i,.bool true]) rfl (by kernel_rfl) (fun _ _ _ h=>h) (fun Z hZ => ?y5) hS ?_
 case y5=>(have z2:=qdz hZ.2.2 mvK underlying161 hl;rw[hi] at z2;go_simp)
 refine tkH 6 15 (.tuple #[.int .i64 i,.bool true]) rfl (by kernel_rfl) (fun _ _ _ h=>h) (fun Z hZ=>by kernel_rfl) hS ?_;refine tkH 7 22 (.int .i64 i) rfl (by kernel_rfl) (fun _ _ _ h=>h) (fun Z hZ=>by kernel_rfl) hS ?_;refine tkH 8 23 (.bool true) rfl (by kernel_rfl) (fun _ _ _ h=>h) (fun Z hZ=>by kernel_rfl) hS ?_;refine tkH 9 8 (.int .i64 i) rfl (by kernel_rfl) (fun _ _ _ h=>h) (fun Z hZ=>by kernel_rfl) hS ?_;refine tkH 10 9 (.bool true) rfl (by kernel_rfl) (fun _ _ _ h=>h) (fun Z hZ=>by kernel_rfl) hS ?_;refine wpAnyH_done (by kernel_rfl) ?_ _;go_simp;go_wp2;go_ret;exact⟨rfl,HW3.out.drew⟩
theorem qcj.auR (h:qcj W0 A q sts sv nf mn mf W):AuR W A q.ra q.rc q.rs.length q.st :=
 ⟨(ltA h.row),qab h.row 0,fun r hr=>by
  rw[cell_of_row W A (3+r) _ _ _ h.row]
  match r,hr with
  |0,_|1,_|2,_|3,_|4,_|5,_|6,_|7,_|8,_|9,_|10,_|11,_|12,_|13,_|14,_|15,_=>rfl
  |n+16,hr=>exact absurd hr (by omega)⟩
theorem qcj.auT (h:qcj W0 A q sts sv nf mn mf W):AuT W A q.tb q.L q.tc q.tk:=by
 obtain⟨cur,t1,t2⟩:=h.takes;exact⟨(ltA h.row),(ltA t1),qab h.row 19,fun x r hx hr=>(cell_of_row W q.tb (x*16+r) _ _ _ t1).trans (t2 x r hx hr)⟩
theorem qcj.moved {mn':Nat}{mf':Lit→Option Nat}(h:qcj W0 A q sts sv nf mn mf W)(hg:W.grownBy W' (some q.mb))(hm:qcW W' 320 q.mb mn' mf'):qcj W0 A q sts sv nf mn' mf' W':=by
 obtain⟨a1,a2,a3,a4,a5,a6,a7,a8,a9,a10⟩:=h.apart;obtain⟨u1,u2,u3,u4,u5⟩:=h.high;obtain⟨cur,t1,t2⟩:=h.takes;exact {h with
  row:=(hg.block A (ltA h.row) (by simpa using a4)).trans h.row
  below:=⟨hg.os.trans h.below.os,hg.tape.trans h.below.tape,hg.output.trans h.below.output,Nat.le_trans h.below.size hg.size,fun i hi=>(hg.block i (Nat.lt_of_lt_of_le hi h.below.size) (by simp;omega)).trans (h.below.block i hi)⟩
  letters:=h.letters.kept hg (by simpa using a7)
  takes:=⟨cur,(hg.block _ (ltA t1) (by simpa using a9)).trans t1,t2⟩
  states:=qdn h.states fun g e=>hg.block g (qjA h.states e) (by simpa using (h.own g e).2.2.2.2)
  numbers:=h.numbers.kept hg (by simpa using a10)
  moves:=hm}
def qg9 (c:Cfg):Bool:=qbx c.labels c.L&&qbC c.labels.toNat c.dflt&&qbC c.labels.toNat c.clr
def qbw (c:Cfg):Int :=
 if qg9 c=false then 1
 else if qbz c.labels.toNat (qaZ c.labels.toNat c.L)=false then 2
 else if qb6 c.labels.toNat (qaZ c.labels.toNat c.L)=false then 3
 else if qf4 c.inn c.out c.depth c.bytes=false then 4
 else if qaH c.B=false then 5
 else if 0≤qa3 c.labels.toNat c.pol.data.toList then 6 else 0
def qdN (c:Cfg):Int:=if qbw c=6 then qa3 c.labels.toNat c.pol.data.toList else 0
structure qir (w:World)(c:Cfg)(W:World):Prop where
 below:Below w.heap.size w W
 box:W.heap[w.heap.size]? = some (.cells c.arr 45)
theorem qir.step (h:qir w c W)(hb:Below W.heap.size W W'):qir w c W' :=
 ⟨h.below.trans (hb.mono h.below.size),(hb.block _ (ltA h.box)).trans h.box⟩
theorem qhW (w:World)(c:Cfg):qir w c (w.alloc (.cells c.arr 45)):=⟨bwA,qac _ _⟩
theorem qir.cell (h:qir w c W)(j:Nat):W.cell? ⟨w.heap.size,j,none⟩=c.arr[j]?:=qab h.box j
theorem qir.cfg (h:qir w c W)(hc:ql7 w c):ql7 W c:=hc.below h.below
theorem qqX (c:Cfg)(w:World)(h:ql7 w c):Calls prog 75 #[.agg c.arr] w fun e w'=>e=.returned (.bool (qbx c.labels c.L))∧Below w.heap.size w w':=by
 by_cases hc:1≤c.labels∧c.labels≤6∧c.L.length≤30
 ·have e:qbx c.labels c.L=qaO c.labels.toNat c.L:=by unfold qbx;rw[decide_eq_true hc];rfl
  rw[e];have hn:((c.labels.toNat:Nat):Int)=c.labels:=Int.toNat_of_nonneg (by omega);exact qnB c.arr c.labels.toNat c.L c.ea c.ecap ⟨c.size,by rw[hn];rfl,rfl⟩ (by omega) (by omega) hc.2.2 w h.edges
 have e:qbx c.labels c.L=false:=by unfold qbx;rw[decide_eq_false hc];rfl
 rw[e];exact qmk c.arr c.labels c.L c.ea c.ecap rfl rfl (by have:=h.eb;unfold maxLen;omega) w hc
theorem qdO (h:qbx c.labels c.L=true):((c.labels.toNat:Nat):Int)=c.labels∧qi4 c.arr c.labels.toNat c.L c.ea c.ecap:=by
 unfold qbx at h;rw[Bool.and_eq_true] at h;have hc:=of_decide_eq_true h.1;have hn:((c.labels.toNat:Nat):Int)=c.labels:=Int.toNat_of_nonneg (by omega);exact⟨hn,⟨⟨c.size,by rw[hn];rfl,rfl⟩,by omega,hc.2.2,h.2⟩⟩
def fnL (ks:List (List UInt8)):Lit→Option Nat
 |.string b=>if b∈ks then some (2+ks.idxOf b) else none
 |_=>none
theorem qes (h:b∈ks):fnL ks (.string b)=some (2+ks.idxOf b):=if_pos h
theorem qdP (h:b∉ks):fnL ks (.string b)=none:=if_neg h
theorem qtg (h:b∉ks):fnL (ks++[b]) (.string b)=some (2+ks.length):=by
 rw[qes (by simp),List.idxOf_append,if_neg h];simp
theorem qtQ (_h:b∉ks)(l:Lit)(hl:l≠.string b):fnL (ks++[b]) l=fnL ks l:=by
 cases l with
 |string c =>
  have hc:c≠b:=fun e=>hl (by rw[e]);by_cases hm:c∈ks
  ·rw[qes hm,qes (by simp[hm]),List.idxOf_append,if_pos hm]
  rw[qdP hm,qdP (by simp[hm,hc])]
 |_=>rfl
def ImK (W:World)(m:Nat)(ks:List (List UInt8)):Prop :=
 ∃D:DataW Unit,W.ownsMap prog 9 (plainElem prog 3) m ks.length D∧(∀l,Maps.has D l=(fnL ks l).isSome∧∀v:Nat,fnL ks l=some v→D.atKey l (.lit (.int .i64 0))=.lit (.int .i64 v))∧Maps.size D=ks.length
theorem ImK.im (h:ImK W m ks):qcW W 9 m ks.length (fnL ks):=by
 obtain⟨D,h1,h2,_⟩:=h;exact⟨D,h1,h2⟩
theorem ImK.kept {row:Option Nat}(h:ImK W m ks)(hg:W.grownBy W' row)(hne:some m≠row):ImK W' m ks:=by
 obtain⟨D,h1,h2⟩:=h;exact⟨D,h1.kept hg hne,h2⟩
theorem qh8 (W:World):ImK (W.alloc (.map #[] 0)) W.heap.size [] :=
 ⟨_,World.ownsMap_made W prog _ _,fun l=>⟨by cases l<;>simp[Maps.has,fnL],fun v h=>by cases l<;>simp[fnL] at h⟩,rfl⟩
theorem ImK.len (h:ImK W m ks)(ht:prog.underlying t=some (.map 9 3))(ty:TypeId):(Builtin.len_ #[t] ty #[.map (some m)]).run prog W=.ok (.int .i64 ks.length) W:=by
 obtain⟨D,h1,_,h3⟩:=h;rw[h1.len ht ty,h3]
theorem qpO (h:ImK W m ks)(ht:prog.underlying t=some (.map 9 3))(hn:ks.length<100000)(hb:b.length≤1000000000)(hnew:b∉ks):∃w',(Instr.mapUpdate t (.map (some m)) (.string ⟨b.toArray⟩) (.int .i64 ((2+ks.length:Nat):Int))).run prog W=.ok () w'∧ImK w' m (ks++[b])∧W.grownBy w' (some m):=by
 obtain⟨D,h1,h2,h3⟩:=h;have hk:=ql8 b hb;obtain⟨w',hr,ho,hT⟩:=h1.store stK ht (by unfold maxLen;omega) hk (plainElem_int underlying3 (qx0 (2+ks.length) (by omega)));have hno:Maps.has D (.string b)=false:=by rw[(h2 _).1,qdP hnew];rfl
 refine⟨w',hr,⟨_,by rw[List.length_append];exact ho,fun l => ?_,?_⟩,hT.grown⟩
 ·by_cases e:l=.string b
  ·subst e;rw[qtg hnew];refine⟨Maps.has_put_same h1.isMap (stK.key hk) _,fun u hu => ?_⟩;have hu2:=Option.some.inj hu;rw[←hu2];exact Maps.atKey_put_same h1.isMap (stK.key hk) _ _
  rw[qtQ hnew l e];exact⟨(Maps.has_put_other e _).trans (h2 l).1,fun u hu=>(Maps.atKey_put_other e _ _).trans ((h2 l).2 u hu)⟩
 rw[Maps.size_put (h1.tidy stK),hno,h3,List.length_append];rfl
def qhw (ks:List (List UInt8))(s:Nat×List UInt8):List (List UInt8):=if s.1=3∧s.2∉ks then ks++[s.2] else ks
def qsz (ks:List (List UInt8))(r:List (Nat×List UInt8)×Int×Int):List (List UInt8):=r.1.foldl qhw ks
def qcl (rs:List (List (Nat×List UInt8)×Int×Int)):List (List UInt8):=rs.foldl qsz []
theorem quH (ks:List (List UInt8))(s:Nat×List UInt8):(qhw ks s).length≤ks.length+1:=by
 unfold qhw;split<;>simp
theorem ql6:∀(ss:List (Nat×List UInt8)) (ks:List (List UInt8)),(ss.foldl qhw ks).length≤ks.length+ss.length
 |[],ks=>by simp
 |s::ss,ks=>by
  have h1:=ql6 ss (qhw ks s);have h2:=quH ks s;simp only[List.foldl_cons,List.length_cons];omega
end
end Go.Proofs.YtllcbnfmihfaaaaGreatDoor
