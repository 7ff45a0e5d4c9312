import Derived.Test.YtllcbnfmihfaaaaGreatDoorCq48
set_option maxRecDepth 100000
set_option maxHeartbeats 8000000
namespace Go.Proofs.YtllcbnfmihfaaaaGreatDoor
open Go.Proofs.Tryz
variable {V V' W W' W0 w:World}{A L N b b0 cap j mn:Nat}{q:Aut}{sts:List ((Nat→Nat)×Int×Int)}{bv sv v:Value}{mf nf:Lit→Option Nat}{td:Array Value}{c:Cfg}{ia:Option Addr}{bs fed l:List UInt8}{z:Cz}
section
open Go.RowKit Go.Lib
def qru (A:Nat)(q:Aut)(own0:Option Nat)(j:Nat):Prop:=j=A∨j=q.lm∨j=q.tb∨j=q.nb∨j=q.mb∨own0=some j
theorem qvO (h:qcj W0 A q sts sv nf mn mf W){cs:Array Value}(hL:W.heap[L]? = some (.cells cs 119))(hj:qru A q sv.ownBlock j):j≠L:=by
 intro e;subst e;rcases hj with rfl|rfl|rfl|rfl|rfl|hj
 ·rw[h.row] at hL;injection hL with hL;injection hL with _ hL _;exact absurd hL (by decide)
 ·exact qaD h.letters hL
 ·obtain⟨cur,k1,_⟩:=h.takes;rw[k1] at hL;injection hL with hL;injection hL with _ hL _;exact absurd hL (by decide)
 ·exact qaD h.numbers hL
 ·exact qaD h.moves hL
 exact absurd (qf0 h.states hj hL) (by decide)
theorem qqJ (h:qcj W0 A q sts sv nf mn mf W)(hj:qru A q sv.ownBlock j):j<W.heap.size:=by
 have hm:∀{kt:TypeId} {m n:Nat} {f:Lit→Option Nat},qcW W kt m n f→m<W.heap.size:=by
  rintro kt m n f ⟨D,⟨es,clock,h1,_⟩,_⟩;exact ltA h1
 rcases hj with rfl|rfl|rfl|rfl|rfl|hj
 ·exact ltA h.row
 ·exact hm h.letters
 ·obtain⟨cur,k1,_⟩:=h.takes;exact ltA k1
 ·exact hm h.numbers
 ·exact hm h.moves
 rcases h.states.2 with ⟨h0,_⟩|⟨g',cap,cur,h0,_,hh,_⟩
 ·rw[h0] at hj;cases hj
 rw[h0] at hj;injection hj with hj;have hj:g'=j:=hj;rw[←hj];exact ltA hh
theorem GOp.step {sa:Option Addr}{sc:Nat}(h:GOp c W0 L A q sts sa sc nf mf bv W)(hL:W0.heap.size≤L)(hw:W'.os=W.os∧W'.tape=W.tape∧W'.output=W.output)(hs:W.heap.size≤W'.heap.size)(hlo:∀j,j<L→W'.heap[j]? = W.heap[j]?)(hk:∀j,qru A q (Value.slice sa sts.length sc).ownBlock j→W'.heap[j]? = W.heap[j]?):GOp c W0 L A q sts sa sc nf mf bv W':=by
 have hb:=h.cp.au.below;refine⟨{h.cp with au:=h.cp.au.rebase rfl ⟨hw.1.trans hb.os,hw.2.1.trans hb.tape,hw.2.2.trans hb.output,Nat.le_trans hb.size hs,fun j hj=>(hlo j (by omega)).trans (hb.block j hj)⟩ h.cp.au.rules hk},h.bk.same (fun _ hg=>hg) (fun g hg=>hlo g hg.2),h.bs⟩
def qgo (c:Cfg)(b0 L b:Nat)(fed:List UInt8)(W:World):Prop :=
 ∃W0 A q sts sa sc nf mf bv fa fn fc,GOp c W0 L A q sts sa sc nf mf bv W∧(b0≤W0.heap.size∧W0.heap.size≤L∧L<b∧b≤W.heap.size)∧qko b0 W0∧W.heap[L]? = some (.cells (qay (gtC c A bv) (.slice fa fn fc) false) 119)∧Own W b (.slice fa fn fc) fed∧(∀j,qru A q (Value.slice sa sts.length sc).ownBlock j→j<b)∧fed.length≤c.bytes.toNat+1
theorem qgo.tab (h:qgo c b0 L b fed W):qko b0 W:=by
 obtain⟨W0,A,q,sts,sa,sc,nf,mf,bv,fa,fn,fc,h1,h2,h3,_⟩:=h;exact h3.below (h1.cp.au.below.mono h2.1)
theorem qgo.step (h:qgo c b0 L b fed W)(hb:Below W.heap.size W W'):qgo c b0 L b fed W':=by
 obtain⟨W0,A,q,sts,sa,sc,nf,mf,bv,fa,fn,fc,h1,h2,h3,h4,h5,h6,h7⟩:=h;have hl:=ltA h4;refine⟨W0,A,q,sts,sa,sc,nf,mf,bv,fa,fn,fc,h1.step h2.2.1 ⟨hb.os,hb.tape,hb.output⟩ hb.size (fun j hj=>hb.block j (by omega)) (fun j hj=>hb.block j (qqJ h1.cp.au hj)),⟨h2.1,h2.2.1,h2.2.2.1,Nat.le_trans h2.2.2.2 hb.size⟩,h3,(hb.block L hl).trans h4,qgt h5 hb,h6,h7⟩
theorem qv8 (c:Cfg)(w:World)(hc:ql7 w c)(ht:qko w.heap.size w):Calls prog 31 #[.agg c.arr] w fun e w'=>Below w.heap.size w w'∧((¬qbw c=0∧e=.returned (.tuple #[.pointer none,.int .i64 (qbw c)]))∨(qbw c=0∧∃L,e=.returned (.tuple #[.pointer (some ⟨L,0,none⟩),.int .i64 0])∧qgo c w.heap.size L w'.heap.size [] w')):=by
 refine(qqI c w hc ht.gl (fun h=>(qqt h).b8)).mono ?_;rintro e w' ⟨h1,h2⟩;refine⟨h1,?_⟩;rcases h2 with h2|⟨h2,W0,L,A,q,sts,sa,sc,nf,mf,bv,rfl,k1,k2,k3,k4,k5⟩
 ·exact .inl h2
 refine .inr ⟨h2,L,rfl,W0,A,q,sts,sa,sc,nf,mf,bv,none,0,0,k5,⟨k1,k2,by omega,Nat.le_refl _⟩,?_,?_,qip w',fun j hj=>qqJ k5.cp.au hj,Nat.zero_le _⟩
 ·have hb:=k5.cp.au.below;have hk:∀q,q<9→W0.heap[q]? = w.heap[q]?:=fun q hq=>by
   have h9:=ht.big.1;rw[←hb.block q (by omega)];exact h1.block q (by omega)
  refine ht.below ⟨hb.os.symm.trans h1.os,hb.tape.symm.trans h1.tape,hb.output.symm.trans h1.output,k1,fun j hj => ?_⟩;rw[←hb.block j (by omega)];exact h1.block j hj
 rw[←quf (qqt h2)];exact k4
theorem qgT (hk:∀q,q<9→V.heap[q]? = W.heap[q]?)(h:qeK W):qeK V:=by
 refine⟨h.u8.low hk,⟨fun u hu=>qbj hk (by decide) (h.hd.cb u hu),fun u hu=>⟨qbj hk (by decide) (h.hd.pk u hu).1,qbj hk (by decide) (h.hd.pk u hu).2.1,qbj hk (by decide) (h.hd.pk u hu).2.2⟩⟩,?_⟩;have h8:=hk 8 (by omega);have hb:=h.big;rw[Array.getElem?_eq_getElem (show 8<W.heap.size by omega)] at h8;exact ltA h8
theorem ql9 (ck:qnq c){U:World}(ht:qeK U)(fa:Option Addr)(fc:Nat)(l:List UInt8)(hl:l.length≤4097)(hb:qa4 U fa l)(A:Nat)(bv:Value):Calls prog 41 #[.int .i64 (gtC c A bv).inF,.agg #[.int .i64 (gtC c A bv).depth,.int .i64 (gtC c A bv).bytes],.slice fa l.length fc] U (qg6 (kC c) U (qgE c.inn l c.depth c.bytes)):=by
 have e:((c.bytes.toNat:Nat):Int)=c.bytes:=Int.toNat_of_nonneg (by have:=ck.byt;omega);have h:=qjq U c.inn fa l fc c.depth c.bytes ck.inn hb ht (by have:=ck.dep;omega) (by have:=ck.dep;omega) (by omega);rw[←e] at h;rw[e] at h;unfold gtC;dsimp only;rw[e];exact h
def qqs (c:Cfg)(fed bs:List UInt8):List UInt8:=fed++bs.take (c.bytes.toNat+1-fed.length)
theorem qvp (ck:qnq c)(h:qgo c b0 L b fed W)(ia:Option Addr)(cap:Nat)(bs:List UInt8)(hb:qa4 W ia bs)(hnil:ia=none→cap=0)(hcap:bs.length≤cap):Calls prog 32 #[.pointer (some ⟨L,0,none⟩),.slice ia bs.length cap] W fun e W'=>e=.returned (.int .i64 (quW (qgE c.inn (qqs c fed bs) c.depth c.bytes) (qqs c fed bs).length))∧qgo c b0 L b (qqs c fed bs) W'∧W.heap.size≤W'.heap.size∧Below b0 W W':=by
 have htab:=h.tab;obtain⟨W0,A,q,sts,sa,sc,nf,mf,bv,fa,fn,fc,h1,h2,h3,h4,h5,h6,h7⟩:=h;have hby:=ck.byt;have hll:(qqs c fed bs).length≤c.bytes.toNat+1:=by
  unfold qqs;rw[List.length_append,List.length_take];omega
 have hf:=qqT (kC c) W L b (gtC c A bv) (qi1 c A) (.slice fa fn fc) fed ia cap bs (qqs c fed bs) rfl h4 h5 h2.2.2.1 hb hnil hcap (by show c.bytes.toNat≤4096;omega) h7 (qgE c.inn (qqs c fed bs) c.depth c.bytes) (qlS _ _ _ _ (by have:=ck.dep;omega)) (fun U fa' fc' hU hB=>ql9 ck (qgT (fun q hq=>hU q (by have:=h3.big.1;omega)) htab.rd) fa' fc' _ (by omega) hB A bv);refine hf.mono ?_;rintro e W' ⟨fa',fn',fc',rfl,k1,k2,k3,k4,k5⟩;have hne:∀j,j<b→some j≠(Value.slice fa fn fc).ownBlock:=fun j hj e=>by have:=qbA h5.1 e.symm;omega
 have hlo:∀j,j<b→j≠L→W'.heap[j]? = W.heap[j]?:=fun j hj hn=>k5 j (by omega) hn (hne j hj);refine⟨rfl,⟨W0,A,q,sts,sa,sc,nf,mf,bv,fa',fn',fc',h1.step h2.2.1 k3 k4 (fun j hj=>hlo j (by omega) (by omega)) (fun j hj=>hlo j (h6 j hj) (qvO h1.cp.au h4 hj)),⟨h2.1,h2.2.1,h2.2.2.1,Nat.le_trans h2.2.2.2 k4⟩,h3,k2,k1,h6,hll⟩,k4,k3.1,k3.2.1,k3.2.2,by omega,fun j hj=>hlo j (by omega) (by omega)⟩
theorem qqD (hb:∃ba bc,bv=.slice ba c.B.length bc)(fa:Option Addr)(fn fc:Nat)(cl:Bool):(qay (gtC c A bv) (.slice fa fn fc) cl).all (·.oneCell')=true:=by
 obtain⟨ba,bc,rfl⟩:=hb;unfold qay gtC rcC;dsimp only;rw[Array.all_append,Array.all_append,Array.all_append,qe0];simp[Value.oneCell']
theorem qoh (h:Own W b v l)(hs:W.heap.size≤W'.heap.size)(hk:∀g,v.ownBlock=some g→W'.heap[g]? = W.heap[g]?):Own W' b v l:=⟨qdn h.1 hk,Nat.le_trans h.2.1 hs,h.2.2⟩
theorem que (h:Own W b v l){g:Nat}(e:v.ownBlock=some g):g<W.heap.size:=by
 rcases h.1.2 with ⟨h0,_⟩|⟨g',cap,cur,h0,_,hh,_⟩
 ·rw[h0] at e;cases e
 rw[h0] at e;injection e with e;have e:g'=g:=e;rw[←e];exact ltA hh
def qpj (c:Cfg)(b0 L:Nat)(l:List UInt8)(W:World)(e:Ending)(V':World):Prop :=
 ∃va vn vc,e=.returned (.tuple #[.slice va vn vc,.agg (qaF (czR (clO c l))),.int .i64 (czE (clO c l)),.int .i64 (czP (clO c l))])∧Below b0 W V'∧W.heap.size≤V'.heap.size∧V'.heap[L]? = some (.cells (qay gtZ (.slice none 0 0) true) 119)∧CzV V' W.heap.size (.slice va vn vc) (clO c l)
theorem qsk (ck:qnq c)(h:qgo c b0 L b fed W):Calls prog 33 #[.pointer (some ⟨L,0,none⟩)] W (qpj c b0 L fed W):=by
 have htab:=h.tab;obtain⟨W0,A,q,sts,sa,sc,nf,mf,bv,fa,fn,fc,h1,h2,h3,h4,h5,h6,h7⟩:=h;have hby:=ck.byt;have hL:=ltA h4;have hfl:fed.length≤4097:=by omega
 obtain⟨fa',fc',ev,hbt⟩:=qc8 h5;injection ev with e1 e2 e3;subst e1;subst e2;subst e3;have hcw:∀j,j<W.heap.size→j≠L→(clW W L (gtC c A bv) (.slice fa fed.length fc)).heap[j]? = W.heap[j]?:=fun j a b=>qgj _ _ _ _ j a b;have hcs:=qft W L (gtC c A bv) (.slice fa fed.length fc);have hO3:=qoh h5 (by omega) (fun g e=>hcw g (que h5 e) (by have:=qbA h5.1 e;omega));have hG3:=h1.step h2.2.1 (qpV _ _ _ _) (by omega) (fun j hj=>hcw j (by omega) (by omega)) (fun j hj=>hcw j (qqJ h1.cp.au hj) (qvO h1.cp.au h4 hj));have hT3:=qgT (fun q hq=>hcw q (by have:=h3.big.1;omega) (by have:=h3.big.1;omega)) htab.rd;have hcp:=ql2 W L (gtC c A bv) (.slice fa fed.length fc) hL;have hcl:=qnd (Xc A q (Value.slice sa sts.length sc).ownBlock) (kC c) W L (gtC c A bv) (qi1 c A) fa fed.length fc (qqD h1.bs fa fed.length fc false) h4 (qgE c.inn fed c.depth c.bytes) (qlS _ _ _ _ (by have:=ck.dep;omega)) (clO c fed)
  (fun U hU=>by
   obtain⟨fa',fc',ev,hb3⟩:=qc8 (qgt hO3 hU);injection ev with e1 e2 e3;subst e1;exact ql9 ck (hT3.below hU) fa fc fed hfl hb3 A bv)
  (fun e he=>by unfold clO;rw[he])
  (fun d hd=>by
   refine⟨_,_,(by unfold clO;rw[hd]),fun V t y hV hth U hU => ?_⟩;have hsz:=qoS c.inn fed c.depth c.bytes (by have:=ck.dep;omega) hd (kC c);have hUV:=hV.trans (hU.mono hV.size);have hGU:=hG3.step h2.2.1 ⟨hUV.os,hUV.tape,hUV.output⟩ hUV.size (fun j hj=>hUV.block j (by omega)) (fun j hj=>hUV.block j (qqJ hG3.cp.au hj));have hthU:=hth.same (fun j hj=>Nat.lt_of_lt_of_le hj.2 hU.size) (fun j hj=>hU.block j hj.2);have hrz:=qvu (rvC c) (kC c) d (0,0,0,0);obtain⟨ba,bc,hbv⟩:=hGU.bs;have hbU:=hGU.cp.au.below.mono h2.1;have hfr:∀V',Frx (Xc A q (Value.slice sa sts.length sc).ownBlock) U V'→Below b0 W0 V':=fun V' hF=>by
    refine⟨hF.world.1.trans hbU.os,hF.world.2.1.trans hbU.tape,hF.world.2.2.trans hbU.output,Nat.le_trans hbU.size hF.rows.size,fun j hj=>(hF.block j (by have:=hbU.size;omega) ⟨?_,?_,?_,?_⟩).trans (hbU.block j hj)⟩
    ·have:=hGU.cp.au.high.1;omega
    ·have:=hGU.cp.au.high.2.2.2.1;omega
    ·have:=hGU.cp.au.high.2.2.2.2;omega
    intro e;have:=qbA hGU.cp.au.states e.symm;omega
   refine qm9 (Xc A q (Value.slice sa sts.length sc).ownBlock) (kC c) U (W.heap.size+1) (gtC c A bv) (qi1 c A) (.slice fa fed.length fc) false ((hUV.block _ (by omega)).trans hcp) t y _ _ ba bc c.B hbv ck.b8 ck.b6 ck.out (by omega) (fun V' hF => ?_) (fun V' hF=>h3.up (hfr V' hF)) (fun U' hU'=>qsV ck hGU h3 hU' hthU (by omega));have hrow:=hGU.bk;rw[hbv] at hrow;exact qqv (hrow.kept (fun _ hg=>hg) hF.rows (by decide) (by decide) (by decide)))
 refine hcl.mono ?_;rintro e V' ⟨va,vn,vc,rfl,k1,k2,k3⟩;refine⟨va,vn,vc,rfl,⟨k1.world.1,k1.world.2.1,k1.world.2.2,Nat.le_trans (by omega) k1.size,fun j hj=>k1.block j (by omega) (by omega) ⟨?_,?_,?_,?_⟩⟩,k1.size,k2,k3⟩
 ·have:=h1.cp.au.high.1;omega
 ·have:=h1.cp.au.high.2.2.2.1;omega
 ·have:=h1.cp.au.high.2.2.2.2;omega
 intro e;have:=qbA h1.cp.au.states e.symm;omega
theorem qsT (c:Int)(n:Nat)(w:World)(h1:1≤n)(hn:n≤maxLen)(hc : -9223372036854775808≤c)(hc2:c≤9223372036854775807):Calls prog 23 #[.int .i64 c,.int .i64 n] w fun e w'=>e=.returned (.int .i64 (qie c n))∧w'=w:=by
 unfold maxLen at hn;have hpos:(0:Int)<n:=by omega
 by_cases h:c<0
 ·have HF:Hid ((qie c n:Int)=(-(c+1))%n):=by
   have e1:=Int.emod_nonneg (-(c+1)) (show(n:Int)≠0 by omega);show _=_;unfold qie;rw[if_pos h,Int.toNat_of_nonneg e1]
  go_enter func23,ntmps23;go_wp2;go_ret;have e3 : -((c+1).tmod n)=(-(c+1))%n:=by rw[←Int.neg_tmod,Int.tmod_eq_emod_of_nonneg (by omega)]
  exact⟨by rw[HF.out,←e3];rfl,rfl⟩
 have HF:Hid ((qie c n:Int)=c%n):=by
  have e1:=Int.emod_nonneg c (show(n:Int)≠0 by omega);show _=_;unfold qie;rw[if_neg h,Int.toNat_of_nonneg e1]
 go_enter func23,ntmps23;go_wp2;go_ret;exact⟨by rw[HF.out];rfl,rfl⟩
theorem qis (W:World)(l:List UInt8)(hl:l.length≤maxLen):∃cap V,(convert 9 28 (.string ⟨l.toArray⟩)).run prog W=.ok (.slice (some ⟨W.heap.size,0,none⟩) l.length cap) V∧Below W.heap.size W V∧qa4 V (some ⟨W.heap.size,0,none⟩) l∧l.length≤cap:=by
 have h:=run_bytes_of_string (P:=prog) W 9 28 5 ⟨l.toArray⟩ underlying9 underlying28 underlying5;have hs:(⟨l.toArray⟩:ByteArray).size=l.length:=List.size_toArray ..;refine⟨_,_,by rw[←hs];exact h,((Below.refl _ _).drew).alloc (Nat.le_refl _) _,⟨fun i hi=>⟨W.heap.size,0,rfl,by rw[World.size_alloc];exact Nat.lt_succ_self _,?_⟩,hl⟩,by rw[hs];exact grownCap_ge _ _ _ _⟩;rw[Nat.zero_add];refine(World.cell?_alloc_mark W.drew _ _ _ i).trans ((bytesRow_at ⟨l.toArray⟩ _ i (by simpa using hi)).trans ?_);simp
theorem qt8 (s:ByteArray)(p:Nat)(hp:p≤s.size)(w:World):(Instr.sliceAt 9 (.string s) none (some (.int .i64 p)) none).run prog w=.ok (.string (s.extract 0 p)) w:=by
 have h0:(0:Int)≤(p:Int):=by omega
 have h1:(p:Int)≤(s.size:Int):=by omega
 have hu:=underlying9;simp only[go_sem,hu,h0,h1,Int.toNat_natCast]
theorem qtd (s:ByteArray)(p:Nat)(hp:p≤s.size)(w:World):(Instr.sliceAt 9 (.string s) (some (.int .i64 p)) none none).run prog w=.ok (.string (s.extract p s.size)) w:=by
 have h0:(0:Int)≤(p:Int):=by omega
 have h1:(p:Int)≤(s.size:Int):=by omega
 have hu:=underlying9;simp only[go_sem,hu,h0,h1,Int.toNat_natCast]
theorem qtO (s:ByteArray)(p q:Nat)(hp:p≤q)(hq:q≤s.size)(w:World):(Instr.sliceAt 9 (.string s) (some (.int .i64 p)) (some (.int .i64 q)) none).run prog w=.ok (.string (s.extract p q)) w:=by
 have h0:(0:Int)≤(p:Int):=by omega
 have h1:(p:Int)≤(q:Int):=by omega
 have h2:(q:Int)≤(s.size:Int):=by omega
 have hu:=underlying9;simp only[go_sem,hu,h0,h1,h2,Int.toNat_natCast]
theorem qqa (l:List UInt8)(p q:Nat):(⟨l.toArray⟩:ByteArray).extract p q=⟨((l.take q).drop p).toArray⟩:=by
 apply ByteArray.ext;rw[ByteArray.data_extract];apply Array.ext';rw[Array.toList_extract,List.extract_eq_take_drop];show(l.drop p).take (q-p)=(l.take q).drop p;rw[List.drop_take]
theorem qhS (l:List UInt8):(⟨l.toArray⟩:ByteArray).size=l.length:=List.size_toArray ..
theorem qvj (l:List UInt8)(p:Nat)(hp:p≤l.length)(w:World):(Instr.sliceAt 9 (.string ⟨l.toArray⟩) none (some (.int .i64 p)) none).run prog w=.ok (.string ⟨(l.take p).toArray⟩) w:=by
 have h:=qt8 ⟨l.toArray⟩ p (by rw[qhS];exact hp) w;rw[qqa] at h;exact h
theorem qvU (l:List UInt8)(p:Nat)(hp:p≤l.length)(w:World):(Instr.sliceAt 9 (.string ⟨l.toArray⟩) (some (.int .i64 p)) none none).run prog w=.ok (.string ⟨(l.drop p).toArray⟩) w:=by
 have h:=qtd ⟨l.toArray⟩ p (by rw[qhS];exact hp) w;rw[qqa,qhS,List.take_length] at h;exact h
theorem qvS (l:List UInt8)(p q:Nat)(hp:p≤q)(hq:q≤l.length)(w:World):(Instr.sliceAt 9 (.string ⟨l.toArray⟩) (some (.int .i64 p)) (some (.int .i64 q)) none).run prog w=.ok (.string ⟨((l.take q).drop p).toArray⟩) w:=by
 have h:=qtO ⟨l.toArray⟩ p q hp (by rw[qhS];exact hq) w;rw[qqa] at h;exact h
theorem qko.top (h:qko b W):qko W.heap.size W:=⟨h.rd,h.up bwR,h.db,h.gl,by have:=h.big;omega,Nat.le_refl _⟩
theorem qjx (c:Cfg)(l bs:List UInt8):qqs c (l.take (c.bytes.toNat+1)) bs=(l++bs).take (c.bytes.toNat+1):=by
 unfold qqs;rw[List.take_append,List.length_take];by_cases h:l.length≤c.bytes.toNat+1
 ·rw[Nat.min_eq_right h]
 rw[Nat.min_eq_left (by omega),Nat.sub_self,show c.bytes.toNat+1-l.length=0 by omega]
def czS (z:Cz):List UInt8:=match z with
 |.ok (_,.ok l)=>l
 |_=>[]
theorem qow {base:Nat}(h:CzV V base v z):(convert 28 9 v).run prog V=.ok (.string ⟨(czS z).toArray⟩) V:=by
 match z,h with
 |.ok (_,.ok l),h=>exact qkU h
 |.ok (_,.error _),h =>
  have h:v=.slice none 0 0:=h;rw[h];exact qle V
 |.error _,h =>
  have h:v=.slice none 0 0:=h;rw[h];exact qle V
def tdA (s:List UInt8)(R:Rep)(e p:Int):Array Value:=#[.string ⟨s.toArray⟩,.int .i64 R.1,.int .i64 R.2.1,.int .i64 R.2.2.1,.int .i64 R.2.2.2,.int .i64 e,.int .i64 p]
def tdZ:Array Value:=tdA [] (0,0,0,0) 0 0
theorem qnP (e:Int):prog.built 52 [(2,.int .i64 e)]=some (tdA [] (0,0,0,0) e 0):=by kernel_rfl
theorem qnK (s:List UInt8)(R:Rep)(e p:Int):prog.built 52 [(0,.string ⟨s.toArray⟩),(1,.agg (qaF R)),(2,.int .i64 e),(3,.int .i64 p)]=some (tdA s R e p):=by kernel_rfl
theorem qh3 (s:List UInt8)(R:Rep)(e p:Int):(prog.info? 52).map (·.size)=some (tdA s R e p).size:=by kernel_rfl
theorem qmf (s:List UInt8)(R:Rep)(e p:Int):(tdA s R e p).all (·.oneCell')=true:=by simp[tdA,Value.oneCell']
def tdO (c:Cfg)(l:List UInt8):Array Value:=if qbw c=0 then tdA (czS (clO c (l.take (c.bytes.toNat+1)))) (czR (clO c (l.take (c.bytes.toNat+1)))) (czE (clO c (l.take (c.bytes.toNat+1)))) (czP (clO c (l.take (c.bytes.toNat+1)))) else tdA [] (0,0,0,0) (qbw c) 0
theorem qhe {P:Program}{fn:Func}{p u:Tmp}{ty:TypeId}(h:fn.results=#[.cell p ty,.tmp u])(tmps:Array Value)(w:World)(g:Nat)(t:TypeId)(cs:Array Value)(fr:Nat×Nat)(d:TypeDesc)(hp:tmps.getD p undef=.pointer (some ⟨g,0,none⟩))(hg:w.heap[g]? = some (.cells cs t fr))(hu:P.underlying ty=some d)(hd:(match d with|.struct _|.array _ _=>true|_=>false)=true)(hi:(P.info? ty).map (·.size)=some cs.size)(v:Value)(hv:tmps.getD u undef=v):(results fn tmps).run P w=.ok (.tuple #[.agg cs,v]) w:=by
 have e:(results fn tmps).run P w=((asAddr (tmps.getD p undef)).run P w).andThen fun a w₁=>((loadVar ty a).run P w₁).andThen fun v w₂=>.ok (.tuple #[v,tmps.getD u undef]) w₂:=by
  simp only[results,h];simp[Sem.run_bind,Result.andThen]
 subst hv;rw[e,hp];simp only[asAddr,Sem.run_pure,Result.andThen_ok,run_loadVar_row w g t ty cs fr d hg hu hd hi]
structure qkm (w:World)(c:Cfg)(V:World):Prop where
 below:Below w.heap.size w V
 cfg:V.heap[w.heap.size]? = some (.cells c.arr 45)
 told:V.heap[w.heap.size+1]? = some (.cells tdZ 52)
theorem qkm.step (h:qkm w c V)(hb:Below b V V')(hs:w.heap.size+2≤b):qkm w c V' :=
 ⟨h.below.trans (hb.mono (by omega)),(hb.block _ (by omega)).trans h.cfg,(hb.block _ (by omega)).trans h.told⟩
theorem qkm.next (h:qkm w c V)(hb:Below V.heap.size V V'):qkm w c V' :=
 h.step hb (by have:=ltA h.told;omega)
theorem quJ (w:World)(c:Cfg):qkm w c ((w.alloc (.cells c.arr 45)).alloc (.cells tdZ 52)):=by
 have h:=qac (w.alloc (.cells c.arr 45)) (.cells tdZ 52);rw[World.size_alloc] at h;exact⟨(bwA).alloc (by rw[World.size_alloc];omega) _,(Below.heap_alloc _ _ _ (by rw[World.size_alloc];omega)).trans (qac w _),h⟩
def qwc (w:World)(c:Cfg)(b0 L b:Nat)(l:List UInt8)(e:Ending)(V':World):Prop :=
 ∃en,e=.returned (.int .i64 en)∧qkm w c V'∧qgo c b0 L b (l.take (c.bytes.toNat+1)) V'
theorem qwm (ck:qnq c)(hP:qkm w c V)(hG:qgo c b0 L b (l.take (c.bytes.toNat+1)) V)(hb0:w.heap.size+2≤b0)(hb:qa4 V ia bs)(hia:ia≠none)(hcap:bs.length≤cap):Calls prog 32 #[.pointer (some ⟨L,0,none⟩),.slice ia bs.length cap] V (qwc w c b0 L b (l++bs)):=by
 refine(qvp ck hG ia cap bs hb (fun e=>absurd e hia) hcap).mono ?_;rintro e V' ⟨rfl,h1,_,h3⟩;rw[qjx] at h1;exact⟨_,rfl,hP.step h3 hb0,h1⟩
theorem qvB (h:CzV V b v z)(hb:Below V.heap.size V V'):CzV V' b v z:=by
 match z,h with
 |.ok (_,r),h=>exact PoV.same (r:=r) h fun l k=>qgt k hb
 |.error _,h=>exact h
theorem qmP (c:Cfg)(w:World)(hc:ql7 w c)(ht:qko w.heap.size w)(s:List UInt8)(hs:s.length≤maxLen)(pc:Nat)(hpc:1≤pc)(hpc2:pc≤maxLen+1):Calls prog 28 #[.agg c.arr,.string ⟨s.toArray⟩,.int .i64 pc] w fun e w'=>e=.returned (.tuple #[.agg (tdO c s),.bool true])∧Below w.heap.size w w':=by
 have HS:=qaa c.size;have HC:=qaa hc;have HT:=qaa ht;have HP1:=qaa (quJ w c);have cK:=qjE c ((w.alloc (.cells c.arr 45)).alloc (.cells tdZ 52)) (hc.below HP1.out.below) (ht.below HP1.out.below).gl;have HW1:Hid (∀V,qkm w c V→Calls prog 31 #[.agg c.arr] V fun e w'=>Below V.heap.size V w'∧((¬qbw c=0∧e=.returned (.tuple #[.pointer none,.int .i64 (qbw c)]))∨(qbw c=0∧∃L,e=.returned (.tuple #[.pointer (some ⟨L,0,none⟩),.int .i64 0])∧qgo c V.heap.size L w'.heap.size [] w'))):=fun V hV=>qv8 c V (hc.below hV.below) (ht.below hV.below).top;by_cases h0:qbw c=0
 ·have HCK:=qaa (qqt h0);obtain⟨z,HZ⟩:∃z,Hid (clO c (s.take (c.bytes.toNat+1))=z):=⟨_,rfl⟩
  have HTO:Hid (tdO c s=tdA (czS z) (czR z) (czE z) (czP z)):=by show _=_;unfold tdO;rw[if_pos h0,HZ.out]
  rw[HTO.out];have HW2:Hid (∀V,qkm w c V→Calls prog 31 #[.agg c.arr] V fun e w'=>∃L,e=.returned (.tuple #[.pointer (some ⟨L,0,none⟩),.int .i64 0])∧qkm w c w'∧qgo c V.heap.size L w'.heap.size [] w'):=fun V hV=>(HW1.out V hV).mono (by
   rintro e w' ⟨h1,h2⟩;rcases h2 with ⟨h2,_⟩|⟨_,L,h3,h4⟩
   ·exact absurd h0 h2
   exact⟨L,h3,hV.next h1,h4⟩)
  rw[h0] at cK;go_enter func28,ntmps28
  go_wp2_with (first
   |(refine wpList_load_row rfl 45 _ rfl w.heap.size rfl _ _ _ _ HP1.out.cfg underlying45 rfl (qaV HS.out) ?_)
   |(go_at_call 47;refine cK.mono ?_;rintro e w2 ⟨rfl,hB2⟩;have HP2:=qaa (HP1.out.next hB2);have cO:=HW2.out w2 HP2.out;have HB0:Hid (w.heap.size+2≤w2.heap.size):=(Array.getElem?_eq_some_iff.1 HP2.out.told).1)
   |(refine wpList_load_row rfl 45 _ rfl w.heap.size rfl _ _ _ _ HP2.out.cfg underlying45 rfl (qaV HS.out) ?_)
   |(go_at_call 31;refine cO.mono ?_;rintro e w3 ⟨L,rfl,hP3,hG3⟩;have HP3:=qaa hP3;have HG3:=qaa hG3))
  generalize w3.heap.size=b3 at *;generalize w2.heap.size=b2 at *
  go_loopg [1] s.length (fun g y V=>∃dn rest:List UInt8,y=.string ⟨rest.toArray⟩∧Hid (dn++rest=s)∧Hid (rest.length≤g)∧Hid (qkm w c V)∧Hid (qgo c b2 L b3 (dn.take (c.bytes.toNat+1)) V))
  case atStart=>exact⟨[],s,rfl,rfl,Nat.le_refl _,HP3,by rw[List.take_nil];exact HG3⟩
  case round =>
   obtain⟨dn,rest,rfl,HD,HR,HP,HG⟩:=hrel;have hrl:rest.length≤maxLen:=by have h:=congrArg List.length HD.out;rw[List.length_append] at h;omega
   by_cases hlt:(pc:Int)<(rest.length:Int)
   ·cases gk with
    |zero=>have:=HR.out;omega
    |succ g =>
     have hle:pc≤rest.length:=by omega
     have hsl:=fun w=>qvj rest pc hle w;have hsl2:=fun w=>qvU rest pc hle w;have htk:(rest.take pc).length≤maxLen:=by rw[List.length_take];omega
     obtain⟨tp,HTP⟩:∃tp,Hid (rest.take pc=tp):=⟨_,rfl⟩
     obtain⟨dp,HDP⟩:∃dp,Hid (rest.drop pc=dp):=⟨_,rfl⟩
     rw[HTP.out] at htk;simp only[HTP.out] at hsl;simp only[HDP.out] at hsl2;obtain⟨cap,V2,hcv,hB2,hby,hcap⟩:=qis wr tp htk;have cF:=qwm HCK.out (HP.out.next hB2) (HG.out.step hB2) HB0.out hby (by simp) hcap
     go_wp2_with (first
      |(go_at_call 32;refine cF.mono ?_;rintro e w5 ⟨en,rfl,hP5,hG5⟩;have HP5:=qaa hP5;have HG5:=qaa hG5))
     go_roundg g
     case measure=>omega
     case rel=>exact⟨dn++tp,dp,rfl,by show _=_;rw[←HTP.out,←HDP.out,List.append_assoc,List.take_append_drop];exact HD.out,by show _≤_;rw[←HDP.out,List.length_drop];have:=HR.out;omega,HP5,HG5⟩
   obtain⟨cap,V2,hcv,hB2,hby,hcap⟩:=qis wr rest hrl;have cF:=qwm HCK.out (HP.out.next hB2) (HG.out.step hB2) HB0.out hby (by simp) hcap;rw[HD.out] at cF;obtain⟨R1,HR1⟩:∃R1,Hid (czR z=R1):=⟨_,rfl⟩
   obtain⟨E1,HE1⟩:∃E1,Hid (czE z=E1):=⟨_,rfl⟩
   obtain⟨P1,HP1'⟩:∃P1,Hid (czP z=P1):=⟨_,rfl⟩
   obtain⟨S1,HS1⟩:∃S1,Hid (czS z=S1):=⟨_,rfl⟩
   go_wp2_with (first
    |(go_at_call 32;refine cF.mono ?_;rintro e w5 ⟨en,rfl,hP5,hG5⟩;have HP5:=qaa hP5;have cC:=qsk HCK.out hG5;unfold qpj at cC;rw[HZ.out,HR1.out,HE1.out,HP1'.out] at cC)
    |(go_at_call 33;refine cC.mono ?_;rintro e w6 ⟨va,vn,vc,rfl,hB6,_,_,hV6⟩;have hback:=qow (qvB hV6 ((Below.refl w6.heap.size w6).alloc (Nat.le_refl _) (.cells (qaF R1) 50)));rw[HS1.out] at hback;have HP6:Hid (qkm w c (w6.alloc (.cells (qaF R1) 50))):=(HP5.out.step hB6 HB0.out).next bwA)
    |(refine wpList_store_row rfl 50 _ _ rfl w6.heap.size (qaF R1) rfl rfl 50 _ (qac w6 _) (qaS R1) rfl (qdV R1) ?_;rw[World.setRow_alloc_new])
    |(refine wpList_load_row rfl 50 _ rfl w6.heap.size rfl _ _ _ _ (qac w6 _) underlying50 rfl (qaS R1) ?_)
    |(refine qak rfl 52 _ rfl _ rfl _ [(0,.string ⟨S1.toArray⟩),(1,.agg (qaF R1)),(2,.int .i64 E1),(3,.int .i64 P1)] ?hl (qnK S1 R1 E1 P1) ?_;case hl=>simp[go_sem])
    |(refine wpList_store_row rfl 52 _ _ rfl (w.heap.size+1) (tdA S1 R1 E1 P1) rfl rfl 52 _ HP6.out.told (qh3 _ _ _ _) rfl (qmf _ _ _ _) ?_))
   refine bodyPost_ret (qhe results28 _ _ (w.heap.size+1) 52 (tdA S1 R1 E1 P1) (0,0) _ rfl (setRow_heap _ _ _ _ _ _ HP6.out.told) underlying52 rfl (qh3 _ _ _ _) _ rfl) rfl ?_;rw[HR1.out,HE1.out,HP1'.out,HS1.out];exact⟨rfl,qah HP6.out.below (by omega) _⟩
 have HTO:Hid (tdO c s=tdA [] (0,0,0,0) (qbw c) 0):=if_neg h0;rw[HTO.out];have HW2:Hid (∀V,qkm w c V→Calls prog 31 #[.agg c.arr] V fun e w'=>e=.returned (.tuple #[.pointer none,.int .i64 (qbw c)])∧qkm w c w'):=fun V hV=>(HW1.out V hV).mono (by
  rintro e w' ⟨h1,h2⟩;rcases h2 with ⟨_,h2⟩|⟨h2,_⟩
  ·exact⟨h2,hV.next h1⟩
  exact absurd h2 h0)
 generalize qbw c=E at *;have e1:(E==0)=false:=by simpa using h0
 have e2:(E != E)=false:=by simp
 have e3:(E==E)=true:=by simp
 go_enter func28,ntmps28
 go_wp2_with (first
  |(refine wpList_load_row rfl 45 _ rfl w.heap.size rfl _ _ _ _ HP1.out.cfg underlying45 rfl (qaV HS.out) ?_)
  |(go_at_call 47;refine cK.mono ?_;rintro e w2 ⟨rfl,hB2⟩;have HP2:=qaa (HP1.out.next hB2);have cO:=HW2.out w2 HP2.out)
  |(refine wpList_load_row rfl 45 _ rfl w.heap.size rfl _ _ _ _ HP2.out.cfg underlying45 rfl (qaV HS.out) ?_)
  |(go_at_call 31;refine cO.mono ?_;rintro e w3 ⟨rfl,hP3⟩;have HP3:=qaa hP3)
  |(refine qak rfl 52 _ rfl _ rfl _ [(2,.int .i64 E)] ?hl (qnP E) ?_;case hl=>simp[go_sem])
  |(refine wpList_store_row rfl 52 _ _ rfl (w.heap.size+1) (tdA [] (0,0,0,0) E 0) rfl rfl 52 _ HP3.out.told (qh3 _ _ _ _) rfl (qmf _ _ _ _) ?_))
 refine bodyPost_ret (qhe results28 _ _ (w.heap.size+1) 52 (tdA [] (0,0,0,0) E 0) (0,0) _ rfl (setRow_heap _ _ _ _ _ _ HP3.out.told) underlying52 rfl (qh3 _ _ _ _) _ rfl) rfl ?_;exact⟨rfl,qah HP3.out.below (by omega) _⟩
structure qhH (w:World)(c:Cfg)(N:Nat)(td:Array Value)(V:World):Prop where
 below:Below w.heap.size w V
 cfg:V.heap[w.heap.size]? = some (.cells c.arr 45)
 told:V.heap[N]? = some (.cells td 52)
 lt:w.heap.size<N
theorem qhH.step (h:qhH w c N td V)(hb:Below b V V')(hs:N<b):qhH w c N td V' :=
 ⟨h.below.trans (hb.mono (by have:=h.lt;omega)),(hb.block _ (by have:=h.lt;omega)).trans h.cfg,(hb.block _ hs).trans h.told,h.lt⟩
theorem qhH.next (h:qhH w c N td V)(hb:Below V.heap.size V V'):qhH w c N td V' :=
 h.step hb (ltA h.told)
def feE (c:Cfg)(l:List UInt8):Int:=quW (qgE c.inn (l.take (c.bytes.toNat+1)) c.depth c.bytes) (l.take (c.bytes.toNat+1)).length
theorem qje (ck:qnq c)(t:List UInt8)(h:¬feE c l=0):feE c (l++t)=feE c l:=by
 have hd:0≤c.depth:=by have:=ck.dep;omega
 unfold feE at h ⊢;have e:(l++t).take (c.bytes.toNat+1)=l.take (c.bytes.toNat+1)++t.take (c.bytes.toNat+1-l.length):=List.take_append;rw[e];generalize l.take (c.bytes.toNat+1)=l' at *;generalize t.take (c.bytes.toNat+1-l.length)=t' at *
 cases hr:qgE c.inn l' c.depth c.bytes with
 |ok d=>rw[hr] at h;exact absurd rfl h
 |error x =>
  obtain⟨en,pl⟩:=x;rw[hr] at h;by_cases hp:pl=l'.length
  ·exact absurd (if_pos hp) h
  obtain⟨h1,h2⟩:=qhy c.inn l' t' c.depth c.bytes hd hr hp;rw[h2];show(if pl=_ then _ else _)=(if pl=_ then _ else _)
  rw[if_neg hp,if_neg (by rw[List.length_append];omega)]
theorem qp2 (ck:qnq c)(h:¬feE c l=0):czE (clO c (l.take (c.bytes.toNat+1)))=feE c l∧czP (clO c (l.take (c.bytes.toNat+1)))<l.length:=by
 have hd:0≤c.depth:=by have:=ck.dep;omega
 have hl:(l.take (c.bytes.toNat+1)).length≤l.length:=by rw[List.length_take];omega
 unfold feE clO at *;generalize l.take (c.bytes.toNat+1)=l' at *
 cases hr:qgE c.inn l' c.depth c.bytes with
 |ok d=>rw[hr] at h;exact absurd rfl h
 |error x =>
  obtain⟨en,pl⟩:=x;rw[hr] at h;by_cases hp:pl=l'.length
  ·exact absurd (if_pos hp) h
  obtain⟨h1,h2⟩:=qhy c.inn l' [] c.depth c.bytes hd hr hp;refine⟨?_,?_⟩
  ·show en=(if pl=_ then _ else _)
   rw[if_neg hp]
  show pl<_;omega
theorem quG (ck:qnq c)(hP:qhH w c N td V)(hG:qgo c b0 L b (l.take (c.bytes.toNat+1)) V)(hb0:N<b0)(hb:qa4 V ia bs)(hia:ia≠none)(hcap:bs.length≤cap):Calls prog 32 #[.pointer (some ⟨L,0,none⟩),.slice ia bs.length cap] V fun e V'=>e=.returned (.int .i64 (feE c (l++bs)))∧qhH w c N td V'∧qgo c b0 L b ((l++bs).take (c.bytes.toNat+1)) V':=by
 refine(qvp ck hG ia cap bs hb (fun e=>absurd e hia) hcap).mono ?_;rintro e V' ⟨rfl,h1,_,h3⟩;rw[qjx] at h1 ⊢;exact⟨rfl,hP.step h3 hb0,h1⟩
end
end Go.Proofs.YtllcbnfmihfaaaaGreatDoor
