import Derived.Test.YtcokgepdckkjdaaGreatDoorRq23
set_option maxRecDepth 100000
set_option maxHeartbeats 8000000
namespace Go.Proofs.YtcokgepdckkjdaaGreatDoor
open Go.Proofs.Tryz
variable {W w:World}{O:Array Value}{c:Cfg}
section
open Go.RowKit Go.Shelf
theorem qba {P:Program}{fn:Func}{p u u2:Tmp}{ty:TypeId}(h:fn.results=#[.cell p ty,.tmp u,.tmp u2])(b:Array Value)(w:World)(g:Nat)(t:TypeId)(cs:Array Value)(c:Nat×Nat)(d:TypeDesc)(k:b.getD p undef=.pointer (some ⟨g,0,none⟩))(j:w.heap[g]? = some (.cells cs t c))(l:P.underlying ty=some d)(i:(match d with|.struct _|.array _ _=>true|_=>false)=true)(hi:(P.info? ty).map (·.size)=some cs.size)(v f:Value)(m:b.getD u undef=v)(n:b.getD u2 undef=f):(results fn b).run P w=.ok (.tuple #[.agg cs,v,f]) w:=by
 have e:(results fn b).run P w=((asAddr (b.getD p undef)).run P w).andThen fun a o=>((loadVar ty a).run P o).andThen fun v q=>.ok (.tuple #[v,b.getD u undef,b.getD u2 undef]) q:=by
  simp only[results,h];simp[Sem.run_bind,Result.andThen]
 subst m n;rw[e,k];simp only[asAddr,Sem.run_pure,Result.andThen_ok,run_loadVar_row w g t ty cs c d j l i hi]
def qbZ (O:Array Value)(a:Option Addr)(k c:Nat):Array Value:=O.push (.slice a k c)
def qcG:Array Value:=qbZ qaB none 0 0
theorem qdx:prog.built 90 []=some qcG:=by kernel_rfl
theorem qoc (n:Nat)(m:Nat->Nat->Bool)(a:Option Addr)(k c:Nat):prog.built 90 [(0,.agg (qan n m)),(1,.slice a k c)]=some (qbZ (qan n m) a k c):=by kernel_rfl
theorem qtZ:(prog.info? 90).map (·.size)=some 38:=by kernel_rfl
theorem qj1 (ρ:Operand->Value)(o:Oper)(a:o.op=.alloc 90)(w:World):(execOp ρ o).run prog w=.ok (.value (.pointer (some ⟨w.heap.size,0,none⟩))) (w.alloc (.cells qcG 90)):=by
 unfold execOp;rw[a];kernel_rfl
theorem qch {ops:Array Oper}{rest:List Oper}{o:Oper}{a:Act}{Q:Exit->Act->World->Prop}(e:o.guard=none)(f:o.op=.alloc 90)(d:Option Tmp)(c:o.dst=d)(N:Nat)(b:w.heap.size=N)(h:wpList prog ops Q rest (a.put d (.pointer (some ⟨N,0,none⟩))) (w.alloc (.cells qcG 90))):wpList prog ops Q (o::rest) a w:=by
 subst b;exact Great.wpList_allocTo e d c _ _ (qj1 _ _ f _) h
theorem qe0 (n:Nat)(m:Nat->Nat->Bool):(qan n m).all (·.oneCell')=true:=by
 simp[qan,Value.oneCell']
theorem qcd (h:O.size=37)(a:Option Addr)(k c:Nat):(qbZ O a k c).size=38:=by unfold qbZ;simp[h]
theorem qeG (h:O.all (·.oneCell')=true)(a:Option Addr)(k c:Nat):(qbZ O a k c).all (·.oneCell')=true:=by
 unfold qbZ;rw[Array.all_push,h];rfl
theorem qbc:qcG.size=38:=qcd (qae _ _) _ _ _
theorem qd2:qcG.all (·.oneCell')=true:=qeG (qe0 _ _) _ _ _
theorem qbk {A:Array Value}(h:A.size=38):(prog.info? 90).map (·.size)=some A.size:=by rw[h];exact qtZ
def qhk (c:Cfg):Int:=if ¬roE c.labels c.L c.dflt c.clr=0 then roE c.labels c.L c.dflt c.clr else if qf4 c.inn c.out c.depth c.bytes=false then 4 else if qaG c.B=false then 5 else qez c.labels.toNat c.pol.data.toList
def qnn (c:Cfg):Int:=if ¬roE c.labels c.L c.dflt c.clr=0 then 0 else if qf4 c.inn c.out c.depth c.bytes=false then 0 else if qaG c.B=false then 0 else qka c.labels.toNat c.pol.data.toList
theorem qfG (c:Cfg):(qbx c.labels c.L=true->roE c.labels c.L c.dflt c.clr=if qg9 c=false then 1 else if qbz c.labels.toNat (qaZ c.labels.toNat c.L)=false then 2 else if qb6 c.labels.toNat (qaZ c.labels.toNat c.L)=false then 3 else 0)/\(qbx c.labels c.L=false->roE c.labels c.L c.dflt c.clr=1/\qg9 c=false):=by
 constructor
 ·intro h;obtain⟨_,H⟩:=qdO h;have b:∀i j,i<c.labels.toNat->j<c.labels.toNat->qcF c.labels.toNat c.L i j=qaZ c.labels.toNat c.L i j:=fun i j a f=>qp4 H.hE a f;have d:=qkJ b;have e:=qml b (fun i a=>qpK H.hE a);unfold roE qg9;rw[h,d,e];cases qbC c.labels.toNat c.dflt<;>cases qbC c.labels.toNat c.clr<;>cases qbz c.labels.toNat (qaZ c.labels.toNat c.L)<;>cases qb6 c.labels.toNat (qaZ c.labels.toNat c.L)<;>rfl
 intro h;unfold roE qg9;rw[h];exact⟨rfl,rfl⟩
theorem qk2 (c:Cfg):qhk c=qbw c/\qnn c=qdN c:=by
 have key:qhk c=qbw c/\qnn c=if qbw c=6 then qa3 c.labels.toNat c.pol.data.toList else 0:=by
  unfold qhk qnn qbw qez qka;rw[qm8];cases h:qbx c.labels c.L
  ·obtain⟨i,j⟩:=(qfG c).2 h;rw[i,j];simp
  rw[(qfG c).1 h];by_cases a:qg9 c=false
  ·simp[a]
  by_cases b:qbz c.labels.toNat (qaZ c.labels.toNat c.L)=false
  ·simp[a,b]
  by_cases d:qb6 c.labels.toNat (qaZ c.labels.toNat c.L)=false
  ·simp[a,b,d]
  by_cases e:qf4 c.inn c.out c.depth c.bytes=false
  ·simp[a,b,d,e]
  by_cases f:qaH c.B=false
  ·simp[a,b,d,e,f]
  by_cases g:0<=qa3 c.labels.toNat c.pol.data.toList
  ·simp[a,b,d,e,f,g]
  simp[a,b,d,e,f,g]
 exact⟨key.1,key.2.trans rfl⟩
theorem qv7 (h:roE c.labels c.L c.dflt c.clr=0):qbx c.labels c.L=true/\roA c.labels c.L c.dflt c.clr=qan c.labels.toNat (qcF c.labels.toNat c.L):=by
 constructor
 ·cases a:qbx c.labels c.L
  ·have:=((qfG c).2 a).1;rw[h] at this;cases this
  rfl
 unfold roA;rw[if_pos h]
structure qsZ (w:World)(c:Cfg)(W:World):Prop where
 below:Below w.heap.size w W
 box:W.heap[w.heap.size]? = some (.cells c.arr 25)
 res:W.heap[w.heap.size+1]? = some (.cells qcG 90)
theorem qsZ.step {W':World}(h:qsZ w c W)(a:Below W.heap.size W W'):qsZ w c W' :=
 ⟨h.below.trans (a.mono h.below.size),(a.block _ (ltA h.box)).trans h.box,(a.block _ (ltA h.res)).trans h.res⟩
theorem qsL (w:World)(c:Cfg):qsZ w c ((w.alloc (.cells c.arr 25)).alloc (.cells qcG 90)):=by
 refine⟨(bwA).alloc (by simp) _,(Below.heap_alloc _ _ _ (by simp)).trans (qac _ _),?_⟩;have:=qac (w.alloc (.cells c.arr 25)) (.cells qcG 90);rwa [World.size_alloc] at this
theorem qsZ.cell (h:qsZ w c W)(j:Nat):W.cell? ⟨w.heap.size,j,none⟩=c.arr[j]?:=qab h.box j
theorem qxs (h:¬roE c.labels c.L c.dflt c.clr=0):qhk c=roE c.labels c.L c.dflt c.clr/\qnn c=0:=by unfold qhk qnn;rw[if_pos h,if_pos h];exact⟨rfl,rfl⟩

theorem qo7 (i o d b:Int):(qf4 i o d b=false/\qfm i=false)\/(qf4 i o d b=false/\qfm i=true/\qfm o=false)\/(qf4 i o d b=false/\qfm i=true/\qfm o=true/\d<1)\/(qf4 i o d b=false/\qfm i=true/\qfm o=true/\1<=d/\16<d) \/
  (qf4 i o d b=false/\qfm i=true/\qfm o=true/\1<=d/\d<=16/\b<1)\/(qf4 i o d b=false/\qfm i=true/\qfm o=true/\1<=d/\d<=16/\1<=b/\4096<b)\/(qf4 i o d b=true/\qfm i=true/\qfm o=true/\1<=d/\d<=16/\1<=b/\b<=4096):=by
 unfold qf4;cases qfm i<;>cases qfm o<;>simp;by_cases a:d<1
 ·simp[a];omega
 by_cases c:16<d
 ·simp[c];omega
 by_cases e:b<1
 ·simp[e];omega
 by_cases f:4096<b
 ·simp[f];omega
 omega
theorem qjE:qwN 8 qbw qdN:=by
 intro c w x hg;have y:Hid (ql7 w c):=x;have U:Hid (c.B.length<=maxLen):=by have:=x.bb;show _<=_;unfold maxLen;omega
 have D:Hid (c.arr.size=11):=c.size;have b:Hid (qir w c (w.alloc (.cells c.arr 25))):=qhW w c;have s:=qqX c _ (b.out.cfg x);clear x hg;cases o:qbx c.labels c.L
 focus
  have d:qg9 c=false:=by unfold qg9;rw[o];rfl
  have f:Hid (qbw c=1):=by show _=_;unfold qbw;simp[d]
  have i:Hid (qdN c=0):=by show _=_;unfold qdN;rw[f.out];rfl
  rw[o] at s;clear o d
 rotate_left
 rw[o] at s;obtain⟨A,H⟩:=qdO o;have C:Hid (qi4 c.arr c.labels.toNat c.L c.ea c.ecap):=H;have Y:Hid (c.labels=(c.labels.toNat:Nat)):=A.symm;have X:Hid (c.arr[0]? = some (.int .i64 (c.labels.toNat:Nat))):=by show _=_;rw[A];rfl
 have G:=fun a W=>qc4 c.arr c.labels.toNat X.out a W;have d:qg9 c=(qbC c.labels.toNat c.dflt&&qbC c.labels.toNat c.clr):=by unfold qg9;rw[o];rfl
 clear o A H;cases j:qbC c.labels.toNat c.dflt
 focus
  have f:Hid (qbw c=1):=by show _=_;unfold qbw;simp[d,j]
  have i:Hid (qdN c=0):=by show _=_;unfold qdN;rw[f.out];rfl
  clear d
 rotate_left
 cases k:qbC c.labels.toNat c.clr
 focus
  have f:Hid (qbw c=1):=by show _=_;unfold qbw;simp[d,j,k]
  have i:Hid (qdN c=0):=by show _=_;unfold qdN;rw[f.out];rfl
  clear d
 rotate_left
 cases l:qbz c.labels.toNat (qaZ c.labels.toNat c.L)
 focus
  have f:Hid (qbw c=2):=by show _=_;unfold qbw;simp[d,j,k,l]
  have i:Hid (qdN c=0):=by show _=_;unfold qdN;rw[f.out];rfl
  clear d
 rotate_left
 cases m:qb6 c.labels.toNat (qaZ c.labels.toNat c.L)
 focus
  have f:Hid (qbw c=3):=by show _=_;unfold qbw;simp[d,j,k,l,m]
  have i:Hid (qdN c=0):=by show _=_;unfold qdN;rw[f.out];rfl
  clear d
 rotate_left
 rcases qo7 c.inn c.out c.depth c.bytes with ⟨g,p⟩|⟨g,p,q⟩|⟨g,p,q,t⟩|⟨g,p,q,t,z⟩|⟨g,p,q,t,z,F⟩|⟨g,p,q,t,z,F,b2⟩|⟨g,p,q,t,z,F,b2⟩
 focus
  have f:Hid (qbw c=4):=by show _=_;unfold qbw;simp[d,j,k,l,m,g]
  have i:Hid (qdN c=0):=by show _=_;unfold qdN;rw[f.out];rfl
  clear d g
 rotate_left
 focus
  have f:Hid (qbw c=4):=by show _=_;unfold qbw;simp[d,j,k,l,m,g]
  have i:Hid (qdN c=0):=by show _=_;unfold qdN;rw[f.out];rfl
  clear d g
 rotate_left
 focus
  have f:Hid (qbw c=4):=by show _=_;unfold qbw;simp[d,j,k,l,m,g]
  have i:Hid (qdN c=0):=by show _=_;unfold qdN;rw[f.out];rfl
  clear d g
 rotate_left
 focus
  have f:Hid (qbw c=4):=by show _=_;unfold qbw;simp[d,j,k,l,m,g]
  have i:Hid (qdN c=0):=by show _=_;unfold qdN;rw[f.out];rfl
  clear d g
 rotate_left
 focus
  have f:Hid (qbw c=4):=by show _=_;unfold qbw;simp[d,j,k,l,m,g]
  have i:Hid (qdN c=0):=by show _=_;unfold qdN;rw[f.out];rfl
  clear d g
 rotate_left
 focus
  have f:Hid (qbw c=4):=by show _=_;unfold qbw;simp[d,j,k,l,m,g]
  have i:Hid (qdN c=0):=by show _=_;unfold qdN;rw[f.out];rfl
  clear d g
 rotate_left
 cases u:qaH c.B
 focus
  have f:Hid (qbw c=5):=by show _=_;unfold qbw;simp[d,j,k,l,m,g,u]
  have i:Hid (qdN c=0):=by show _=_;unfold qdN;rw[f.out];rfl
  clear d
 rotate_left
 by_cases v:0<=qa3 c.labels.toNat c.pol.data.toList
 focus
  have f:Hid (qbw c=6):=by show _=_;unfold qbw;simp[d,j,k,l,m,g,u,v]
  obtain⟨V,n⟩:∃V,qa3 c.labels.toNat c.pol.data.toList=V:=⟨_,rfl⟩
  have E:Hid (qa3 c.labels.toNat c.pol.data.toList=V):=n;have i:Hid (qdN c=V):=by show _=_;unfold qdN;rw[f.out,if_pos rfl];exact n
  rw[n] at v;clear d g n
 rotate_left
 have f:Hid (qbw c=0):=by show _=_;unfold qbw;simp[d,j,k,l,m,g,u,v]
 obtain⟨V,n⟩:∃V,qa3 c.labels.toNat c.pol.data.toList=V:=⟨_,rfl⟩
 have E:Hid (qa3 c.labels.toNat c.pol.data.toList=V):=n;have i:Hid (qdN c=0):=by show _=_;unfold qdN;rw[f.out];rfl
 rw[n] at v;clear d g n
 all_goals
  go_enter func8,ntmps8;have Z:True:=trivial;have T2:True:=trivial;have T3:True:=trivial;have T4:True:=trivial
  go_wp2_with (first
   |(refine wpList_load_row rfl 25 _ rfl _ rfl _ _ _ _ b.out.box underlying25 rfl (qaV D.out) ?_)
   |(refine qaf 25 _ rfl ?hw _ rfl _ _ _ _ b.out.box underlying25 rfl (qaV D.out) ?_;case hw=>simp[go_sem];done)
   |(go_at_call 12;refine s.mono ?_;clear s;rintro e w2 ⟨rfl,O⟩;have h:=qaa (b.out.step O);clear b;have b:=h;clear h O;have k2:w2.cell? ⟨w.heap.size,2,none⟩=some (.int .i64 c.dflt):=b.out.cell 2)
   |(go_at_call 13;clear Z;refine(G c.dflt _).mono ?_;clear k2;rintro e w3 ⟨rfl,P⟩;rw[j];have h:=qaa (b.out.step P);clear b;have b:=h;clear h P;have k4:w3.cell? ⟨w.heap.size,4,none⟩=some (.int .i64 c.clr):=b.out.cell 4)
   |(go_at_call 13;clear T2;refine(G c.clr _).mono ?_;clear k4;rintro e w4 ⟨rfl,Q⟩;rw[k];have h:=qaa (b.out.step Q);clear b;have b:=h;clear h Q;have J:=qli c.arr c.labels.toNat c.L c.ea c.ecap C.out w4 (b.out.cfg y.out).edges)
   |(go_at_call 14;refine J.mono ?_;clear J;rintro e w5 ⟨rfl,R⟩;rw[l];have h:=qaa (b.out.step R);clear b;have b:=h;clear h R;have K:=qku c.arr c.labels.toNat c.L c.ea c.ecap C.out w5 (b.out.cfg y.out).edges)
   |(go_at_call 15;refine K.mono ?_;clear K;rintro e r ⟨rfl,S⟩;rw[m];have h:=qaa (b.out.step S);clear b;have b:=h;clear h S;have k6:r.cell? ⟨w.heap.size,6,none⟩=some (.int .i64 c.inn):=b.out.cell 6;have k7:r.cell? ⟨w.heap.size,7,none⟩=some (.int .i64 c.out):=b.out.cell 7;have k8:r.cell? ⟨w.heap.size,8,none⟩=some (.int .i64 c.depth):=b.out.cell 8;have k9:r.cell? ⟨w.heap.size,9,none⟩=some (.int .i64 c.bytes):=b.out.cell 9;have aa:r.cell? ⟨w.heap.size,10,none⟩=some (.slice c.ba c.B.length c.bcap):=b.out.cell 10;have I:=qgD c.ba c.bcap c.B U.out r (b.out.cfg y.out).ints)
   |(go_at_call 16;clear T3;refine(qha c.inn _).mono ?_;rintro e w7 ⟨rfl,rfl⟩;rw[p])
   |(go_at_call 16;clear T4;refine(qha c.out _).mono ?_;rintro e w8 ⟨rfl,rfl⟩;rw[q])
   |(go_at_call 17;refine I.mono ?_;clear I k6 k7 k8 k9 aa;rintro e w9 ⟨rfl,T⟩;rw[u];have h:=qaa (b.out.step T);clear b;have b:=h;clear h T;have M:=qoo c c.labels.toNat Y.out w9)
   |(go_at_call 18;refine M.mono ?_;clear M;rintro e ab ⟨ua,um,uc,rfl,N⟩;rw[E.out];have h:=qaa (b.out.step N);clear b;have b:=h;clear h N))
  go_ret2
  exact⟨by rw[f.out,i.out];rfl,b.out.below⟩

end
section
open Go.RowKit Go.Lib
theorem q1u (W:World)(c:UInt8)(h:0<=(c.toNat:Int))(i:(c.toNat:Int)<=127):Calls prog 126 #[.int .u8 c.toNat] W fun e a=>e=.returned (.tuple #[.int .u8 0,.int .u8 0,.int .i64 1])/\a=W:=by
 have b:=nec (c:=c) 224 (by omega);have d:=nec (c:=c) 237 (by omega);have f:=nec (c:=c) 240 (by omega);have g:=nec (c:=c) 244 (by omega);go_enter func126,ntmps126;go_wp2;refine bodyPost_ret (results_tmp3 results126 _ _ _) rfl ⟨rfl,rfl⟩
theorem qzL (W:World)(c:UInt8)(h:128<=(c.toNat:Int))(i:(c.toNat:Int)<=193):Calls prog 126 #[.int .u8 c.toNat] W fun e a=>e=.returned (.tuple #[.int .u8 0,.int .u8 0,.int .i64 0])/\a=W:=by
 have b:=nec (c:=c) 224 (by omega);have d:=nec (c:=c) 237 (by omega);have f:=nec (c:=c) 240 (by omega);have g:=nec (c:=c) 244 (by omega);go_enter func126,ntmps126;go_wp2;refine bodyPost_ret (results_tmp3 results126 _ _ _) rfl ⟨rfl,rfl⟩
theorem qzW (W:World)(c:UInt8)(h:194<=(c.toNat:Int))(i:(c.toNat:Int)<=223):Calls prog 126 #[.int .u8 c.toNat] W fun e a=>e=.returned (.tuple #[.int .u8 128,.int .u8 191,.int .i64 2])/\a=W:=by
 have b:=nec (c:=c) 224 (by omega);have d:=nec (c:=c) 237 (by omega);have f:=nec (c:=c) 240 (by omega);have g:=nec (c:=c) 244 (by omega);go_enter func126,ntmps126;go_wp2;refine bodyPost_ret (results_tmp3 results126 _ _ _) rfl ⟨rfl,rfl⟩
theorem qzX (W:World)(c:UInt8)(h:224<=(c.toNat:Int))(i:(c.toNat:Int)<=224):Calls prog 126 #[.int .u8 c.toNat] W fun e a=>e=.returned (.tuple #[.int .u8 160,.int .u8 191,.int .i64 3])/\a=W:=by
 have b:((c.toNat:Int)==224)=true:=by simp;omega
 have d:=nec (c:=c) 237 (by omega);have f:=nec (c:=c) 240 (by omega);have g:=nec (c:=c) 244 (by omega);go_enter func126,ntmps126;go_wp2;refine bodyPost_ret (results_tmp3 results126 _ _ _) rfl ⟨rfl,rfl⟩
theorem q0d (W:World)(c:UInt8)(h:225<=(c.toNat:Int))(i:(c.toNat:Int)<=236):Calls prog 126 #[.int .u8 c.toNat] W fun e a=>e=.returned (.tuple #[.int .u8 128,.int .u8 191,.int .i64 3])/\a=W:=by
 have b:=nec (c:=c) 224 (by omega);have d:=nec (c:=c) 237 (by omega);have f:=nec (c:=c) 240 (by omega);have g:=nec (c:=c) 244 (by omega);go_enter func126,ntmps126;go_wp2;refine bodyPost_ret (results_tmp3 results126 _ _ _) rfl ⟨rfl,rfl⟩
theorem qzN (W:World)(c:UInt8)(h:237<=(c.toNat:Int))(i:(c.toNat:Int)<=237):Calls prog 126 #[.int .u8 c.toNat] W fun e a=>e=.returned (.tuple #[.int .u8 128,.int .u8 159,.int .i64 3])/\a=W:=by
 have b:=nec (c:=c) 224 (by omega);have d:((c.toNat:Int)==237)=true:=by simp;omega
 have f:=nec (c:=c) 240 (by omega);have g:=nec (c:=c) 244 (by omega);go_enter func126,ntmps126;go_wp2;refine bodyPost_ret (results_tmp3 results126 _ _ _) rfl ⟨rfl,rfl⟩
theorem qzO (W:World)(c:UInt8)(h:238<=(c.toNat:Int))(i:(c.toNat:Int)<=239):Calls prog 126 #[.int .u8 c.toNat] W fun e a=>e=.returned (.tuple #[.int .u8 128,.int .u8 191,.int .i64 3])/\a=W:=by
 have b:=nec (c:=c) 224 (by omega);have d:=nec (c:=c) 237 (by omega);have f:=nec (c:=c) 240 (by omega);have g:=nec (c:=c) 244 (by omega);go_enter func126,ntmps126;go_wp2;refine bodyPost_ret (results_tmp3 results126 _ _ _) rfl ⟨rfl,rfl⟩
theorem qzI (W:World)(c:UInt8)(h:240<=(c.toNat:Int))(i:(c.toNat:Int)<=240):Calls prog 126 #[.int .u8 c.toNat] W fun e a=>e=.returned (.tuple #[.int .u8 144,.int .u8 191,.int .i64 4])/\a=W:=by
 have b:=nec (c:=c) 224 (by omega);have d:=nec (c:=c) 237 (by omega);have f:((c.toNat:Int)==240)=true:=by simp;omega
 have g:=nec (c:=c) 244 (by omega);go_enter func126,ntmps126;go_wp2;refine bodyPost_ret (results_tmp3 results126 _ _ _) rfl ⟨rfl,rfl⟩
theorem qzS (W:World)(c:UInt8)(h:241<=(c.toNat:Int))(i:(c.toNat:Int)<=243):Calls prog 126 #[.int .u8 c.toNat] W fun e a=>e=.returned (.tuple #[.int .u8 128,.int .u8 191,.int .i64 4])/\a=W:=by
 have b:=nec (c:=c) 224 (by omega);have d:=nec (c:=c) 237 (by omega);have f:=nec (c:=c) 240 (by omega);have g:=nec (c:=c) 244 (by omega);go_enter func126,ntmps126;go_wp2;refine bodyPost_ret (results_tmp3 results126 _ _ _) rfl ⟨rfl,rfl⟩
theorem q0g (W:World)(c:UInt8)(h:244<=(c.toNat:Int))(i:(c.toNat:Int)<=244):Calls prog 126 #[.int .u8 c.toNat] W fun e a=>e=.returned (.tuple #[.int .u8 128,.int .u8 143,.int .i64 4])/\a=W:=by
 have b:=nec (c:=c) 224 (by omega);have d:=nec (c:=c) 237 (by omega);have f:=nec (c:=c) 240 (by omega);have g:((c.toNat:Int)==244)=true:=by simp;omega
 go_enter func126,ntmps126;go_wp2;refine bodyPost_ret (results_tmp3 results126 _ _ _) rfl ⟨rfl,rfl⟩
theorem qzE (W:World)(c:UInt8)(h:245<=(c.toNat:Int))(i:(c.toNat:Int)<=255):Calls prog 126 #[.int .u8 c.toNat] W fun e a=>e=.returned (.tuple #[.int .u8 0,.int .u8 0,.int .i64 0])/\a=W:=by
 have b:=nec (c:=c) 224 (by omega);have d:=nec (c:=c) 237 (by omega);have f:=nec (c:=c) 240 (by omega);have g:=nec (c:=c) 244 (by omega);go_enter func126,ntmps126;go_wp2;refine bodyPost_ret (results_tmp3 results126 _ _ _) rfl ⟨rfl,rfl⟩
theorem qzY (W:World)(c:UInt8):Calls prog 126 #[.int .u8 c.toNat] W fun e a=>e=.returned (.tuple #[.int .u8 (qxO c),.int .u8 (qxR c),.int .i64 (qxP c)])/\a=W:=by
 have h:=c.toNat_lt;by_cases b:c.toNat<=127
 ·have:=q1u W c (by omega) (by omega);rw[show qxO c=0 by unfold qxO;repeat (first|rw[if_pos (by omega)]|rw[if_neg (by omega)]),show qxR c=0 by unfold qxR;repeat (first|rw[if_pos (by omega)]|rw[if_neg (by omega)]),show qxP c=1 by unfold qxP;repeat (first|rw[if_pos (by omega)]|rw[if_neg (by omega)])];exact this
 by_cases d:c.toNat<=193
 ·have:=qzL W c (by omega) (by omega);rw[show qxO c=0 by unfold qxO;repeat (first|rw[if_pos (by omega)]|rw[if_neg (by omega)]),show qxR c=0 by unfold qxR;repeat (first|rw[if_pos (by omega)]|rw[if_neg (by omega)]),show qxP c=0 by unfold qxP;repeat (first|rw[if_pos (by omega)]|rw[if_neg (by omega)])];exact this
 by_cases f:c.toNat<=223
 ·have:=qzW W c (by omega) (by omega);rw[show qxO c=128 by unfold qxO;repeat (first|rw[if_pos (by omega)]|rw[if_neg (by omega)]),show qxR c=191 by unfold qxR;repeat (first|rw[if_pos (by omega)]|rw[if_neg (by omega)]),show qxP c=2 by unfold qxP;repeat (first|rw[if_pos (by omega)]|rw[if_neg (by omega)])];exact this
 by_cases g:c.toNat<=224
 ·have:=qzX W c (by omega) (by omega);rw[show qxO c=160 by unfold qxO;repeat (first|rw[if_pos (by omega)]|rw[if_neg (by omega)]),show qxR c=191 by unfold qxR;repeat (first|rw[if_pos (by omega)]|rw[if_neg (by omega)]),show qxP c=3 by unfold qxP;repeat (first|rw[if_pos (by omega)]|rw[if_neg (by omega)])];exact this
 by_cases i:c.toNat<=236
 ·have:=q0d W c (by omega) (by omega);rw[show qxO c=128 by unfold qxO;repeat (first|rw[if_pos (by omega)]|rw[if_neg (by omega)]),show qxR c=191 by unfold qxR;repeat (first|rw[if_pos (by omega)]|rw[if_neg (by omega)]),show qxP c=3 by unfold qxP;repeat (first|rw[if_pos (by omega)]|rw[if_neg (by omega)])];exact this
 by_cases j:c.toNat<=237
 ·have:=qzN W c (by omega) (by omega);rw[show qxO c=128 by unfold qxO;repeat (first|rw[if_pos (by omega)]|rw[if_neg (by omega)]),show qxR c=159 by unfold qxR;repeat (first|rw[if_pos (by omega)]|rw[if_neg (by omega)]),show qxP c=3 by unfold qxP;repeat (first|rw[if_pos (by omega)]|rw[if_neg (by omega)])];exact this
 by_cases k:c.toNat<=239
 ·have:=qzO W c (by omega) (by omega);rw[show qxO c=128 by unfold qxO;repeat (first|rw[if_pos (by omega)]|rw[if_neg (by omega)]),show qxR c=191 by unfold qxR;repeat (first|rw[if_pos (by omega)]|rw[if_neg (by omega)]),show qxP c=3 by unfold qxP;repeat (first|rw[if_pos (by omega)]|rw[if_neg (by omega)])];exact this
 by_cases l:c.toNat<=240
 ·have:=qzI W c (by omega) (by omega);rw[show qxO c=144 by unfold qxO;repeat (first|rw[if_pos (by omega)]|rw[if_neg (by omega)]),show qxR c=191 by unfold qxR;repeat (first|rw[if_pos (by omega)]|rw[if_neg (by omega)]),show qxP c=4 by unfold qxP;repeat (first|rw[if_pos (by omega)]|rw[if_neg (by omega)])];exact this
 by_cases m:c.toNat<=243
 ·have:=qzS W c (by omega) (by omega);rw[show qxO c=128 by unfold qxO;repeat (first|rw[if_pos (by omega)]|rw[if_neg (by omega)]),show qxR c=191 by unfold qxR;repeat (first|rw[if_pos (by omega)]|rw[if_neg (by omega)]),show qxP c=4 by unfold qxP;repeat (first|rw[if_pos (by omega)]|rw[if_neg (by omega)])];exact this
 by_cases n:c.toNat<=244
 ·have:=q0g W c (by omega) (by omega);rw[show qxO c=128 by unfold qxO;repeat (first|rw[if_pos (by omega)]|rw[if_neg (by omega)]),show qxR c=143 by unfold qxR;repeat (first|rw[if_pos (by omega)]|rw[if_neg (by omega)]),show qxP c=4 by unfold qxP;repeat (first|rw[if_pos (by omega)]|rw[if_neg (by omega)])];exact this
 have:=qzE W c (by omega) (by omega);rw[show qxO c=0 by unfold qxO;repeat (first|rw[if_pos (by omega)]|rw[if_neg (by omega)]),show qxR c=0 by unfold qxR;repeat (first|rw[if_pos (by omega)]|rw[if_neg (by omega)]),show qxP c=0 by unfold qxP;repeat (first|rw[if_pos (by omega)]|rw[if_neg (by omega)])];exact this
theorem q2H (c:UInt8):qxO c<=255/\qxR c<=255/\qxP c<=4:=by
 refine⟨?_,?_,(qzx c).2.2.2⟩
 ·unfold qxO
  repeat' split
  all_goals omega
 unfold qxR
 repeat' split
 all_goals omega
def qiM (r:Nat×Bool):Value:=.tuple #[.int .i64 r.1,.bool r.2]
theorem q0J (W:World)(bs:List UInt8)(p n:Nat)(i:UInt8)(G:bs[p]? = some i)(hb:bs.length<=281474976710656)(hn:n<=bs.length):Calls prog 98 #[.string ⟨bs.toArray⟩,.int .i64 p,.int .i64 n] W fun e M=>e=.returned (qiM (qgB bs n p i))/\M=W:=by
 obtain⟨R,c⟩:∃R,Hid (qgB bs n p i=R):=⟨_,show _=_ from rfl⟩
 rw[c.out];have ac:=ltL G;have T:=fun V=>qxF bs p i G V;obtain⟨P,Q,S⟩:=q2H i;have w:=qzY W i;have a:=c.out;unfold qgB at a;clear G c;obtain⟨s,D⟩:∃s,s=qxO i:=⟨_,rfl⟩
 obtain⟨v,y⟩:∃v,v=qxR i:=⟨_,rfl⟩
 obtain⟨m,C⟩:∃m,m=qxP i:=⟨_,rfl⟩
 rw[<-D,<-y,<-C] at w;rw[<-C] at a S;rw[<-D] at P;rw[<-y] at Q;have L:=qaa D;have J:=qaa y;have K:=qaa C;clear D y C;by_cases B:m=0
 ·rw[if_pos B] at a;have f:=qaa a.symm;have H:((m:Int)==0)=true:=by rw[B];rfl
  clear a B;go_enter func98,ntmps98
  go_wp2_with (first
   |(go_at_call 126;refine w.mono ?_;clear w;rintro e I ⟨rfl,rfl⟩))
  go_ret2
  rw[f.out];exact⟨rfl,rfl⟩
 rw[if_neg B] at a;have H:((m:Int)==0)=false:=by simp;omega
 have c:=qaa a;clear a;go_enter func98,ntmps98
 go_wp2_with (first
  |(go_at_call 126;refine w.mono ?_;clear w;rintro e I ⟨rfl,rfl⟩))
 clear H T
 go_loopg [11] (m-1) (fun g aa wr=>wr=I/\∃j:Nat,aa=.int .i64 j/\Hid (j+g=m)/\Hid (1<=j)/\Hid (q1y bs n p i g j=R))
 case atStart=>exact⟨rfl,1,rfl,by show _=_;omega,Nat.le_refl _,c⟩
 case round =>
  clear c;obtain⟨rfl,j,rfl,l,X,c⟩:=hrel;have a:=c.out
  cases gk with
  |zero =>
   rw[q1y] at a;have f:Hid (R=(m,true)):=by show _=_;rw[<-a,K.out]
   have Y:¬(j:Int)<(m:Int):=by have:=l.out;omega
   clear a c l;go_wp2
   go_ret2
   rw[f.out];exact⟨rfl,rfl⟩
  |succ g =>
   rw[q1y] at a;have Y:(j:Int)<(m:Int):=by have:=l.out;omega
   by_cases q:n<=p+j
   ·rw[if_pos q] at a;have f:=qaa a.symm;have Z:(n:Int)<=(p:Int)+(j:Int):=by omega
    clear a c l q;go_wp2
    go_ret2
    rw[f.out];exact⟨rfl,rfl⟩
   rw[if_neg q] at a;have Z:¬(n:Int)<=(p:Int)+(j:Int):=by omega
   have z:p+j<bs.length:=by omega
   obtain⟨b,u⟩:∃b,b=bs[p+j]:=⟨_,rfl⟩
   have r:bs[p+j]? = some b:=by rw[u];exact List.getElem?_eq_getElem z
   have U:=fun V=>qxF bs (p+j) b r V;rw[show((p+j:Nat):Int)=(p:Int)+(j:Int) by omega] at U;rw[r] at a;simp only[] at a;have ab:=b.toNat_lt;by_cases k:j=1
   ·have d:=q0e i b;rw[<-L.out,<-J.out] at d;have N:((j:Int)==1)=true:=by rw[k];rfl
    have O:decide (1<(j:Int))=false:=by rw[k];rfl
    rw[k] at a;by_cases o:b.toNat<s
    ·rw[if_pos (d.2 (.inl o))] at a;have f:Hid (R=(j,false)):=by show _=_;rw[<-a,k]
     have x:(b.toNat:Int)<(s:Int):=by omega
     clear a c l k d u r q o;go_wp2
     go_ret2
     rw[f.out];exact⟨rfl,rfl⟩
    by_cases t:v<b.toNat
    ·rw[if_pos (d.2 (.inr t))] at a;have f:Hid (R=(j,false)):=by show _=_;rw[<-a,k]
     have x:decide ((b.toNat:Int)<(s:Int))=false:=by simp;omega
     have F:(v:Int)<(b.toNat:Int):=by omega
     have q1:s<=b.toNat:=by omega
     clear a c l k d u r q o t;go_wp2
     go_ret2
     rw[f.out];exact⟨rfl,rfl⟩
    rw[if_neg (fun h=>by have:=d.1 h;omega)] at a;have E:Hid (q1y bs n p i g (j+1)=R):=by show _=_;rw[k];exact a
    have x:decide ((b.toNat:Int)<(s:Int))=false:=by simp;omega
    have F:decide ((v:Int)<(b.toNat:Int))=false:=by simp;omega
    have q1:s<=b.toNat:=by omega
    have q2:b.toNat<=v:=by omega
    clear a c k d u r q o t;go_wp2;go_roundg g
    case measure=>omega
    case rel=>exact⟨rfl,j+1,by go_num,by show _=_;have:=l.out;omega,by show _<=_;omega,E⟩
   have A:1<j:=by have:=X.out;omega
   have d:=qy4 i b j A;have N:((j:Int)==1)=false:=by simp;omega
   have O:1<(j:Int):=by omega
   by_cases o:b.toNat<128
   ·rw[if_pos (d.2 (.inl o))] at a;have f:=qaa a.symm;have x:(b.toNat:Int)<128:=by omega
    clear a c l k d u r q o A;go_wp2
    go_ret2
    rw[f.out];exact⟨rfl,rfl⟩
   by_cases t:191<b.toNat
   ·rw[if_pos (d.2 (.inr t))] at a;have f:=qaa a.symm;have x:decide ((b.toNat:Int)<128)=false:=by simp;omega
    have F:191<(b.toNat:Int):=by omega
    clear a c l k d u r q o t A;go_wp2
    go_ret2
    rw[f.out];exact⟨rfl,rfl⟩
   rw[if_neg (fun h=>by have:=d.1 h;omega)] at a;have E:=qaa a;have x:decide ((b.toNat:Int)<128)=false:=by simp;omega
   have F:decide (191<(b.toNat:Int))=false:=by simp;omega
   clear a c k d u r q o t A;go_wp2;go_roundg g
   case measure=>omega
   case rel=>exact⟨rfl,j+1,by go_num,by show _=_;have:=l.out;omega,by show _<=_;omega,E⟩

end
end Go.Proofs.YtcokgepdckkjdaaGreatDoor
