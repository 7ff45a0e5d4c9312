import Derived.Test.YtllcbnfmihfaaaaGreatDoorCq45
set_option maxRecDepth 100000
set_option maxHeartbeats 8000000
namespace Go.Proofs.YtllcbnfmihfaaaaGreatDoor
open Go.Proofs.Tryz
variable {rd:Nat→Except (Int×Int) (DataW Unit×Nat)}{bs:List UInt8}{lim:Int}
section
open Go.RowKit Go.Lib
def quV (c:Cfg)(A:Nat)(bv:Value):Array Value:=#[.int .i64 c.inn,.int .i64 c.out,.int .i64 c.depth,.int .i64 c.bytes]++(qan c.labels.toNat (qcF c.labels.toNat c.L)++#[.int .i64 c.clr,.int .i64 c.key,.pointer (some ⟨A,0,none⟩)])++#[bv,.slice none 0 0,.bool false]
def qlc (c:Cfg):List (List (Nat×List UInt8)×Int×Int):=(qcA c.pol.data.toList).map enS
theorem qmY (w:World)(a:Option Addr)(cap:Nat)(B:List Int)(h:qbV w a B)(hn:a=none→B.length=0∧cap=0)(h8:B.length≤8):Calls prog 50 #[.slice a B.length cap] w fun e w'=>∃ba bc,e=.returned (.slice ba B.length bc)∧qb1 w' 3 1 (fun g=>w.heap.size≤g∧g<w'.heap.size) (.slice ba B.length bc) B.length (B.map (Value.int .i64))∧Below w.heap.size w w':=by
 have hrow:∀{w':World} {v:Value} {n:Nat} {xs:List Value},w'.ownsRow w.heap.size 3 1 v n xs→∃ba bc,v=.slice ba n bc∧qb1 w' 3 1 (fun g=>w.heap.size≤g∧g<w'.heap.size) (.slice ba n bc) n xs:=by
  rintro w' v n xs ⟨h1,h2⟩;rcases h2 with ⟨rfl,rfl⟩|⟨g,cap,cur,rfl,k1,k2,k3⟩
  ·exact⟨none,0,rfl,h1,.inl ⟨rfl,rfl⟩⟩
  exact⟨_,_,rfl,h1,.inr ⟨g,cap,cur,rfl,⟨k1,(ltA k2)⟩,k2,k3⟩⟩
 cases a with
 |none =>
  obtain⟨e1,e2⟩:=hn rfl;refine(Tryz.slices_Clone_int_nil B.length cap w).mono ?_;rintro e w' ⟨rfl,rfl⟩;have hB:=List.eq_nil_of_length_eq_zero e1;subst hB;exact⟨none,0,rfl,⟨rfl,.inl ⟨rfl,rfl⟩⟩,Below.refl _ _⟩
 |some ad =>
  by_cases h0:B.length=0
  ·have hB:=List.eq_nil_of_length_eq_zero h0;subst hB;refine(Tryz.slices_Clone_int_zero ad cap w).mono ?_;rintro e w' ⟨v',rfl,h1,_,h2⟩;obtain⟨ba,bc,rfl,h3⟩:=hrow h1;exact⟨ba,bc,rfl,h3,h2⟩
  obtain⟨b,off,e1,hlt,hc⟩:=h.at_ 0 (by omega);injection e1 with e1;subst e1;refine(Tryz.slices_Clone_int b off B.length cap B w (Nat.le_refl _) (by omega) (fun j hj => ?_)).mono ?_
  ·rw[hc j hj,List.getD_eq_getElem?_getD,List.getElem?_eq_getElem hj];rfl
  rintro e w' ⟨v',rfl,h1,_,h2⟩;rw[List.take_length] at h1;obtain⟨ba,bc,rfl,h3⟩:=hrow h1;exact⟨ba,bc,rfl,h3,h2⟩
structure GOp (c:Cfg)(W0:World)(L A:Nat)(q:Aut)(sts:List ((Nat→Nat)×Int×Int))(sa:Option Addr)(sc:Nat)(nf mf:Lit→Option Nat)(bv:Value)(V:World):Prop where
 cp:qx1 W0 (qlc c) c.dflt A q sts sa sc nf mf V
 bk:qb1 V 3 1 (fun g=>W0.heap.size≤g∧g<L) bv c.B.length (c.B.map (Value.int .i64))
 bs:∃ba bc,bv=.slice ba c.B.length bc
def qs2 (c:Cfg)(w:World)(e:Ending)(w':World):Prop :=
 Below w.heap.size w w'∧((¬qbw c=0∧e=.returned (.tuple #[.pointer none,.int .i64 (qbw c)]))∨(qbw c=0∧∃W0 L A q sts sa sc nf mf bv,e=.returned (.tuple #[.pointer (some ⟨L,0,none⟩),.int .i64 0])∧w.heap.size≤W0.heap.size∧W0.heap.size≤L∧w'.heap.size=L+1∧w'.heap[L]? = some (.cells (quV c A bv) 119)∧GOp c W0 L A q sts sa sc nf mf bv w'))
theorem qxA {A:Array Value}{O:Array Value}{a:Option Addr}{k cap:Nat}(h:A=qbZ O a k cap)(ho:O.size=37):∀(j:Nat) (u:Value),O[j]? = some u→A[j]? = some u:=by
 intro j u hu;have hj:j<37:=by have:=ltA hu;omega
 rw[h];unfold qbZ;rw[Array.getElem?_push,if_neg (by omega)];exact hu
theorem qwy (n:Nat)(m:Nat→Nat→Bool):(prog.info? 107).map (·.size)=some (qan n m).size:=by rw[qae];kernel_rfl
theorem qqI (c:Cfg)(w:World)(hc:ql7 w c)(hg:qlZ w)(hB8:qbw c=0→c.B.length≤8):Calls prog 31 #[.agg c.arr] w (qs2 c w):=by
 have HS:=qaa c.size;have HC:=qaa hc;have HB8:=qaa hB8;have HX:=qaa (qhW w c);have cR:=qkO c _ (HX.out.cfg hc) (hg.below HX.out.below);have HPC:=qaa (qk2 c);clear hc hg hB8;go_enter func31,ntmps31
 go_wp2_with (first
  |(refine wpList_load_row rfl 45 _ rfl _ rfl _ _ _ _ HX.out.box underlying45 rfl (qaV HS.out) ?_)
  |fail)
 refine cR.mono ?_;clear cR;rintro e w2 ⟨A,rfl,hA,hB2⟩;rw[HPC.out.1,HPC.out.2];have HA1:=qaa hA.1;have HA2:=qaa hA.2.1;have HZ:Hid (qcG.size=A.size):=by show _=_;rw[hA.1];exact qbc
 have HX2:=qaa (HX.out.step hB2);have HB3:Hid (qwJ w c w2.heap.size A (w2.alloc (.cells A 110))):=⟨HX2.out.below.alloc HX2.out.below.size _,(Below.heap_alloc _ _ _ (ltA HX2.out.box)).trans HX2.out.box,qac _ _⟩
 have hA3:=hA.2.2;rw[HPC.out.1] at hA3;clear hA hB2 HX HX2;by_cases h0:qbw c=0
 ·obtain⟨_,sa,sk,sc,hAe,lo,hPB⟩:=hA3 h0;obtain⟨ra,rc,hre,hPR⟩:=hPB.pru;injection hre with e1 e2 e3;subst e1;subst e2;subst e3;have h37:A[37]? = some (.slice sa (qlc c).length sc):=by
   rw[hAe];unfold qbZ;rw[Array.getElem?_push,qae];rfl
  have HAO:=qaa (qxA hAe (qae _ _));have HPR:Hid (qdW (w2.alloc (.cells A 110)) sa (qlc c)):=hPR.below bwA;have HRS:=qoK (qoa h0);have HL8:=qaa (HB8.out h0);have HE0:=qaa h0;clear hAe hA3 hPB hPR HB8;rw[h0];clear h0;obtain⟨hn,h8,hk3⟩:=HRS;have HN16:Hid ((qlc c).length≤16):=hn;have H8:Hid (∀i (h:i<(qlc c).length),(qlc c)[i].1.length≤8):=h8;have HK3:Hid (∀i (h:i<(qlc c).length) j (h2:j<(qlc c)[i].1.length),(qlc c)[i].1[j].1≤3∧(qlc c)[i].1[j].2.length≤1000000000):=hk3
  go_wp2_with (first
   |(refine qch rfl rfl _ rfl w2.heap.size rfl ?_)
   |(refine wpList_store_row rfl 110 _ _ rfl w2.heap.size A rfl rfl 110 qcG (qac w2 _) (qbk HA1.out) HZ.out HA2.out ?_;rw[World.setRow_alloc_new]))
  have hS:(fun Z:World=>Z.heap[w.heap.size]? = some (.cells c.arr 45)∧Z.heap[w2.heap.size]? = some (.cells A 110)) { (w2.alloc (.cells A 110)) with drawn:=(w2.alloc (.cells A 110)).drawn+1}:=⟨HB3.out.box,HB3.out.row⟩
  refine wp_region_held (S:=fun Z=>Z.heap[w.heap.size]? = some (.cells c.arr 45)∧Z.heap[w2.heap.size]? = some (.cells A 110)) (by kernel_rfl) ?_;have HB4:Hid (Below w.heap.size w { (w2.alloc (.cells A 110)) with drawn:=(w2.alloc (.cells A 110)).drawn+1}):=HB3.out.below.drew;have HPR4:Hid (qdW { (w2.alloc (.cells A 110)) with drawn:=(w2.alloc (.cells A 110)).drawn+1} sa (qlc c)):=HPR.out.below (Below.refl _ _).drew;generalize ({ (w2.alloc (.cells A 110)) with drawn:=(w2.alloc (.cells A 110)).drawn+1}:World)=W4 at *;generalize w2.heap.size=N4 at *;have HOA:Hid (∀Z:World,Z.heap[N4]? = some (.cells A 110)→∀(j:Nat) (u:Value),(qan c.labels.toNat (qcF c.labels.toNat c.L))[j]? = some u→Z.cell? ⟨N4,0+j,none⟩=some u):=fun Z hZ j u hu=>by rw[Nat.zero_add];exact(qab hZ j).trans (HAO.out j u hu)
  refine tkH 0 16 (.pointer (some ⟨w.heap.size,6,none⟩)) rfl (by kernel_rfl) (fun _ _ _ h=>h) (fun Z hZ=>by kernel_rfl) hS ?_;refine tkH 1 17 (.int .i64 c.inn) rfl (by kernel_rfl) (fun _ _ _ h=>h) (fun Z hZ => ?y1) hS ?_
  case y1=>(have z1:Z.cell? ⟨w.heap.size,6,none⟩=some (.int .i64 c.inn):=qab hZ.1 6;go_simp)
  refine tkH 2 18 (.pointer (some ⟨w.heap.size,7,none⟩)) rfl (by kernel_rfl) (fun _ _ _ h=>h) (fun Z hZ=>by kernel_rfl) hS ?_;refine tkH 3 19 (.int .i64 c.out) rfl (by kernel_rfl) (fun _ _ _ h=>h) (fun Z hZ => ?y3) hS ?_
  case y3=>(have z1:Z.cell? ⟨w.heap.size,7,none⟩=some (.int .i64 c.out):=qab hZ.1 7;go_simp)
  refine tkH 4 20 (.pointer (some ⟨w.heap.size,8,none⟩)) rfl (by kernel_rfl) (fun _ _ _ h=>h) (fun Z hZ=>by kernel_rfl) hS ?_;refine tkH 5 21 (.int .i64 c.depth) rfl (by kernel_rfl) (fun _ _ _ h=>h) (fun Z hZ => ?y5) hS ?_
  case y5=>(have z1:Z.cell? ⟨w.heap.size,8,none⟩=some (.int .i64 c.depth):=qab hZ.1 8;go_simp)
  refine tkH 6 22 (.pointer (some ⟨w.heap.size,9,none⟩)) rfl (by kernel_rfl) (fun _ _ _ h=>h) (fun Z hZ=>by kernel_rfl) hS ?_;refine tkH 7 23 (.int .i64 c.bytes) rfl (by kernel_rfl) (fun _ _ _ h=>h) (fun Z hZ => ?y7) hS ?_
  case y7=>(have z1:Z.cell? ⟨w.heap.size,9,none⟩=some (.int .i64 c.bytes):=qab hZ.1 9;go_simp)
  refine tkH 8 24 (.agg #[.int .i64 c.depth,.int .i64 c.bytes]) rfl (by kernel_rfl) (fun _ _ _ h=>h) (fun Z hZ=>by kernel_rfl) hS ?_;refine tkH 9 25 (.pointer (some ⟨N4,0,none⟩)) rfl (by kernel_rfl) (fun _ _ _ h=>h) (fun Z hZ=>by kernel_rfl) hS ?_;refine tkH 10 26 (.agg (qan c.labels.toNat (qcF c.labels.toNat c.L))) rfl (by kernel_rfl) (fun _ _ _ h=>h) (fun Z hZ => ?y10) hS ?_
  case y10=>exact qw8 107 (.tmp 25) (by kernel_rfl) N4 0 (by kernel_rfl) (qan c.labels.toNat (qcF c.labels.toNat c.L)) _ (HOA.out Z hZ.2) underlying107 (by kernel_rfl) (qwy _ _)
  refine tkH 11 27 (.pointer (some ⟨w.heap.size,4,none⟩)) rfl (by kernel_rfl) (fun _ _ _ h=>h) (fun Z hZ=>by kernel_rfl) hS ?_;refine tkH 12 28 (.int .i64 c.clr) rfl (by kernel_rfl) (fun _ _ _ h=>h) (fun Z hZ => ?y12) hS ?_
  case y12=>(have z1:Z.cell? ⟨w.heap.size,4,none⟩=some (.int .i64 c.clr):=qab hZ.1 4;go_simp)
  refine tkH 13 29 (.pointer (some ⟨w.heap.size,5,none⟩)) rfl (by kernel_rfl) (fun _ _ _ h=>h) (fun Z hZ=>by kernel_rfl) hS ?_;refine tkH 14 30 (.int .i64 c.key) rfl (by kernel_rfl) (fun _ _ _ h=>h) (fun Z hZ => ?y14) hS ?_
  case y14=>(have z1:Z.cell? ⟨w.heap.size,5,none⟩=some (.int .i64 c.key):=qab hZ.1 5;go_simp)
  refine tkH 15 31 (.pointer (some ⟨N4,37,none⟩)) rfl (by kernel_rfl) (fun _ _ _ h=>h) (fun Z hZ=>by kernel_rfl) hS ?_;refine tkH 16 32 (.slice sa (qlc c).length sc) rfl (by kernel_rfl) (fun _ _ _ h=>h) (fun Z hZ => ?y16) hS ?_
  case y16=>(have z1:=(qab hZ.2 37).trans h37;go_simp)
  refine tkH 17 33 (.pointer (some ⟨w.heap.size,2,none⟩)) rfl (by kernel_rfl) (fun _ _ _ h=>h) (fun Z hZ=>by kernel_rfl) hS ?_;refine tkH 18 34 (.int .i64 c.dflt) rfl (by kernel_rfl) (fun _ _ _ h=>h) (fun Z hZ => ?y18) hS ?_
  case y18=>(have z1:Z.cell? ⟨w.heap.size,2,none⟩=some (.int .i64 c.dflt):=qab hZ.1 2;go_simp)
  refine tkH 21 37 (.pointer (some ⟨w.heap.size,10,none⟩)) rfl (by kernel_rfl) (fun _ _ _ h=>h) (fun Z hZ=>by kernel_rfl) hS ?_;refine tkH 22 38 (.slice c.ba c.B.length c.bcap) rfl (by kernel_rfl) (fun _ _ _ h=>h) (fun Z hZ => ?y22) hS ?_
  case y22=>(have z1:Z.cell? ⟨w.heap.size,10,none⟩=some (.slice c.ba c.B.length c.bcap):=qab hZ.1 10;go_simp)
  refine rdS 19 rfl (by kernel_rfl) (fun K hK => ?_);go_simp;refine(qkC W4 sa sc (qlc c) c.dflt HPR4.out HN16.out H8.out HK3.out).mono ?_;rintro e w5 ⟨AA,q,sts,ta,tc,nf,mf,rfl,hCP⟩;simp only[];have hB5:=hCP.au.below;have HCP:=qaa hCP;have HB5:=qaa (HB4.out.trans (hB5.mono HB4.out.size));have hS5:(fun Z:World=>Z.heap[w.heap.size]? = some (.cells c.arr 45)∧Z.heap[N4]? = some (.cells A 110)) w5:=⟨(hB5.block _ (ltA hS.1)).trans hS.1,(hB5.block _ (ltA hS.2)).trans hS.2⟩
  have HW4:=qaa HB4.out.size;have HW5:=qaa hB5.size;refine hK.out _ _ hS5 (fun _ => ?_);refine tkH 20 36 (.agg (qan c.labels.toNat (qcF c.labels.toNat c.L)++#[.int .i64 c.clr,.int .i64 c.key,.pointer (some ⟨AA,0,none⟩)])) rfl (by kernel_rfl) (fun _ _ _ h=>h) (fun Z hZ=>by kernel_rfl) hS5 ?_;refine rdS 23 rfl (by kernel_rfl) (fun K hK => ?_);go_simp;refine(qmY w5 c.ba c.bcap c.B ((HC.out.below HB5.out).ints) HC.out.bn HL8.out).mono ?_;rintro e w6 ⟨ba,bc,rfl,hR6,hB6⟩;simp only[];have hS6:(fun Z:World=>Z.heap[w.heap.size]? = some (.cells c.arr 45)∧Z.heap[N4]? = some (.cells A 110)) w6:=⟨(hB6.block _ (ltA hS5.1)).trans hS5.1,(hB6.block _ (ltA hS5.2)).trans hS5.2⟩
  have HR6:=qaa hR6;have HB6:=qaa hB6;refine hK.out _ _ hS6 (fun _ => ?_);refine tkH 24 40 (.agg (quV c AA (.slice ba c.B.length bc))) rfl (by kernel_rfl) (fun _ _ _ h=>h) (fun Z hZ=>by kernel_rfl) hS6 ?_;refine rdS 25 rfl (by kernel_rfl) (fun K hK => ?_);go_simp;have hS7:(fun Z:World=>Z.heap[w.heap.size]? = some (.cells c.arr 45)∧Z.heap[N4]? = some (.cells A 110)) (w6.alloc (.cells (quV c AA (.slice ba c.B.length bc)) 119)):=⟨(Below.heap_alloc _ _ _ (ltA hS6.1)).trans hS6.1,(Below.heap_alloc _ _ _ (ltA hS6.2)).trans hS6.2⟩
  refine hK.out _ _ hS7 (fun _ => ?_);refine tkH 26 2 (.pointer (some ⟨w6.heap.size,0,none⟩)) rfl (by kernel_rfl) (fun _ _ _ h=>h) (fun Z hZ=>by kernel_rfl) hS7 ?_;refine tkH 27 3 (.int .i64 0) rfl (by kernel_rfl) (fun _ _ _ h=>h) (fun Z hZ=>by kernel_rfl) hS7 ?_;refine wpAnyH_done (by kernel_rfl) ?_ _;go_simp;go_wp2
  go_ret2
  have hB7:Below w6.heap.size w6 (w6.alloc (.cells (quV c AA (.slice ba c.B.length bc)) 119)):=bwA;have hB57:=HB6.out.trans (hB7.mono HB6.out.size);refine⟨HB5.out.trans (hB57.mono HB5.out.size),.inr ⟨HE0.out,W4,w6.heap.size,AA,q,sts,ta,tc,nf,mf,.slice ba c.B.length bc,rfl,HW4.out,Nat.le_trans HW5.out HB6.out.size,World.size_alloc _ _,qac w6 _,⟨{HCP.out with au:=HCP.out.au.next hB57},?_,_,_,rfl⟩⟩⟩;exact HR6.out.same (fun g hg=>⟨Nat.le_trans HW5.out hg.1,hg.2⟩) (fun g hg=>Below.heap_alloc _ _ _ hg.2)
 have HE:=qaa h0;have HEQ:Hid (qs2 c w (.returned (.tuple #[.pointer none,.int .i64 (qbw c)])) (w2.alloc (.cells A 110))):=⟨HB3.out.below,.inl ⟨h0,rfl⟩⟩
 generalize qbw c=E at *;generalize qdN c=N at *;have hE:(E==0)=false:=by simpa using HE.out
 go_wp2_with (first
  |(refine qch rfl rfl _ rfl w2.heap.size rfl ?_)
  |(refine wpList_store_row rfl 110 _ _ rfl w2.heap.size A rfl rfl 110 qcG (qac w2 _) (qbk HA1.out) HZ.out HA2.out ?_;rw[World.setRow_alloc_new]))
 go_ret2
 exact HEQ.out
end
section
open Go.RowKit
def Bad {α:Type}(r:Except (Int×Int) α):Prop:=∀en pl,r=.error (en,pl)→en≠0
theorem qii (bs:List UInt8)(lim:Int):∀(k p a:Nat),Bad (qd9 bs lim k p a)
 |0,p,a,en,pl,h=>by rw[qd9] at h;cases h
 |k+1,p,a,en,pl,h=>by
  rw[qd9] at h
  repeat' split at h
  all_goals first|(injection h with h;injection h with h1 h2;omega)|exact qii bs lim k _ _ en pl h
theorem qln (so w:Int)(x:Nat)(p:Int):Bad (nbF so w x p):=fun en pl h=>by
 unfold nbF at h
 repeat' split at h
 all_goals first|(injection h with h;injection h with h1 h2;omega)|cases h
theorem qlY (bs:List UInt8)(lim:Int):∀(k p:Nat) (acc:List UInt8),Bad (qhb bs lim k p acc)
 |0,p,acc,en,pl,h=>by rw[qhb] at h;cases h
 |k+1,p,acc,en,pl,h=>by
  rw[qhb] at h
  repeat' split at h
  all_goals first|(injection h with h;injection h with h1 h2;omega)|exact qlY bs lim k _ _ en pl h
theorem qhA (bs:List UInt8)(lim:Int):∀(k p:Nat) (acc:List UInt8) (wh:Nat),Bad (qfg bs lim k p acc wh)
 |0,p,acc,wh,en,pl,h=>by
  rw[qfg] at h;split at h
  ·cases h
  injection h with h;injection h with h1 h2;omega
 |k+1,p,acc,wh,en,pl,h=>by
  rw[qfg] at h;split at h
  ·injection h with h;injection h with h1 h2;omega
  split at h
  ·injection h with h;injection h with h1 h2;omega
  split at h
  ·injection h with h;injection h with h1 h2;omega
  exact qhA bs lim k _ _ _ en pl h
theorem qsa (hd:Nat→Nat×Nat×Nat)(bs:List UInt8)(lim:Int)(ks:List (List UInt8))(p:Nat):Bad (qfr hd bs lim ks p):=fun en pl h=>by
 unfold qfr at h;split at h
 ·injection h with h;injection h with h1 h2;omega
 split at h
 ·injection h with h;injection h with h1 h2;omega
 split at h
 ·split at h
  ·next e he=>injection h with h;subst h;exact qii bs lim _ _ _ en pl he
  split at h
  ·next e he=>injection h with h;subst h;exact qhA bs lim _ _ _ _ en pl he
  split at h
  ·injection h with h;injection h with h1 h2;omega
  cases h
 injection h with h;injection h with h1 h2;omega
theorem qh0 (hrd:∀p,Bad (rd p)):∀(n p:Nat) (acc:List (DataW Unit)),Bad (qb9 rd n p acc)
 |0,p,acc,en,pl,h=>by rw[qb9] at h;cases h
 |n+1,p,acc,en,pl,h=>by
  rw[qb9] at h;split at h
  ·next e he=>injection h with h;subst h;exact hrd _ en pl he
  exact qh0 hrd n _ _ en pl h
theorem qeT {kf:List (List UInt8)→Nat→Except (Int×Int) (List UInt8×Nat)}(hkf:∀ks p,Bad (kf ks p))(hrd:∀p,Bad (rd p)):∀(n p:Nat) (ks:List (List UInt8)) (acc:List (Lit×DataW Unit)),Bad (qaI kf rd n p ks acc)
 |0,p,ks,acc,en,pl,h=>by rw[qaI] at h;cases h
 |n+1,p,ks,acc,en,pl,h=>by
  rw[qaI] at h;split at h
  ·next e he=>injection h with h;subst h;exact hkf _ _ en pl he
  split at h
  ·next e he=>injection h with h;subst h;exact hrd _ en pl he
  exact qeT hkf hrd n _ _ _ en pl h
theorem qrR {li:Nat→Nat→Except (Int×Int) (List (DataW Unit)×Nat)}{ma:Nat→Nat→Except (Int×Int) (List (Lit×DataW Unit)×Nat)}{so w x q:Nat}(hli:so=9→∀x q,Bad (li x q))(hma:so=10→∀x q,Bad (ma x q)):Bad (qjF bs lim li ma so w x q):=fun en pl h=>by
 unfold qjF at h;split at h
 ·cases h
 ·cases h
 ·split at h
  ·next e he=>injection h with h;subst h;exact qln _ _ _ _ en pl he
  cases h
 ·split at h
  ·next e he=>injection h with h;subst h;exact qln _ _ _ _ en pl he
  cases h
 ·split at h
  ·next e he=>injection h with h;subst h;exact qln _ _ _ _ en pl he
  cases h
 ·split at h
  ·next e he=>injection h with h;subst h;exact qlY _ _ _ _ _ en pl he
  cases h
 ·split at h
  ·next e he=>injection h with h;subst h;exact qhA _ _ _ _ _ _ en pl he
  cases h
 ·split at h
  ·next e he=>injection h with h;subst h;exact hli rfl _ _ en pl he
  cases h
 ·split at h
  ·next e he=>injection h with h;subst h;exact hma rfl _ _ en pl he
  cases h
 cases h
theorem qlo (hd:Nat→Nat×Nat×Nat)(bs:List UInt8)(lim depth:Int):∀(g wi p:Nat),(wi:Int)≤depth→depth<wi+g→Bad (thB hd bs lim depth g wi p)
 |0,wi,p,h1,h2,_,_,_=>by omega
 |g+1,wi,p,h1,h2,en,pl,h=>by
  cases hc:bs[p]? with
  |none =>
   unfold thB at h;rw[hc] at h;injection h with h;injection h with h3 h4;omega
  |some c =>
   by_cases hl:(p:Int)=lim
   ·unfold thB at h;rw[hc] at h;simp only[] at h;rw[if_pos hl] at h;injection h with h;injection h with h3 h4;omega
   rw[qhJ hc hl rfl] at h;split at h
   ·injection h with h;injection h with h3 h4;omega
   split at h
   ·injection h with h;injection h with h3 h4;omega
   next hn =>
   split at h
   ·next e he=>injection h with h;subst h;exact qii _ _ _ _ _ en pl he
   have ih:¬(wi:Int)=depth→∀q,Bad (thB hd bs lim depth g (wi+1) q):=fun hne q=>qlo hd bs lim depth g (wi+1) q (by omega) (by omega);exact qrR (fun h9 x q=>qh0 (ih (fun hh=>hn ⟨.inl h9,hh⟩)) _ _ _) (fun h10 x q=>qeT (fun ks p=>qsa hd bs lim ks p) (ih (fun hh=>hn ⟨.inr h10,hh⟩)) _ _ _ _) en pl h
theorem qdH (bs:List UInt8)(lim:Int):∀(k p:Nat),Bad (spF bs lim k p)
 |0,p,en,pl,h=>by rw[spF] at h;cases h
 |k+1,p,en,pl,h=>by
  rw[spF] at h;split at h
  ·cases h
  split at h
  ·injection h with h;injection h with h1 h2;omega
  split at h
  ·exact qdH bs lim k _ en pl h
  cases h
theorem qbW (bs:List UInt8)(lim:Int):∀(l:List UInt8) (p:Nat),Bad (qaT bs lim l p)
 |[],p,en,pl,h=>by rw[qaT] at h;cases h
 |x::xs,p,en,pl,h=>by
  rw[qaT] at h;split at h
  ·injection h with h;injection h with h1 h2;omega
  split at h
  ·injection h with h;injection h with h1 h2;omega
  split at h
  ·exact qbW bs lim xs _ en pl h
  injection h with h;injection h with h1 h2;omega
theorem qio (bs:List UInt8)(lim:Int):∀(k p a:Nat),Bad (qgA bs lim k p a)
 |0,p,a,en,pl,h=>by rw[qgA] at h;cases h
 |k+1,p,a,en,pl,h=>by
  rw[qgA] at h;split at h
  ·injection h with h;injection h with h1 h2;omega
  split at h
  ·injection h with h;injection h with h1 h2;omega
  split at h
  ·injection h with h;injection h with h1 h2;omega
  exact qio bs lim k _ _ en pl h
theorem qpL (bs:List UInt8)(lim:Int)(p:Nat):Bad (qgy bs lim p):=fun en pl h=>by
 unfold qgy at h;split at h
 ·next e he=>injection h with h;subst h;exact qio _ _ _ _ _ en pl he
 split at h
 ·injection h with h;injection h with h1 h2;omega
 split at h
 ·split at h
  ·next e he=>injection h with h;subst h;exact qbW _ _ _ _ en pl he
  split at h
  ·next e he=>injection h with h;subst h;exact qio _ _ _ _ _ en pl he
  split at h
  ·cases h
  injection h with h;injection h with h1 h2;omega
 cases h
theorem qqz (bs:List UInt8)(lim:Int)(p:Nat):Bad (qnj bs lim p):=fun en pl h=>by
 unfold qnj at h;split at h
 ·injection h with h;injection h with h1 h2;omega
 split at h
 ·injection h with h;injection h with h1 h2;omega
 repeat' split at h
 all_goals first|(injection h with h;injection h with h1 h2;omega)|exact qpL _ _ _ en pl h|cases h
theorem qf3 (bs:List UInt8)(lim:Int):∀(g p:Nat) (acc:List UInt8) (wh:Nat),Bad (qfe bs lim g p acc wh)
 |0,p,acc,wh,en,pl,h=>by rw[qfe] at h;injection h with h;injection h with h1 h2;omega
 |g+1,p,acc,wh,en,pl,h=>by
  rw[qfe] at h;split at h
  ·injection h with h;injection h with h1 h2;omega
  split at h
  ·injection h with h;injection h with h1 h2;omega
  split at h
  ·cases h
  split at h
  ·split at h
   ·next e he=>injection h with h;subst h;exact qqz _ _ _ en pl he
   exact qf3 bs lim g _ _ _ en pl h
  split at h
  ·injection h with h;injection h with h1 h2;omega
  split at h
  ·injection h with h;injection h with h1 h2;omega
  exact qf3 bs lim g _ _ _ en pl h
theorem qiq (bs:List UInt8)(lim:Int)(most:Nat)(z:Bool):∀(g p num:Nat),Bad (qfi bs lim most z g p num)
 |0,p,num,en,pl,h=>by unfold qfi at h;cases h
 |g+1,p,num,en,pl,h=>by
  unfold qfi at h;split at h
  ·cases h
  split at h
  ·injection h with h;injection h with h1 h2;omega
  split at h
  ·split at h
   ·injection h with h;injection h with h1 h2;omega
   split at h
   ·injection h with h;injection h with h1 h2;omega
   exact qiq bs lim most z g _ _ en pl h
  split at h
  ·injection h with h;injection h with h1 h2;omega
  cases h
theorem qqA (s:Src)(c:UInt8):Bad (qg4 s c):=fun en pl h=>by
 unfold qg4 at h;split at h
 ·split at h
  ·injection h with h;injection h with h1 h2;omega
  split at h
  ·injection h with h;injection h with h1 h2;omega
  split at h
  ·split at h
   ·cases h
   next e he=>injection h with h;subst h;exact qiq _ _ _ _ _ _ _ en pl he
  injection h with h;injection h with h1 h2;omega
 split at h
 ·cases h
 next e he=>injection h with h;subst h;exact qiq _ _ _ _ _ _ _ en pl he
theorem qiD {α:Type}{itF:α→Nat→Except (Int×Int) (α×Nat)}{last:Nat}(hit:∀a p,Bad (itF a p)):∀(g p:Nat) (a:α),Bad (qgW bs lim itF last g p a)
 |0,p,a,en,pl,h=>by rw[qgW] at h;injection h with h;injection h with h1 h2;omega
 |g+1,p,a,en,pl,h=>by
  rw[qgW] at h;split at h
  ·next e he=>injection h with h;subst h;exact qdH _ _ _ _ en pl he
  split at h
  ·next e he=>injection h with h;subst h;exact hit _ _ en pl he
  split at h
  ·next e he=>injection h with h;subst h;exact qdH _ _ _ _ en pl he
  split at h
  ·injection h with h;injection h with h1 h2;omega
  split at h
  ·injection h with h;injection h with h1 h2;omega
  split at h
  ·cases h
  split at h
  ·exact qiD hit g _ _ en pl h
  injection h with h;injection h with h1 h2;omega
theorem qlH {α:Type}{itF:α→Nat→Except (Int×Int) (α×Nat)}{last:Nat}(hit:∀a p,Bad (itF a p))(p:Nat)(a:α):Bad (qe4 bs lim itF last p a):=fun en pl h=>by
 unfold qe4 at h;split at h
 ·next e he=>injection h with h;subst h;exact qdH _ _ _ _ en pl he
 split at h
 ·exact qiD hit _ _ _ en pl h
 split at h
 ·injection h with h;injection h with h1 h2;omega
 split at h
 ·cases h
 exact qiD hit _ _ _ en pl h
theorem qtS (hrd:∀p,Bad (rd p))(a:List (DataW Unit))(p:Nat):Bad (liJ rd a p):=fun en pl h=>by
 unfold liJ at h;split at h
 ·next e he=>injection h with h;subst h;exact hrd _ en pl he
 cases h
theorem qre (bs:List UInt8)(lim:Int)(ks:List (List UInt8))(p:Nat):Bad (qmo bs lim ks p):=fun en pl h=>by
 unfold qmo at h;split at h
 ·next e he=>injection h with h;subst h;exact qbW _ _ _ _ en pl he
 split at h
 ·next e he=>injection h with h;subst h;exact qf3 _ _ _ _ _ _ en pl he
 split at h
 ·injection h with h;injection h with h1 h2;omega
 cases h
theorem quB (hrd:∀p,Bad (rd p))(a:List (List UInt8)×List (Lit×DataW Unit))(p:Nat):Bad (enJ bs lim rd a p):=fun en pl h=>by
 unfold enJ at h;split at h
 ·next e he=>injection h with h;subst h;exact qre _ _ _ _ en pl he
 split at h
 ·next e he=>injection h with h;subst h;exact qdH _ _ _ _ en pl he
 split at h
 ·next e he=>injection h with h;subst h;exact qbW _ _ _ _ en pl he
 split at h
 ·next e he=>injection h with h;subst h;exact qdH _ _ _ _ en pl he
 split at h
 ·next e he=>injection h with h;subst h;exact hrd _ en pl he
 cases h
theorem qq0 {depth:Int}{wi:Nat}{nm:UInt8→Nat→Except (Int×Int) (Int×Nat)}{c:UInt8}{p:Nat}(hrd:¬(wi:Int)=depth→∀p,Bad (rd p))(hnm:∀c p,Bad (nm c p)):Bad (qqi bs lim depth wi rd nm c p):=fun en pl h=>by
 unfold qqi at h;split at h
 ·split at h
  ·next e he=>injection h with h;subst h;exact qbW _ _ _ _ en pl he
  cases h
 split at h
 ·split at h
  ·next e he=>injection h with h;subst h;exact qbW _ _ _ _ en pl he
  cases h
 split at h
 ·split at h
  ·next e he=>injection h with h;subst h;exact qbW _ _ _ _ en pl he
  cases h
 split at h
 ·split at h
  ·next e he=>injection h with h;subst h;exact qf3 _ _ _ _ _ _ en pl he
  cases h
 split at h
 ·split at h
  ·injection h with h;injection h with h1 h2;omega
  next hn =>
  split at h
  ·next e he=>injection h with h;subst h;exact qlH (qtS (hrd hn)) _ _ en pl he
  cases h
 split at h
 ·split at h
  ·injection h with h;injection h with h1 h2;omega
  next hn =>
  split at h
  ·next e he=>injection h with h;subst h;exact qlH (quB (hrd hn)) _ _ en pl he
  cases h
 split at h
 ·split at h
  ·next e he=>injection h with h;subst h;exact hnm _ _ en pl he
  cases h
 injection h with h;injection h with h1 h2;omega
theorem qnJ (bs:List UInt8)(lim depth:Int)(nm:UInt8→Nat→Except (Int×Int) (Int×Nat))(hnm:∀c p,Bad (nm c p)):∀(g wi p:Nat),(wi:Int)≤depth→depth<wi+g→Bad (thJ bs lim depth nm g wi p)
 |0,wi,p,h1,h2,_,_,_=>by omega
 |g+1,wi,p,h1,h2,en,pl,h=>by
  rw[thJ] at h;split at h
  ·injection h with h;injection h with h3 h4;omega
  split at h
  ·injection h with h;injection h with h3 h4;omega
  exact qq0 (fun hn q=>qnJ bs lim depth nm hnm g (wi+1) q (by omega) (by omega)) hnm en pl h
theorem qti (fm:Int)(bs:List UInt8)(d l:Int)(p:Nat)(hd:0≤d):Bad (thO fm bs d l p):=fun en pl h=>by
 unfold thO at h;split at h
 ·exact qnJ _ _ _ _ (fun c p=>qqA _ _) _ _ _ (by simpa using hd) (by omega) en pl h
 split at h
 ·exact qlo _ _ _ _ _ _ _ (by simpa using hd) (by omega) en pl h
 exact qlo _ _ _ _ _ _ _ (by simpa using hd) (by omega) en pl h
theorem qlS (fm:Int)(bs:List UInt8)(d l:Int)(hd:0≤d):Bad (qgE fm bs d l):=fun en pl h=>by
 have hsp:∀p,Bad (spO fm bs l p):=fun p en pl h=>by
  unfold spO at h;split at h
  ·exact qdH _ _ _ _ en pl h
  cases h
 unfold qgE qnZ at h;split at h
 ·next e he=>injection h with h;subst h;exact hsp _ en pl he
 split at h
 ·next e he=>injection h with h;subst h;exact qti fm bs d l _ hd en pl he
 split at h
 ·next e he=>injection h with h;subst h;exact hsp _ en pl he
 split at h
 ·next e he =>
  injection h with h;subst h;unfold qqn at he;split at he
  ·cases he
  split at he<;>(injection he with he;injection he with h1 h2;omega)
 cases h
end
end Go.Proofs.YtllcbnfmihfaaaaGreatDoor
