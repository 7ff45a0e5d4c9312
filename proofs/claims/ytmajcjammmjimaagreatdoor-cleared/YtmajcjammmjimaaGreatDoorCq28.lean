import Derived.Test.YtmajcjammmjimaaGreatDoorCq27
import Derived.Test.YtmajcjammmjimaaGreatDoorCq22
set_option maxRecDepth 100000
set_option maxHeartbeats 8000000
set_option linter.all false
namespace Go.Proofs.YtmajcjammmjimaaGreatDoor
open Go.Proofs.Tryz
variable{rd:Nat->Except (Int×Int) (DataW Unit×Nat)}{bs:List UInt8}{lim:Int}
section
open Go.RowKit Go.Lib
def qxB(c:Cfg)(A:Nat)(bv:Value):Array Value:=#[.int .i64 c.inn,.int .i64 c.out,.int .i64 c.depth,.int .i64 c.bytes]++(qaq c.labels.toNat (qc1 c.labels.toNat c.L)++#[.int .i64 c.clr,.int .i64 c.key,.pointer (some ⟨A,0,none⟩)])++#[bv,.slice none 0 0,.bool false]
def qlm(c:Cfg):List (List (Nat×List UInt8)×Int×Int):=(qcH c.pol.data.toList).map enS
theorem qos(w:World)(a:Option Addr)(i:Nat)(B:List Int)(h:qc9 w a B)(A:a=none->B.length=0/\i=0)(G:B.length<=8):Calls prog 37 #[.slice a B.length i] w λe c=>∃d f,e=.returned (.slice d B.length f)/\qbE c 3 1 (λg=>w.heap.size<=g/\g<c.heap.size) (.slice d B.length f) B.length (B.map (Value.int .i64))/\Below w.heap.size w c:=by
 have s:∀{c:World} {v:Value} {n:Nat} {q:List Value},c.ownsRow w.heap.size 3 1 v n q->∃d f,v=.slice d n f/\qbE c 3 1 (λg=>w.heap.size<=g/\g<c.heap.size) (.slice d n f) n q:=by
  rintro c v n q ⟨k,m⟩;rcases m with⟨rfl,rfl⟩|⟨g,i,x,rfl,C,t,D⟩
  ·exact⟨none,0,rfl,k,.inl ⟨rfl,rfl⟩⟩
  exact⟨_,_,rfl,k,.inr ⟨g,i,x,rfl,⟨C,(ltA t)⟩,t,D⟩⟩
 cases a with
 |none =>
  obtain⟨l,F⟩:=A rfl;refine(Tryz.slices_Clone_int_nil B.length i w).mono ?_;rintro e c ⟨rfl,rfl⟩;have p:=ka7 l;subst p;exact⟨none,0,rfl,⟨rfl,.inl ⟨rfl,rfl⟩⟩,kam _ _⟩
 |some u =>
  by_cases y:B.length=0
  ·have p:=ka7 y;subst p;refine(Tryz.slices_Clone_int_zero u i w).mono ?_;rintro e c ⟨E,rfl,k,_,m⟩;obtain⟨d,f,rfl,o⟩:=s k;exact⟨d,f,rfl,o,m⟩
  obtain⟨b,off,l,H,z⟩:=h.at_ 0 (by omega);injection l with l;subst l;refine(Tryz.slices_Clone_int b off B.length i B w (kaf _) (by omega) (λj r=>?_)).mono ?_
  ·rw[z j r,kbh,kab r];rfl
  rintro e c ⟨E,rfl,k,_,m⟩;rw[kcd]at k;obtain⟨d,f,rfl,o⟩:=s k;exact⟨d,f,rfl,o,m⟩
structure GOp(c:Cfg)(W0:World)(L A:Nat)(q:Aut)(sts:List ((Nat->Nat)×Int×Int))(sa:Option Addr)(sc:Nat)(nf mf:Lit->Option Nat)(bv:Value)(V:World):Prop where
 cp:q0x W0 (qlm c) c.dflt A q sts sa sc nf mf V
 bk:qbE V 3 1 (λg=>W0.heap.size<=g/\g<L) bv c.B.length (c.B.map (Value.int .i64))
 bs:∃ba bc,bv=.slice ba c.B.length bc
def qut(c:Cfg)(w:World)(e:Ending)(w':World):Prop :=
 Below w.heap.size w w'/\((¬qb4 c=0/\e=.returned (.tuple #[.pointer none,.int .i64 (qb4 c)]))\/(qb4 c=0/\∃W0 L A q sts sa sc nf mf bv,e=.returned (.tuple #[.pointer (some ⟨L,0,none⟩),.int .i64 0])/\w.heap.size<=W0.heap.size/\W0.heap.size<=L/\w'.heap.size=L+1/\w'.heap[L]?=some (.cells (qxB c A bv) 96)/\GOp c W0 L A q sts sa sc nf mf bv w'))
theorem q0B{A:Array Value}{O:Array Value}{a:Option Addr}{k cap:Nat}(h:A=qcq O a k cap)(d:O.size=37):∀(j:Nat) (u:Value),O[j]?=some u->A[j]?=some u:=by
 intro j u b;have c:j<37:=by have:=ltA b;omega
 rw[h];unfold qcq;rw[kdL,kac (by omega)];exact b
theorem qzi(n:Nat)(m:Nat->Nat->Bool):(prog.info? 84).map (·.size)=some (qaq n m).size:=by rw[qae];kernel_rfl
theorem qs7(c:Cfg)(w:World)(Q:qia w c)(m:qmS w)(ac:qb4 c=0->c.B.length<=8):Calls prog 15 #[.agg c.arr] w (qut c w):=by
 have HS:=qab c.size;have W:=qab Q;have V:=qab ac;have r:=qab (qeV w c);have q:=qlB c _ (r.out.cfg Q) (m.below r.out.below);have I:=qab (qlW c);clear Q m ac;go_enter func15,ntmps15
 go_wp2_with(first
  |(refine kak rfl 25 _ rfl _ rfl _ _ _ _ r.out.box underlying25 rfl (qaD HS.out) ?_)
  |fail)
 refine q.mono ?_;clear q;rintro e d ⟨A,rfl,t,aa⟩;rw[I.out.1,I.out.2];have T:=qab t.1;have U:=qab t.2.1;have g:Hid (qcT.size=A.size):=by show _=_;rw[t.1];exact qbj
 have s:=qab (r.out.step aa);have y:Hid (qz1 w c d.heap.size A (d.alloc (.cells A 87))):=⟨s.out.below.alloc s.out.below.size _,(kae _ _ _ (ltA s.out.box)).trans s.out.box,qac _ _⟩
 have J:=t.2.2;rw[I.out.1]at J;clear t aa r s;by_cases f:qb4 c=0
 ·obtain⟨_,x,sk,R,M,lo,ae⟩:=J f;obtain⟨ra,rc,a0,af⟩:=ae.pru;injection a0 with e1 e2 e3;subst e1;subst e2;subst e3;have aw:A[37]?=some (.slice x (qlm c).length R):=by
   rw[M];unfold qcq;rw[kdL,qae];rfl
  have ag:=qab (q0B M (qae _ _));have an:Hid (qep (d.alloc (.cells A 87)) x (qlm c)):=af.below bwA;have aq:=qpk (qrm f);have ak:=qab (V.out f);have ah:=qab f;clear M J ae af V;rw[f];clear f;obtain⟨hn,h8,az⟩:=aq;have al:Hid ((qlm c).length<=16):=hn;have H8:Hid (∀i (h:i<(qlm c).length),(qlm c)[i].1.length<=8):=h8;have aj:Hid (∀i (h:i<(qlm c).length) j (h2:j<(qlm c)[i].1.length),(qlm c)[i].1[j].1<=3/\(qlm c)[i].1[j].2.length<=1000000000):=az
  go_wp2_with(first
   |(refine qcj rfl rfl _ rfl d.heap.size rfl ?_)
   |(refine kan rfl 87 _ _ rfl d.heap.size A rfl rfl 87 qcT (qac d _) (qbz T.out) g.out U.out ?_;rw[kaB]))
  have b:(λZ:World=>Z.heap[w.heap.size]?=some (.cells c.arr 25)/\Z.heap[d.heap.size]?=some (.cells A 87)) { (d.alloc (.cells A 87))with drawn:=(d.alloc (.cells A 87)).drawn+1}:=⟨y.out.box,y.out.row⟩
  refine kaM (S:=λZ=>Z.heap[w.heap.size]?=some (.cells c.arr 25)/\Z.heap[d.heap.size]?=some (.cells A 87)) (by kernel_rfl) ?_;have F:Hid (Below w.heap.size w { (d.alloc (.cells A 87))with drawn:=(d.alloc (.cells A 87)).drawn+1}):=y.out.below.drew;have ao:Hid (qep { (d.alloc (.cells A 87))with drawn:=(d.alloc (.cells A 87)).drawn+1} x (qlm c)):=an.out.below (kam _ _).drew;generalize({ (d.alloc (.cells A 87))with drawn:=(d.alloc (.cells A 87)).drawn+1}:World)=W4 at *;generalize d.heap.size=N4 at *;have am:Hid (∀Z:World,Z.heap[N4]?=some (.cells A 87)->∀(j:Nat) (u:Value),(qaq c.labels.toNat (qc1 c.labels.toNat c.L))[j]?=some u->Z.cell? ⟨N4,0+j,none⟩=some u):=λZ a j u hu=>by rw[kaL];exact(qaa a j).trans (ag.out j u hu)
  refine tkH 0 16 (.pointer (some ⟨w.heap.size,6,none⟩)) rfl (by kernel_rfl) (λ_ _ _ h=>h) (λZ a=>by kernel_rfl) b ?_;refine tkH 1 17 (.int .i64 c.inn) rfl (by kernel_rfl) (λ_ _ _ h=>h) (λZ a=>?y1) b ?_
  case y1=>(have l:Z.cell? ⟨w.heap.size,6,none⟩=some (.int .i64 c.inn):=qaa a.1 6;go_simp)
  refine tkH 2 18 (.pointer (some ⟨w.heap.size,7,none⟩)) rfl (by kernel_rfl) (λ_ _ _ h=>h) (λZ a=>by kernel_rfl) b ?_;refine tkH 3 19 (.int .i64 c.out) rfl (by kernel_rfl) (λ_ _ _ h=>h) (λZ a=>?y3) b ?_
  case y3=>(have l:Z.cell? ⟨w.heap.size,7,none⟩=some (.int .i64 c.out):=qaa a.1 7;go_simp)
  refine tkH 4 20 (.pointer (some ⟨w.heap.size,8,none⟩)) rfl (by kernel_rfl) (λ_ _ _ h=>h) (λZ a=>by kernel_rfl) b ?_;refine tkH 5 21 (.int .i64 c.depth) rfl (by kernel_rfl) (λ_ _ _ h=>h) (λZ a=>?y5) b ?_
  case y5=>(have l:Z.cell? ⟨w.heap.size,8,none⟩=some (.int .i64 c.depth):=qaa a.1 8;go_simp)
  refine tkH 6 22 (.pointer (some ⟨w.heap.size,9,none⟩)) rfl (by kernel_rfl) (λ_ _ _ h=>h) (λZ a=>by kernel_rfl) b ?_;refine tkH 7 23 (.int .i64 c.bytes) rfl (by kernel_rfl) (λ_ _ _ h=>h) (λZ a=>?y7) b ?_
  case y7=>(have l:Z.cell? ⟨w.heap.size,9,none⟩=some (.int .i64 c.bytes):=qaa a.1 9;go_simp)
  refine tkH 8 24 (.agg #[.int .i64 c.depth,.int .i64 c.bytes]) rfl (by kernel_rfl) (λ_ _ _ h=>h) (λZ a=>by kernel_rfl) b ?_;refine tkH 9 25 (.pointer (some ⟨N4,0,none⟩)) rfl (by kernel_rfl) (λ_ _ _ h=>h) (λZ a=>by kernel_rfl) b ?_;refine tkH 10 26 (.agg (qaq c.labels.toNat (qc1 c.labels.toNat c.L))) rfl (by kernel_rfl) (λ_ _ _ h=>h) (λZ a=>?y10) b ?_
  case y10=>exact qxG 84 (.tmp 25) (by kernel_rfl) N4 0 (by kernel_rfl) (qaq c.labels.toNat (qc1 c.labels.toNat c.L)) _ (am.out Z a.2) underlying84 (by kernel_rfl) (qzi _ _)
  refine tkH 11 27 (.pointer (some ⟨w.heap.size,4,none⟩)) rfl (by kernel_rfl) (λ_ _ _ h=>h) (λZ a=>by kernel_rfl) b ?_;refine tkH 12 28 (.int .i64 c.clr) rfl (by kernel_rfl) (λ_ _ _ h=>h) (λZ a=>?y12) b ?_
  case y12=>(have l:Z.cell? ⟨w.heap.size,4,none⟩=some (.int .i64 c.clr):=qaa a.1 4;go_simp)
  refine tkH 13 29 (.pointer (some ⟨w.heap.size,5,none⟩)) rfl (by kernel_rfl) (λ_ _ _ h=>h) (λZ a=>by kernel_rfl) b ?_;refine tkH 14 30 (.int .i64 c.key) rfl (by kernel_rfl) (λ_ _ _ h=>h) (λZ a=>?y14) b ?_
  case y14=>(have l:Z.cell? ⟨w.heap.size,5,none⟩=some (.int .i64 c.key):=qaa a.1 5;go_simp)
  refine tkH 15 31 (.pointer (some ⟨N4,37,none⟩)) rfl (by kernel_rfl) (λ_ _ _ h=>h) (λZ a=>by kernel_rfl) b ?_;refine tkH 16 32 (.slice x (qlm c).length R) rfl (by kernel_rfl) (λ_ _ _ h=>h) (λZ a=>?y16) b ?_
  case y16=>(have l:=(qaa a.2 37).trans aw;go_simp)
  refine tkH 17 33 (.pointer (some ⟨w.heap.size,2,none⟩)) rfl (by kernel_rfl) (λ_ _ _ h=>h) (λZ a=>by kernel_rfl) b ?_;refine tkH 18 34 (.int .i64 c.dflt) rfl (by kernel_rfl) (λ_ _ _ h=>h) (λZ a=>?y18) b ?_
  case y18=>(have l:Z.cell? ⟨w.heap.size,2,none⟩=some (.int .i64 c.dflt):=qaa a.1 2;go_simp)
  refine tkH 21 37 (.pointer (some ⟨w.heap.size,10,none⟩)) rfl (by kernel_rfl) (λ_ _ _ h=>h) (λZ a=>by kernel_rfl) b ?_;refine tkH 22 38 (.slice c.ba c.B.length c.bcap) rfl (by kernel_rfl) (λ_ _ _ h=>h) (λZ a=>?y22) b ?_
  case y22=>(have l:Z.cell? ⟨w.heap.size,10,none⟩=some (.slice c.ba c.B.length c.bcap):=qaa a.1 10;go_simp)
  refine rdS 19 rfl (by kernel_rfl) (λK v=>?_);go_simp;refine(ql2 W4 x R (qlm c) c.dflt ao.out al.out H8.out aj.out).mono ?_;rintro e w5 ⟨p,a1,a2,ta,tc,nf,mf,rfl,ad⟩;simp only[];have D:=ad.au.below;have X:=qab ad;have G:=qab (F.out.trans (D.mono F.out.size));have n:(λZ:World=>Z.heap[w.heap.size]?=some (.cells c.arr 25)/\Z.heap[N4]?=some (.cells A 87)) w5:=⟨(D.block _ (ltA b.1)).trans b.1,(D.block _ (ltA b.2)).trans b.2⟩
  have ar:=qab F.out.size;have Y:=qab D.size;refine v.out _ _ n (λ_=>?_);refine tkH 20 36 (.agg (qaq c.labels.toNat (qc1 c.labels.toNat c.L)++#[.int .i64 c.clr,.int .i64 c.key,.pointer (some ⟨p,0,none⟩)])) rfl (by kernel_rfl) (λ_ _ _ h=>h) (λZ a=>by kernel_rfl) n ?_;refine rdS 23 rfl (by kernel_rfl) (λK v=>?_);go_simp;refine(qos w5 c.ba c.bcap c.B ((W.out.below G.out).ints) W.out.bn ak.out).mono ?_;rintro e k ⟨z,C,rfl,ay,O⟩;simp only[];have o:(λZ:World=>Z.heap[w.heap.size]?=some (.cells c.arr 25)/\Z.heap[N4]?=some (.cells A 87)) k:=⟨(O.block _ (ltA n.1)).trans n.1,(O.block _ (ltA n.2)).trans n.2⟩
  have ap:=qab ay;have H:=qab O;refine v.out _ _ o (λ_=>?_);refine tkH 24 40 (.agg (qxB c p (.slice z c.B.length C))) rfl (by kernel_rfl) (λ_ _ _ h=>h) (λZ a=>by kernel_rfl) o ?_;refine rdS 25 rfl (by kernel_rfl) (λK v=>?_);go_simp;have P:(λZ:World=>Z.heap[w.heap.size]?=some (.cells c.arr 25)/\Z.heap[N4]?=some (.cells A 87)) (k.alloc (.cells (qxB c p (.slice z c.B.length C)) 96)):=⟨(kae _ _ _ (ltA o.1)).trans o.1,(kae _ _ _ (ltA o.2)).trans o.2⟩
  refine v.out _ _ P (λ_=>?_);refine tkH 26 2 (.pointer (some ⟨k.heap.size,0,none⟩)) rfl (by kernel_rfl) (λ_ _ _ h=>h) (λZ a=>by kernel_rfl) P ?_;refine tkH 27 3 (.int .i64 0) rfl (by kernel_rfl) (λ_ _ _ h=>h) (λZ a=>by kernel_rfl) P ?_;refine kcF (by kernel_rfl) ?_ _;go_simp;go_wp2
  go_ret2
  have ax:Below k.heap.size k (k.alloc (.cells (qxB c p (.slice z c.B.length C)) 96)):=bwA;have ab:=H.out.trans (ax.mono H.out.size);refine⟨G.out.trans (ab.mono G.out.size),.inr ⟨ah.out,W4,k.heap.size,p,a1,a2,ta,tc,nf,mf,.slice z c.B.length C,rfl,ar.out,kaj Y.out H.out.size,kad _ _,qac k _,⟨{X.out with au:=X.out.au.next ab},?_,_,_,rfl⟩⟩⟩;exact ap.out.same (λav m=>⟨kaj Y.out m.1,m.2⟩) (λav m=>kae _ _ _ m.2)
 have HE:=qab f;have ai:Hid (qut c w (.returned (.tuple #[.pointer none,.int .i64 (qb4 c)])) (d.alloc (.cells A 87))):=⟨y.out.below,.inl ⟨f,rfl⟩⟩
 generalize qb4 c=E at *;generalize qen c=N at *;have hE:(E==0)=false:=by simpa using HE.out
 go_wp2_with(first
  |(refine qcj rfl rfl _ rfl d.heap.size rfl ?_)
  |(refine kan rfl 87 _ _ rfl d.heap.size A rfl rfl 87 qcT (qac d _) (qbz T.out) g.out U.out ?_;rw[kaB]))
 go_ret2
 exact ai.out

end
section
open Go.RowKit
def Bad{α:Type}(r:Except (Int×Int) α):Prop:=∀en pl,r=.error (en,pl)->en≠0/\en≠14
theorem qiJ(bs:List UInt8)(lim:Int):∀(k p a:Nat),Bad (qc4 bs lim k p a)
 |0,p,a,en,pl,h=>by rw[qc4]at h;cases h
 |k+1,p,a,en,pl,h=>by
  rw[qc4]at h
  repeat' split at h
  all_goals first|(injection h with h;injection h with h1 h2;omega)|exact qiJ bs lim k _ _ en pl h
theorem ql4(a w:Int)(x:Nat)(p:Int):Bad (nbF a w x p):=λb c h=>by
 unfold nbF at h
 repeat' split at h
 all_goals first|(injection h with h;injection h with h1 h2;omega)|cases h
theorem qmT(bs:List UInt8)(lim:Int):∀(k p:Nat) (a:List UInt8),Bad (qgs bs lim k p a)
 |0,p,a,en,pl,h=>by rw[qgs]at h;cases h
 |k+1,p,a,en,pl,h=>by
  rw[qgs]at h
  repeat' split at h
  all_goals first|(injection h with h;injection h with h1 h2;omega)|exact qmT bs lim k _ _ en pl h
theorem qiA(bs:List UInt8)(lim:Int):∀(k p:Nat) (a:List UInt8) (b:Nat),Bad (qdm bs lim k p a b)
 |0,p,a,b,en,pl,h=>by
  rw[qdm]at h;split at h
  ·cases h
  injection h with h;injection h with h1 h2;omega
 |k+1,p,a,b,en,pl,h=>by
  rw[qdm]at h;split at h
  ·injection h with h;injection h with h1 h2;omega
  split at h
  ·injection h with h;injection h with h1 h2;omega
  split at h
  ·injection h with h;injection h with h1 h2;omega
  exact qiA bs lim k _ _ _ en pl h
theorem qtA(c:Nat->Nat×Nat×Nat)(bs:List UInt8)(lim:Int)(ks:List (List UInt8))(p:Nat):Bad (qet c bs lim ks p):=λa b h=>by
 unfold qet at h;split at h
 ·injection h with h;injection h with h1 h2;omega
 split at h
 ·injection h with h;injection h with h1 h2;omega
 split at h
 ·split at h
  ·next e he=>injection h with h;subst h;exact qiJ bs lim _ _ _ a b he
  split at h
  ·next e he=>injection h with h;subst h;exact qiA bs lim _ _ _ _ a b he
  split at h
  ·injection h with h;injection h with h1 h2;omega
  cases h
 injection h with h;injection h with h1 h2;omega
theorem qif(a:∀p,Bad (rd p)):∀(n p:Nat) (acc:List (DataW Unit)),Bad (qbn rd n p acc)
 |0,p,acc,en,pl,h=>by rw[qbn]at h;cases h
 |n+1,p,acc,en,pl,h=>by
  rw[qbn]at h;split at h
  ·next e he=>injection h with h;subst h;exact a _ en pl he
  exact qif a n _ _ en pl h
theorem qfP{kf:List (List UInt8)->Nat->Except (Int×Int) (List UInt8×Nat)}(b:∀a p,Bad (kf a p))(c:∀p,Bad (rd p)):∀(n p:Nat) (a:List (List UInt8)) (acc:List (Lit×DataW Unit)),Bad (qa7 kf rd n p a acc)
 |0,p,a,acc,en,pl,h=>by rw[qa7]at h;cases h
 |n+1,p,a,acc,en,pl,h=>by
  rw[qa7]at h;split at h
  ·next e he=>injection h with h;subst h;exact b _ _ en pl he
  split at h
  ·next e he=>injection h with h;subst h;exact c _ en pl he
  exact qfP b c n _ _ _ en pl h
theorem qud{li:Nat->Nat->Except (Int×Int) (List (DataW Unit)×Nat)}{ma:Nat->Nat->Except (Int×Int) (List (Lit×DataW Unit)×Nat)}{so w x q:Nat}(c:so=9->∀x q,Bad (li x q))(d:so=10->∀x q,Bad (ma x q)):Bad (qgw bs lim li ma so w x q):=λa b h=>by
 unfold qgw at h;split at h
 ·cases h
 ·cases h
 ·split at h
  ·next e he=>injection h with h;subst h;exact ql4 _ _ _ _ a b he
  cases h
 ·split at h
  ·next e he=>injection h with h;subst h;exact ql4 _ _ _ _ a b he
  cases h
 ·split at h
  ·next e he=>injection h with h;subst h;exact ql4 _ _ _ _ a b he
  cases h
 ·split at h
  ·next e he=>injection h with h;subst h;exact qmT _ _ _ _ _ a b he
  cases h
 ·split at h
  ·next e he=>injection h with h;subst h;exact qiA _ _ _ _ _ _ a b he
  cases h
 ·split at h
  ·next e he=>injection h with h;subst h;exact c rfl _ _ a b he
  cases h
 ·split at h
  ·next e he=>injection h with h;subst h;exact d rfl _ _ a b he
  cases h
 cases h
theorem qlV(b:Nat->Nat×Nat×Nat)(bs:List UInt8)(lim depth:Int):∀(g a p:Nat),(a:Int)<=depth->depth<a+g->Bad (thB b bs lim depth g a p)
 |0,a,p,h1,h2,_,_,_=>by omega
 |g+1,a,p,h1,h2,en,pl,h=>by
  cases d:bs[p]? with
  |none =>
   unfold thB at h;rw[d]at h;injection h with h;injection h with h3 h4;omega
  |some c =>
   by_cases i:(p:Int)=lim
   ·unfold thB at h;rw[d]at h;simp only[]at h;rw[kag i]at h;injection h with h;injection h with h3 h4;omega
   rw[qe6 d i rfl]at h;split at h
   ·injection h with h;injection h with h3 h4;omega
   split at h
   ·injection h with h;injection h with h3 h4;omega
   next hn =>
   split at h
   ·next e he=>injection h with h;subst h;exact qiJ _ _ _ _ _ en pl he
   have j:¬(a:Int)=depth->∀q,Bad (thB b bs lim depth g (a+1) q):=λn q=>qlV b bs lim depth g (a+1) q (by omega) (by omega);exact qud (λl x q=>qif (j (λf=>hn ⟨.inl l,f⟩)) _ _ _) (λk x q=>qfP (λm p=>qtA b bs lim m p) (j (λf=>hn ⟨.inr k,f⟩)) _ _ _ _) en pl h
theorem qe1(bs:List UInt8)(lim:Int):∀(k p:Nat),Bad (spF bs lim k p)
 |0,p,en,pl,h=>by rw[spF]at h;cases h
 |k+1,p,en,pl,h=>by
  rw[spF]at h;split at h
  ·cases h
  split at h
  ·injection h with h;injection h with h1 h2;omega
  split at h
  ·exact qe1 bs lim k _ en pl h
  cases h
theorem qcp(bs:List UInt8)(lim:Int):∀(l:List UInt8) (p:Nat),Bad (qaO bs lim l p)
 |[],p,en,pl,h=>by rw[qaO]at h;cases h
 |x::xs,p,en,pl,h=>by
  rw[qaO]at h;split at h
  ·injection h with h;injection h with h1 h2;omega
  split at h
  ·injection h with h;injection h with h1 h2;omega
  split at h
  ·exact qcp bs lim xs _ en pl h
  injection h with h;injection h with h1 h2;omega
theorem qjm(bs:List UInt8)(lim:Int):∀(k p a:Nat),Bad (qf5 bs lim k p a)
 |0,p,a,en,pl,h=>by rw[qf5]at h;cases h
 |k+1,p,a,en,pl,h=>by
  rw[qf5]at h;split at h
  ·injection h with h;injection h with h1 h2;omega
  split at h
  ·injection h with h;injection h with h1 h2;omega
  split at h
  ·injection h with h;injection h with h1 h2;omega
  exact qjm bs lim k _ _ en pl h
theorem qp1(bs:List UInt8)(lim:Int)(p:Nat):Bad (qfl bs lim p):=λa b h=>by
 unfold qfl at h;split at h
 ·next e he=>injection h with h;subst h;exact qjm _ _ _ _ _ a b he
 split at h
 ·injection h with h;injection h with h1 h2;omega
 split at h
 ·split at h
  ·next e he=>injection h with h;subst h;exact qcp _ _ _ _ a b he
  split at h
  ·next e he=>injection h with h;subst h;exact qjm _ _ _ _ _ a b he
  split at h
  ·cases h
  injection h with h;injection h with h1 h2;omega
 cases h
theorem qta(bs:List UInt8)(lim:Int)(p:Nat):Bad (qlv bs lim p):=λa b h=>by
 unfold qlv at h;split at h
 ·injection h with h;injection h with h1 h2;omega
 split at h
 ·injection h with h;injection h with h1 h2;omega
 repeat' split at h
 all_goals first|(injection h with h;injection h with h1 h2;omega)|exact qp1 _ _ _ a b h|cases h
theorem qgp(bs:List UInt8)(lim:Int):∀(g p:Nat) (a:List UInt8) (b:Nat),Bad (qcU bs lim g p a b)
 |0,p,a,b,en,pl,h=>by rw[qcU]at h;injection h with h;injection h with h1 h2;omega
 |g+1,p,a,b,en,pl,h=>by
  rw[qcU]at h;split at h
  ·injection h with h;injection h with h1 h2;omega
  split at h
  ·injection h with h;injection h with h1 h2;omega
  split at h
  ·cases h
  split at h
  ·split at h
   ·next e he=>injection h with h;subst h;exact qta _ _ _ en pl he
   exact qgp bs lim g _ _ _ en pl h
  split at h
  ·injection h with h;injection h with h1 h2;omega
  split at h
  ·injection h with h;injection h with h1 h2;omega
  exact qgp bs lim g _ _ _ en pl h
theorem qjC(bs:List UInt8)(lim:Int)(b:Nat)(z:Bool):∀(g p a:Nat),Bad (qeA bs lim b z g p a)
 |0,p,a,en,pl,h=>by unfold qeA at h;cases h
 |g+1,p,a,en,pl,h=>by
  unfold qeA at h;split at h
  ·cases h
  split at h
  ·injection h with h;injection h with h1 h2;omega
  split at h
  ·split at h
   ·injection h with h;injection h with h1 h2;omega
   split at h
   ·injection h with h;injection h with h1 h2;omega
   exact qjC bs lim b z g _ _ en pl h
  split at h
  ·injection h with h;injection h with h1 h2;omega
  cases h
theorem qs0(s:Src)(c:UInt8):Bad (qel s c):=λa b h=>by
 unfold qel at h;split at h
 ·split at h
  ·injection h with h;injection h with h1 h2;omega
  split at h
  ·injection h with h;injection h with h1 h2;omega
  split at h
  ·split at h
   ·cases h
   next e he=>injection h with h;subst h;exact qjC _ _ _ _ _ _ _ a b he
  injection h with h;injection h with h1 h2;omega
 split at h
 ·cases h
 next e he=>injection h with h;subst h;exact qjC _ _ _ _ _ _ _ a b he
theorem qiF{α:Type}{itF:α->Nat->Except (Int×Int) (α×Nat)}{last:Nat}(b:∀a p,Bad (itF a p)):∀(g p:Nat) (a:α),Bad (qfZ bs lim itF last g p a)
 |0,p,a,en,pl,h=>by rw[qfZ]at h;injection h with h;injection h with h1 h2;omega
 |g+1,p,a,en,pl,h=>by
  rw[qfZ]at h;split at h
  ·next e he=>injection h with h;subst h;exact qe1 _ _ _ _ en pl he
  split at h
  ·next e he=>injection h with h;subst h;exact b _ _ en pl he
  split at h
  ·next e he=>injection h with h;subst h;exact qe1 _ _ _ _ en pl he
  split at h
  ·injection h with h;injection h with h1 h2;omega
  split at h
  ·injection h with h;injection h with h1 h2;omega
  split at h
  ·cases h
  split at h
  ·exact qiF b g _ _ en pl h
  injection h with h;injection h with h1 h2;omega
theorem qmW{α:Type}{itF:α->Nat->Except (Int×Int) (α×Nat)}{last:Nat}(d:∀a p,Bad (itF a p))(p:Nat)(a:α):Bad (qdV bs lim itF last p a):=λb c h=>by
 unfold qdV at h;split at h
 ·next e he=>injection h with h;subst h;exact qe1 _ _ _ _ b c he
 split at h
 ·exact qiF d _ _ _ b c h
 split at h
 ·injection h with h;injection h with h1 h2;omega
 split at h
 ·cases h
 exact qiF d _ _ _ b c h
theorem qvO(c:∀p,Bad (rd p))(a:List (DataW Unit))(p:Nat):Bad (liJ rd a p):=λb d h=>by
 unfold liJ at h;split at h
 ·next e he=>injection h with h;subst h;exact c _ b d he
 cases h
theorem qsO(bs:List UInt8)(lim:Int)(ks:List (List UInt8))(p:Nat):Bad (qlw bs lim ks p):=λa b h=>by
 unfold qlw at h;split at h
 ·next e he=>injection h with h;subst h;exact qcp _ _ _ _ a b he
 split at h
 ·next e he=>injection h with h;subst h;exact qgp _ _ _ _ _ _ a b he
 split at h
 ·injection h with h;injection h with h1 h2;omega
 cases h
theorem qxx(d:∀p,Bad (rd p))(a:List (List UInt8)×List (Lit×DataW Unit))(p:Nat):Bad (enJ bs lim rd a p):=λb c h=>by
 unfold enJ at h;split at h
 ·next e he=>injection h with h;subst h;exact qsO _ _ _ _ b c he
 split at h
 ·next e he=>injection h with h;subst h;exact qe1 _ _ _ _ b c he
 split at h
 ·next e he=>injection h with h;subst h;exact qcp _ _ _ _ b c he
 split at h
 ·next e he=>injection h with h;subst h;exact qe1 _ _ _ _ b c he
 split at h
 ·next e he=>injection h with h;subst h;exact d _ b c he
 cases h
theorem qtE{depth:Int}{wi:Nat}{nm:UInt8->Nat->Except (Int×Int) (Int×Nat)}{c:UInt8}{p:Nat}(d:¬(wi:Int)=depth->∀p,Bad (rd p))(f:∀c p,Bad (nm c p)):Bad (qjM bs lim depth wi rd nm c p):=λa b h=>by
 unfold qjM at h;split at h
 ·split at h
  ·next e he=>injection h with h;subst h;exact qcp _ _ _ _ a b he
  cases h
 split at h
 ·split at h
  ·next e he=>injection h with h;subst h;exact qcp _ _ _ _ a b he
  cases h
 split at h
 ·split at h
  ·next e he=>injection h with h;subst h;exact qcp _ _ _ _ a b he
  cases h
 split at h
 ·split at h
  ·next e he=>injection h with h;subst h;exact qgp _ _ _ _ _ _ a b he
  cases h
 split at h
 ·split at h
  ·injection h with h;injection h with h1 h2;omega
  next hn =>
  split at h
  ·next e he=>injection h with h;subst h;exact qmW (qvO (d hn)) _ _ a b he
  cases h
 split at h
 ·split at h
  ·injection h with h;injection h with h1 h2;omega
  next hn =>
  split at h
  ·next e he=>injection h with h;subst h;exact qmW (qxx (d hn)) _ _ a b he
  cases h
 split at h
 ·split at h
  ·next e he=>injection h with h;subst h;exact f _ _ a b he
  cases h
 injection h with h;injection h with h1 h2;omega
theorem qrA(bs:List UInt8)(lim depth:Int)(nm:UInt8->Nat->Except (Int×Int) (Int×Nat))(b:∀c p,Bad (nm c p)):∀(g a p:Nat),(a:Int)<=depth->depth<a+g->Bad (thJ bs lim depth nm g a p)
 |0,a,p,h1,h2,_,_,_=>by omega
 |g+1,a,p,h1,h2,en,pl,h=>by
  rw[thJ]at h;split at h
  ·injection h with h;injection h with h3 h4;omega
  split at h
  ·injection h with h;injection h with h3 h4;omega
  exact qtE (λd q=>qrA bs lim depth nm b g (a+1) q (by omega) (by omega)) b en pl h
theorem qp5(f:Int)(bs:List UInt8)(d l:Int)(p:Nat)(b:0<=d):Bad (thO f bs d l p):=λa e h=>by
 unfold thO at h;split at h
 ·exact qrA _ _ _ _ (λc p=>qs0 _ _) _ _ _ (by simpa using b) (by omega) a e h
 split at h
 ·exact qlV _ _ _ _ _ _ _ (by simpa using b) (by omega) a e h
 exact qlV _ _ _ _ _ _ _ (by simpa using b) (by omega) a e h
theorem qsL(a:Int)(bs:List UInt8)(d l:Int)(c:0<=d):Bad (qh4 (thO a bs d l)):=λb f h=>by
 unfold qh4 at h;split at h
 ·next e he=>injection h with h;subst h;exact qp5 a bs d l 0 c b f he
 cases h
theorem qj8(c:Int)(bs:List UInt8)(d l:Int)(g:0<=d):Bad (qdA c bs d l):=λa b h=>by
 have f:∀p,Bad (spO c bs l p):=λp a b h=>by
  unfold spO at h;split at h
  ·exact qe1 _ _ _ _ a b h
  cases h
 unfold qdA qpa at h;split at h
 ·next e he=>injection h with h;subst h;exact f _ a b he
 split at h
 ·next e he=>injection h with h;subst h;exact qp5 c bs d l _ g a b he
 split at h
 ·next e he=>injection h with h;subst h;exact f _ a b he
 split at h
 ·next e he =>
  injection h with h;subst h;unfold qsi at he;split at he
  ·cases he
  split at he<;>(injection he with he;injection he with h1 h2;omega)
 cases h

end
section
open Go.RowKit Go.Lib
theorem qmn{α:Type}(val:α->Value)(V:World)(p:Nat)(f:Int)(a:Option Addr)(n c:Nat)(r:Except (Int×Int) α)(h:V.cell? ⟨p,0,none⟩=some (.int .i64 f))(i:V.cell? ⟨p+1,0,none⟩=some (.slice a n c))(b:Calls prog 21 #[.int .i64 f,.agg #[.int .i64 16,.int .i64 n],.slice a n c] V (qoT V val r)):Calls prog 20 #[.pointer (some ⟨p,0,none⟩),.pointer (some ⟨p+1,0,none⟩)] V (qoT V val r):=by
 rcases r with⟨j,k⟩|z
 ·go_enter func20,ntmps20
  go_wp2_with(first
   |(go_at_call 21;refine b.mono ?_;clear b;rintro e g ⟨d,hF⟩;obtain rfl:=hF))
  exact⟨rfl,d,rfl⟩
 go_enter func20,ntmps20
 go_wp2_with(first
  |(go_at_call 21;refine b.mono ?_;clear b;rintro e g ⟨d,rfl⟩))
 go_ret;exact⟨d,rfl⟩
theorem qtV{fm:Int}{d l:Int}{n:Nat}(h:qh4 (thO fm bs d l)=.ok n):0<n:=by
 unfold qh4 thO at h;split at h
 ·cases h
 next x q hq =>
 injection h with h;subst h;split at hq
 ·exact qnC ⟨none,bs,0,d,l,0,0⟩ _ _ _ _ _ hq
 split at hq
 ·exact qlf _ _ _ _ _ _ _ _ _ hq
 exact qlf _ _ _ _ _ _ _ _ _ hq
def qpc(fm:Int)(bs:List UInt8):Except Int (List UInt8) :=
 if qeD fm=true/\bs.length<=65536 then match qh4 (thO fm bs 16 bs.length)with
  |.error _=>.error 9
  |.ok n=>if(bs.drop n).all (λc=>c.toNat==qb3 fm)=true then .ok (bs.take n)else .error 9
 else .error 7
def qy0(W:World)(r:Except Int (List UInt8))(e:Ending)(W':World):Prop :=
 Below W.heap.size W W'/\match r with
 |.ok l=>∃v,e=.returned (.tuple #[v,.int .i64 0])/\Own W' W.heap.size v l
 |.error en=>e=.returned (.tuple #[.slice none 0 0,.int .i64 en])
theorem qoF{W:World}{g off:Nat}(h:qau W (some ⟨g,off,none⟩) bs)(n:Nat):qau W (some ⟨g,off+n,none⟩) (bs.drop n):=by
 refine⟨λi d=>?_,kaj (by rw[kaR];omega) h.len⟩;rw[kaR]at d;obtain⟨e,f,a,b,c⟩:=h.at_ (n+i) (by omega);injection a with a;injection a with a e4;subst a;subst e4;refine⟨g,off+n,rfl,b,?_⟩;rw[kea,kbm];exact c
theorem qqZ(W:World)(b:Int)(j:Option Addr)(bs:List UInt8)(d:Nat)(h:qau W j bs)(al:bs.length<=d)(ht:qcQ W)(Z:∀C pl,qh4 (thO b bs 16 bs.length)=.error (C,pl)->C≠0):Calls prog 7 #[.int .i64 b,.slice j bs.length d] W (qy0 W (qpc b bs)):=by
 have L:Below W.heap.size W ((W.alloc (.cells #[.int .i64 b] 3)).alloc (.cells #[.slice j bs.length d] 27)):=((kam _ _).alloc (kaf _) _).alloc (by simp) _;have k0:=Boxed.new W 3 (.int .i64 b);have k1:=Boxed.new (W.alloc (.cells #[.int .i64 b] 3)) 27 (.slice j bs.length d);rw[kad]at k1;have u:Hid (Boxed ((W.alloc (.cells #[.int .i64 b] 3)).alloc (.cells #[.slice j bs.length d] 27)) W.heap.size 3 (.int .i64 b)):=k0.alloc _;have v:Hid (Boxed ((W.alloc (.cells #[.int .i64 b] 3)).alloc (.cells #[.slice j bs.length d] 27)) (W.heap.size+1) 27 (.slice j bs.length d)):=k1;have t:Hid (qau ((W.alloc (.cells #[.int .i64 b] 3)).alloc (.cells #[.slice j bs.length d] 27)) j bs):=h.below L;have HT:Hid (qcQ ((W.alloc (.cells #[.int .i64 b] 3)).alloc (.cells #[.slice j bs.length d] 27))):=ht.below L;have q:Hid (Below W.heap.size W ((W.alloc (.cells #[.int .i64 b] 3)).alloc (.cells #[.slice j bs.length d] 27))):=L;have o:=λV=>qc3 b V;have am:∀(fn:Fn) (first d:Array Value) (w:World),(Instr.makeFunc fn first d).run prog w=.ok (.func fn first d) w:=λ_ _ _ _=>rfl;clear k0 k1 L h ht;have z:=u.out.cell;have A:=v.out.cell;cases s:qeD b
 ·have e:qpc b bs=.error 7:=by unfold qpc;rw[kac (by rw[s];simp)]
  rw[e];rw[s]at o;clear e s;go_enter func7,ntmps7
  go_wp2_with(first
   |(go_at_call 18;refine(o _).mono ?_;clear o;rintro e P ⟨rfl,rfl⟩))
  go_ret2
  exact⟨q.out,rfl⟩
 by_cases N:bs.length<=65536
 ·have ah:b=1\/b=2\/b=3:=by
   unfold qeD at s;simp at s;omega
  have aj:¬(65536:Int)<bs.length:=by omega
  have Q:Below ((W.alloc (.cells #[.int .i64 b] 3)).alloc (.cells #[.slice j bs.length d] 27)).heap.size ((W.alloc (.cells #[.int .i64 b] 3)).alloc (.cells #[.slice j bs.length d] 27)) ((((W.alloc (.cells #[.int .i64 b] 3)).alloc (.cells #[.slice j bs.length d] 27)).alloc (.cells #[.int .i64 0] 28)).alloc (.cells #[.int .i64 0] 3)):=((kam _ _).alloc (kaf _) _).alloc (by simp) _;have R:=qq9 _ b j bs d 16 bs.length ah (t.out.below Q) (HT.out.below Q) (by decide) (by decide) (by omega);have Y:∀n,qh4 (thO b bs 16 bs.length)=.ok n->n<=bs.length:=qom R λe w H=>H.2;have r:=qmc (λn:Nat=>.int .i64 n) ((W.alloc (.cells #[.int .i64 b] 3)).alloc (.cells #[.slice j bs.length d] 27)) 20 #[.pointer (some ⟨W.heap.size,0,none⟩),.pointer (some ⟨W.heap.size+1,0,none⟩)] (qh4 (thO b bs 16 bs.length)) rfl
   (qmn _ _ W.heap.size b j bs.length d _ ((u.out.alloc _).alloc _).cell ((v.out.alloc _).alloc _).cell (R.mono λe w H=>H.1))
  have hu:qpc b bs=(match qh4 (thO b bs 16 bs.length)with|.error _=>.error 9|.ok n=>if(bs.drop n).all (λc=>c.toNat==qb3 b)=true then .ok (bs.take n)else .error 9):=by
   unfold qpc;rw[kag ⟨s,N⟩]
  rw[hu];rw[s]at o;clear R Q hu s N HT
  cases y:qh4 (thO b bs 16 bs.length)with
  |error er =>
   obtain⟨C,pl⟩:=er;have U:=Z C pl y;have hq:(C==0)=false:=by simpa using U
   have ao:(C != 0)=true:=by simpa using U
   rw[y]at r;unfold qy5 at r;simp only[];clear y Z Y U;go_enter func7,ntmps7
   go_wp2_with(first
    |(go_at_call 18;refine(o _).mono ?_;clear o;rintro e P ⟨rfl,rfl⟩)
    |(go_at_call 19;refine r.mono ?_;clear r;rintro e f ⟨rfl,m⟩))
   have I:f.cell? ⟨W.heap.size,0,none⟩=some (.int .i64 b):=(m.cell (p:=⟨W.heap.size,0,none⟩) u.out.lt).trans z;have J:f.cell? ⟨W.heap.size+1,0,none⟩=some (.slice j bs.length d):=(m.cell (p:=⟨W.heap.size+1,0,none⟩) v.out.lt).trans A;clear z A
   go_region
   go_wp2
   go_ret2
   exact⟨(q.out.trans (m.mono q.out.size)).trans (kam _ _).drew,rfl⟩
  |ok n =>
   have hn:=Y n y;rw[y]at r;unfold qy5 at r;simp only[];have an:0<n:=qtV y;obtain⟨g,off,ai⟩:∃g off,j=some ⟨g,off,none⟩:=by
    obtain⟨g,off,x,_⟩:=t.out.at_ 0 (by omega);exact⟨g,off,x⟩
   subst ai;obtain⟨D,k⟩:∃D,Hid ((if d=n then some (⟨g,off,none⟩:Addr)else some ⟨g,off+n,none⟩)=D):=⟨_,show _=_ from rfl⟩
   have B:∀V,qau V (some ⟨g,off,none⟩) bs->Calls prog 22 #[.int .i64 b,.slice D (bs.length-n) (d-n)] V λe F=>e=.returned (.bool ((bs.drop n).all (λc=>c.toNat==qb3 b)))/\F=V:=λV T=>by
    have ag:qau V D (bs.drop n):=by
     rw[<-k.out];by_cases ab:d=n
     ·rw[kag ab];have hd:bs.drop n=[]:=kca (by omega);rw[hd];exact⟨λi X=>by simp at X,by unfold maxLen;simp⟩
     rw[kac ab];exact qoF T n
    have:=qog V b _ _ (d-n) ag;rwa[kaR]at this
   clear y Z Y;cases M:(bs.drop n).all (λc=>c.toNat==qb3 b)
   ·rw[kac (by simp)];rw[M]at B;clear M;go_enter func7,ntmps7
    go_wp2_with(first
     |(go_at_call 18;refine(o _).mono ?_;clear o;rintro e P ⟨rfl,rfl⟩)
     |(go_at_call 19;refine r.mono ?_;clear r;rintro e f ⟨rfl,m⟩))
    have I:f.cell? ⟨W.heap.size,0,none⟩=some (.int .i64 b):=(m.cell (p:=⟨W.heap.size,0,none⟩) u.out.lt).trans z;have J:f.cell? ⟨W.heap.size+1,0,none⟩=some (.slice (some ⟨g,off,none⟩) bs.length d):=(m.cell (p:=⟨W.heap.size+1,0,none⟩) v.out.lt).trans A;have E:Hid (Below W.heap.size W f):=q.out.trans (m.mono q.out.size);have G:=B (World.drew f) ((t.out.below m).below (kam _ _).drew);clear z A m q t u v B;refine kcD (by kernel_rfl) ?_;change wpAny _ _ _ _ _ _ _ (World.drew f);have ac:(World.drew f).cell? ⟨W.heap.size,0,none⟩=some (.int .i64 b):=I;have ad:(World.drew f).cell? ⟨W.heap.size+1,0,none⟩=some (.slice (some ⟨g,off,none⟩) bs.length d):=J;refine qjz (β:=Unit) #[true,true,true,true,true,true,true,false,false,false] 3 (λ_=>[(23,.int .i64 0),(24,.bool false),(25,.bool false),(26,.int .i64 b),(27,.slice (some ⟨g,off,none⟩) bs.length d),(28,.int .i64 n),(29,.slice D (bs.length-n) (d-n))]) (λ_=>True) (λ_=>World.drew f) (λl=>?reg) ?tail
    case reg =>
     refine ka4 (rs:=[0]) (by kernel_rfl) (by simp) ?_;refine kar rfl (λK a=>?_) ka0;go_simp;refine a _ _ ?_;clear a;refine ka4 (rs:=[1]) (by kernel_rfl) (by simp) ?_;refine kar rfl (λK a=>?_) ka0;go_simp;refine a _ _ ?_;clear a;refine ka4 (rs:=[2]) (by kernel_rfl) (by simp) ?_;refine kar rfl (λK a=>?_) ka0;go_simp;refine a _ _ ?_;clear a;refine ka4 (rs:=[3,4,5]) (by kernel_rfl) (by simp) ?_;refine kar rfl (λK a=>?_) (kar rfl (λK a=>?_) (kar rfl (λK a=>?_) ka0))
     ·go_simp;refine a _ _ ?_;clear a;refine ka4 (rs:=[4,5]) (by kernel_rfl) (by simp) ?_;refine kar rfl (λK a=>?_) (kar rfl (λK a=>?_) ka0)
      ·go_simp;refine a _ _ ?_;clear a;refine ka4 (rs:=[5]) (by kernel_rfl) (by simp) ?_;refine kar rfl (λK a=>?_) ka0;go_simp;refine a _ _ ?_;clear a;refine ka4 (rs:=[6]) (by kernel_rfl) (by simp) ?_;refine kar rfl (λK a=>?_) ka0;go_simp;rw[k.out];refine a _ _ ?_;clear a;exact cast (by kernel_rfl) (l () trivial)
      go_simp;refine a _ _ ?_;clear a;refine ka4 (rs:=[4]) (by kernel_rfl) (by simp) ?_;refine kar rfl (λK a=>?_) ka0;go_simp;refine a _ _ ?_;clear a;refine ka4 (rs:=[6]) (by kernel_rfl) (by simp) ?_;refine kar rfl (λK a=>?_) ka0;go_simp;rw[k.out];refine a _ _ ?_;clear a;exact cast (by kernel_rfl) (l () trivial)
     ·go_simp;refine a _ _ ?_;clear a;refine ka4 (rs:=[3,5]) (by kernel_rfl) (by simp) ?_;refine kar rfl (λK a=>?_) (kar rfl (λK a=>?_) ka0)
      ·go_simp;refine a _ _ ?_;clear a;refine ka4 (rs:=[5]) (by kernel_rfl) (by simp) ?_;refine kar rfl (λK a=>?_) ka0;go_simp;refine a _ _ ?_;clear a;refine ka4 (rs:=[6]) (by kernel_rfl) (by simp) ?_;refine kar rfl (λK a=>?_) ka0;go_simp;rw[k.out];refine a _ _ ?_;clear a;exact cast (by kernel_rfl) (l () trivial)
      go_simp;refine a _ _ ?_;clear a;refine ka4 (rs:=[3,6]) (by kernel_rfl) (by simp) ?_;refine kar rfl (λK a=>?_) (kar rfl (λK a=>?_) ka0)
      ·go_simp;refine a _ _ ?_;clear a;refine ka4 (rs:=[6]) (by kernel_rfl) (by simp) ?_;refine kar rfl (λK a=>?_) ka0;go_simp;rw[k.out];refine a _ _ ?_;clear a;exact cast (by kernel_rfl) (l () trivial)
      go_simp;rw[k.out];refine a _ _ ?_;clear a;refine ka4 (rs:=[3]) (by kernel_rfl) (by simp) ?_;refine kar rfl (λK a=>?_) ka0;go_simp;refine a _ _ ?_;clear a;exact cast (by kernel_rfl) (l () trivial)
     go_simp;refine a _ _ ?_;clear a;refine ka4 (rs:=[3,4]) (by kernel_rfl) (by simp) ?_;refine kar rfl (λK a=>?_) (kar rfl (λK a=>?_) ka0)
     ·go_simp;refine a _ _ ?_;clear a;refine ka4 (rs:=[4]) (by kernel_rfl) (by simp) ?_;refine kar rfl (λK a=>?_) ka0;go_simp;refine a _ _ ?_;clear a;refine ka4 (rs:=[6]) (by kernel_rfl) (by simp) ?_;refine kar rfl (λK a=>?_) ka0;go_simp;rw[k.out];refine a _ _ ?_;clear a;exact cast (by kernel_rfl) (l () trivial)
     go_simp;refine a _ _ ?_;clear a;refine ka4 (rs:=[3,6]) (by kernel_rfl) (by simp) ?_;refine kar rfl (λK a=>?_) (kar rfl (λK a=>?_) ka0)
     ·go_simp;refine a _ _ ?_;clear a;refine ka4 (rs:=[6]) (by kernel_rfl) (by simp) ?_;refine kar rfl (λK a=>?_) ka0;go_simp;rw[k.out];refine a _ _ ?_;clear a;exact cast (by kernel_rfl) (l () trivial)
     go_simp;rw[k.out];refine a _ _ ?_;clear a;refine ka4 (rs:=[3]) (by kernel_rfl) (by simp) ?_;refine kar rfl (λK a=>?_) ka0;go_simp;refine a _ _ ?_;clear a;exact cast (by kernel_rfl) (l () trivial)
    case tail =>
     intro _ _;simp only[List.foldl];refine ka4 (rs:=[7]) (by kernel_rfl) (by simp) ?_;refine kar rfl (λK a=>?_) ka0;go_simp;refine G.mono ?_;clear G;rintro e w5 ⟨rfl,rfl⟩;simp only[];refine a _ _ ?_;clear a;refine ka4 (rs:=[8]) (by kernel_rfl) (by simp) ?_;refine kar rfl (λK a=>?_) ka0;go_simp;refine a _ _ ?_;clear a;refine ka4 (rs:=[9]) (by kernel_rfl) (by simp) ?_;refine kar rfl (λK a=>?_) ka0;go_simp;refine a _ _ ?_;clear a;refine kd9 (by kernel_rfl) ?_ _;go_wp2
     go_ret2
     exact⟨E.out.trans (kam _ _).drew,rfl⟩
   rw[kag rfl];rw[M]at B;have aa:Hid (∀V,qau V (some ⟨g,off,none⟩) bs->Calls prog 23 #[.slice (some ⟨g,off,none⟩) n d] V λe F=>∃O,e=.returned O/\Own F V.heap.size O (bs.take n)/\Below V.heap.size V F):=λV T=>by
    have hc:∀i,i<n->V.cell? ((⟨g,off,none⟩:Addr).add i)=some (.int .u8 (((bs.take n).map (λc=>(c.toNat:Int))).getD i 0)):=λi X=>by
     obtain⟨g',ap,x,_,e3⟩:=T.at_ i (by omega);injection x with x;injection x with x e4;subst x;subst e4;have e5:(⟨g,off,none⟩:Addr).add i=⟨g,off+i,none⟩:=by by_cases h:i=0<;>simp[Addr.add,h]
     rw[e5,e3];simp[kbh,kbx,X,kab (show i<bs.length by omega)]
    refine(Tryz.bytes_Clone_at ⟨g,off,none⟩ n d ((bs.take n).map (λc=>(c.toNat:Int))) V (by simp;omega) (by omega) hc).mono ?_;rintro e F ⟨O,rfl,ho,_,hB⟩;refine⟨O,rfl,⟨?_,hB.size,?_⟩,hB⟩
    ·have e6:((bs.take n).map (λc=>(c.toNat:Int))).map (Value.int .u8)=(bs.take n).map qax:=by rw[kcN];rfl
     have e7:(bs.take n).length=n:=by rw[kbc];omega
     rw[e6]at ho;rw[e7];exact ho
    rcases ho.2 with⟨S,_⟩|⟨g',cp,ak,S,_⟩
    ·exact⟨_,_,_,S⟩
    exact⟨_,_,_,S⟩
   clear M;go_enter func7,ntmps7
   go_wp2_with(first
    |(go_at_call 18;refine(o _).mono ?_;clear o;rintro e P ⟨rfl,rfl⟩)
    |(go_at_call 19;refine r.mono ?_;clear r;rintro e f ⟨rfl,m⟩))
   have I:f.cell? ⟨W.heap.size,0,none⟩=some (.int .i64 b):=(m.cell (p:=⟨W.heap.size,0,none⟩) u.out.lt).trans z;have J:f.cell? ⟨W.heap.size+1,0,none⟩=some (.slice (some ⟨g,off,none⟩) bs.length d):=(m.cell (p:=⟨W.heap.size+1,0,none⟩) v.out.lt).trans A;have E:Hid (Below W.heap.size W f):=q.out.trans (m.mono q.out.size);have G:=B (World.drew f) ((t.out.below m).below (kam _ _).drew);have cC:=aa.out (World.drew f) ((t.out.below m).below (kam _ _).drew);clear z A m q t u v B aa;refine kcD (by kernel_rfl) ?_;change wpAny _ _ _ _ _ _ _ (World.drew f);have ac:(World.drew f).cell? ⟨W.heap.size,0,none⟩=some (.int .i64 b):=I;have ad:(World.drew f).cell? ⟨W.heap.size+1,0,none⟩=some (.slice (some ⟨g,off,none⟩) bs.length d):=J;refine qjz (β:=Unit) #[true,true,true,true,true,true,true,false,false,false] 3 (λ_=>[(23,.int .i64 0),(24,.bool false),(25,.bool false),(26,.int .i64 b),(27,.slice (some ⟨g,off,none⟩) bs.length d),(28,.int .i64 n),(29,.slice D (bs.length-n) (d-n))]) (λ_=>True) (λ_=>World.drew f) (λl=>?reg) ?tail
   case reg =>
    refine ka4 (rs:=[0]) (by kernel_rfl) (by simp) ?_;refine kar rfl (λK a=>?_) ka0;go_simp;refine a _ _ ?_;clear a;refine ka4 (rs:=[1]) (by kernel_rfl) (by simp) ?_;refine kar rfl (λK a=>?_) ka0;go_simp;refine a _ _ ?_;clear a;refine ka4 (rs:=[2]) (by kernel_rfl) (by simp) ?_;refine kar rfl (λK a=>?_) ka0;go_simp;refine a _ _ ?_;clear a;refine ka4 (rs:=[3,4,5]) (by kernel_rfl) (by simp) ?_;refine kar rfl (λK a=>?_) (kar rfl (λK a=>?_) (kar rfl (λK a=>?_) ka0))
    ·go_simp;refine a _ _ ?_;clear a;refine ka4 (rs:=[4,5]) (by kernel_rfl) (by simp) ?_;refine kar rfl (λK a=>?_) (kar rfl (λK a=>?_) ka0)
     ·go_simp;refine a _ _ ?_;clear a;refine ka4 (rs:=[5]) (by kernel_rfl) (by simp) ?_;refine kar rfl (λK a=>?_) ka0;go_simp;refine a _ _ ?_;clear a;refine ka4 (rs:=[6]) (by kernel_rfl) (by simp) ?_;refine kar rfl (λK a=>?_) ka0;go_simp;rw[k.out];refine a _ _ ?_;clear a;exact cast (by kernel_rfl) (l () trivial)
     go_simp;refine a _ _ ?_;clear a;refine ka4 (rs:=[4]) (by kernel_rfl) (by simp) ?_;refine kar rfl (λK a=>?_) ka0;go_simp;refine a _ _ ?_;clear a;refine ka4 (rs:=[6]) (by kernel_rfl) (by simp) ?_;refine kar rfl (λK a=>?_) ka0;go_simp;rw[k.out];refine a _ _ ?_;clear a;exact cast (by kernel_rfl) (l () trivial)
    ·go_simp;refine a _ _ ?_;clear a;refine ka4 (rs:=[3,5]) (by kernel_rfl) (by simp) ?_;refine kar rfl (λK a=>?_) (kar rfl (λK a=>?_) ka0)
     ·go_simp;refine a _ _ ?_;clear a;refine ka4 (rs:=[5]) (by kernel_rfl) (by simp) ?_;refine kar rfl (λK a=>?_) ka0;go_simp;refine a _ _ ?_;clear a;refine ka4 (rs:=[6]) (by kernel_rfl) (by simp) ?_;refine kar rfl (λK a=>?_) ka0;go_simp;rw[k.out];refine a _ _ ?_;clear a;exact cast (by kernel_rfl) (l () trivial)
     go_simp;refine a _ _ ?_;clear a;refine ka4 (rs:=[3,6]) (by kernel_rfl) (by simp) ?_;refine kar rfl (λK a=>?_) (kar rfl (λK a=>?_) ka0)
     ·go_simp;refine a _ _ ?_;clear a;refine ka4 (rs:=[6]) (by kernel_rfl) (by simp) ?_;refine kar rfl (λK a=>?_) ka0;go_simp;rw[k.out];refine a _ _ ?_;clear a;exact cast (by kernel_rfl) (l () trivial)
     go_simp;rw[k.out];refine a _ _ ?_;clear a;refine ka4 (rs:=[3]) (by kernel_rfl) (by simp) ?_;refine kar rfl (λK a=>?_) ka0;go_simp;refine a _ _ ?_;clear a;exact cast (by kernel_rfl) (l () trivial)
    go_simp;refine a _ _ ?_;clear a;refine ka4 (rs:=[3,4]) (by kernel_rfl) (by simp) ?_;refine kar rfl (λK a=>?_) (kar rfl (λK a=>?_) ka0)
    ·go_simp;refine a _ _ ?_;clear a;refine ka4 (rs:=[4]) (by kernel_rfl) (by simp) ?_;refine kar rfl (λK a=>?_) ka0;go_simp;refine a _ _ ?_;clear a;refine ka4 (rs:=[6]) (by kernel_rfl) (by simp) ?_;refine kar rfl (λK a=>?_) ka0;go_simp;rw[k.out];refine a _ _ ?_;clear a;exact cast (by kernel_rfl) (l () trivial)
    go_simp;refine a _ _ ?_;clear a;refine ka4 (rs:=[3,6]) (by kernel_rfl) (by simp) ?_;refine kar rfl (λK a=>?_) (kar rfl (λK a=>?_) ka0)
    ·go_simp;refine a _ _ ?_;clear a;refine ka4 (rs:=[6]) (by kernel_rfl) (by simp) ?_;refine kar rfl (λK a=>?_) ka0;go_simp;rw[k.out];refine a _ _ ?_;clear a;exact cast (by kernel_rfl) (l () trivial)
    go_simp;rw[k.out];refine a _ _ ?_;clear a;refine ka4 (rs:=[3]) (by kernel_rfl) (by simp) ?_;refine kar rfl (λK a=>?_) ka0;go_simp;refine a _ _ ?_;clear a;exact cast (by kernel_rfl) (l () trivial)
   case tail =>
    intro _ _;simp only[List.foldl];refine ka4 (rs:=[7]) (by kernel_rfl) (by simp) ?_;refine kar rfl (λK a=>?_) ka0;go_simp;refine G.mono ?_;clear G;rintro e w5 ⟨rfl,rfl⟩;simp only[];refine a _ _ ?_;clear a;refine ka4 (rs:=[8]) (by kernel_rfl) (by simp) ?_;refine kar rfl (λK a=>?_) ka0;go_simp;refine a _ _ ?_;clear a;refine ka4 (rs:=[9]) (by kernel_rfl) (by simp) ?_;refine kar rfl (λK a=>?_) ka0;go_simp;refine a _ _ ?_;clear a;refine kd9 (by kernel_rfl) ?_ _
    go_wp2_with(first
     |(go_at_call 23;refine cC.mono ?_;clear cC;rintro e w6 ⟨v6,rfl,af,ae⟩;obtain⟨o6,s6,a6,n6,c6,rfl⟩:=af))
    go_ret2
    exact⟨(E.out.trans (kam _ _).drew).trans (ae.mono E.out.size),_,rfl,Own.mono ⟨o6,s6,_,_,_,rfl⟩ E.out.size⟩
 have e:qpc b bs=.error 7:=by unfold qpc;rw[kac (λH=>N H.2)]
 have aj:(65536:Int)<bs.length:=by omega
 rw[e];rw[s]at o;clear e s N;go_enter func7,ntmps7
 go_wp2_with(first
  |(go_at_call 18;refine(o _).mono ?_;clear o;rintro e P ⟨rfl,rfl⟩))
 go_ret2
 exact⟨q.out,rfl⟩

end
end Go.Proofs.YtmajcjammmjimaaGreatDoor
