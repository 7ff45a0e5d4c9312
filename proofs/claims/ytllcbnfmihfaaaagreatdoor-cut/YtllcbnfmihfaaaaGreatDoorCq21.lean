import Derived.Test.YtllcbnfmihfaaaaGreatDoorCq13
set_option maxRecDepth 100000
set_option maxHeartbeats 8000000
namespace Go.Proofs.YtllcbnfmihfaaaaGreatDoor
open Go.Proofs.Tryz
variable {o:Oper}{a:Act}{W W' W0 w:World}{K:Act→World→Prop}{Q:Exit→Act→World→Prop}{A base m mn n size:Nat}{sv v:Value}{xs:List Value}{q:Aut}{sts:List ((Nat→Nat)×Int×Int)}{f mf nf:Lit→Option Nat}
section
open Go.RowKit
def stA (Y:Nat→Nat)(x:Int×Int):Array Value:=plA Y++#[.int .i64 x.1,.int .i64 x.2]
theorem ifw {c:Prop}[Decidable c]{A B:Prop}(h:c)(a:A):if c then A else B:=by rw[if_pos h];exact a
theorem qrG (Y:Nat→Nat)(x:Int×Int)(V:World):(Instr.buildSlice 166 1 #[(0,.agg (stA Y x))]).run prog V=.ok (.slice (some ⟨V.heap.size,0,none⟩) 1 1) (V.alloc (.cells (stA Y x) 240)):=by kernel_rfl
theorem qhu (x:Operand)(ho:o.op=.buildSlice 166 1 #[(0,x)])(Y:Nat→Nat)(z:Int×Int)(hx:a.eval x=.agg (stA Y z))(h:K (a.put o.dst (.slice (some ⟨w.heap.size,0,none⟩) 1 1)) (w.alloc (.cells (stA Y z) 240))):o.wp prog a w K Q:=by
 have e:(#[(0,x)].map fun (i,y)=>(i,a.eval y))=#[((0:Nat),Value.agg (stA Y z))]:=by simp[hx]
 unfold Oper.wp execOp;simp only[ho,Sem.run_bind,e,qrG,Result.andThen_ok];exact h
theorem qeN {P:Program}(s x:Operand)(t:TypeId)(ho:o.op=.call {callee:=.builtin .append,args:=#[s,x],argTypes:=#[t,t]})(base:Nat)(e:TypeId)(i:TypeInfo)(z:Value)(size bytes:Nat)(ht:P.underlying t=some (.slice e))(hi:P.info? e=some i)(hz:i.zero=some z)(hsize:i.size=size)(hby:i.bytes=bytes)(hzs:z.cells.size=size)(hsz:0<size)(v:Value)(n:Nat)(xs:List Value)(hs:a.eval s=v)(hown:w.ownsRow base e size v n xs)(ad:Addr)(m c:Nat)(news:List Value)(hx:a.eval x=.slice (some ad) m c)(hl:news.length=m*size)(hnews:∀j u,news[j]? = some u→w.cell? (ad.add j)=some u)(h1:∀u∈news,u.oneCell'=true)(h63:n+m≤maxLen)(hbytes:(n+m)*bytes≤140737488355328)(hbase:base≤w.heap.size)(h:∀v' w',w'.ownsRow base e size v' (n+m) (xs++news)→w.grownBy w' v.ownBlock→(v'.ownBlock=v.ownBlock∨v'.ownBlock=some w.heap.size)→K (a.put o.dst v') w'):o.wp P a w K Q:=by
 obtain⟨v',w',hr,h2,h3,_,h4⟩:=run_append_own_at (P:=P) w base t o.type e i z size bytes ht hi hz hsize hby hzs hsz v n xs hown ad m c news hl hnews h1 h63 hbytes hbase;unfold Oper.wp execOp;simp only[ho,resolve,invoke,builtin,Sem.run_bind,Sem.run_pure,Result.andThen_ok,List.map_toArray,List.map_cons,List.map_nil,hs,hx,hr];exact h v' w' h2 h3 h4
theorem qjA {e:TypeId}(ho:W.ownsRow base e size v n xs){g:Nat}(h:v.ownBlock=some g):g<W.heap.size:=by
 rcases ho.2 with ⟨h0,_⟩|⟨g',cp,cur,h0,_,hc,_⟩
 ·subst h0;cases h
 subst h0;have e:g'=g:=by simpa [Value.ownBlock] using h
 subst e;exact ltA hc
theorem Tryz.infoSt:(prog.info? 240).map (fun i=>(i.zero,i.size,i.bytes))=some (some (.agg (stA zPl (0,0))),18,48):=by kernel_rfl
theorem qoV (Y:Nat→Nat)(x:Int×Int):∀u∈(stA Y x).toList,u.oneCell'=true:=by
 intro u hu;simp[stA,plA] at hu;rcases hu with ⟨i,_,rfl⟩|rfl|rfl<;>rfl
theorem qcj.next (h:qcj W0 A q sts sv nf mn mf W)(hb:Below W.heap.size W W'):qcj W0 A q sts sv nf mn mf W':=by
 have hg:W.grownBy W' none:=⟨hb.os,hb.tape,hb.output,hb.size,fun i hi _=>hb.block i hi⟩
 obtain⟨cur,t1,t2⟩:=h.takes;exact {h with
  row:=(hb.block _ (ltA h.row)).trans h.row
  below:=h.below.trans (hb.mono h.below.size)
  letters:=h.letters.kept hg (by simp)
  takes:=⟨cur,(hb.block _ (ltA t1)).trans t1,t2⟩
  states:=qib h.states (fun i hi=>hb.block i hi)
  numbers:=h.numbers.kept hg (by simp)
  moves:=h.moves.kept hg (by simp)}
theorem qpy (sts:List ((Nat→Nat)×Int×Int))(Y:Nat→Nat)(J:Int×Int):(sts++[(Y,J)]).flatMap stC=sts.flatMap stC++(stA Y J).toList:=by
 simp[stC,stA]
theorem qr5 (q:Aut)(sv v':Value):(qvY q sv).setIfInBounds 20 v'=qvY q v':=rfl
theorem qcW.cell {kt:TypeId}(h:qcW W kt m n f)(A j:Nat)(v:Value)(hne:m≠A):qcW (W.setCell ⟨A,j,none⟩ v) kt m n f:=by
 obtain⟨D,h1,h2⟩:=h;exact⟨D,h1.setCell (by simpa using hne) v,h2⟩
theorem qcW.drew {kt:TypeId}(h:qcW W kt m n f):qcW W.drew kt m n f:=h
theorem qdn {e:TypeId}(h:W.ownsRow base e size v n xs)(hk:∀g,v.ownBlock=some g→W'.heap[g]? = W.heap[g]?):W'.ownsRow base e size v n xs:=by
 refine⟨h.1,?_⟩;rcases h.2 with h0|⟨g',cp,cur,h0,h1,hc,h2⟩
 ·exact .inl h0
 exact .inr ⟨g',cp,cur,h0,h1,(hk g' (by rw[h0];rfl)).trans hc,h2⟩
structure qlG (A:Nat)(q:Aut)(sv:Value)(W W':World):Prop where
 size:W.heap.size≤W'.heap.size
 block:∀i,i<W.heap.size→some i≠sv.ownBlock→i≠A→i≠q.nb→i≠q.mb→W'.heap[i]? = W.heap[i]?
theorem qwi {X:World}(h:qcj W0 A q sts sv nf mn mf X){Y:Nat→Nat}(hY:∀r,Y r<512){l:Lit}(hl:keyOf prog 164 (.agg (plA Y))=some l)(hi:nf l=none)(hsm:sts.length<100000){v':Value}{w4:World}(how:w4.ownsRow W0.heap.size 240 18 v' (sts.length+1) (sts.flatMap stC++(stA Y (jdg q.dflt q.rs Y 0)).toList))(hgr:X.grownBy w4 sv.ownBlock)(hwh:v'.ownBlock=sv.ownBlock∨v'.ownBlock=some X.heap.size):∃w6,(Instr.mapUpdate 160 (.map (some q.nb)) (.agg (plA Y)) (.int .i64 sts.length)).run prog (w4.setCell ⟨A,20,none⟩ v').drew=.ok () w6∧(w4.setCell ⟨A,20,none⟩ v').drew.grownBy w6 (some q.nb)∧(∀i,i<X.heap.size→some i≠sv.ownBlock→i≠A→i≠q.nb→w6.heap[i]? = X.heap[i]?)∧X.heap.size≤w6.heap.size∧∃nf',qcj W0 A q (sts++[(Y,jdg q.dflt q.rs Y 0)]) v' nf' mn mf w6:=by
 obtain⟨a1,a2,a3,a4,a5,a6,a7,a8,a9,a10⟩:=h.apart;obtain⟨u1,u2,u3,u4,u5⟩:=h.high;have nA:some A≠sv.ownBlock:=fun e=>(h.own A e.symm).1 rfl;have nl:some q.lm≠sv.ownBlock:=fun e=>(h.own _ e.symm).2.1 rfl;have nt:some q.tb≠sv.ownBlock:=fun e=>(h.own _ e.symm).2.2.1 rfl;have nn:some q.nb≠sv.ownBlock:=fun e=>(h.own _ e.symm).2.2.2.1 rfl;have nm:some q.mb≠sv.ownBlock:=fun e=>(h.own _ e.symm).2.2.2.2 rfl;obtain⟨cur,t1,t2⟩:=h.takes;have lA:=ltA h.row;have lt:=ltA t1;have ll:=h.letters.lt;have ln:=h.numbers.lt;have lm:=h.moves.lt;have hN5:=((h.numbers.kept hgr nn).cell A 20 v' a3.symm).drew;obtain⟨w6,hr,hf,hg⟩:=qly hN5 plK underlying160 (by omega) hl sts.length (by omega);have hown:∀g,v'.ownBlock=some g→g≠A∧g≠q.lm∧g≠q.tb∧g≠q.nb∧g≠q.mb:=by
  intro g e;rcases hwh with e2|e2
  ·exact h.own g (e2.symm.trans e)
  rw[e2] at e;have e:X.heap.size=g:=by simpa using e
  omega
 have hb6:∀i,i<X.heap.size→some i≠sv.ownBlock→i≠A→i≠q.nb→w6.heap[i]? = X.heap[i]?:=by
  intro i h1 h2 h3 h4;have s4:=Nat.lt_of_lt_of_le h1 hgr.size;have s5:(w4.setCell ⟨A,20,none⟩ v').drew.heap.size=w4.heap.size:=by simp[World.setCell,World.drew]
  exact(hg.block i (by rw[s5];exact s4) (by simpa using h4)).trans ((Below.heap_setCell w4 _ _ _ (by simpa using h3)).trans (hgr.block i h1 h2))
 obtain⟨nf',e1,e2⟩:∃nf':Lit→Option Nat,nf' l=some sts.length∧∀l',l'≠l→nf' l'=nf l':=by
  have:=Classical.propDecidable;exact⟨fun l'=>if l'=l then some sts.length else nf l',if_pos rfl,fun l' hh=>if_neg hh⟩
 have s6:X.heap.size≤w6.heap.size:=by
  have:=hgr.size;have h2:=hg.size;have s5:(w4.setCell ⟨A,20,none⟩ v').drew.heap.size=w4.heap.size:=by simp[World.setCell,World.drew]
  omega
 refine⟨w6,hr,hg,hb6,s6,nf',?_⟩;exact {
  row:=by
   have r4:=(hgr.block A lA nA).trans h.row;have r5:(w4.setCell ⟨A,20,none⟩ v').drew.heap[A]? = some (.cells (qvY q v') 168):=by
    have:=heap_setCell_same w4 A 20 _ _ v' r4;rw[qr5] at this;exact this
   exact(hg.block A (ltA r5) (by simpa using a3)).trans r5
  rules:=h.rules
  few:=h.few
  below:=⟨by rw[hg.os];exact hgr.os.trans h.below.os,by rw[hg.tape];exact hgr.tape.trans h.below.tape,by rw[hg.output];exact hgr.output.trans h.below.output,Nat.le_trans h.below.size s6,fun i hi=>(hb6 i (Nat.lt_of_lt_of_le hi h.below.size) (fun e=>by have:=qbp h.states e.symm;omega) (by omega) (by omega)).trans (h.below.block i hi)⟩
  letters:=(((h.letters.kept hgr nl).cell A 20 v' a1.symm).drew).kept hg (by simpa using a6)
  takes:=⟨cur,(hb6 _ lt nt a2.symm a8).trans t1,t2⟩
  states:=by
   rw[qpy,List.length_append];refine qdn how fun g e => ?_;have s5:(w4.setCell ⟨A,20,none⟩ v').drew.heap.size=w4.heap.size:=by simp[World.setCell,World.drew]
   exact(hg.block g (by rw[s5];exact qjA how e) (by have:=(hown g e).2.2.2.1;simpa using this)).trans (Below.heap_setCell w4 _ _ _ (by have:=(hown g e).1;simpa using this))
  numbers:=by
   rw[List.length_append];exact hf nf' e1 e2
  moves:=(((h.moves.kept hgr nm).cell A 20 v' a4.symm).drew).kept hg (by simpa using a10.symm)
  high:=h.high
  apart:=h.apart
  own:=hown
  bits:=h.bits
  here:=fun i x hx=>by
   by_cases hil:i<sts.length
   ·rw[List.getElem?_append_left hil] at hx;exact h.here i x hx
   rw[List.getElem?_append_right (by omega)] at hx;obtain⟨_,rfl⟩:i-sts.length=0∧(Y,jdg q.dflt q.rs Y 0)=x:=by
    cases hk:i-sts.length with
    |zero=>rw[hk] at hx;exact⟨rfl,by simpa using hx⟩
    |succ k=>rw[hk] at hx;simp at hx
   exact⟨rfl,hY⟩
  num:=fun i x hx l' hl'=>by
   by_cases hil:i<sts.length
   ·rw[List.getElem?_append_left hil] at hx;have:=h.num i x hx l' hl';rw[e2 l' (fun e=>by rw[e,hi] at this;cases this)];exact this
   rw[List.getElem?_append_right (by omega)] at hx;obtain⟨hk0,rfl⟩:i-sts.length=0∧(Y,jdg q.dflt q.rs Y 0)=x:=by
    cases hk:i-sts.length with
    |zero=>rw[hk] at hx;exact⟨rfl,by simpa using hx⟩
    |succ k=>rw[hk] at hx;simp at hx
   have e:=Option.some.inj (hl'.symm.trans hl);rw[e,e1,show i=sts.length by omega]
  num':=fun l' i hh=>by
   by_cases e:l'=l
   ·subst e;rw[e1] at hh;have e:=Option.some.inj hh;subst e;exact⟨(Y,jdg q.dflt q.rs Y 0),by simp,hl⟩
   rw[e2 l' e] at hh;obtain⟨x,h1,h2⟩:=h.num' l' i hh;exact⟨x,by rw[List.getElem?_append_left (ltL h1)];exact h1,h2⟩}
def qsH (sv sv':Value)(W:World):Prop:=sv'.ownBlock=sv.ownBlock∨∃g,sv'.ownBlock=some g∧W.heap.size≤g
theorem qsH.mono {sv':Value}{V:World}(h:qsH sv sv' V)(hs:W.heap.size≤V.heap.size):qsH sv sv' W:=h.imp id (fun ⟨g,e,h⟩=>⟨g,e,Nat.le_trans hs h⟩)
theorem qkt (W0:World)(A:Nat)(q:Aut)(sts:List ((Nat→Nat)×Int×Int))(sa:Option Addr)(sc:Nat)(nf:Lit→Option Nat)(mn:Nat)(mf:Lit→Option Nat)(W:World)(h:qcj W0 A q sts (.slice sa sts.length sc) nf mn mf W)(Y:Nat→Nat)(hY:∀r,Y r<512)(l:Lit)(hl:keyOf prog 164 (.agg (plA Y))=some l)(hi:nf l=none)(hsm:sts.length<100000):Calls prog 86 #[.pointer (some ⟨A,0,none⟩),.agg (plA Y)] W fun e W'=>e=.returned (.int .i64 sts.length)∧qlG A q (.slice sa sts.length sc) W W'∧∃sa' sc' nf',qsH (.slice sa sts.length sc) (.slice sa' (sts.length+1) sc') W∧qcj W0 A q (sts++[(Y,jdg q.dflt q.rs Y 0)]) (.slice sa' (sts.length+1) sc') nf' mn mf W':=by
 have HB:Hid ((W.alloc (.cells (plA Y) 164)).heap[W.heap.size]? = some (.cells (plA Y) 164)):=qac _ _;have HA:Hid (qcj W0 A q sts (.slice sa sts.length sc) nf mn mf (W.alloc (.cells (plA Y) 164))):=h.next bwA
 have hWA:A≠W.heap.size:=by have:=ltA h.row;omega
 have HNB:=qaa h.numbers.lt;have HNE:Hid (∀g,(Value.slice sa sts.length sc).ownBlock=some g→g<W.heap.size):=fun g e=>qjA h.states e;go_enter func86,ntmps86;go_wp2;have HW:Hid (Below W.heap.size W (W.alloc (.cells (plA Y) 164))):=bwA;generalize W.alloc (.cells (plA Y) 164)=V at *;refine rgn (S:=fun Z=>Z.cell? ⟨A,21,none⟩=some (.map (some q.nb))∧Z.heap[W.heap.size]? = some (.cells (plA Y) 164)∧qcW Z 164 q.nb sts.length nf) (⟨qab HA.out.row 21,HB.out,HA.out.numbers⟩) (by kernel_rfl) ?_;intro hS;refine tkH 0 10 (.pointer (some ⟨A,0,none⟩)) rfl (by kernel_rfl) (fun _ _ _ h=>h) (fun Z hZ=>by kernel_rfl) hS ?_;refine tkH 1 11 (.pointer (some ⟨A,0,none⟩)) rfl (by kernel_rfl) (fun _ _ _ h=>h) (fun Z hZ=>by kernel_rfl) hS ?_;refine tkH 2 12 (.pointer (some ⟨A,21,none⟩)) rfl (by kernel_rfl) (fun _ _ _ h=>h) (fun Z hZ=>by kernel_rfl) hS ?_;refine tkH 3 13 (.map (some q.nb)) rfl (by kernel_rfl) (fun _ _ _ h=>h) (fun Z hZ => ?y3) hS ?_
 case y3=>(have z1:=hZ.1;go_simp)
 refine tkH 4 14 (.agg (plA Y)) rfl (by kernel_rfl) (fun _ _ _ h=>h) (fun Z hZ => ?y4) hS ?_
 case y4=>exact qix 164 (.tmp 3) rfl W.heap.size rfl _ _ _ _ hZ.2.1 underlying164 rfl (qbh Y)
 refine tkH 5 15 (.tuple #[.int .i64 0,.bool false]) rfl (by kernel_rfl) (fun _ _ _ h=>h) (fun Z hZ => ?y5) hS ?_
 case y5=>(have z2:=qdz hZ.2.2 plK underlying160 hl;rw[hi] at z2;go_simp)
 refine tkH 6 9 (.tuple #[.int .i64 0,.bool false]) rfl (by kernel_rfl) (fun _ _ _ h=>h) (fun Z hZ=>by kernel_rfl) hS ?_;refine tkH 7 16 (.int .i64 0) rfl (by kernel_rfl) (fun _ _ _ h=>h) (fun Z hZ=>by kernel_rfl) hS ?_;refine tkH 8 17 (.bool false) rfl (by kernel_rfl) (fun _ _ _ h=>h) (fun Z hZ=>by kernel_rfl) hS ?_;refine tkH 9 5 (.int .i64 0) rfl (by kernel_rfl) (fun _ _ _ h=>h) (fun Z hZ=>by kernel_rfl) hS ?_;refine tkH 10 6 (.bool false) rfl (by kernel_rfl) (fun _ _ _ h=>h) (fun Z hZ=>by kernel_rfl) hS ?_;refine wpAnyH_done (by kernel_rfl) ?_ _;go_simp;have HA1:=qaa (HA.out.next (Below.refl _ _).drew);have HB1:Hid ((World.drew V).heap[W.heap.size]? = some (.cells (plA Y) 164)):=HB.out;have HW1:=qaa (HW.out.drew);generalize World.drew V=V1 at *;have c20:V1.cell? ⟨A,20,none⟩=some (.slice sa sts.length sc):=qab HA1.out.row 20;have cJ:=qoj V1 A q.ra q.rc q.dflt q.rs Y (fun r=>by have:=hY r;omega) HA1.out.few.1 HA1.out.few.2 (ltA HA1.out.row) (qab HA1.out.row 0) (qab HA1.out.row 1) (HA1.out.rules.below HA1.out.below)
 go_wp2_with (first
  |(go_at_call 138;refine cJ.mono ?_;rintro e w2 ⟨rfl,hB2⟩;have HA2:=qaa (HA1.out.next hB2);have HB2:=qaa ((hB2.block _ (ltA HB1.out)).trans HB1.out);have HW2:=qaa (HW1.out.trans (hB2.mono HW1.out.size));have c20:w2.cell? ⟨A,20,none⟩=some (.slice sa sts.length sc):=qab HA2.out.row 20)
  |(refine wpList_load_row rfl 164 (.tmp 3) rfl W.heap.size rfl _ _ _ _ HB1.out underlying164 rfl (qbh Y) ?_))
 obtain⟨si,hsi,hs0,hs1,hs2⟩:=info_parts Tryz.infoSt;have hA2:=ltA HA2.out.row;have HA3:Hid (qcj W0 A q sts (.slice sa sts.length sc) nf mn mf (w2.drew.alloc (.cells (stA Y (jdg q.dflt q.rs Y 0)) 240))):=(HA2.out.next (Below.refl _ _).drew).next bwA
 have hS3:(fun Z:World=>Z.heap[W.heap.size]? = some (.cells (plA Y) 164)) (w2.drew.alloc (.cells (stA Y (jdg q.dflt q.rs Y 0)) 240)):=(Below.heap_alloc w2.drew _ _ (ltA HB2.out)).trans HB2.out;have HNW:Hid (∀(j:Nat) (u:Value),(stA Y (jdg q.dflt q.rs Y 0)).toList[j]? = some u→(w2.drew.alloc (.cells (stA Y (jdg q.dflt q.rs Y 0)) 240)).cell? ((⟨w2.heap.size,0,none⟩:Addr).add j)=some u):=qdb w2.drew _ _;refine rgn (S:=fun Z=>Z.heap[W.heap.size]? = some (.cells (plA Y) 164)) (HB2.out) (by kernel_rfl) ?_;intro hS;refine tkH 0 31 (.pointer (some ⟨A,0,none⟩)) rfl (by kernel_rfl) (fun _ _ _ h=>h) (fun Z hZ=>by kernel_rfl) hS ?_;refine tkH 1 32 (.pointer (some ⟨A,0,none⟩)) rfl (by kernel_rfl) (fun _ _ _ h=>h) (fun Z hZ=>by kernel_rfl) hS ?_;refine tkH 2 33 (.pointer (some ⟨A,0,none⟩)) rfl (by kernel_rfl) (fun _ _ _ h=>h) (fun Z hZ=>by kernel_rfl) hS ?_;refine tkH 3 34 (.pointer (some ⟨A,20,none⟩)) rfl (by kernel_rfl) (fun _ _ _ h=>h) (fun Z hZ=>by kernel_rfl) hS ?_;refine tkH 5 36 (.agg (plA Y)) rfl (by kernel_rfl) (fun _ _ _ h=>h) (fun Z hZ => ?y5) hS ?_
 case y5=>exact qix 164 (.tmp 3) rfl W.heap.size rfl _ _ _ _ hZ underlying164 rfl (qbh Y)
 refine tkH 6 37 (.int .i64 (jdg q.dflt q.rs Y 0).1) rfl (by kernel_rfl) (fun _ _ _ h=>h) (fun Z hZ=>by kernel_rfl) hS ?_;refine tkH 7 38 (.int .i64 (jdg q.dflt q.rs Y 0).2) rfl (by kernel_rfl) (fun _ _ _ h=>h) (fun Z hZ=>by kernel_rfl) hS ?_;refine tkH 8 39 (.agg (stA Y (jdg q.dflt q.rs Y 0))) rfl (by kernel_rfl) (fun _ _ _ h=>h) (fun Z hZ => ?y8) hS ?_
 case y8=>kernel_rfl
 refine qsx 4 9 rfl rfl (by kernel_rfl) (fun K hK => ?_) (fun K hK => ?_)
 focus
  go_simp;refine hK.out _ _ hS (fun _ => ?_);refine rdS 9 rfl (by kernel_rfl) (fun K hK => ?_);refine ifw (by kernel_rfl) ?_;refine qhu (.tmp 39) rfl Y (jdg q.dflt q.rs Y 0) (by kernel_rfl) ?_;refine hK.out _ _ hS3 (fun _ => ?_)
 rotate_left
 focus
  refine ifw (by kernel_rfl) ?_;refine qhu (.tmp 39) rfl Y (jdg q.dflt q.rs Y 0) (by kernel_rfl) ?_;refine hK.out _ _ hS3 (fun _ => ?_);refine rdS 4 rfl (by kernel_rfl) (fun K hK => ?_);go_simp;refine hK.out _ _ hS3 (fun _ => ?_)
 all_goals
  refine rdS 10 rfl (by kernel_rfl) (fun K hK => ?_);refine ifw (by kernel_rfl) ?_;refine qeN (.tmp 35) (.tmp 40) 166 rfl W0.heap.size 240 si _ 18 48 underlying166 hsi hs0 hs1 hs2 rfl (by decide) (.slice sa sts.length sc) _ _ (by kernel_rfl) HA3.out.states ⟨w2.heap.size,0,none⟩ 1 1 (stA Y (jdg q.dflt q.rs Y 0)).toList (by kernel_rfl) ?hln HNW.out (qoV _ _) (by unfold maxLen;omega) (by omega) HA3.out.below.size ?_
  case hln=>simp[stA,plA]
  intro v' w4 hown hgr hwh;obtain⟨g1,cap1,rfl⟩:=ownsRow_succ hown;have HOW:=qaa hown;have HGR:=qaa hgr;have HWH:=qaa hwh;have HOS:Hid (qsH (.slice sa sts.length sc) (.slice (some ⟨g1,0,none⟩) (sts.length+1) cap1) W):=hwh.imp id (fun e=>⟨_,e,by have h1:=HW2.out.size;simp;omega⟩);have hAX:=ltA HA3.out.row;have HR4:=qaa ((HGR.out.block A hAX (fun e=>(HA3.out.own A e.symm).1 rfl)).trans HA3.out.row);have hS4:(fun Z:World=>Z.heap[W.heap.size]? = some (.cells (plA Y) 164)) w4:=(HGR.out.block W.heap.size (ltA hS3) (fun e=>by have:=HNE.out _ e.symm;omega)).trans hS3;have e20:w4.cell? ⟨A,20,none⟩=some (.slice sa sts.length sc):=qab HR4.out 20;have f20:=frozen_of_row w4 A 20 _ _ HR4.out;have hS5:(fun Z:World=>Z.heap[W.heap.size]? = some (.cells (plA Y) 164)) (w4.setCell ⟨A,20,none⟩ (.slice (some ⟨g1,0,none⟩) (sts.length+1) cap1)):=(Below.heap_setCell w4 _ _ _ (by simp;omega)).trans hS4;refine hK.out _ _ hS4 (fun _ => ?_);refine tkH 11 42 (.pointer (some ⟨A,0,none⟩)) rfl (by kernel_rfl) (fun _ _ _ h=>h) (fun Z hZ=>by kernel_rfl) hS4 ?_;refine tkH 12 43 (.pointer (some ⟨A,20,none⟩)) rfl (by kernel_rfl) (fun _ _ _ h=>h) (fun Z hZ=>by kernel_rfl) hS4 ?_;refine rdS 13 rfl (by kernel_rfl) (fun K hK => ?_);go_simp;refine hK.out _ _ hS5 (fun _ => ?_);refine wpAnyH_done (by kernel_rfl) ?_ _;go_simp;obtain⟨w6,hr6,hg6,hb6,hs6,nf',hA6⟩:=qwi HA3.out hY hl hi hsm HOW.out HGR.out HWH.out;have HA6:=qaa hA6;have HFR:Hid (qlG A q (.slice sa sts.length sc) W w6):=by
   have s3:w2.heap.size≤(w2.drew.alloc (.cells (stA Y (jdg q.dflt q.rs Y 0)) 240)).heap.size:=by rw[World.size_alloc];exact Nat.le_succ _
   refine⟨Nat.le_trans HW2.out.size (Nat.le_trans s3 hs6),fun j h1 h2 h3 h4 _ => ?_⟩;have hj:=Nat.lt_of_lt_of_le h1 HW2.out.size;exact(hb6 j (Nat.lt_of_lt_of_le hj s3) h2 h3 h4).trans ((Below.heap_alloc w2.drew _ _ hj).trans (HW2.out.block j h1))
  have hS6:(fun Z:World=>Z.cell? ⟨A,21,none⟩=some (.map (some q.nb))∧Z.heap[W.heap.size]? = some (.cells (plA Y) 164)) { (w4.setCell ⟨A,20,none⟩ (.slice (some ⟨g1,0,none⟩) (sts.length+1) cap1)) with drawn:=(w4.setCell ⟨A,20,none⟩ (.slice (some ⟨g1,0,none⟩) (sts.length+1) cap1)).drawn+1}:=⟨by have h:=heap_setCell_same w4 A 20 _ _ (.slice (some ⟨g1,0,none⟩) (sts.length+1) cap1) HR4.out;exact qab h 21,hS5⟩
  have hS7:(fun Z:World=>Z.cell? ⟨A,21,none⟩=some (.map (some q.nb))∧Z.heap[W.heap.size]? = some (.cells (plA Y) 164)) w6:=⟨qab HA6.out.row 21,(hg6.block W.heap.size (ltA hS5) (by have:=HNB.out;simp;omega)).trans hS5⟩
  generalize w4.setCell ⟨A,20,none⟩ (.slice (some ⟨g1,0,none⟩) (sts.length+1) cap1)=V5 at *;go_wp2;refine wp_region_held (S:=fun Z=>Z.cell? ⟨A,21,none⟩=some (.map (some q.nb))∧Z.heap[W.heap.size]? = some (.cells (plA Y) 164)) (by kernel_rfl) ?_;refine tkH 0 44 (.pointer (some ⟨A,0,none⟩)) rfl (by kernel_rfl) (fun _ _ _ h=>h) (fun Z hZ=>by kernel_rfl) hS6 ?_;refine tkH 1 45 (.pointer (some ⟨A,0,none⟩)) rfl (by kernel_rfl) (fun _ _ _ h=>h) (fun Z hZ=>by kernel_rfl) hS6 ?_;refine tkH 2 46 (.pointer (some ⟨A,21,none⟩)) rfl (by kernel_rfl) (fun _ _ _ h=>h) (fun Z hZ=>by kernel_rfl) hS6 ?_;refine tkH 3 47 (.map (some q.nb)) rfl (by kernel_rfl) (fun _ _ _ h=>h) (fun Z hZ => ?y3) hS6 ?_
  case y3=>(have z1:=hZ.1;go_simp)
  refine tkH 4 48 (.agg (plA Y)) rfl (by kernel_rfl) (fun _ _ _ h=>h) (fun Z hZ => ?y4) hS6 ?_
  case y4=>exact qix 164 (.tmp 3) rfl W.heap.size rfl _ _ _ _ hZ.2 underlying164 rfl (qbh Y)
  refine tkH 5 49 (.int .i64 sts.length) rfl (by kernel_rfl) (fun _ _ _ h=>h) (fun Z hZ=>by kernel_rfl) hS6 ?_;refine rdS 6 rfl (by kernel_rfl) (fun K hK => ?_);go_simp;refine hK.out _ _ hS7 (fun _ => ?_);refine wpAnyH_done (by kernel_rfl) ?_ _;go_simp;go_wp2;go_ret;exact⟨rfl,HFR.out,some ⟨g1,0,none⟩,cap1,nf',HOS.out,HA6.out⟩
end
end Go.Proofs.YtllcbnfmihfaaaaGreatDoor
