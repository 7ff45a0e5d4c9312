import Derived.Test.YtcokgepdckkjdaaGreatDoorRq13
import Derived.Test.YtcokgepdckkjdaaGreatDoorRq16
set_option maxRecDepth 100000
set_option maxHeartbeats 8000000
namespace Go.Proofs.YtcokgepdckkjdaaGreatDoor
open Go.Proofs.Tryz
variable {o:Oper}{a:Act}{W W' W0 w:World}{K:Act->World->Prop}{Q:Exit->Act->World->Prop}{P:Program}{A base m mn n size t:Nat}{sv v:Value}{xs:List Value}{q:Aut}{sts:List ((Nat->Nat)×Int×Int)}{f mf nf:Lit->Option Nat}{ks:List (List UInt8)}{b:List UInt8}
section
open Go.RowKit
def stA (Y:Nat->Nat)(x:Int×Int):Array Value:=plA Y++#[.int .i64 x.1,.int .i64 x.2]
theorem ifw {c:Prop}[Decidable c]{A B:Prop}(h:c)(a:A):if c then A else B:=by rw[if_pos h];exact a
theorem qrG (Y:Nat->Nat)(x:Int×Int)(V:World):(Instr.buildSlice 131 1 #[(0,.agg (stA Y x))]).run prog V=.ok (.slice (some ⟨V.heap.size,0,none⟩) 1 1) (V.alloc (.cells (stA Y x) 175)):=by kernel_rfl
theorem qhu (x:Operand)(b:o.op=.buildSlice 131 1 #[(0,x)])(Y:Nat->Nat)(z:Int×Int)(c:a.eval x=.agg (stA Y z))(h:K (a.put o.dst (.slice (some ⟨w.heap.size,0,none⟩) 1 1)) (w.alloc (.cells (stA Y z) 175))):o.wp prog a w K Q:=by
 have e:(#[(0,x)].map fun (i,y)=>(i,a.eval y))=#[((0:Nat),Value.agg (stA Y z))]:=by simp[c]
 unfold Oper.wp execOp;simp only[b,Sem.run_bind,e,qrG,Result.andThen_ok];exact h
theorem qeN (s x:Operand)(t:TypeId)(G:o.op=.call {callee:=.builtin .append,args:=#[s,x],argTypes:=#[t,t]})(g:Nat)(e:TypeId)(i:TypeInfo)(z:Value)(size l:Nat)(N:P.underlying t=some (.slice e))(hi:P.info? e=some i)(R:i.zero=some z)(L:i.size=size)(C:i.bytes=l)(S:z.cells.size=size)(M:0<size)(v:Value)(n:Nat)(xs:List Value)(J:a.eval s=v)(H:w.ownsRow g e size v n xs)(k:Addr)(m c:Nat)(d:List Value)(O:a.eval x=.slice (some k) m c)(E:d.length=m*size)(F:∀j u,d[j]? = some u->w.cell? (k.add j)=some u)(p:∀u∈d,u.oneCell'=true)(A:n+m<=maxLen)(D:(n+m)*l<=140737488355328)(B:g<=w.heap.size)(h:∀b f,f.ownsRow g e size b (n+m) (xs++d)->w.grownBy f v.ownBlock->(b.ownBlock=v.ownBlock\/b.ownBlock=some w.heap.size)->K (a.put o.dst b) f):o.wp P a w K Q:=by
 obtain⟨b,f,I,q,r,_,y⟩:=run_append_own_at (P:=P) w g t o.type e i z size l N hi R L C S M v n xs H k m c d E F p A D B;unfold Oper.wp execOp;simp only[G,resolve,invoke,builtin,Sem.run_bind,Sem.run_pure,Result.andThen_ok,List.map_toArray,List.map_cons,List.map_nil,J,O,I];exact h b f q r y
theorem qjA {e:TypeId}(d:W.ownsRow base e size v n xs){g:Nat}(h:v.ownBlock=some g):g<W.heap.size:=by
 rcases d.2 with ⟨a,_⟩|⟨b,f,i,a,_,c,_⟩
 ·subst a;cases h
 subst a;have e:b=g:=by simpa [Value.ownBlock] using h
 subst e;exact ltA c
theorem Tryz.infoSt:(prog.info? 175).map (fun i=>(i.zero,i.size,i.bytes))=some (some (.agg (stA zPl (0,0))),18,48):=by kernel_rfl
theorem qoV (Y:Nat->Nat)(x:Int×Int):∀u∈(stA Y x).toList,u.oneCell'=true:=by
 intro u a;simp[stA,plA] at a;rcases a with ⟨i,_,rfl⟩|rfl|rfl<;>rfl
theorem qcj.next (h:qcj W0 A q sts sv nf mn mf W)(a:Below W.heap.size W W'):qcj W0 A q sts sv nf mn mf W':=by
 have b:W.grownBy W' none:=⟨a.os,a.tape,a.output,a.size,fun i c _=>a.block i c⟩
 obtain⟨e,d,f⟩:=h.takes;exact {h with
  row:=(a.block _ (ltA h.row)).trans h.row
  below:=h.below.trans (a.mono h.below.size)
  letters:=h.letters.kept b (by simp)
  takes:=⟨e,(a.block _ (ltA d)).trans d,f⟩
  states:=qib h.states (fun i c=>a.block i c)
  numbers:=h.numbers.kept b (by simp)
  moves:=h.moves.kept b (by simp)}
theorem qpy (a:List ((Nat->Nat)×Int×Int))(Y:Nat->Nat)(J:Int×Int):(a++[(Y,J)]).flatMap stC=a.flatMap stC++(stA Y J).toList:=by
 simp[stC,stA]
theorem qr5 (q:Aut)(b a:Value):(qvY q b).setIfInBounds 20 a=qvY q a:=rfl
theorem qcW.cell {kt:TypeId}(h:qcW W kt m n f)(A j:Nat)(v:Value)(c:m≠A):qcW (W.setCell ⟨A,j,none⟩ v) kt m n f:=by
 obtain⟨D,a,b⟩:=h;exact⟨D,a.setCell (by simpa using c) v,b⟩
theorem qcW.drew {kt:TypeId}(h:qcW W kt m n f):qcW W.drew kt m n f:=h
theorem qdn {e:TypeId}(h:W.ownsRow base e size v n xs)(k:∀g,v.ownBlock=some g->W'.heap[g]? = W.heap[g]?):W'.ownsRow base e size v n xs:=by
 refine⟨h.1,?_⟩;rcases h.2 with a|⟨b,c,d,a,f,j,i⟩
 ·exact .inl a
 exact .inr ⟨b,c,d,a,f,(k b (by rw[a];rfl)).trans j,i⟩
structure qlG (A:Nat)(q:Aut)(sv:Value)(W W':World):Prop where
 size:W.heap.size<=W'.heap.size
 block:∀i,i<W.heap.size->some i≠sv.ownBlock->i≠A->i≠q.nb->i≠q.mb->W'.heap[i]? = W.heap[i]?
theorem qwi {X:World}(h:qcj W0 A q sts sv nf mn mf X){Y:Nat->Nat}(P:∀r,Y r<512){l:Lit}(v:keyOf prog 129 (.agg (plA Y))=some l)(hi:nf l=none)(ab:sts.length<100000){v':Value}{w4:World}(B:w4.ownsRow W0.heap.size 175 18 v' (sts.length+1) (sts.flatMap stC++(stA Y (jdg q.dflt q.rs Y 0)).toList))(d:X.grownBy w4 sv.ownBlock)(S:v'.ownBlock=sv.ownBlock\/v'.ownBlock=some X.heap.size):∃f,(Instr.mapUpdate 125 (.map (some q.nb)) (.agg (plA Y)) (.int .i64 sts.length)).run prog (w4.setCell ⟨A,20,none⟩ v').drew=.ok () f/\(w4.setCell ⟨A,20,none⟩ v').drew.grownBy f (some q.nb)/\(∀i,i<X.heap.size->some i≠sv.ownBlock->i≠A->i≠q.nb->f.heap[i]? = X.heap[i]?)/\X.heap.size<=f.heap.size/\∃m,qcj W0 A q (sts++[(Y,jdg q.dflt q.rs Y 0)]) v' m mn mf f:=by
 obtain⟨F,H,y,I,a5,J,a7,K,a9,G⟩:=h.apart;obtain⟨u1,u2,u3,u4,u5⟩:=h.high;have U:some A≠sv.ownBlock:=fun e=>(h.own A e.symm).1 rfl;have V:some q.lm≠sv.ownBlock:=fun e=>(h.own _ e.symm).2.1 rfl;have nt:some q.tb≠sv.ownBlock:=fun e=>(h.own _ e.symm).2.2.1 rfl;have Z:some q.nb≠sv.ownBlock:=fun e=>(h.own _ e.symm).2.2.2.1 rfl;have W:some q.mb≠sv.ownBlock:=fun e=>(h.own _ e.symm).2.2.2.2 rfl;obtain⟨L,E,t2⟩:=h.takes;have T:=ltA h.row;have lt:=ltA E;have ll:=h.letters.lt;have ln:=h.numbers.lt;have lm:=h.moves.lt;have O:=((h.numbers.kept d Z).cell A 20 v' y.symm).drew;obtain⟨f,R,Q,c⟩:=qly O plK underlying125 (by omega) v sts.length (by omega);have w:∀g,v'.ownBlock=some g->g≠A/\g≠q.lm/\g≠q.tb/\g≠q.nb/\g≠q.mb:=by
  intro g e;rcases S with j|j
  ·exact h.own g (j.symm.trans e)
  rw[j] at e;have e:X.heap.size=g:=by simpa using e
  omega
 have t:∀i,i<X.heap.size->some i≠sv.ownBlock->i≠A->i≠q.nb->f.heap[i]? = X.heap[i]?:=by
  intro i h1 p M N;have s4:=Nat.lt_of_lt_of_le h1 d.size;have s:(w4.setCell ⟨A,20,none⟩ v').drew.heap.size=w4.heap.size:=by simp[World.setCell,World.drew]
  exact(c.block i (by rw[s];exact s4) (by simpa using N)).trans ((Below.heap_setCell w4 _ _ _ (by simpa using M)).trans (d.block i h1 p))
 obtain⟨m,e1,j⟩:∃m:Lit->Option Nat,m l=some sts.length/\∀b,b≠l->m b=nf b:=by
  have:=Classical.propDecidable;exact⟨fun b=>if b=l then some sts.length else nf b,if_pos rfl,fun b n=>if_neg n⟩
 have D:X.heap.size<=f.heap.size:=by
  have:=d.size;have p:=c.size;have s:(w4.setCell ⟨A,20,none⟩ v').drew.heap.size=w4.heap.size:=by simp[World.setCell,World.drew]
  omega
 refine⟨f,R,c,t,D,m,?_⟩;exact {
  row:=by
   have r4:=(d.block A T U).trans h.row;have C:(w4.setCell ⟨A,20,none⟩ v').drew.heap[A]? = some (.cells (qvY q v') 133):=by
    have:=heap_setCell_same w4 A 20 _ _ v' r4;rw[qr5] at this;exact this
   exact(c.block A (ltA C) (by simpa using y)).trans C
  rules:=h.rules
  few:=h.few
  below:=⟨by rw[c.os];exact d.os.trans h.below.os,by rw[c.tape];exact d.tape.trans h.below.tape,by rw[c.output];exact d.output.trans h.below.output,Nat.le_trans h.below.size D,fun i hi=>(t i (Nat.lt_of_lt_of_le hi h.below.size) (fun e=>by have:=qbp h.states e.symm;omega) (by omega) (by omega)).trans (h.below.block i hi)⟩
  letters:=(((h.letters.kept d V).cell A 20 v' F.symm).drew).kept c (by simpa using J)
  takes:=⟨L,(t _ lt nt H.symm K).trans E,t2⟩
  states:=by
   rw[qpy,List.length_append];refine qdn B fun g e => ?_;have s:(w4.setCell ⟨A,20,none⟩ v').drew.heap.size=w4.heap.size:=by simp[World.setCell,World.drew]
   exact(c.block g (by rw[s];exact qjA B e) (by have:=(w g e).2.2.2.1;simpa using this)).trans (Below.heap_setCell w4 _ _ _ (by have:=(w g e).1;simpa using this))
  numbers:=by
   rw[List.length_append];exact Q m e1 j
  moves:=(((h.moves.kept d W).cell A 20 v' I.symm).drew).kept c (by simpa using G.symm)
  high:=h.high
  apart:=h.apart
  own:=w
  bits:=h.bits
  here:=fun i x a=>by
   by_cases u:i<sts.length
   ·rw[List.getElem?_append_left u] at a;exact h.here i x a
   rw[List.getElem?_append_right (by omega)] at a;obtain⟨_,rfl⟩:i-sts.length=0/\(Y,jdg q.dflt q.rs Y 0)=x:=by
    cases o:i-sts.length with
    |zero=>rw[o] at a;exact⟨rfl,by simpa using a⟩
    |succ k=>rw[o] at a;simp at a
   exact⟨rfl,P⟩
  num:=fun i x a b z=>by
   by_cases u:i<sts.length
   ·rw[List.getElem?_append_left u] at a;have:=h.num i x a b z;rw[j b (fun e=>by rw[e,hi] at this;cases this)];exact this
   rw[List.getElem?_append_right (by omega)] at a;obtain⟨aa,rfl⟩:i-sts.length=0/\(Y,jdg q.dflt q.rs Y 0)=x:=by
    cases o:i-sts.length with
    |zero=>rw[o] at a;exact⟨rfl,by simpa using a⟩
    |succ k=>rw[o] at a;simp at a
   have e:=Option.some.inj (z.symm.trans v);rw[e,e1,show i=sts.length by omega]
  num':=fun b i n=>by
   by_cases e:b=l
   ·subst e;rw[e1] at n;have e:=Option.some.inj n;subst e;exact⟨(Y,jdg q.dflt q.rs Y 0),by simp,v⟩
   rw[j b e] at n;obtain⟨x,h1,p⟩:=h.num' b i n;exact⟨x,by rw[List.getElem?_append_left (ltL h1)];exact h1,p⟩}
def qsH (sv sv':Value)(W:World):Prop:=sv'.ownBlock=sv.ownBlock\/∃g,sv'.ownBlock=some g/\W.heap.size<=g
theorem qsH.mono {sv':Value}{V:World}(h:qsH sv sv' V)(a:W.heap.size<=V.heap.size):qsH sv sv' W:=h.imp id (fun ⟨g,e,h⟩=>⟨g,e,Nat.le_trans a h⟩)
theorem qkt (v:World)(A:Nat)(q:Aut)(b:List ((Nat->Nat)×Int×Int))(f:Option Addr)(i:Nat)(x:Lit->Option Nat)(D:Nat)(C:Lit->Option Nat)(W:World)(h:qcj v A q b (.slice f b.length i) x D C W)(Y:Nat->Nat)(T:∀r,Y r<512)(l:Lit)(X:keyOf prog 129 (.agg (plA Y))=some l)(hi:x l=none)(az:b.length<100000):Calls prog 62 #[.pointer (some ⟨A,0,none⟩),.agg (plA Y)] W fun e R=>e=.returned (.int .i64 b.length)/\qlG A q (.slice f b.length i) W R/\∃ab ac N,qsH (.slice f b.length i) (.slice ab (b.length+1) ac) W/\qcj v A q (b++[(Y,jdg q.dflt q.rs Y 0)]) (.slice ab (b.length+1) ac) N D C R:=by
 have P:Hid ((W.alloc (.cells (plA Y) 129)).heap[W.heap.size]? = some (.cells (plA Y) 129)):=qac _ _;have E:Hid (qcj v A q b (.slice f b.length i) x D C (W.alloc (.cells (plA Y) 129))):=h.next bwA
 have a3:A≠W.heap.size:=by have:=ltA h.row;omega
 have af:=qaa h.numbers.lt;have ag:Hid (∀g,(Value.slice f b.length i).ownBlock=some g->g<W.heap.size):=fun g e=>qjA h.states e;go_enter func62,ntmps62;go_wp2;have HW:Hid (Below W.heap.size W (W.alloc (.cells (plA Y) 129))):=bwA;generalize W.alloc (.cells (plA Y) 129)=V at *;refine rgn (S:=fun Z=>Z.cell? ⟨A,21,none⟩=some (.map (some q.nb))/\Z.heap[W.heap.size]? = some (.cells (plA Y) 129)/\qcW Z 129 q.nb b.length x) (⟨qab E.out.row 21,P.out,E.out.numbers⟩) (by kernel_rfl) ?_;intro c;refine tkH 0 10 (.pointer (some ⟨A,0,none⟩)) rfl (by kernel_rfl) (fun _ _ _ h=>h) (fun Z a=>by kernel_rfl) c ?_;refine tkH 1 11 (.pointer (some ⟨A,0,none⟩)) rfl (by kernel_rfl) (fun _ _ _ h=>h) (fun Z a=>by kernel_rfl) c ?_;refine tkH 2 12 (.pointer (some ⟨A,21,none⟩)) rfl (by kernel_rfl) (fun _ _ _ h=>h) (fun Z a=>by kernel_rfl) c ?_;refine tkH 3 13 (.map (some q.nb)) rfl (by kernel_rfl) (fun _ _ _ h=>h) (fun Z a => ?y3) c ?_
 case y3=>(have z1:=a.1;go_simp)
 refine tkH 4 14 (.agg (plA Y)) rfl (by kernel_rfl) (fun _ _ _ h=>h) (fun Z a => ?y4) c ?_
 case y4=>exact qix 129 (.tmp 3) rfl W.heap.size rfl _ _ _ _ a.2.1 underlying129 rfl (qbh Y)
 refine tkH 5 15 (.tuple #[.int .i64 0,.bool false]) rfl (by kernel_rfl) (fun _ _ _ h=>h) (fun Z a => ?y5) c ?_
 case y5=>(have z2:=qdz a.2.2 plK underlying125 X;rw[hi] at z2;go_simp)
 refine tkH 6 9 (.tuple #[.int .i64 0,.bool false]) rfl (by kernel_rfl) (fun _ _ _ h=>h) (fun Z a=>by kernel_rfl) c ?_;refine tkH 7 16 (.int .i64 0) rfl (by kernel_rfl) (fun _ _ _ h=>h) (fun Z a=>by kernel_rfl) c ?_;refine tkH 8 17 (.bool false) rfl (by kernel_rfl) (fun _ _ _ h=>h) (fun Z a=>by kernel_rfl) c ?_;refine tkH 9 5 (.int .i64 0) rfl (by kernel_rfl) (fun _ _ _ h=>h) (fun Z a=>by kernel_rfl) c ?_;refine tkH 10 6 (.bool false) rfl (by kernel_rfl) (fun _ _ _ h=>h) (fun Z a=>by kernel_rfl) c ?_;refine wpAnyH_done (by kernel_rfl) ?_ _;go_simp;have m:=qaa (E.out.next (Below.refl _ _).drew);have G:Hid ((World.drew V).heap[W.heap.size]? = some (.cells (plA Y) 129)):=P.out;have Q:=qaa (HW.out.drew);generalize World.drew V=V1 at *;have al:V1.cell? ⟨A,20,none⟩=some (.slice f b.length i):=qab m.out.row 20;have cJ:=qoj V1 A q.ra q.rc q.dflt q.rs Y (fun r=>by have:=T r;omega) m.out.few.1 m.out.few.2 (ltA m.out.row) (qab m.out.row 0) (qab m.out.row 1) (m.out.rules.below m.out.below)
 go_wp2_with (first
  |(go_at_call 87;refine cJ.mono ?_;rintro e k ⟨rfl,M⟩;have F:=qaa (m.out.next M);have H:=qaa ((M.block _ (ltA G.out)).trans G.out);have y:=qaa (Q.out.trans (M.mono Q.out.size));have al:k.cell? ⟨A,20,none⟩=some (.slice f b.length i):=qab F.out.row 20)
  |(refine wpList_load_row rfl 129 (.tmp 3) rfl W.heap.size rfl _ _ _ _ G.out underlying129 rfl (qbh Y) ?_))
 obtain⟨si,ay,au,av,aw⟩:=info_parts Tryz.infoSt;have a2:=ltA F.out.row;have s:Hid (qcj v A q b (.slice f b.length i) x D C (k.drew.alloc (.cells (stA Y (jdg q.dflt q.rs Y 0)) 175))):=(F.out.next (Below.refl _ _).drew).next bwA
 have w:(fun Z:World=>Z.heap[W.heap.size]? = some (.cells (plA Y) 129)) (k.drew.alloc (.cells (stA Y (jdg q.dflt q.rs Y 0)) 175)):=(Below.heap_alloc k.drew _ _ (ltA H.out)).trans H.out;have ah:Hid (∀(j:Nat) (ad:Value),(stA Y (jdg q.dflt q.rs Y 0)).toList[j]? = some ad->(k.drew.alloc (.cells (stA Y (jdg q.dflt q.rs Y 0)) 175)).cell? ((⟨k.heap.size,0,none⟩:Addr).add j)=some ad):=qdb k.drew _ _;refine rgn (S:=fun Z=>Z.heap[W.heap.size]? = some (.cells (plA Y) 129)) (H.out) (by kernel_rfl) ?_;intro c;refine tkH 0 31 (.pointer (some ⟨A,0,none⟩)) rfl (by kernel_rfl) (fun _ _ _ h=>h) (fun Z a=>by kernel_rfl) c ?_;refine tkH 1 32 (.pointer (some ⟨A,0,none⟩)) rfl (by kernel_rfl) (fun _ _ _ h=>h) (fun Z a=>by kernel_rfl) c ?_;refine tkH 2 33 (.pointer (some ⟨A,0,none⟩)) rfl (by kernel_rfl) (fun _ _ _ h=>h) (fun Z a=>by kernel_rfl) c ?_;refine tkH 3 34 (.pointer (some ⟨A,20,none⟩)) rfl (by kernel_rfl) (fun _ _ _ h=>h) (fun Z a=>by kernel_rfl) c ?_;refine tkH 5 36 (.agg (plA Y)) rfl (by kernel_rfl) (fun _ _ _ h=>h) (fun Z a => ?y5) c ?_
 case y5=>exact qix 129 (.tmp 3) rfl W.heap.size rfl _ _ _ _ a underlying129 rfl (qbh Y)
 refine tkH 6 37 (.int .i64 (jdg q.dflt q.rs Y 0).1) rfl (by kernel_rfl) (fun _ _ _ h=>h) (fun Z a=>by kernel_rfl) c ?_;refine tkH 7 38 (.int .i64 (jdg q.dflt q.rs Y 0).2) rfl (by kernel_rfl) (fun _ _ _ h=>h) (fun Z a=>by kernel_rfl) c ?_;refine tkH 8 39 (.agg (stA Y (jdg q.dflt q.rs Y 0))) rfl (by kernel_rfl) (fun _ _ _ h=>h) (fun Z a => ?y8) c ?_
 case y8=>kernel_rfl
 refine qsx 4 9 rfl rfl (by kernel_rfl) (fun K d => ?_) (fun K d => ?_)
 focus
  go_simp;refine d.out _ _ c (fun _ => ?_);refine rdS 9 rfl (by kernel_rfl) (fun K d => ?_);refine ifw (by kernel_rfl) ?_;refine qhu (.tmp 39) rfl Y (jdg q.dflt q.rs Y 0) (by kernel_rfl) ?_;refine d.out _ _ w (fun _ => ?_)
 rotate_left
 focus
  refine ifw (by kernel_rfl) ?_;refine qhu (.tmp 39) rfl Y (jdg q.dflt q.rs Y 0) (by kernel_rfl) ?_;refine d.out _ _ w (fun _ => ?_);refine rdS 4 rfl (by kernel_rfl) (fun K d => ?_);go_simp;refine d.out _ _ w (fun _ => ?_)
 all_goals
  refine rdS 10 rfl (by kernel_rfl) (fun K d => ?_);refine ifw (by kernel_rfl) ?_;refine qeN (.tmp 35) (.tmp 40) 131 rfl v.heap.size 175 si _ 18 48 underlying131 ay au av aw rfl (by decide) (.slice f b.length i) _ _ (by kernel_rfl) s.out.states ⟨k.heap.size,0,none⟩ 1 1 (stA Y (jdg q.dflt q.rs Y 0)).toList (by kernel_rfl) ?hln ah.out (qoV _ _) (by unfold maxLen;omega) (by omega) s.out.below.size ?_
  case hln=>simp[stA,plA]
  intro v' n u ar aa;obtain⟨p,o,rfl⟩:=ownsRow_succ u;have aj:=qaa u;have I:=qaa ar;have ak:=qaa aa;have ai:Hid (qsH (.slice f b.length i) (.slice (some ⟨p,0,none⟩) (b.length+1) o) W):=aa.imp id (fun e=>⟨_,e,by have L:=y.out.size;simp;omega⟩);have an:=ltA s.out.row;have J:=qaa ((I.out.block A an (fun e=>(s.out.own A e.symm).1 rfl)).trans s.out.row);have z:(fun Z:World=>Z.heap[W.heap.size]? = some (.cells (plA Y) 129)) n:=(I.out.block W.heap.size (ltA w) (fun e=>by have:=ag.out _ e.symm;omega)).trans w;have a0:n.cell? ⟨A,20,none⟩=some (.slice f b.length i):=qab J.out 20;have a1:=frozen_of_row n A 20 _ _ J.out;have B:(fun Z:World=>Z.heap[W.heap.size]? = some (.cells (plA Y) 129)) (n.setCell ⟨A,20,none⟩ (.slice (some ⟨p,0,none⟩) (b.length+1) o)):=(Below.heap_setCell n _ _ _ (by simp;omega)).trans z;refine d.out _ _ z (fun _ => ?_);refine tkH 11 42 (.pointer (some ⟨A,0,none⟩)) rfl (by kernel_rfl) (fun _ _ _ h=>h) (fun Z a=>by kernel_rfl) z ?_;refine tkH 12 43 (.pointer (some ⟨A,20,none⟩)) rfl (by kernel_rfl) (fun _ _ _ h=>h) (fun Z a=>by kernel_rfl) z ?_;refine rdS 13 rfl (by kernel_rfl) (fun K d => ?_);go_simp;refine d.out _ _ B (fun _ => ?_);refine wpAnyH_done (by kernel_rfl) ?_ _;go_simp;obtain⟨w6,a4,aq,ap,ax,N,am⟩:=qwi s.out T X hi az aj.out I.out ak.out;have O:=qaa am;have ae:Hid (qlG A q (.slice f b.length i) W w6):=by
   have s3:k.heap.size<=(k.drew.alloc (.cells (stA Y (jdg q.dflt q.rs Y 0)) 175)).heap.size:=by rw[World.size_alloc];exact Nat.le_succ _
   refine⟨Nat.le_trans y.out.size (Nat.le_trans s3 ax),fun j L h2 h3 h4 _ => ?_⟩;have U:=Nat.lt_of_lt_of_le L y.out.size;exact(ap j (Nat.lt_of_lt_of_le U s3) h2 h3 h4).trans ((Below.heap_alloc k.drew _ _ U).trans (y.out.block j L))
  have t:(fun Z:World=>Z.cell? ⟨A,21,none⟩=some (.map (some q.nb))/\Z.heap[W.heap.size]? = some (.cells (plA Y) 129)) { (n.setCell ⟨A,20,none⟩ (.slice (some ⟨p,0,none⟩) (b.length+1) o)) with drawn:=(n.setCell ⟨A,20,none⟩ (.slice (some ⟨p,0,none⟩) (b.length+1) o)).drawn+1}:=⟨by have h:=heap_setCell_same n A 20 _ _ (.slice (some ⟨p,0,none⟩) (b.length+1) o) J.out;exact qab h 21,B⟩
  have ao:(fun Z:World=>Z.cell? ⟨A,21,none⟩=some (.map (some q.nb))/\Z.heap[W.heap.size]? = some (.cells (plA Y) 129)) w6:=⟨qab O.out.row 21,(aq.block W.heap.size (ltA B) (by have:=af.out;simp;omega)).trans B⟩
  generalize n.setCell ⟨A,20,none⟩ (.slice (some ⟨p,0,none⟩) (b.length+1) o)=V5 at *;go_wp2;refine wp_region_held (S:=fun Z=>Z.cell? ⟨A,21,none⟩=some (.map (some q.nb))/\Z.heap[W.heap.size]? = some (.cells (plA Y) 129)) (by kernel_rfl) ?_;refine tkH 0 44 (.pointer (some ⟨A,0,none⟩)) rfl (by kernel_rfl) (fun _ _ _ h=>h) (fun Z a=>by kernel_rfl) t ?_;refine tkH 1 45 (.pointer (some ⟨A,0,none⟩)) rfl (by kernel_rfl) (fun _ _ _ h=>h) (fun Z a=>by kernel_rfl) t ?_;refine tkH 2 46 (.pointer (some ⟨A,21,none⟩)) rfl (by kernel_rfl) (fun _ _ _ h=>h) (fun Z a=>by kernel_rfl) t ?_;refine tkH 3 47 (.map (some q.nb)) rfl (by kernel_rfl) (fun _ _ _ h=>h) (fun Z a => ?y3) t ?_
  case y3=>(have z1:=a.1;go_simp)
  refine tkH 4 48 (.agg (plA Y)) rfl (by kernel_rfl) (fun _ _ _ h=>h) (fun Z a => ?y4) t ?_
  case y4=>exact qix 129 (.tmp 3) rfl W.heap.size rfl _ _ _ _ a.2 underlying129 rfl (qbh Y)
  refine tkH 5 49 (.int .i64 b.length) rfl (by kernel_rfl) (fun _ _ _ h=>h) (fun Z a=>by kernel_rfl) t ?_;refine rdS 6 rfl (by kernel_rfl) (fun K d => ?_);go_simp;refine d.out _ _ ao (fun _ => ?_);refine wpAnyH_done (by kernel_rfl) ?_ _;go_simp;go_wp2;go_ret;exact⟨rfl,ae.out,some ⟨p,0,none⟩,o,N,ai.out,O.out⟩

def NuG (W0:World)(A:Nat)(q:Aut)(sts:List ((Nat->Nat)×Int×Int))(sv:Value)(mn:Nat)(mf:Lit->Option Nat)(Y:Nat->Nat)(W:World)(e:Ending)(W':World):Prop :=
 ∃(i:Nat) (sts':List ((Nat->Nat)×Int×Int)) (sa':Option Addr) (sc':Nat) (nf':Lit->Option Nat),e=.returned (.int .i64 i)/\qlG A q sv W W'/\qsH sv (.slice sa' sts'.length sc') W/\qcj W0 A q sts' (.slice sa' sts'.length sc') nf' mn mf W'/\(∀(j:Nat) (x:(Nat->Nat)×Int×Int),sts[j]? = some x->sts'[j]? = some x)/\sts'.length<=sts.length+1/\∃x,sts'[i]? = some x/\∀r,r<16->x.1 r=Y r
theorem qgn (c:World)(A:Nat)(q:Aut)(a:List ((Nat->Nat)×Int×Int))(k:Option Addr)(m:Nat)(b:Lit->Option Nat)(g:Nat)(f:Lit->Option Nat)(W:World)(h:qcj c A q a (.slice k a.length m) b g f W)(Y:Nat->Nat)(s:∀r,Y r<512)(z:a.length<100000):Calls prog 62 #[.pointer (some ⟨A,0,none⟩),.agg (plA Y)] W (NuG c A q a (.slice k a.length m) g f Y W):=by
 obtain⟨l,p⟩:=qpJ Y (fun r=>by have:=s r;omega)
 cases o:b l with
 |some i =>
  refine(qjv c A q a _ b g f W h Y l p i o).mono ?_;rintro e t ⟨rfl,n⟩;obtain⟨x,B,y⟩:=h.num' l i o;exact⟨i,a,k,m,b,rfl,⟨n.size,fun j d _ _ _ _=>n.block j d⟩,.inl rfl,h.next n,fun _ _ w=>w,Nat.le_succ _,x,B,qpQ (Value.agg.inj (qog.inj y p))⟩
 |none =>
  refine(qkt c A q a k m b g f W h Y s l p o z).mono ?_;rintro e t ⟨rfl,hF,D,E,C,v,u⟩;refine⟨a.length,a++[(Y,jdg q.dflt q.rs Y 0)],D,E,C,rfl,hF,?_,?_,fun j x d => ?_,?_,(Y,jdg q.dflt q.rs Y 0),by simp,fun _ _=>rfl⟩
  ·rw[List.length_append];exact v
  ·rw[List.length_append];exact u
  ·rw[List.getElem?_append_left (ltL d)];exact d
  rw[List.length_append];exact Nat.le_refl _

theorem stK:Maps.Keyed prog 9:=Maps.string_keyed underlying9
theorem qlk (l:List UInt8)(a:l.length<=maxLen):keyOf prog 9 (.string ⟨l.toArray⟩)=some (.string l):=by
 have b:(⟨l.toArray⟩:ByteArray).size<=maxLen:=by
  show l.toArray.size<=maxLen;rw[List.size_toArray];exact a
 simp[keyOf,mapKey,underlying9,b]
theorem ql8 (l:List UInt8)(a:l.length<=1000000000):keyOf prog 9 (.string ⟨l.toArray⟩)=some (.string l):=qlk l (by unfold maxLen;omega)
def qlM (lf:Lit->Option Nat)(key:List UInt8)(ix:Bool):Nat:=if ix=true then 1 else (lf (.string key)).getD 0
theorem qfa (l:World)(A:Nat)(q:Aut)(s:List ((Nat->Nat)×Int×Int))(t:Value)(r:Lit->Option Nat)(o:Nat)(n:Lit->Option Nat)(W:World)(h:qcj l A q s t r o n W)(key:List UInt8)(c:Bool)(f:key.length<=maxLen):Calls prog 176 #[.pointer (some ⟨A,0,none⟩),.agg #[.string ⟨key.toArray⟩,.bool c]] W fun e k=>e=.returned (.int .i64 (qlM q.lf key c))/\Below W.heap.size W k:=by
 have m:=ltA h.row;have c2:W.cell? ⟨A,2,none⟩=some (.map (some q.lm)):=qab h.row 2;have d:Hid (qcW (W.alloc (.cells #[.string ⟨key.toArray⟩,.bool c] 278)) 9 q.lm q.ln q.lf):=h.letters.kept (World.grownBy_alloc W _ none) (by simp);have v:=qf8 d.out stK underlying124 (qlk key f)
 cases c with
 |true =>
  go_enter func176,ntmps176;go_wp2;go_ret;exact⟨rfl,bwA⟩
 |false =>
  obtain⟨x,g⟩:∃x,x=(q.lf (.string key)).getD 0:=⟨_,rfl⟩
  have j:Hid (qlM q.lf key false=x):=by rw[g];rfl
  have i:=qaa g.symm;rw[j.out];go_enter func176,ntmps176;go_wp2;have b:(fun Z:World=>Z.cell? ⟨A,2,none⟩=some (.map (some q.lm))/\Z.cell? ⟨W.heap.size,0,none⟩=some (.string ⟨key.toArray⟩)/\qcW Z 9 q.lm q.ln q.lf) { (W.alloc (.cells #[.string ⟨key.toArray⟩,.bool false] 278)) with drawn:=(W.alloc (.cells #[.string ⟨key.toArray⟩,.bool false] 278)).drawn+1}:=⟨((((Below.refl W.heap.size W).alloc (Nat.le_refl _) (.cells #[.string ⟨key.toArray⟩,.bool false] 278)).cell (p:=⟨A,2,none⟩) m).trans c2 :),qab (qac W _) 0,d.out⟩
  refine wp_region_held (S:=fun Z=>Z.cell? ⟨A,2,none⟩=some (.map (some q.lm))/\Z.cell? ⟨W.heap.size,0,none⟩=some (.string ⟨key.toArray⟩)/\qcW Z 9 q.lm q.ln q.lf) (by kernel_rfl) ?_;refine tkH 0 7 (.pointer (some ⟨A,0,none⟩)) rfl (by kernel_rfl) (fun _ _ _ h=>h) (fun Z a=>by kernel_rfl) b ?_;refine tkH 1 8 (.pointer (some ⟨A,0,none⟩)) rfl (by kernel_rfl) (fun _ _ _ h=>h) (fun Z a=>by kernel_rfl) b ?_;refine tkH 2 9 (.pointer (some ⟨A,2,none⟩)) rfl (by kernel_rfl) (fun _ _ _ h=>h) (fun Z a=>by kernel_rfl) b ?_;refine tkH 3 10 (.map (some q.lm)) rfl (by kernel_rfl) (fun _ _ _ h=>h) (fun Z a => ?y3) b ?_
  case y3=>(have w:=a.1;go_simp)
  refine tkH 4 11 (.pointer (some ⟨W.heap.size,0,none⟩)) rfl (by kernel_rfl) (fun _ _ _ h=>h) (fun Z a=>by kernel_rfl) b ?_;refine tkH 5 12 (.string ⟨key.toArray⟩) rfl (by kernel_rfl) (fun _ _ _ h=>h) (fun Z a => ?y5) b ?_
  case y5=>(have y:=a.2.1;go_simp)
  refine tkH 6 13 (.int .i64 x) rfl (by kernel_rfl) (fun _ _ _ h=>h) (fun Z a => ?y6) b ?_
  case y6=>(have u:=qf8 a.2.2 stK underlying124 (qlk key f);rw[i.out] at u;go_simp)
  refine tkH 7 4 (.int .i64 x) rfl (by kernel_rfl) (fun _ _ _ h=>h) (fun Z a=>by kernel_rfl) b ?_;refine wpAnyH_done (by kernel_rfl) ?_ _;go_simp;go_wp2;go_ret;exact⟨rfl,(bwA).drew⟩

theorem qdA (w:World)(g o:Nat)(a:TypeId)(O:Array Value)(d:TypeDesc)(h:∀(j:Nat) (u:Value),O[j]? = some u->w.cell? ⟨g,o+j,none⟩=some u)(l:P.underlying a=some d)(n:(match d with|.struct _|.array _ _=>true|_=>false)=true)(hi:(P.info? a).map (·.size)=some O.size):(loadVar a ⟨g,o,none⟩).run P w=.ok (.agg O) w:=by
 have c:(loadCells ⟨g,o,none⟩ O.toList.length).run P w=.ok O.toList.toArray w :=
  run_loadCells_list (P:=P) w ⟨g,o,none⟩ O.toList (fun j u m=>by
   have e:(⟨g,o,none⟩:Addr).add j=⟨g,o+j,none⟩:=by unfold Addr.add;split<;>simp_all
   rw[e];exact h j u (by simpa using m))
 cases b:P.info? a with
 |none=>simp[b] at hi
 |some i =>
  have k:i.size=O.size:=by simpa [b] using hi
  have f:(isAgg a).run P w=.ok true w:=by
   unfold isAgg;rw[Sem.run_bind,run_underlying l w];cases d<;>simp_all
  simp only[Array.length_toList,Array.toArray_toList] at c;simp[loadVar,Sem.run_bind,f,sizeOf,typeInfo,b,k,c]
theorem qhm (b:TypeId)(x:Operand)(f:o.op=.load b x)(g k:Nat)(l:a.eval x=.pointer (some ⟨g,k,none⟩))(O:Array Value)(d:TypeDesc)(c:∀(j:Nat) (u:Value),O[j]? = some u->w.cell? ⟨g,k+j,none⟩=some u)(i:P.underlying b=some d)(e:(match d with|.struct _|.array _ _=>true|_=>false)=true)(hi:(P.info? b).map (·.size)=some O.size)(h:K (a.put o.dst (.agg O)) w):o.wp P a w K Q:=by
 unfold Oper.wp execOp;simp only[f,l,Instr.loadAt,Instr.sureAddr,Sem.run_bind,Sem.run_pure,Result.andThen_ok,qdA w g k b O d c i e hi];exact h
theorem qcv {ops:Array Oper}{rest:List Oper}(b:TypeId)(x:Operand)(l:o.op=.load b x)(i:Region.wanted o (yielded ops a.tmps)=true)(g k:Nat)(n:a.eval x=.pointer (some ⟨g,k,none⟩))(O:Array Value)(d:TypeDesc)(e:∀(j:Nat) (u:Value),O[j]? = some u->w.cell? ⟨g,k+j,none⟩=some u)(m:P.underlying b=some d)(f:(match d with|.struct _|.array _ _=>true|_=>false)=true)(hi:(P.info? b).map (·.size)=some O.size)(h:wpList P ops Q rest (a.put o.dst (.agg O)) w):wpList P ops Q (o::rest) a w :=
 wpList_step fun K c=>by rw[if_pos i];exact qhm b x l g k n O d e m f hi (c _ _ h)
theorem qw8 {ev:Operand->Value}(a:TypeId)(x:Operand)(e:o.op=.load a x)(g k:Nat)(h:ev x=.pointer (some ⟨g,k,none⟩))(O:Array Value)(d:TypeDesc)(b:∀(j:Nat) (u:Value),O[j]? = some u->W.cell? ⟨g,k+j,none⟩=some u)(f:P.underlying a=some d)(c:(match d with|.struct _|.array _ _=>true|_=>false)=true)(hi:(P.info? a).map (·.size)=some O.size):(execOp ev o).run P W=.ok (.value (.agg O)) W:=by
 unfold execOp;simp only[e,h,Instr.loadAt,Instr.sureAddr,Sem.run_bind,Sem.run_pure,Result.andThen_ok,qdA W g k a O d b f c hi]
theorem qsA (x:(Nat->Nat)×Int×Int):stC x=(stA x.1 x.2).toList:=by simp[stC,stA]
theorem qfy (Y:Nat->Nat)(x:Int×Int):(stA Y x).size=18:=by simp[stA,qbR]
theorem qsI (Y:Nat->Nat)(x:Int×Int):(stA Y x).all (·.oneCell')=true:=by rw[<-Array.all_toList,List.all_eq_true];exact qoV Y x
theorem quu (a:List ((Nat->Nat)×Int×Int)):∀(i j:Nat) (x:(Nat->Nat)×Int×Int),a[i]? = some x->j<18->(a.flatMap stC)[i*18+j]? = (stA x.1 x.2)[j]?:=by
 induction a with
 |nil=>intro i j x h;simp at h
 |cons y f d =>
  intro i j x h b;have c:(stC y).length=18:=by rw[qsA,Array.length_toList,qfy]
  rw[List.flatMap_cons]
  cases i with
  |zero =>
   have e:y=x:=by simpa using h
   subst e;rw[List.getElem?_append_left (by omega),qsA];simp
  |succ i =>
   rw[List.getElem?_append_right (by omega),c,show(i+1)*18+j-18=i*18+j by omega];exact d i j x (by simpa using h) b
theorem qcj.state_at (h:qcj W0 A q sts sv nf mn mf W){i:Nat}{x:(Nat->Nat)×Int×Int}(f:sts[i]? = some x):∃g a,sv=.slice (some ⟨g,0,none⟩) sts.length a/\g<W.heap.size/\g≠A/\∀(j:Nat) (u:Value),(stA x.1 x.2)[j]? = some u->W.cell? ⟨g,i*18+j,none⟩=some u:=by
 have p:=ltL f;rcases h.states.2 with ⟨_,n⟩|⟨g,a,k,d,o,b,s,r,t,m⟩
 ·omega
 refine⟨g,a,d,(ltA b),(h.own g (by rw[d];rfl)).1,fun j u c => ?_⟩;have l:j<18:=by rw[<-qfy x.1 x.2];exact ltA c
 rw[cell_of_row W g (i*18+j) k _ _ b];have e:=quu sts i j x f l;rw[c,<-m,List.getElem?_take_of_lt (by omega)] at e;simpa using e
theorem qn4 (Y:Nat->Nat)(x:Int×Int):(prog.info? 175).map (·.size)=some (stA Y x).size:=by rw[qfy];kernel_rfl
theorem qkq (j:World)(A:Nat)(q:Aut)(a:List ((Nat->Nat)×Int×Int))(p:Value)(o:Lit->Option Nat)(n:Nat)(m:Lit->Option Nat)(W:World)(h:qcj j A q a p o n m W)(i:Nat)(x:(Nat->Nat)×Int×Int)(b:a[i]? = some x):Calls prog 116 #[.pointer (some ⟨A,0,none⟩),.int .i64 i] W fun e f=>e=.returned (.tuple #[.int .i64 x.2.1,.int .i64 x.2.2])/\Below W.heap.size W f:=by
 have s:=ltA h.row;obtain⟨g,k,rfl,u,t,l⟩:=h.state_at b;have r:W.cell? ⟨A,20,none⟩=some (.slice (some ⟨g,0,none⟩) a.length k):=qab h.row 20;have v:(i:Int)<(a.length:Int):=by have:=ltL b;omega
 have d:=qaa l;go_enter func116,ntmps116
 go_wp2_with (first
  |(refine qcv 175 (.tmp 12) rfl (by simp[go_sem]) g (i*18) rfl (stA x.1 x.2) _ d.out underlying175 rfl (qn4 x.1 x.2) ?_)
  |(refine wpList_store_row rfl 175 _ _ rfl W.heap.size (stA x.1 x.2) rfl rfl 175 #[.int .u16 0,.int .u16 0,.int .u16 0,.int .u16 0,.int .u16 0,.int .u16 0,.int .u16 0,.int .u16 0,.int .u16 0,.int .u16 0,.int .u16 0,.int .u16 0,.int .u16 0,.int .u16 0,.int .u16 0,.int .u16 0,.int .i64 0,.int .i64 0] (qac W _) (qn4 x.1 x.2) (by rw[qfy];rfl) (qsI x.1 x.2) ?_;rw[World.setRow_alloc_new]))
 have c:Hid (Below W.heap.size W (W.alloc (.cells (stA x.1 x.2) 175))):=bwA;have w:(W.alloc (.cells (stA x.1 x.2) 175)).cell? ⟨W.heap.size,16,none⟩=some (.int .i64 x.2.1):=qab (qac W _) 16;have y:(W.alloc (.cells (stA x.1 x.2) 175)).cell? ⟨W.heap.size,17,none⟩=some (.int .i64 x.2.2):=qab (qac W _) 17;generalize W.alloc (.cells (stA x.1 x.2) 175)=V at *
 go_quiet (fail)
 go_wp2;refine bodyPost_ret (results_tmp2 results116 _ _ _) rfl ⟨rfl,c.out.trans ⟨rfl,rfl,rfl,Nat.le_refl _,fun _ _=>rfl⟩⟩

theorem qx0 (x:Nat)(h:x<1000000000):(Lit.int .i64 (x:Int)).wf=true:=by
 have a:IntKind.i64.min = -9223372036854775808:=by kernel_rfl
 have b:IntKind.i64.max=9223372036854775807:=by kernel_rfl
 simp[Lit.wf,a,b];omega
def mvA (f x:Nat):Array Value:=#[.int .i64 f,.int .i64 x]
theorem qwx (f x:Nat)(k:f<1000000000)(o:x<1000000000):∃l,keyOf prog 293 (.agg (mvA f x))=some l:=by
 obtain⟨d,j⟩:∃d,prog.types.size+1=d+2:=⟨prog.types.size-1,by have:1<=prog.types.size:=Nat.le_of_ble_eq_true (by kernel_rfl);omega⟩
 have h:prog.keyType 293=true:=by kernel_rfl
 have a:prog.cellsOf 293=2:=by kernel_rfl
 have i:prog.cellsOf 3=1:=by kernel_rfl
 have m:(Value.agg (mvA f x)).formed prog 293=true:=by
  simp only[Value.formed,underlying293];rw[a];rfl
 have b:∀y:Nat,y<1000000000->prog.keyLits (d+1) 3 [.int .i64 y]=some [.int .i64 y]:=by
  intro y p;unfold Program.keyLits;simp only[underlying3];rw[if_pos ⟨trivial,qx0 _ p⟩]
 have n:prog.keyLits (d+2) 293 (mvA f x).toList=some [.int .i64 f,.int .i64 x]:=by
  unfold Program.keyLits;simp only[underlying293];rw[if_pos ⟨by rw[a];rfl,by kernel_rfl⟩];simp only[List.mapM_cons,List.mapM_nil,i,mvA];have c:=b f k;have g:=b x o;simp[c,g]
 refine⟨.string (keyBytes [.int .i64 f,.int .i64 x]),?_⟩;unfold keyOf;simp only[underlying293];have e:(Value.agg (mvA f x)).cells=mvA f x:=rfl;rw[h,m,j,if_pos (by rfl),e,n,Option.map_some]
def qtn (q:Aut)(sts:List ((Nat->Nat)×Int×Int))(mf:Lit->Option Nat):Prop :=
 ∀(f x:Nat) (l:Lit) (k:Nat),keyOf prog 293 (.agg (mvA f x))=some l->mf l=some k->∃s t Y,sts[f]? = some s/\sts[k]? = some t/\WdY q.rs.length q.st (qhV q.st (q.tk x) s.1 q.rs.length) Y/\∀r,r<16->t.1 r=Y r
theorem qmt (k:World)(A:Nat)(q:Aut)(n:List ((Nat->Nat)×Int×Int))(o:Value)(m:Lit->Option Nat)(g:Nat)(d:Lit->Option Nat)(W:World)(h:qcj k A q n o m g d W)(f:Nat)(key:List UInt8)(j:Bool)(C:key.length<=maxLen)(x:Nat)(E:qlM q.lf key j=x)(l:Lit)(D:keyOf prog 293 (.agg (mvA f x))=some l)(i:Nat)(hi:d l=some i):Calls prog 162 #[.pointer (some ⟨A,0,none⟩),.int .i64 f,.agg #[.string ⟨key.toArray⟩,.bool j]] W fun e B=>e=.returned (.int .i64 i)/\Below W.heap.size W B:=by
 have p:Hid (qcj k A q n o m g d (W.alloc (.cells #[.string ⟨key.toArray⟩,.bool j] 278))):=h.next bwA
 have s:Hid (Below W.heap.size W (W.alloc (.cells #[.string ⟨key.toArray⟩,.bool j] 278))):=bwA;have u:=qfa k A q n o m g d _ p.out key j C;rw[E] at u;go_enter func162,ntmps162
 go_wp2_with (first
  |(go_at_call 176;refine u.mono ?_;rintro e c ⟨rfl,v⟩;have w:=qaa (p.out.next v);have t:=qaa (s.out.trans (v.mono s.out.size))))
 have r:Hid (qcj k A q n o m g d (c.alloc (.cells (mvA f x) 293))):=w.out.next bwA
 have z:Hid (Below W.heap.size W (c.alloc (.cells (mvA f x) 293))):=t.out.alloc t.out.size _;have y:Hid ((c.alloc (.cells (mvA f x) 293)).heap[c.heap.size]? = some (.cells (mvA f x) 293)):=qac _ _;have b:(fun Z:World=>Z.cell? ⟨A,22,none⟩=some (.map (some q.mb))/\Z.heap[c.heap.size]? = some (.cells (mvA f x) 293)/\qcW Z 293 q.mb g d) { (c.alloc (.cells (mvA f x) 293)) with drawn:=(c.alloc (.cells (mvA f x) 293)).drawn+1}:=⟨qab r.out.row 22,y.out,r.out.moves⟩
 refine wp_region_held (S:=fun Z=>Z.cell? ⟨A,22,none⟩=some (.map (some q.mb))/\Z.heap[c.heap.size]? = some (.cells (mvA f x) 293)/\qcW Z 293 q.mb g d) (by kernel_rfl) ?_;refine tkH 0 16 (.pointer (some ⟨A,0,none⟩)) rfl (by kernel_rfl) (fun _ _ _ h=>h) (fun Z a=>by kernel_rfl) b ?_;refine tkH 1 17 (.pointer (some ⟨A,0,none⟩)) rfl (by kernel_rfl) (fun _ _ _ h=>h) (fun Z a=>by kernel_rfl) b ?_;refine tkH 2 18 (.pointer (some ⟨A,22,none⟩)) rfl (by kernel_rfl) (fun _ _ _ h=>h) (fun Z a=>by kernel_rfl) b ?_;refine tkH 3 19 (.map (some q.mb)) rfl (by kernel_rfl) (fun _ _ _ h=>h) (fun Z a => ?y3) b ?_
 case y3=>(have G:=a.1;go_simp)
 refine tkH 4 20 (.agg (mvA f x)) rfl (by kernel_rfl) (fun _ _ _ h=>h) (fun Z a => ?y4) b ?_
 case y4=>exact qix 293 (.tmp 7) rfl c.heap.size rfl _ _ _ _ a.2.1 underlying293 rfl (by kernel_rfl)
 refine tkH 5 21 (.tuple #[.int .i64 i,.bool true]) rfl (by kernel_rfl) (fun _ _ _ h=>h) (fun Z a => ?y5) b ?_
 case y5=>(have F:=qdz a.2.2 mvK underlying126 D;rw[hi] at F;go_simp)
 refine tkH 6 15 (.tuple #[.int .i64 i,.bool true]) rfl (by kernel_rfl) (fun _ _ _ h=>h) (fun Z a=>by kernel_rfl) b ?_;refine tkH 7 22 (.int .i64 i) rfl (by kernel_rfl) (fun _ _ _ h=>h) (fun Z a=>by kernel_rfl) b ?_;refine tkH 8 23 (.bool true) rfl (by kernel_rfl) (fun _ _ _ h=>h) (fun Z a=>by kernel_rfl) b ?_;refine tkH 9 8 (.int .i64 i) rfl (by kernel_rfl) (fun _ _ _ h=>h) (fun Z a=>by kernel_rfl) b ?_;refine tkH 10 9 (.bool true) rfl (by kernel_rfl) (fun _ _ _ h=>h) (fun Z a=>by kernel_rfl) b ?_;refine wpAnyH_done (by kernel_rfl) ?_ _;go_simp;go_wp2;go_ret;exact⟨rfl,z.out.drew⟩

theorem qcj.auR (h:qcj W0 A q sts sv nf mn mf W):AuR W A q.ra q.rc q.rs.length q.st :=
 ⟨(ltA h.row),qab h.row 0,fun r a=>by
  rw[cell_of_row W A (3+r) _ _ _ h.row]
  match r,a with
  |0,_|1,_|2,_|3,_|4,_|5,_|6,_|7,_|8,_|9,_|10,_|11,_|12,_|13,_|14,_|15,_=>rfl
  |n+16,a=>exact absurd a (by omega)⟩
theorem qcj.auT (h:qcj W0 A q sts sv nf mn mf W):AuT W A q.tb q.L q.tc q.tk:=by
 obtain⟨e,a,d⟩:=h.takes;exact⟨(ltA h.row),(ltA a),qab h.row 19,fun x r c b=>(cell_of_row W q.tb (x*16+r) _ _ _ a).trans (d x r c b)⟩
theorem qcj.moved {mn':Nat}{mf':Lit->Option Nat}(h:qcj W0 A q sts sv nf mn mf W)(a:W.grownBy W' (some q.mb))(m:qcW W' 293 q.mb mn' mf'):qcj W0 A q sts sv nf mn' mf' W':=by
 obtain⟨o,p,r,f,s,t,j,u,k,d⟩:=h.apart;obtain⟨v,w,x,y,z⟩:=h.high;obtain⟨l,c,n⟩:=h.takes;exact {h with
  row:=(a.block A (ltA h.row) (by simpa using f)).trans h.row
  below:=⟨a.os.trans h.below.os,a.tape.trans h.below.tape,a.output.trans h.below.output,Nat.le_trans h.below.size a.size,fun i b=>(a.block i (Nat.lt_of_lt_of_le b h.below.size) (by simp;omega)).trans (h.below.block i b)⟩
  letters:=h.letters.kept a (by simpa using j)
  takes:=⟨l,(a.block _ (ltA c) (by simpa using k)).trans c,n⟩
  states:=qdn h.states fun g e=>a.block g (qjA h.states e) (by simpa using (h.own g e).2.2.2.2)
  numbers:=h.numbers.kept a (by simpa using d)
  moves:=m}

def fnL (ks:List (List UInt8)):Lit->Option Nat
 |.string b=>if b∈ks then some (2+ks.idxOf b) else none
 |_=>none
theorem qes (h:b∈ks):fnL ks (.string b)=some (2+ks.idxOf b):=if_pos h
theorem qdP (h:b∉ks):fnL ks (.string b)=none:=if_neg h
theorem qtg (h:b∉ks):fnL (ks++[b]) (.string b)=some (2+ks.length):=by
 rw[qes (by simp),List.idxOf_append,if_neg h];simp
theorem qtQ (_h:b∉ks)(l:Lit)(f:l≠.string b):fnL (ks++[b]) l=fnL ks l:=by
 cases l with
 |string c =>
  have d:c≠b:=fun e=>f (by rw[e]);by_cases a:c∈ks
  ·rw[qes a,qes (by simp[a]),List.idxOf_append,if_pos a]
  rw[qdP a,qdP (by simp[a,d])]
 |_=>rfl
def ImK (W:World)(m:Nat)(ks:List (List UInt8)):Prop :=
 ∃D:DataW Unit,W.ownsMap prog 9 (plainElem prog 3) m ks.length D/\(∀l,Maps.has D l=(fnL ks l).isSome/\∀v:Nat,fnL ks l=some v->D.atKey l (.lit (.int .i64 0))=.lit (.int .i64 v))/\Maps.size D=ks.length
theorem ImK.im (h:ImK W m ks):qcW W 9 m ks.length (fnL ks):=by
 obtain⟨D,a,b,_⟩:=h;exact⟨D,a,b⟩
theorem ImK.kept {row:Option Nat}(h:ImK W m ks)(c:W.grownBy W' row)(d:some m≠row):ImK W' m ks:=by
 obtain⟨D,a,b⟩:=h;exact⟨D,a.kept c d,b⟩
theorem qh8 (W:World):ImK (W.alloc (.map #[] 0)) W.heap.size [] :=
 ⟨_,World.ownsMap_made W prog _ _,fun l=>⟨by cases l<;>simp[Maps.has,fnL],fun v h=>by cases l<;>simp[fnL] at h⟩,rfl⟩
theorem ImK.len (h:ImK W m ks)(d:prog.underlying t=some (.map 9 3))(a:TypeId):(Builtin.len_ #[t] a #[.map (some m)]).run prog W=.ok (.int .i64 ks.length) W:=by
 obtain⟨D,b,_,c⟩:=h;rw[b.len d a,c]
theorem qpO (h:ImK W m ks)(r:prog.underlying t=some (.map 9 3))(v:ks.length<100000)(n:b.length<=1000000000)(g:b∉ks):∃a,(Instr.mapUpdate t (.map (some m)) (.string ⟨b.toArray⟩) (.int .i64 ((2+ks.length:Nat):Int))).run prog W=.ok () a/\ImK a m (ks++[b])/\W.grownBy a (some m):=by
 obtain⟨D,c,d,j⟩:=h;have f:=ql8 b n;obtain⟨a,q,p,k⟩:=c.store stK r (by unfold maxLen;omega) f (plainElem_int underlying3 (qx0 (2+ks.length) (by omega)));have o:Maps.has D (.string b)=false:=by rw[(d _).1,qdP g];rfl
 refine⟨a,q,⟨_,by rw[List.length_append];exact p,fun l => ?_,?_⟩,k.grown⟩
 ·by_cases e:l=.string b
  ·subst e;rw[qtg g];refine⟨Maps.has_put_same c.isMap (stK.key f) _,fun u i => ?_⟩;have s:=Option.some.inj i;rw[<-s];exact Maps.atKey_put_same c.isMap (stK.key f) _ _
  rw[qtQ g l e];exact⟨(Maps.has_put_other e _).trans (d l).1,fun u i=>(Maps.atKey_put_other e _ _).trans ((d l).2 u i)⟩
 rw[Maps.size_put (c.tidy stK),o,j,List.length_append];rfl
def qhw (ks:List (List UInt8))(s:Nat×List UInt8):List (List UInt8):=if s.1=3/\s.2∉ks then ks++[s.2] else ks
def qsz (ks:List (List UInt8))(r:List (Nat×List UInt8)×Int×Int):List (List UInt8):=r.1.foldl qhw ks
def qcl (rs:List (List (Nat×List UInt8)×Int×Int)):List (List UInt8):=rs.foldl qsz []
theorem quH (ks:List (List UInt8))(s:Nat×List UInt8):(qhw ks s).length<=ks.length+1:=by
 unfold qhw;split<;>simp
theorem ql6:∀(ss:List (Nat×List UInt8)) (ks:List (List UInt8)),(ss.foldl qhw ks).length<=ks.length+ss.length
 |[],ks=>by simp
 |s::ss,ks=>by
  have a:=ql6 ss (qhw ks s);have b:=quH ks s;simp only[List.foldl_cons,List.length_cons];omega

end
end Go.Proofs.YtcokgepdckkjdaaGreatDoor
