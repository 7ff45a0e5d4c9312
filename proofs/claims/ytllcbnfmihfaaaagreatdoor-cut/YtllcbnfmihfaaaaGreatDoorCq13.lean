import Derived.Test.YtllcbnfmihfaaaaGreatDoorCq11
set_option maxRecDepth 100000
set_option maxHeartbeats 8000000
namespace Go.Proofs.YtllcbnfmihfaaaaGreatDoor
open Go.Proofs.Tryz
variable {P:Program}{ev:Operand→Value}{W W' w' w2 wr:World}{o:Oper}{n:Nat}{A:Array Value}{s:ByteArray}
section
open Go.RowKit
structure Aut where
 ra:Option Addr
 rc:Nat
 rs:List (List (Nat×List UInt8)×Int×Int)
 dflt:Int
 lm:Nat
 ln:Nat
 lf:Lit→Option Nat
 st:Nat→Nat
 tb:Nat
 L:Nat
 tc:Nat
 tk:Nat→Nat→Nat
 nb:Nat
 mb:Nat
def qvY (q:Aut)(sv:Value):Array Value:=#[.slice q.ra q.rs.length q.rc,.int .i64 q.dflt,.map (some q.lm),.int .u16 (q.st 0),.int .u16 (q.st 1),.int .u16 (q.st 2),.int .u16 (q.st 3),.int .u16 (q.st 4),.int .u16 (q.st 5),.int .u16 (q.st 6),.int .u16 (q.st 7),.int .u16 (q.st 8),.int .u16 (q.st 9),.int .u16 (q.st 10),.int .u16 (q.st 11),.int .u16 (q.st 12),.int .u16 (q.st 13),.int .u16 (q.st 14),.int .u16 (q.st 15),.slice (some ⟨q.tb,0,none⟩) q.L q.tc,sv,.map (some q.nb),.map (some q.mb)]
def stC (x:(Nat→Nat)×Int×Int):List Value:=(plA x.1).toList++[.int .i64 x.2.1,.int .i64 x.2.2]
structure qcj (W0:World)(A:Nat)(q:Aut)(sts:List ((Nat→Nat)×Int×Int))(sv:Value)(nf:Lit→Option Nat)(mn:Nat)(mf:Lit→Option Nat)(W:World):Prop where
 row:W.heap[A]? = some (.cells (qvY q sv) 168)
 rules:qdW W0 q.ra q.rs
 few:q.rs.length≤16∧∀i (h:i<q.rs.length),q.rs[i].1.length≤8
 below:Below W0.heap.size W0 W
 letters:qcW W 9 q.lm q.ln q.lf
 takes:∃cur,W.heap[q.tb]? = some (.cells cur 164)∧∀(x r:Nat),x<q.L→r<16→cur[x*16+r]? = some (.int .u16 (q.tk x r))
 states:W.ownsRow W0.heap.size 240 18 sv sts.length (sts.flatMap stC)
 numbers:qcW W 164 q.nb sts.length nf
 moves:qcW W 320 q.mb mn mf
 high:W0.heap.size≤A∧W0.heap.size≤q.lm∧W0.heap.size≤q.tb∧W0.heap.size≤q.nb∧W0.heap.size≤q.mb
 apart:A≠q.lm∧A≠q.tb∧A≠q.nb∧A≠q.mb∧q.lm≠q.tb∧q.lm≠q.nb∧q.lm≠q.mb∧q.tb≠q.nb∧q.tb≠q.mb∧q.nb≠q.mb
 own:∀g,sv.ownBlock=some g→g≠A∧g≠q.lm∧g≠q.tb∧g≠q.nb∧g≠q.mb
 bits:(∀r,q.st r<256)∧∀x r,q.tk x r<256
 here:∀(i:Nat) (x:(Nat→Nat)×Int×Int),sts[i]? = some x→x.2=jdg q.dflt q.rs x.1 0∧∀r,x.1 r<512
 num:∀(i:Nat) (x:(Nat→Nat)×Int×Int),sts[i]? = some x→∀l,keyOf prog 164 (.agg (plA x.1))=some l→nf l=some i
 num':∀(l:Lit) (i:Nat),nf l=some i→∃x,sts[i]? = some x∧keyOf prog 164 (.agg (plA x.1))=some l
theorem qix (ty:TypeId)(x:Operand)(ho:o.op=.load ty x)(g:Nat)(hx:ev x=.pointer (some ⟨g,0,none⟩))(t:TypeId)(cs:Array Value)(fr:Nat×Nat)(d:TypeDesc)(hg:W.heap[g]? = some (.cells cs t fr))(hu:P.underlying ty=some d)(hd:(match d with|.struct _|.array _ _=>true|_=>false)=true)(hi:(P.info? ty).map (·.size)=some cs.size):(execOp ev o).run P W=.ok (.value (.agg cs)) W:=by
 unfold execOp;simp only[ho,hx,Instr.loadAt,Instr.sureAddr,Sem.run_bind,Sem.run_pure,Result.andThen_ok,run_loadVar_row W g t ty cs fr d hg hu hd hi]
theorem qjv (W0:World)(A:Nat)(q:Aut)(sts:List ((Nat→Nat)×Int×Int))(sv:Value)(nf:Lit→Option Nat)(mn:Nat)(mf:Lit→Option Nat)(W:World)(h:qcj W0 A q sts sv nf mn mf W)(Y:Nat→Nat)(l:Lit)(hl:keyOf prog 164 (.agg (plA Y))=some l)(i:Nat)(hi:nf l=some i):Calls prog 86 #[.pointer (some ⟨A,0,none⟩),.agg (plA Y)] W fun e W'=>e=.returned (.int .i64 i)∧Below W.heap.size W W':=by
 have HB:Hid ((W.alloc (.cells (plA Y) 164)).heap[W.heap.size]? = some (.cells (plA Y) 164)):=qac _ _;have hA:=ltA h.row;have c21:W.cell? ⟨A,21,none⟩=some (.map (some q.nb)):=qab h.row 21;have HI:=qaa (h.numbers.kept (World.grownBy_alloc W (.cells (plA Y) 164) none) (by simp));go_enter func86,ntmps86;go_wp2;have hS:(fun Z:World=>Z.cell? ⟨A,21,none⟩=some (.map (some q.nb))∧Z.heap[W.heap.size]? = some (.cells (plA Y) 164)∧qcW Z 164 q.nb sts.length nf) {W.alloc (.cells (plA Y) 164) with drawn:=(W.alloc (.cells (plA Y) 164)).drawn+1}:=⟨((((Below.refl W.heap.size W).alloc (Nat.le_refl _) (.cells (plA Y) 164)).cell (p:=⟨A,21,none⟩) hA).trans c21 :),HB.out,HI.out⟩
 refine wp_region_held (S:=fun Z=>Z.cell? ⟨A,21,none⟩=some (.map (some q.nb))∧Z.heap[W.heap.size]? = some (.cells (plA Y) 164)∧qcW Z 164 q.nb sts.length nf) (by kernel_rfl) ?_;refine tkH 0 10 (.pointer (some ⟨A,0,none⟩)) rfl (by kernel_rfl) (fun _ _ _ h=>h) (fun Z hZ=>by kernel_rfl) hS ?_;refine tkH 1 11 (.pointer (some ⟨A,0,none⟩)) rfl (by kernel_rfl) (fun _ _ _ h=>h) (fun Z hZ=>by kernel_rfl) hS ?_;refine tkH 2 12 (.pointer (some ⟨A,21,none⟩)) rfl (by kernel_rfl) (fun _ _ _ h=>h) (fun Z hZ=>by kernel_rfl) hS ?_;refine tkH 3 13 (.map (some q.nb)) rfl (by kernel_rfl) (fun _ _ _ h=>h) (fun Z hZ => ?y3) hS ?_
 case y3=>(have z1:=hZ.1;go_simp)
 refine tkH 4 14 (.agg (plA Y)) rfl (by kernel_rfl) (fun _ _ _ h=>h) (fun Z hZ => ?y4) hS ?_
 case y4=>exact qix 164 (.tmp 3) rfl W.heap.size rfl _ _ _ _ hZ.2.1 underlying164 rfl (qbh Y)
 refine tkH 5 15 (.tuple #[.int .i64 i,.bool true]) rfl (by kernel_rfl) (fun _ _ _ h=>h) (fun Z hZ => ?y5) hS ?_
 case y5=>(have z2:=qdz hZ.2.2 plK underlying160 hl;rw[hi] at z2;go_simp)
 refine tkH 6 9 (.tuple #[.int .i64 i,.bool true]) rfl (by kernel_rfl) (fun _ _ _ h=>h) (fun Z hZ=>by kernel_rfl) hS ?_;refine tkH 7 16 (.int .i64 i) rfl (by kernel_rfl) (fun _ _ _ h=>h) (fun Z hZ=>by kernel_rfl) hS ?_;refine tkH 8 17 (.bool true) rfl (by kernel_rfl) (fun _ _ _ h=>h) (fun Z hZ=>by kernel_rfl) hS ?_;refine tkH 9 5 (.int .i64 i) rfl (by kernel_rfl) (fun _ _ _ h=>h) (fun Z hZ=>by kernel_rfl) hS ?_;refine tkH 10 6 (.bool true) rfl (by kernel_rfl) (fun _ _ _ h=>h) (fun Z hZ=>by kernel_rfl) hS ?_;refine wpAnyH_done (by kernel_rfl) ?_ _;go_simp;go_wp2;go_ret;exact⟨rfl,(bwA).drew⟩
def qaW (n:Nat):List (List UInt8)→Nat→Int
 |[],_ => -1
 |p::q,i=>if qa9 n p=true∧i<16 then qaW n q (i+1) else i
def qa3 (n:Nat)(l:List UInt8):Int:=if 2000<l.length then 0 else if l.length=0 then -1 else qaW n (qal 10 l) 0
theorem Tryz.infoRule:(prog.info? 220).map (fun i=>(i.zero,i.size,i.bytes))=some (some (.agg qc2),3,40):=by kernel_rfl
theorem qdb (w:World)(cs:Array Value)(t:TypeId):∀(j:Nat) (u:Value),cs.toList[j]? = some u→(w.alloc (.cells cs t)).cell? ((⟨w.heap.size,0,none⟩:Addr).add j)=some u:=fun j u hu=>by
 rw[qcn,Nat.zero_add,cell_of_row _ _ _ _ _ _ (qac _ _)];simpa using hu
theorem qib {base:Nat}{e:TypeId}{size:Nat}{v:Value}{xs:List Value}(h:W.ownsRow base e size v n xs)(hk:∀i,i<W.heap.size→W'.heap[i]? = W.heap[i]?):W'.ownsRow base e size v n xs:=by
 obtain⟨h1,h2⟩:=h;refine⟨h1,?_⟩;rcases h2 with h2|⟨g,cap,cur,a,b,c,d⟩
 ·exact Or.inl h2
 exact Or.inr ⟨g,cap,cur,a,b,(hk g (ltA c)).trans c,d⟩
structure qqS (w2 wr:World)(N:Nat)(A:Array Value)(W:World):Prop where
 below:Below w2.heap.size w2 W
 same:∀i,i<wr.heap.size→W.heap[i]? = wr.heap[i]?
 row:W.heap[N]? = some (.cells A 220)
 lo:wr.heap.size≤N
theorem qv2 (h:Below w2.heap.size w2 wr)(hB:Below wr.heap.size wr.drew w'):qqS w2 wr w'.heap.size A (w'.alloc (.cells A 220)):=by
 have h1:=h.size;have h2:wr.heap.size≤w'.heap.size:=hB.size;refine⟨(h.drew.trans (hB.mono h1)).alloc (by omega) _,fun i hi => ?_,qac _ _,h2⟩;rw[Below.heap_alloc _ _ _ (by omega)];exact hB.block _ hi
theorem qwd (h:Below w2.heap.size w2 wr)(hB:Below (wr.heap.size+1) (wr.alloc (.cells qc2 220)).drew w'):qqS w2 wr wr.heap.size A (w'.setRow wr.heap.size A):=by
 have h1:=h.size;refine⟨qah (((h.alloc h1 _).drew).trans (hB.mono (by omega))) h1 _,fun i hi => ?_,setRow_heap _ _ qc2 _ _ _ ((hB.block _ (by omega)).trans (qac _ _)),Nat.le_refl _⟩;rw[setRow_other _ _ _ _ (by omega),hB.block _ (by omega)];exact Below.heap_alloc _ _ _ hi
theorem qmI (ty:TypeId)(x:Operand)(ho:o.op=.load ty x)(g:Nat)(hx:ev x=.pointer (some ⟨g,0,none⟩))(t:TypeId)(cs:Array Value)(fr:Nat×Nat)(d:TypeDesc)(hg:W.heap[g]? = some (.cells cs t fr))(hu:P.underlying ty=some d)(hd:(match d with|.struct _|.array _ _=>true|_=>false)=true)(hi:(P.info? ty).map (·.size)=some cs.size):(execOp ev o).run P W=.ok (.value (.agg cs)) W:=by
 unfold execOp;simp only[ho,hx,Instr.loadAt,Instr.sureAddr,Sem.run_bind,Sem.run_pure,Result.andThen_ok,run_loadVar_row W g t ty cs fr d hg hu hd hi]
theorem qoo (c:Cfg)(n:Nat)(hn:c.labels=n)(w:World):Calls prog 80 #[.agg c.arr] w fun e w' =>
   ∃a m cap,e=.returned (.tuple #[.slice a m cap,.int .i64 (qa3 n c.pol.data.toList)])∧Below w.heap.size w w':=by
 have hl:c.pol.data.toList.length=c.pol.size:=Array.length_toList;have f3:c.arr[3]? = some (.string c.pol):=rfl;have HF0:Hid (c.arr[0]? = some (.int .i64 n)):=by show _=_;rw[←hn];rfl
 obtain⟨i0,hi,hz0,hz1,hz2⟩:=info_parts Tryz.infoRule;by_cases hbig:(2000:Int)<c.pol.size
 ·have HV:Hid (qa3 n c.pol.data.toList=0):=by show _=_;unfold qa3;rw[if_pos (by omega)]
  go_enter func80,ntmps80;go_wp2
  go_ret2
  first|exact⟨_,_,_,by rw[HV.out];rfl,bwA⟩|exact⟨⟨_,_,_,by rw[HV.out];rfl⟩,bwA⟩
 cases he:(c.pol.toList==[])
 ·have hne:c.pol.size≠0:=by
   intro h;have:c.pol.toList=[]:=by rw[Lib.toList_data];exact List.eq_nil_of_length_eq_zero (by omega)
   rw[this] at he;exact absurd he (by decide)
  have HV:Hid (qa3 n c.pol.data.toList=qaW n (qal 10 c.pol.data.toList) 0):=by show _=_;unfold qa3;rw[if_neg (by omega),if_neg (by omega)]
  have hps:c.pol.size≤100000:=by omega
  go_enter func80,ntmps80;have T1:True:=trivial
  go_wp2_with (first
   |(go_at_call 129;clear T1;refine(qgv c.pol 10 10 rfl _ hps).mono ?_;rintro e w2 ⟨v,ps,rfl,HO,HB,HE⟩;obtain⟨g,cap,rfl,hg,hgs,hcs⟩:=qdQ HO (qlU HE)))
  have hw2:w.heap.size<w2.heap.size:=by have:=HB.size;simp only[World.size_alloc] at this;omega
  have HXR:Hid (w2.heap[w.heap.size]? = some (.cells c.arr 45)):=(HB.block _ (by simp)).trans (qac _ _);have HX:Hid (∀j,w2.cell? ⟨w.heap.size,j,none⟩=c.arr[j]?):=fun j=>qab ((HB.block _ (by simp)).trans (qac _ _)) j;have HCS:=qaa hcs;have HV2:Hid (qa3 n c.pol.data.toList=qaW n (ps.map (·.data.toList)) 0):=by show _=_;rw[HV.out,HE]
  have HBW:=qaa ((bwA).trans (HB.mono (by simp)));have HSZ:Hid (∀p,p∈ps→p.size≤100000):=fun p hp=>by
   have:=qbr 10 c.pol.data.toList p.data.toList (by rw[←HE];exact List.mem_map_of_mem hp);have h4:p.data.toList.length=p.size:=Array.length_toList;omega
  have hpl:ps.length≤100001:=by
   have h1:=congrArg List.length HE;have h2:=qeB 10 c.pol.data.toList;rw[List.length_map] at h1;omega
  have hgw:w.heap.size<g:=by simp only[World.size_alloc] at hg;omega
  clear HB HO hcs HE HV hg
  go_loopg [4,6] ps.length (fun gk v x wr=>∃(k:Nat) (xs:List Value) (ao:Option Addr) (cv:Nat),Hid (k+gk=ps.length)∧v=.slice ao k cv∧x=.int .i64 k∧Hid (wr.ownsRow w2.heap.size 220 3 v k xs)∧Hid (Below w2.heap.size w2 wr)∧Hid (qa3 n c.pol.data.toList=qaW n ((ps.map (·.data.toList)).drop k) k))
  case atStart=>exact⟨0,[],none,0,by show _=_;omega,rfl,rfl,World.ownsRow_nil _ _ _ _,Below.refl _ _,HV2.out⟩
  case round =>
   obtain⟨k,xs,ao,cv,hk,rfl,rfl,HOW,HBB,HL⟩:=hrel;have hsz2:=HBB.out.size
   cases gk with
   |zero =>
    have hlt:¬(k:Int)<ps.length:=by have:=hk.out;omega
    have HF:Hid (qa3 n c.pol.data.toList = -1):=by
     show _=_;rw[HL.out,List.drop_eq_nil_of_le (by rw[List.length_map];have:=hk.out;omega)];rfl
    go_wp2
    go_ret2
    first|exact⟨_,_,_,by rw[HF.out];rfl,HBW.out.trans (HBB.out.mono (by omega))⟩|exact⟨⟨_,_,_,by rw[HF.out];rfl⟩,HBW.out.trans (HBB.out.mono (by omega))⟩
   |succ gg =>
    have hlt:(k:Int)<ps.length:=by have:=hk.out;omega
    have hkn:k<ps.length:=by omega
    have hst:=(HBB.out.cell (p:=⟨g,k,none⟩) hgs).trans (HCS.out k hkn);have HBX:=(HBB.out.block _ hw2).trans HXR.out;have n1:=World.new_ne wr _ hst;have hxw:w.heap.size<wr.heap.size:=by omega
    have hxg:g<wr.heap.size:=by omega
    obtain⟨p,hp⟩:∃p,p=ps[k]:=⟨_,rfl⟩
    have HP:=qaa hp;rw[←hp] at hst;have cR:∀W,Calls prog 130 #[.agg c.arr,.string p] W fun e w'=>∃a m cap x y,e=.returned (.tuple #[.agg (qf5 a m cap x y),.bool (qa9 n p.data.toList)])∧Below W.heap.size W w':=fun W=>qqF c.arr n HF0.out rfl p W (by rw[hp];exact HSZ.out ps[k] (List.getElem_mem hkn));have HC:Hid (qa3 n c.pol.data.toList=if qa9 n p.data.toList=true∧k<16 then qaW n ((ps.map (·.data.toList)).drop (k+1)) (k+1) else (k:Int)):=by
     show _=_;rw[HL.out,List.drop_eq_getElem_cons (by rw[List.length_map];exact hkn),qaW,List.getElem_map,←hp]
    clear hp hl f3 he hne hps HX HCS HSZ HL;go_wp2;refine wp_region_held (S:=fun W=>W.heap[w.heap.size]? = some (.cells c.arr 45)∧W.cell? ⟨g,k,none⟩=some (.string p)) (by kernel_rfl) ?_;have hS:(fun W:World=>W.heap[w.heap.size]? = some (.cells c.arr 45)∧W.cell? ⟨g,k,none⟩=some (.string p)) {wr with drawn:=wr.drawn+1}:=⟨HBX,hst⟩
    refine wpAnyH_take (i:=0) (v:=.agg c.arr) rfl (by kernel_rfl) (by kernel_rfl) (by kernel_rfl) (fun _ _ _ h=>h) (.inl ⟨rfl,fun W hW=>qmI 45 (.tmp 1) rfl w.heap.size rfl _ _ _ _ hW.1 underlying45 rfl (qaV rfl)⟩) hS ?_;refine wpAnyH_take (i:=1) (v:=.slice (some ⟨g,0,none⟩) ps.length cap) rfl (by kernel_rfl) (by kernel_rfl) (by kernel_rfl) (fun _ _ _ h=>h) (.inl ⟨rfl,fun W hW=>rfl⟩) hS ?_;refine wpAnyH_take (i:=2) (v:=.int .i64 k) rfl (by kernel_rfl) (by kernel_rfl) (by kernel_rfl) (fun _ _ _ h=>h) (.inl ⟨rfl,fun W hW=>rfl⟩) hS ?_;refine wpAnyH_take (i:=3) (v:=.pointer (some ⟨g,k,none⟩)) rfl (by kernel_rfl) (by kernel_rfl) (by kernel_rfl) (fun _ _ _ h=>h) (.inl ⟨rfl,fun W hW => ?y3⟩) hS ?_
    case y3=>go_simp
    refine wpAnyH_take (i:=4) (v:=.string p) rfl (by kernel_rfl) (by kernel_rfl) (by kernel_rfl) (fun _ _ _ h=>h) (.inl ⟨rfl,fun W hW => ?y4⟩) hS ?_
    case y4=>(have h2:=hW.2;go_simp)
    refine qsx 5 9 rfl rfl (by kernel_rfl) (fun K hK => ?_) (fun K hK => ?_)
    ·go_simp;refine(cR _).mono ?_;rintro e w' ⟨ra,rm,rc,rx,ry,rfl,hB⟩;simp only[];refine hK.out _ _ ⟨(hB.block _ hxw).trans HBX,(hB.cell (p:=⟨g,k,none⟩) hxg).trans hst⟩ (fun hS2 => ?_);clear hK;refine wpAnyH_take (i:=6) rfl (by kernel_rfl) (by kernel_rfl) (by kernel_rfl) (fun _ _ _ h=>h) (.inl ⟨rfl,fun W hW=>rfl⟩) hS2 ?_;refine wpAnyH_take (i:=7) (v:=.agg (qf5 ra rm rc rx ry)) rfl (by kernel_rfl) (by kernel_rfl) (by kernel_rfl) (fun _ _ _ h=>h) (.inl ⟨rfl,fun W hW=>rfl⟩) hS2 ?_;refine wpAnyH_take (i:=8) (v:=.bool (qa9 n p.data.toList)) rfl (by kernel_rfl) (by kernel_rfl) (by kernel_rfl) (fun _ _ _ h=>h) (.inl ⟨rfl,fun W hW=>rfl⟩) hS2 ?_;have hsw:=hB.size;refine rdH 9 rfl (by kernel_rfl) (fun K hK => ?_);go_simp;refine hK.out _ _ ⟨(Below.heap_alloc _ _ _ (Nat.lt_of_lt_of_le hxw hsw)).trans hS2.1,(World.cell?_alloc_some _ _ _ (by rw[hS2.2];rfl)).trans hS2.2⟩ (fun hS3 => ?_);clear hK;refine rdH 10 rfl (by kernel_rfl) (fun K hK => ?_);rw[if_pos (by rfl)];refine wp_store_row 220 _ _ rfl w'.heap.size (qf5 ra rm rc rx ry) rfl rfl 220 qc2 (qac w' _) qcI rfl (qcJ _ _ _ _ _) ?_;rw[World.setRow_alloc_new];refine hK.out _ _ ⟨(Below.heap_alloc _ _ _ (Nat.lt_of_lt_of_le hxw hsw)).trans hS2.1,(World.cell?_alloc_some _ _ _ (by rw[hS2.2];rfl)).trans hS2.2⟩ (fun hS4 => ?_);clear hK;refine wpAnyH_take (i:=11) (v:=.bool (qa9 n p.data.toList)) rfl (by kernel_rfl) (by kernel_rfl) (by kernel_rfl) (fun _ _ _ h=>h) (.inl ⟨rfl,fun W hW=>rfl⟩) hS4 ?_;refine wpAnyH_done (by kernel_rfl) ?_ _;have HAF:Hid (qqS w2 wr w'.heap.size (qf5 ra rm rc rx ry) (w'.alloc (.cells (qf5 ra rm rc rx ry) 220))):=qv2 HBB.out hB;generalize w'.alloc (.cells (qf5 ra rm rc rx ry) 220)=W4 at *;generalize w'.heap.size=N at *;cases e1:qa9 n p.data.toList
     ·have HF:Hid (qa3 n c.pol.data.toList=k):=by show _=_;rw[HC.out,if_neg (by rw[e1];simp)]
      go_wp2
      go_ret2
      first|exact⟨_,_,_,by rw[HF.out];rfl,HBW.out.trans (HAF.out.below.mono (by omega))⟩|exact⟨⟨_,_,_,by rw[HF.out];rfl⟩,HBW.out.trans (HAF.out.below.mono (by omega))⟩
     by_cases h16:(16:Int)≤k
     ·have HF:Hid (qa3 n c.pol.data.toList=k):=by show _=_;rw[HC.out,if_neg (by omega)]
      go_wp2
      go_ret2
      first|exact⟨_,_,_,by rw[HF.out];rfl,HBW.out.trans (HAF.out.below.mono (by omega))⟩|exact⟨⟨_,_,_,by rw[HF.out];rfl⟩,HBW.out.trans (HAF.out.below.mono (by omega))⟩
     have HF:Hid (qa3 n c.pol.data.toList=qaW n ((ps.map (·.data.toList)).drop (k+1)) (k+1)):=by show _=_;rw[HC.out,if_pos ⟨e1,by omega⟩]
     have HO4:=qaa (qib HOW.out HAF.out.same);have hs4:=HAF.out.below.size;have HROW:Hid (W4.heap[N]? = some (.cells #[.slice ra rm rc,.int .i64 rx,.int .i64 ry] 220)):=HAF.out.row
     go_wp2_with (first
      |(refine wpList_load_row rfl 220 _ rfl _ rfl _ _ _ _ HROW.out underlying220 rfl qcI ?_)
      |(at_builtin;refine wpList_append_own _ rfl _ _ 152 rfl w2.heap.size 220 i0 (.agg qc2) 3 40 underlying152 hi hz0 hz1 hz2 rfl (by decide) _ _ _ rfl (HO4.out.alloc _) ⟨W4.heap.size,0,none⟩ 1 1 [.slice ra rm rc,.int .i64 rx,.int .i64 ry] rfl rfl (qdb _ _ _) (fun x hx=>by simp at hx;rcases hx with rfl|rfl|rfl<;>rfl) (by unfold maxLen;omega) (by omega) (by simp;omega) ?_;intro v' w5 hown' hgrow5 hnil5))
     go_roundg gg
     case measure=>omega
     case rel =>
      obtain⟨g3,cap3,hv3⟩:∃g3 cap3,v'=.slice (some ⟨g3,0,none⟩) (k+1) cap3:=by
       rcases hown'.2 with ⟨_,h⟩|⟨g3,cap3,_,h,_⟩
       ·omega
       exact⟨g3,cap3,h⟩
      exact⟨k+1,xs++[Value.slice ra rm rc,Value.int .i64 rx,Value.int .i64 ry],some ⟨g3,0,none⟩,cap3,by show _=_;have:=hk.out;omega,hv3,by go_num,(by show World.ownsRow _ _ _ _ _ _ _;exact hown'),(HAF.out.below.alloc hs4 _).grown hgrow5 (by simp;omega) (fun q hq=>(HO4.out.lt q hq).1),HF.out⟩
    go_simp;refine hK.out _ _ ⟨(Below.heap_alloc _ _ _ hxw).trans HBX,(World.cell?_alloc_some _ _ _ (by rw[hst];rfl)).trans hst⟩ (fun hS2 => ?_);clear hK;refine rdH 5 rfl (by kernel_rfl) (fun K hK => ?_);go_simp;refine(cR _).mono ?_;rintro e w' ⟨ra,rm,rc,rx,ry,rfl,hB⟩;simp only[];have hB':Below (wr.heap.size+1) (wr.alloc (.cells qc2 220)).drew w':=by have:=hB;simp only[World.size_alloc,World.drew] at this;exact this
    refine hK.out _ _ ⟨(hB'.block _ (by omega)).trans hS2.1,(hB'.cell (p:=⟨g,k,none⟩) (show g<_ by omega)).trans hS2.2⟩ (fun hS3 => ?_);clear hK;refine wpAnyH_take (i:=6) rfl (by kernel_rfl) (by kernel_rfl) (by kernel_rfl) (fun _ _ _ h=>h) (.inl ⟨rfl,fun W hW=>rfl⟩) hS3 ?_;refine wpAnyH_take (i:=7) (v:=.agg (qf5 ra rm rc rx ry)) rfl (by kernel_rfl) (by kernel_rfl) (by kernel_rfl) (fun _ _ _ h=>h) (.inl ⟨rfl,fun W hW=>rfl⟩) hS3 ?_;refine wpAnyH_take (i:=8) (v:=.bool (qa9 n p.data.toList)) rfl (by kernel_rfl) (by kernel_rfl) (by kernel_rfl) (fun _ _ _ h=>h) (.inl ⟨rfl,fun W hW=>rfl⟩) hS3 ?_;refine rdH 10 rfl (by kernel_rfl) (fun K hK => ?_);rw[if_pos (by rfl)];refine wp_store_row 220 _ _ rfl wr.heap.size (qf5 ra rm rc rx ry) rfl rfl 220 qc2 ((hB'.block _ (by omega)).trans (qac wr _)) qcI rfl (qcJ _ _ _ _ _) ?_;have HAF:Hid (qqS w2 wr wr.heap.size (qf5 ra rm rc rx ry) (w'.setRow wr.heap.size (qf5 ra rm rc rx ry))):=qwd HBB.out hB';refine hK.out _ _ ⟨(HAF.out.same _ hxw).trans HBX,(World.cell?_of_block (w:=wr) (HAF.out.same g hxg)).trans hst⟩ (fun hS4 => ?_);clear hK;refine wpAnyH_take (i:=11) (v:=.bool (qa9 n p.data.toList)) rfl (by kernel_rfl) (by kernel_rfl) (by kernel_rfl) (fun _ _ _ h=>h) (.inl ⟨rfl,fun W hW=>rfl⟩) hS4 ?_;refine wpAnyH_done (by kernel_rfl) ?_ _;generalize w'.setRow wr.heap.size (qf5 ra rm rc rx ry)=W4 at *;cases e1:qa9 n p.data.toList
    ·have HF:Hid (qa3 n c.pol.data.toList=k):=by show _=_;rw[HC.out,if_neg (by rw[e1];simp)]
     go_wp2
     go_ret2
     first|exact⟨_,_,_,by rw[HF.out];rfl,HBW.out.trans (HAF.out.below.mono (by omega))⟩|exact⟨⟨_,_,_,by rw[HF.out];rfl⟩,HBW.out.trans (HAF.out.below.mono (by omega))⟩
    by_cases h16:(16:Int)≤k
    ·have HF:Hid (qa3 n c.pol.data.toList=k):=by show _=_;rw[HC.out,if_neg (by omega)]
     go_wp2
     go_ret2
     first|exact⟨_,_,_,by rw[HF.out];rfl,HBW.out.trans (HAF.out.below.mono (by omega))⟩|exact⟨⟨_,_,_,by rw[HF.out];rfl⟩,HBW.out.trans (HAF.out.below.mono (by omega))⟩
    have HF:Hid (qa3 n c.pol.data.toList=qaW n ((ps.map (·.data.toList)).drop (k+1)) (k+1)):=by show _=_;rw[HC.out,if_pos ⟨e1,by omega⟩]
    have HO4:=qaa (qib HOW.out HAF.out.same);have hs4:=HAF.out.below.size;have HROW:Hid (W4.heap[wr.heap.size]? = some (.cells #[.slice ra rm rc,.int .i64 rx,.int .i64 ry] 220)):=HAF.out.row
    go_wp2_with (first
     |(refine wpList_load_row rfl 220 _ rfl _ rfl _ _ _ _ HROW.out underlying220 rfl qcI ?_)
     |(at_builtin;refine wpList_append_own _ rfl _ _ 152 rfl w2.heap.size 220 i0 (.agg qc2) 3 40 underlying152 hi hz0 hz1 hz2 rfl (by decide) _ _ _ rfl (HO4.out.alloc _) ⟨W4.heap.size,0,none⟩ 1 1 [.slice ra rm rc,.int .i64 rx,.int .i64 ry] rfl rfl (qdb _ _ _) (fun x hx=>by simp at hx;rcases hx with rfl|rfl|rfl<;>rfl) (by unfold maxLen;omega) (by omega) (by simp;omega) ?_;intro v' w5 hown' hgrow5 hnil5))
    go_roundg gg
    case measure=>omega
    case rel =>
     obtain⟨g3,cap3,hv3⟩:∃g3 cap3,v'=.slice (some ⟨g3,0,none⟩) (k+1) cap3:=by
      rcases hown'.2 with ⟨_,h⟩|⟨g3,cap3,_,h,_⟩
      ·omega
      exact⟨g3,cap3,h⟩
     exact⟨k+1,xs++[Value.slice ra rm rc,Value.int .i64 rx,Value.int .i64 ry],some ⟨g3,0,none⟩,cap3,by show _=_;have:=hk.out;omega,hv3,by go_num,(by show World.ownsRow _ _ _ _ _ _ _;exact hown'),(HAF.out.below.alloc hs4 _).grown hgrow5 (by simp;omega) (fun q hq=>(HO4.out.lt q hq).1),HF.out⟩
 have HV:Hid (qa3 n c.pol.data.toList = -1):=by
  show _=_;have h0:c.pol.data.toList=[]:=by rw[←Lib.toList_data];exact eq_of_beq he
  unfold qa3;rw[h0];rfl
 go_enter func80,ntmps80;go_wp2
 go_ret2
 first|exact⟨_,_,_,by rw[HV.out];rfl,bwA⟩|exact⟨⟨_,_,_,by rw[HV.out];rfl⟩,bwA⟩
end
section
open Go.RowKit Go.Shelf
section
attribute [local go_sem] Oper.semAt_some
theorem qnv:∀(q r:List (List UInt8)) (i:Nat),q.all (qa9 n)=true→i+q.length≤16→qaW n (q++r) i=qaW n r (i+q.length)
 |[],r,i,_,_=>rfl
 |x::q,r,i,h,hl=>by
  rw[List.all_cons,Bool.and_eq_true] at h;rw[List.length_cons] at hl;rw[List.cons_append,qaW,if_pos ⟨h.1,by omega⟩,qnv q r (i+1) h.2 (by omega),List.length_cons];congr 1;omega
def qez (n:Nat)(l:List UInt8):Int:=if 0≤qa3 n l then 6 else 0
def qka (n:Nat)(l:List UInt8):Int:=if 0≤qa3 n l then qa3 n l else 0
structure RdX (w:World)(n:Nat)(pre:List Str)(c:Code)(W:World):Prop where
 ret:c=.ret
 below:Below w.heap.size w W
 r0:Boxed W (w.heap.size+1) 108 (.slice none 0 0)
 r1:Boxed W (w.heap.size+2) 31 (.int .i64 6)
 bad:∃q x,pre=q++[x]∧Boxed W (w.heap.size+3) 3 (.int .i64 (q.length:Nat))∧(q.map lst).all (qa9 n)=true∧q.length≤16∧¬(qa9 n (lst x)=true∧q.length<16)
 size:w.heap.size+8≤W.heap.size
theorem RdX.own {w:World}{pre:List Str}{c:Code}{row:Nat}(h:RdX w n pre c W)(hg:W.grownBy W' (some row))(h1:w.heap.size+4≤row):RdX w n pre c W':=by
 obtain⟨q,x,e,hb,ha,hl,hx⟩:=h.bad;exact⟨h.ret,h.below.trans ⟨hg.os,hg.tape,hg.output,hg.size,fun i hi=>hg.block i (by have:=h.size;omega) (by intro e;injection e with e;omega)⟩,h.r0.kept hg (by intro e;injection e with e;omega),h.r1.kept hg (by intro e;injection e with e;omega),⟨q,x,e,hb.kept hg (by intro e;injection e with e;omega),ha,hl,hx⟩,Nat.le_trans h.size hg.size⟩
theorem qoF {N k:Nat}(W:World)(hN:N≤W.heap.size)(hk:k+3≤W.heap.size):Tr N k W W.drew:=Tr.below' (Below.refl _ _).drew hN hk
theorem Tryz.infoRule2:(prog.info? 230).map (fun i=>(i.zero,i.size,i.bytes))=some (some (.agg qc2),3,40):=by kernel_rfl
theorem qv3 {hs:s.size≤2000}{xs:List Str}(hne:¬s.size=0)(h:xs.map lst=qal 10 (lst ⟨s,hs⟩))(h8:xs.length≤16)(ha:(xs.map lst).all (qa9 n)=true):qa3 n s.data.toList = -1:=by
 have h':qal 10 s.data.toList=xs.map lst:=h.symm;have hl:s.data.toList.length=s.size:=Array.length_toList;unfold qa3;rw[if_neg (by omega),if_neg (by omega),h'];have:=qnv (n:=n) (xs.map lst) [] 0 ha (by rw[List.length_map];omega);rw[List.append_nil] at this;rw[this];rfl
theorem qxv {hs:s.size≤2000}{q:List Str}{x:Str}{r:List (List UInt8)}(hne:¬s.size=0)(h:qal 10 (lst ⟨s,hs⟩)=(q++[x]).map lst++r)(ha:(q.map lst).all (qa9 n)=true)(hl8:q.length≤16)(hx:¬(qa9 n (lst x)=true∧q.length<16)):qa3 n s.data.toList=q.length:=by
 have h':qal 10 s.data.toList=(q++[x]).map lst++r:=h;have hl:s.data.toList.length=s.size:=Array.length_toList;unfold qa3;rw[if_neg (by omega),if_neg (by omega),h',List.map_append,List.append_assoc,qnv (q.map lst) _ 0 ha (by rw[List.length_map];omega)];simp only[List.map_cons,List.map_nil,List.cons_append,List.nil_append,List.length_map,Nat.zero_add];rw[qaW,if_neg hx]
theorem qo3 (w:World)(n:Nat)(s:ByteArray)(W0:World)(hW0:((((((((w.alloc (.cells #[.int .i64 n] 3)).alloc (.cells #[.slice none 0 0] 108)).alloc (.cells #[.int .i64 0] 31)).alloc (.cells #[.int .i64 0] 3)).alloc (.cells #[.slice none 0 0] 108)).alloc (.cells #[.string s] 9)).alloc (.cells #[.string ⟨#[10]⟩] 9)).alloc (.cells #[.int .i64 0] 3))=W0):qfY (w.heap.size+5) 10 W0 s:=by
 subst hW0;generalize hA:((((w.alloc (.cells #[.int .i64 n] 3)).alloc (.cells #[.slice none 0 0] 108)).alloc (.cells #[.int .i64 0] 31)).alloc (.cells #[.int .i64 0] 3)).alloc (.cells #[.slice none 0 0] 108)=A;have hs:w.heap.size+5=A.heap.size:=by rw[←hA];simp
 rw[hs];refine⟨?_,?_,?_⟩
 ·exact((Below.heap_alloc _ _ _ (by simp;omega)).trans (Below.heap_alloc _ _ _ (by simp))).trans (qac A _)
 ·refine(Below.heap_alloc _ _ _ (by simp)).trans ?_;have:=qac (A.alloc (.cells #[.string s] 9)) (.cells #[.string ⟨#[10]⟩] 9);rwa [World.size_alloc] at this
 have:=qac ((A.alloc (.cells #[.string s] 9)).alloc (.cells #[.string ⟨#[10]⟩] 9)) (.cells #[.int .i64 0] 3);rwa [World.size_alloc,World.size_alloc] at this
theorem qfR (w:World)(n:Nat)(e:Int):((((w.alloc (.cells #[.int .i64 n] 3)).alloc (.cells #[.slice none 0 0] 108)).alloc (.cells #[.int .i64 e] 31)).alloc (.cells #[.int .i64 0] 3)).cell? ⟨w.heap.size+1,0,none⟩=some (.slice none 0 0) ∧
  ((((w.alloc (.cells #[.int .i64 n] 3)).alloc (.cells #[.slice none 0 0] 108)).alloc (.cells #[.int .i64 e] 31)).alloc (.cells #[.int .i64 0] 3)).cell? ⟨w.heap.size+1+1,0,none⟩=some (.int .i64 e) ∧
  ((((w.alloc (.cells #[.int .i64 n] 3)).alloc (.cells #[.slice none 0 0] 108)).alloc (.cells #[.int .i64 e] 31)).alloc (.cells #[.int .i64 0] 3)).cell? ⟨w.heap.size+1+1+1,0,none⟩=some (.int .i64 0):=by
 refine⟨?_,?_,?_⟩
 ·have:=Boxed.new (w.alloc (.cells #[.int .i64 n] 3)) 108 (.slice none 0 0);rw[World.size_alloc] at this;exact((this.alloc _).alloc _).cell
 ·have:=Boxed.new ((w.alloc (.cells #[.int .i64 n] 3)).alloc (.cells #[.slice none 0 0] 108)) 31 (.int .i64 e);rw[World.size_alloc,World.size_alloc] at this;exact(this.alloc _).cell
 have:=Boxed.new (((w.alloc (.cells #[.int .i64 n] 3)).alloc (.cells #[.slice none 0 0] 108)).alloc (.cells #[.int .i64 e] 31)) 3 (.int .i64 0);rw[World.size_alloc,World.size_alloc,World.size_alloc] at this;exact this.cell
end
end
end Go.Proofs.YtllcbnfmihfaaaaGreatDoor
