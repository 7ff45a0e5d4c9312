import Derived.Test.YtcokgepdckkjdaaGreatDoorRq12
import Derived.Test.YtcokgepdckkjdaaGreatDoorRq10
set_option maxRecDepth 100000
set_option maxHeartbeats 8000000
namespace Go.Proofs.YtcokgepdckkjdaaGreatDoor
open Go.Proofs.Tryz
variable {W W' W0 w' w2 wr:World}{a b ecap n s:Nat}{A arr:Array Value}{ea:Option Addr}{L:List (Int×Int)}{m:Nat->Nat->Bool}
section
open Go.RowKit
def qaW (n:Nat):List (List UInt8)->Nat->Int
 |[],_ => -1
 |p::q,i=>if qa9 n p=true/\i<16 then qaW n q (i+1) else i
def qa3 (n:Nat)(l:List UInt8):Int:=if 2000<l.length then 0 else if l.length=0 then -1 else qaW n (qal 10 l) 0
theorem Tryz.infoRule:(prog.info? 73).map (fun i=>(i.zero,i.size,i.bytes))=some (some (.agg qc2),3,40):=by kernel_rfl
theorem qdb (w:World)(cs:Array Value)(t:TypeId):∀(j:Nat) (u:Value),cs.toList[j]? = some u->(w.alloc (.cells cs t)).cell? ((⟨w.heap.size,0,none⟩:Addr).add j)=some u:=fun j u a=>by
 rw[qcn,Nat.zero_add,cell_of_row _ _ _ _ _ _ (qac _ _)];simpa using a
theorem qib {base:Nat}{e:TypeId}{size:Nat}{v:Value}{xs:List Value}(h:W.ownsRow base e size v n xs)(m:∀i,i<W.heap.size->W'.heap[i]? = W.heap[i]?):W'.ownsRow base e size v n xs:=by
 obtain⟨l,f⟩:=h;refine⟨l,?_⟩;rcases f with f|⟨g,j,k,a,b,c,d⟩
 ·exact Or.inl f
 exact Or.inr ⟨g,j,k,a,b,(m g (ltA c)).trans c,d⟩
structure qqS (w2 wr:World)(N:Nat)(A:Array Value)(W:World):Prop where
 below:Below w2.heap.size w2 W
 same:∀i,i<wr.heap.size->W.heap[i]? = wr.heap[i]?
 row:W.heap[N]? = some (.cells A 73)
 lo:wr.heap.size<=N
theorem qv2 (h:Below w2.heap.size w2 wr)(a:Below wr.heap.size wr.drew w'):qqS w2 wr w'.heap.size A (w'.alloc (.cells A 73)):=by
 have b:=h.size;have c:wr.heap.size<=w'.heap.size:=a.size;refine⟨(h.drew.trans (a.mono b)).alloc (by omega) _,fun i d => ?_,qac _ _,c⟩;rw[Below.heap_alloc _ _ _ (by omega)];exact a.block _ d
theorem qwd (h:Below w2.heap.size w2 wr)(a:Below (wr.heap.size+1) (wr.alloc (.cells qc2 73)).drew w'):qqS w2 wr wr.heap.size A (w'.setRow wr.heap.size A):=by
 have b:=h.size;refine⟨qah (((h.alloc b _).drew).trans (a.mono (by omega))) b _,fun i c => ?_,setRow_heap _ _ qc2 _ _ _ ((a.block _ (by omega)).trans (qac _ _)),Nat.le_refl _⟩;rw[setRow_other _ _ _ _ (by omega),a.block _ (by omega)];exact Below.heap_alloc _ _ _ c
theorem qmI {P:Program}{ev:Operand->Value}{o:Oper}(a:TypeId)(x:Operand)(f:o.op=.load a x)(g:Nat)(i:ev x=.pointer (some ⟨g,0,none⟩))(t:TypeId)(cs:Array Value)(b:Nat×Nat)(d:TypeDesc)(e:W.heap[g]? = some (.cells cs t b))(h:P.underlying a=some d)(c:(match d with|.struct _|.array _ _=>true|_=>false)=true)(hi:(P.info? a).map (·.size)=some cs.size):(execOp ev o).run P W=.ok (.value (.agg cs)) W:=by
 unfold execOp;simp only[f,i,Instr.loadAt,Instr.sureAddr,Sem.run_bind,Sem.run_pure,Result.andThen_ok,run_loadVar_row W g t a cs b d e h c hi]
theorem qoo (c:Cfg)(n:Nat)(hn:c.labels=n)(w:World):Calls prog 18 #[.agg c.arr] w fun e A =>
   ∃ab ah R,e=.returned (.tuple #[.slice ab ah R,.int .i64 (qa3 n c.pol.data.toList)])/\Below w.heap.size w A:=by
 have hl:c.pol.data.toList.length=c.pol.size:=Array.length_toList;have f3:c.arr[3]? = some (.string c.pol):=rfl;have aw:Hid (c.arr[0]? = some (.int .i64 n)):=by show _=_;rw[<-hn];rfl
 obtain⟨i0,hi,ar,au,av⟩:=info_parts Tryz.infoRule;by_cases a6:(2000:Int)<c.pol.size
 ·have G:Hid (qa3 n c.pol.data.toList=0):=by show _=_;unfold qa3;rw[if_pos (by omega)]
  go_enter func18,ntmps18;go_wp2
  go_ret2
  first|exact⟨_,_,_,by rw[G.out];rfl,bwA⟩|exact⟨⟨_,_,_,by rw[G.out];rfl⟩,bwA⟩
 cases q:(c.pol.toList==[])
 ·have a2:c.pol.size≠0:=by
   intro h;have:c.pol.toList=[]:=by rw[Lib.toList_data];exact List.eq_nil_of_length_eq_zero (by omega)
   rw[this] at q;exact absurd q (by decide)
  have G:Hid (qa3 n c.pol.data.toList=qaW n (qal 10 c.pol.data.toList) 0):=by show _=_;unfold qa3;rw[if_neg (by omega),if_neg (by omega)]
  have an:c.pol.size<=100000:=by omega
  go_enter func18,ntmps18;have T1:True:=trivial
  go_wp2_with (first
   |(go_at_call 27;clear T1;refine(qgv c.pol 10 10 rfl _ an).mono ?_;rintro e F ⟨v,u,rfl,HO,O,P⟩;obtain⟨g,R,rfl,hg,a0,am⟩:=qdQ HO (qlU P)))
  have a4:w.heap.size<F.heap.size:=by have:=O.size;simp only[World.size_alloc] at this;omega
  have ay:Hid (F.heap[w.heap.size]? = some (.cells c.arr 25)):=(O.block _ (by simp)).trans (qac _ _);have HX:Hid (∀j,F.cell? ⟨w.heap.size,j,none⟩=c.arr[j]?):=fun j=>qab ((O.block _ (by simp)).trans (qac _ _)) j;have aj:=qaa am;have ax:Hid (qa3 n c.pol.data.toList=qaW n (u.map (·.data.toList)) 0):=by show _=_;rw[G.out,P]
  have E:=qaa ((bwA).trans (O.mono (by simp)));have al:Hid (∀p,p∈u->p.size<=100000):=fun p I=>by
   have:=qbr 10 c.pol.data.toList p.data.toList (by rw[<-P];exact List.mem_map_of_mem I);have h4:p.data.toList.length=p.size:=Array.length_toList;omega
  have a8:u.length<=100001:=by
   have h1:=congrArg List.length P;have h2:=qeB 10 c.pol.data.toList;rw[List.length_map] at h1;omega
  have a7:w.heap.size<g:=by simp only[World.size_alloc] at hg;omega
  clear O HO am P G hg
  go_loopg [4,6] u.length (fun gk v x wr=>∃(k:Nat) (xs:List Value) (ao:Option Addr) (cv:Nat),Hid (k+gk=u.length)/\v=.slice ao k cv/\x=.int .i64 k/\Hid (wr.ownsRow F.heap.size 73 3 v k xs)/\Hid (Below F.heap.size F wr)/\Hid (qa3 n c.pol.data.toList=qaW n ((u.map (·.data.toList)).drop k) k))
  case atStart=>exact⟨0,[],none,0,by show _=_;omega,rfl,rfl,World.ownsRow_nil _ _ _ _,Below.refl _ _,ax.out⟩
  case round =>
   obtain⟨k,xs,ao,cv,V,rfl,rfl,ak,H,HL⟩:=hrel;have a9:=H.out.size
   cases gk with
   |zero =>
    have a1:¬(k:Int)<u.length:=by have:=V.out;omega
    have d:Hid (qa3 n c.pol.data.toList = -1):=by
     show _=_;rw[HL.out,List.drop_eq_nil_of_le (by rw[List.length_map];have:=V.out;omega)];rfl
    go_wp2
    go_ret2
    first|exact⟨_,_,_,by rw[d.out];rfl,E.out.trans (H.out.mono (by omega))⟩|exact⟨⟨_,_,_,by rw[d.out];rfl⟩,E.out.trans (H.out.mono (by omega))⟩
   |succ gg =>
    have a1:(k:Int)<u.length:=by have:=V.out;omega
    have ae:k<u.length:=by omega
    have J:=(H.out.cell (p:=⟨g,k,none⟩) a0).trans (aj.out k ae);have y:=(H.out.block _ a4).trans ay.out;have n1:=World.new_ne wr _ J;have Z:w.heap.size<wr.heap.size:=by omega
    have aq:g<wr.heap.size:=by omega
    obtain⟨p,I⟩:∃p,p=u[k]:=⟨_,rfl⟩
    have HP:=qaa I;rw[<-I] at J;have cR:∀W,Calls prog 28 #[.agg c.arr,.string p] W fun e A=>∃ab ah R x a5,e=.returned (.tuple #[.agg (qf5 ab ah R x a5),.bool (qa9 n p.data.toList)])/\Below W.heap.size W A:=fun W=>qqF c.arr n aw.out rfl p W (by rw[I];exact al.out u[k] (List.getElem_mem ae));have L:Hid (qa3 n c.pol.data.toList=if qa9 n p.data.toList=true/\k<16 then qaW n ((u.map (·.data.toList)).drop (k+1)) (k+1) else (k:Int)):=by
     show _=_;rw[HL.out,List.drop_eq_getElem_cons (by rw[List.length_map];exact ae),qaW,List.getElem_map,<-I]
    clear I hl f3 q a2 an HX aj al HL;go_wp2;refine wp_region_held (S:=fun W=>W.heap[w.heap.size]? = some (.cells c.arr 25)/\W.cell? ⟨g,k,none⟩=some (.string p)) (by kernel_rfl) ?_;have U:(fun W:World=>W.heap[w.heap.size]? = some (.cells c.arr 25)/\W.cell? ⟨g,k,none⟩=some (.string p)) {wr with drawn:=wr.drawn+1}:=⟨y,J⟩
    refine wpAnyH_take (i:=0) (v:=.agg c.arr) rfl (by kernel_rfl) (by kernel_rfl) (by kernel_rfl) (fun _ _ _ h=>h) (.inl ⟨rfl,fun W z=>qmI 25 (.tmp 1) rfl w.heap.size rfl _ _ _ _ z.1 underlying25 rfl (qaV rfl)⟩) U ?_;refine wpAnyH_take (i:=1) (v:=.slice (some ⟨g,0,none⟩) u.length R) rfl (by kernel_rfl) (by kernel_rfl) (by kernel_rfl) (fun _ _ _ h=>h) (.inl ⟨rfl,fun W z=>rfl⟩) U ?_;refine wpAnyH_take (i:=2) (v:=.int .i64 k) rfl (by kernel_rfl) (by kernel_rfl) (by kernel_rfl) (fun _ _ _ h=>h) (.inl ⟨rfl,fun W z=>rfl⟩) U ?_;refine wpAnyH_take (i:=3) (v:=.pointer (some ⟨g,k,none⟩)) rfl (by kernel_rfl) (by kernel_rfl) (by kernel_rfl) (fun _ _ _ h=>h) (.inl ⟨rfl,fun W z => ?y3⟩) U ?_
    case y3=>go_simp
    refine wpAnyH_take (i:=4) (v:=.string p) rfl (by kernel_rfl) (by kernel_rfl) (by kernel_rfl) (fun _ _ _ h=>h) (.inl ⟨rfl,fun W z => ?y4⟩) U ?_
    case y4=>(have h2:=z.2;go_simp)
    refine qsx 5 9 rfl rfl (by kernel_rfl) (fun K f => ?_) (fun K f => ?_)
    ·go_simp;refine(cR _).mono ?_;rintro e A ⟨l,r,o,s,t,rfl,M⟩;simp only[];refine f.out _ _ ⟨(M.block _ Z).trans y,(M.cell (p:=⟨g,k,none⟩) aq).trans J⟩ (fun B => ?_);clear f;refine wpAnyH_take (i:=6) rfl (by kernel_rfl) (by kernel_rfl) (by kernel_rfl) (fun _ _ _ h=>h) (.inl ⟨rfl,fun W z=>rfl⟩) B ?_;refine wpAnyH_take (i:=7) (v:=.agg (qf5 l r o s t)) rfl (by kernel_rfl) (by kernel_rfl) (by kernel_rfl) (fun _ _ _ h=>h) (.inl ⟨rfl,fun W z=>rfl⟩) B ?_;refine wpAnyH_take (i:=8) (v:=.bool (qa9 n p.data.toList)) rfl (by kernel_rfl) (by kernel_rfl) (by kernel_rfl) (fun _ _ _ h=>h) (.inl ⟨rfl,fun W z=>rfl⟩) B ?_;have ap:=M.size;refine rdH 9 rfl (by kernel_rfl) (fun K f => ?_);go_simp;refine f.out _ _ ⟨(Below.heap_alloc _ _ _ (Nat.lt_of_lt_of_le Z ap)).trans B.1,(World.cell?_alloc_some _ _ _ (by rw[B.2];rfl)).trans B.2⟩ (fun m => ?_);clear f;refine rdH 10 rfl (by kernel_rfl) (fun K f => ?_);rw[if_pos (by rfl)];refine wp_store_row 73 _ _ rfl A.heap.size (qf5 l r o s t) rfl rfl 73 qc2 (qac A _) qcI rfl (qcJ _ _ _ _ _) ?_;rw[World.setRow_alloc_new];refine f.out _ _ ⟨(Below.heap_alloc _ _ _ (Nat.lt_of_lt_of_le Z ap)).trans B.1,(World.cell?_alloc_some _ _ _ (by rw[B.2];rfl)).trans B.2⟩ (fun ac => ?_);clear f;refine wpAnyH_take (i:=11) (v:=.bool (qa9 n p.data.toList)) rfl (by kernel_rfl) (by kernel_rfl) (by kernel_rfl) (fun _ _ _ h=>h) (.inl ⟨rfl,fun W z=>rfl⟩) ac ?_;refine wpAnyH_done (by kernel_rfl) ?_ _;have b:Hid (qqS F wr A.heap.size (qf5 l r o s t) (A.alloc (.cells (qf5 l r o s t) 73))):=qv2 H.out M;generalize A.alloc (.cells (qf5 l r o s t) 73)=W4 at *;generalize A.heap.size=N at *;cases T:qa9 n p.data.toList
     ·have d:Hid (qa3 n c.pol.data.toList=k):=by show _=_;rw[L.out,if_neg (by rw[T];simp)]
      go_wp2
      go_ret2
      first|exact⟨_,_,_,by rw[d.out];rfl,E.out.trans (b.out.below.mono (by omega))⟩|exact⟨⟨_,_,_,by rw[d.out];rfl⟩,E.out.trans (b.out.below.mono (by omega))⟩
     by_cases az:(16:Int)<=k
     ·have d:Hid (qa3 n c.pol.data.toList=k):=by show _=_;rw[L.out,if_neg (by omega)]
      go_wp2
      go_ret2
      first|exact⟨_,_,_,by rw[d.out];rfl,E.out.trans (b.out.below.mono (by omega))⟩|exact⟨⟨_,_,_,by rw[d.out];rfl⟩,E.out.trans (b.out.below.mono (by omega))⟩
     have d:Hid (qa3 n c.pol.data.toList=qaW n ((u.map (·.data.toList)).drop (k+1)) (k+1)):=by show _=_;rw[L.out,if_pos ⟨T,by omega⟩]
     have Q:=qaa (qib ak.out b.out.same);have af:=b.out.below.size;have aa:Hid (W4.heap[N]? = some (.cells #[.slice l r o,.int .i64 s,.int .i64 t] 73)):=b.out.row
     go_wp2_with (first
      |(refine wpList_load_row rfl 73 _ rfl _ rfl _ _ _ _ aa.out underlying73 rfl qcI ?_)
      |(at_builtin;refine wpList_append_own _ rfl _ _ 50 rfl F.heap.size 73 i0 (.agg qc2) 3 40 underlying50 hi ar au av rfl (by decide) _ _ _ rfl (Q.out.alloc _) ⟨W4.heap.size,0,none⟩ 1 1 [.slice l r o,.int .i64 s,.int .i64 t] rfl rfl (qdb _ _ _) (fun x Y=>by simp at Y;rcases Y with rfl|rfl|rfl<;>rfl) (by unfold maxLen;omega) (by omega) (by simp;omega) ?_;intro v' w5 X ad a3))
     go_roundg gg
     case measure=>omega
     case rel =>
      obtain⟨D,C,ag⟩:∃D C,v'=.slice (some ⟨D,0,none⟩) (k+1) C:=by
       rcases X.2 with ⟨_,h⟩|⟨D,C,_,h,_⟩
       ·omega
       exact⟨D,C,h⟩
      exact⟨k+1,xs++[Value.slice l r o,Value.int .i64 s,Value.int .i64 t],some ⟨D,0,none⟩,C,by show _=_;have:=V.out;omega,ag,by go_num,(by show World.ownsRow _ _ _ _ _ _ _;exact X),(b.out.below.alloc af _).grown ad (by simp;omega) (fun ai hq=>(Q.out.lt ai hq).1),d.out⟩
    go_simp;refine f.out _ _ ⟨(Below.heap_alloc _ _ _ Z).trans y,(World.cell?_alloc_some _ _ _ (by rw[J];rfl)).trans J⟩ (fun B => ?_);clear f;refine rdH 5 rfl (by kernel_rfl) (fun K f => ?_);go_simp;refine(cR _).mono ?_;rintro e A ⟨l,r,o,s,t,rfl,M⟩;simp only[];have a:Below (wr.heap.size+1) (wr.alloc (.cells qc2 73)).drew A:=by have:=M;simp only[World.size_alloc,World.drew] at this;exact this
    refine f.out _ _ ⟨(a.block _ (by omega)).trans B.1,(a.cell (p:=⟨g,k,none⟩) (show g<_ by omega)).trans B.2⟩ (fun m => ?_);clear f;refine wpAnyH_take (i:=6) rfl (by kernel_rfl) (by kernel_rfl) (by kernel_rfl) (fun _ _ _ h=>h) (.inl ⟨rfl,fun W z=>rfl⟩) m ?_;refine wpAnyH_take (i:=7) (v:=.agg (qf5 l r o s t)) rfl (by kernel_rfl) (by kernel_rfl) (by kernel_rfl) (fun _ _ _ h=>h) (.inl ⟨rfl,fun W z=>rfl⟩) m ?_;refine wpAnyH_take (i:=8) (v:=.bool (qa9 n p.data.toList)) rfl (by kernel_rfl) (by kernel_rfl) (by kernel_rfl) (fun _ _ _ h=>h) (.inl ⟨rfl,fun W z=>rfl⟩) m ?_;refine rdH 10 rfl (by kernel_rfl) (fun K f => ?_);rw[if_pos (by rfl)];refine wp_store_row 73 _ _ rfl wr.heap.size (qf5 l r o s t) rfl rfl 73 qc2 ((a.block _ (by omega)).trans (qac wr _)) qcI rfl (qcJ _ _ _ _ _) ?_;have b:Hid (qqS F wr wr.heap.size (qf5 l r o s t) (A.setRow wr.heap.size (qf5 l r o s t))):=qwd H.out a;refine f.out _ _ ⟨(b.out.same _ Z).trans y,(World.cell?_of_block (w:=wr) (b.out.same g aq)).trans J⟩ (fun ac => ?_);clear f;refine wpAnyH_take (i:=11) (v:=.bool (qa9 n p.data.toList)) rfl (by kernel_rfl) (by kernel_rfl) (by kernel_rfl) (fun _ _ _ h=>h) (.inl ⟨rfl,fun W z=>rfl⟩) ac ?_;refine wpAnyH_done (by kernel_rfl) ?_ _;generalize A.setRow wr.heap.size (qf5 l r o s t)=W4 at *;cases T:qa9 n p.data.toList
    ·have d:Hid (qa3 n c.pol.data.toList=k):=by show _=_;rw[L.out,if_neg (by rw[T];simp)]
     go_wp2
     go_ret2
     first|exact⟨_,_,_,by rw[d.out];rfl,E.out.trans (b.out.below.mono (by omega))⟩|exact⟨⟨_,_,_,by rw[d.out];rfl⟩,E.out.trans (b.out.below.mono (by omega))⟩
    by_cases az:(16:Int)<=k
    ·have d:Hid (qa3 n c.pol.data.toList=k):=by show _=_;rw[L.out,if_neg (by omega)]
     go_wp2
     go_ret2
     first|exact⟨_,_,_,by rw[d.out];rfl,E.out.trans (b.out.below.mono (by omega))⟩|exact⟨⟨_,_,_,by rw[d.out];rfl⟩,E.out.trans (b.out.below.mono (by omega))⟩
    have d:Hid (qa3 n c.pol.data.toList=qaW n ((u.map (·.data.toList)).drop (k+1)) (k+1)):=by show _=_;rw[L.out,if_pos ⟨T,by omega⟩]
    have Q:=qaa (qib ak.out b.out.same);have af:=b.out.below.size;have aa:Hid (W4.heap[wr.heap.size]? = some (.cells #[.slice l r o,.int .i64 s,.int .i64 t] 73)):=b.out.row
    go_wp2_with (first
     |(refine wpList_load_row rfl 73 _ rfl _ rfl _ _ _ _ aa.out underlying73 rfl qcI ?_)
     |(at_builtin;refine wpList_append_own _ rfl _ _ 50 rfl F.heap.size 73 i0 (.agg qc2) 3 40 underlying50 hi ar au av rfl (by decide) _ _ _ rfl (Q.out.alloc _) ⟨W4.heap.size,0,none⟩ 1 1 [.slice l r o,.int .i64 s,.int .i64 t] rfl rfl (qdb _ _ _) (fun x Y=>by simp at Y;rcases Y with rfl|rfl|rfl<;>rfl) (by unfold maxLen;omega) (by omega) (by simp;omega) ?_;intro v' w5 X ad a3))
    go_roundg gg
    case measure=>omega
    case rel =>
     obtain⟨D,C,ag⟩:∃D C,v'=.slice (some ⟨D,0,none⟩) (k+1) C:=by
      rcases X.2 with ⟨_,h⟩|⟨D,C,_,h,_⟩
      ·omega
      exact⟨D,C,h⟩
     exact⟨k+1,xs++[Value.slice l r o,Value.int .i64 s,Value.int .i64 t],some ⟨D,0,none⟩,C,by show _=_;have:=V.out;omega,ag,by go_num,(by show World.ownsRow _ _ _ _ _ _ _;exact X),(b.out.below.alloc af _).grown ad (by simp;omega) (fun ai hq=>(Q.out.lt ai hq).1),d.out⟩
 have G:Hid (qa3 n c.pol.data.toList = -1):=by
  show _=_;have h0:c.pol.data.toList=[]:=by rw[<-Lib.toList_data];exact eq_of_beq q
  unfold qa3;rw[h0];rfl
 go_enter func18,ntmps18;go_wp2
 go_ret2
 first|exact⟨_,_,_,by rw[G.out];rfl,bwA⟩|exact⟨⟨_,_,_,by rw[G.out];rfl⟩,bwA⟩

end
section
open Go.RowKit Go.Deep
structure qbM (s:Nat)(W0:World)(arr:Array Value)(ea:Option Addr)(L:List (Int×Int))(W:World):Prop where
 below:Below (s+1) W0 W
 box:W.heap[s]? = some (.cells arr 25)
 edges:qaY W ea L
 size:s+1<=W.heap.size
theorem qbM.step (h:qbM s W0 arr ea L W)(a:Below W.heap.size W W'):qbM s W0 arr ea L W' :=
 ⟨h.below.trans (a.mono h.size),(a.block _ (by have:=h.size;omega)).trans h.box,h.edges.below a,Nat.le_trans h.size a.size⟩
theorem qfv (w:World)(arr:Array Value)(a:Option Addr)(L:List (Int×Int))(h:qaY w a L):qbM w.heap.size (w.alloc (.cells arr 25)) arr a L (w.alloc (.cells arr 25)) :=
 ⟨Below.refl _ _,qac _ _,h.below bwA,by simp⟩
theorem qbM.cell (h:qbM s W0 arr ea L W)(j:Nat):W.cell? ⟨s,j,none⟩=arr[j]?:=qab h.box j
theorem qbM.from_ {w:World}(h:qbM w.heap.size W0 arr ea L W)(a:Below w.heap.size w W0):Below w.heap.size w W:=a.trans (h.below.mono (by omega))
structure qi4 (arr:Array Value)(n:Nat)(L:List (Int×Int))(ea:Option Addr)(ecap:Nat):Prop where
 cfg:qxo arr n L ea ecap
 hn:n<=6
 hL:L.length<=30
 hE:qaO n L=true
theorem qdm (H:qi4 arr n L ea ecap)(a b:Nat)(c:a<n)(d:b<n)(h:qbM s W0 arr ea L W):Calls prog 24 #[.agg arr,.int .i64 a,.int .i64 b] W fun e i=>e=.returned (.bool (qaZ n L a b))/\qbM s W0 arr ea L i :=
 (quL arr n L ea ecap H.cfg H.hn H.hL H.hE a b c d W h.edges).mono fun _ _ ⟨g,f⟩=>⟨g,h.step f⟩
theorem qrs (arr:Array Value)(n:Nat)(L:List (Int×Int))(s:Option Addr)(T:Nat)(H:qi4 arr n L s T)(a b:Nat)(Y:a<n)(Z:b<n)(w:World)(U:qaY w s L):Calls prog 25 #[.agg arr,.int .i64 a,.int .i64 b] w fun e X=>∃r:Int,e=.returned (.int .i64 r)/\Hid (decide (r<0) = !qa1 n (qaZ n L) a b)/\Below w.heap.size w X:=by
 have G:=H.cfg.f0;have hn:=H.hn;have d:=qaa (qaV H.cfg.size);have p:=qaa H;have S:=qaa (qfv w arr s L U);have M:Hid (Below w.heap.size w (w.alloc (.cells arr 25))):=bwA;go_enter func25,ntmps25;go_wp2;generalize w.alloc (.cells arr 25)=W0 at *
 go_loopg [7,8,9] n (fun g x y aa wr=>∃k:Nat,Hid (k+g=n)/\x=.int .i64 k/\Hid (qbM w.heap.size W0 arr s L wr)/\Hid (∀j,j<k->qaK n (qaZ n L) a b j=false))
 case atStart=>exact⟨0,by show _=_;omega,rfl,S,fun j D=>by omega⟩
 case round =>
  obtain⟨k,t,rfl,c,v⟩:=hrel;have K:=(c.out.cell 0).trans G
  cases gk with
  |zero =>
   have V:¬(k:Int)<n:=by have:=t.out;omega
   go_wp2;go_ret;exact⟨-1,rfl,by show _=_;rw[qeA (fun j D=>v.out j (by have:=t.out;omega))];rfl,c.out.from_ M.out⟩
  |succ g =>
   have V:(k:Int)<n:=by have:=t.out;omega
   cases B:qaZ n L a k
   ·have l:Hid (qaK n (qaZ n L) a b k=false):=by show _=_;unfold qaK ubB;simp[B]
    go_wp2_with (first
     |(refine wpList_load_row rfl 25 _ rfl _ rfl _ _ _ _ c.out.box underlying25 rfl d.out ?_)
     |(refine qaf 25 _ rfl rfl _ rfl _ _ _ _ c.out.box underlying25 rfl d.out ?_)
     |(go_at_call 24;refine(qdm p.out _ _ (by omega) (by omega) c.out).mono ?_;rintro e u ⟨rfl,f⟩;have c:=qaa f))
    go_loopg [9,8] 0 (fun g x y wr=>x=.int .i64 0/\y=.bool false/\Hid (qbM w.heap.size W0 arr s L wr))
    case atStart=>exact⟨rfl,rfl,c⟩
    case round =>
     obtain⟨rfl,rfl,c⟩:=hrel;have K:=(c.out.cell 0).trans G;go_wp2;go_roundg g
     case measure=>omega
     case rel =>
      refine⟨k+1,by show _=_;have:=t.out;omega,by go_num,c,fun j D => ?_⟩;by_cases e:j=k
      ·subst e;exact l.out
      exact v.out j (by omega)
   cases C:qaZ n L b k
   ·have l:Hid (qaK n (qaZ n L) a b k=false):=by show _=_;unfold qaK ubB;simp[C]
    go_wp2_with (first
     |(refine wpList_load_row rfl 25 _ rfl _ rfl _ _ _ _ c.out.box underlying25 rfl d.out ?_)
     |(refine qaf 25 _ rfl rfl _ rfl _ _ _ _ c.out.box underlying25 rfl d.out ?_)
     |(go_at_call 24;refine(qdm p.out _ _ (by omega) (by omega) c.out).mono ?_;rintro e u ⟨rfl,f⟩;have c:=qaa f))
    go_loopg [9,8] 0 (fun g x y wr=>x=.int .i64 0/\y=.bool false/\Hid (qbM w.heap.size W0 arr s L wr))
    case atStart=>exact⟨rfl,rfl,c⟩
    case round =>
     obtain⟨rfl,rfl,c⟩:=hrel;have K:=(c.out.cell 0).trans G;go_wp2;go_roundg g
     case measure=>omega
     case rel =>
      refine⟨k+1,by show _=_;have:=t.out;omega,by go_num,c,fun j D => ?_⟩;by_cases e:j=k
      ·subst e;exact l.out
      exact v.out j (by omega)
   have R:Hid (ubB (qaZ n L) a b k=true):=by show _=_;unfold ubB;simp[B,C]
   go_wp2_with (first
    |(refine wpList_load_row rfl 25 _ rfl _ rfl _ _ _ _ c.out.box underlying25 rfl d.out ?_)
    |(refine qaf 25 _ rfl rfl _ rfl _ _ _ _ c.out.box underlying25 rfl d.out ?_)
    |(go_at_call 24;refine(qdm p.out _ _ (by omega) (by omega) c.out).mono ?_;rintro e u ⟨rfl,f⟩;have c:=qaa f))
   go_loopg [9,8] (n+1) (fun g x y wr=>∃(q:Nat) (o:Bool),Hid (q+g=n+1)/\x=.int .i64 q/\y=.bool o/\Hid (qbM w.heap.size W0 arr s L wr)/\Hid (o=true->q<=n/\∀i,i<q->ubB (qaZ n L) a b i=true->(qaZ n L) k i=true)/\Hid (o=false->qaK n (qaZ n L) a b k=false))
   case atStart=>exact⟨0,true,by show _=_;omega,rfl,rfl,c,fun _=>⟨by omega,fun i J=>by omega⟩,fun h=>by cases h⟩
   case round =>
    obtain⟨q,o,E,rfl,rfl,c,N,Q⟩:=hrel;have K:=(c.out.cell 0).trans G
    cases o with
    |false =>
     have l:=qaa (Q.out rfl);by_cases P:(q:Int)<n
     ·go_wp2;go_roundg g
      case measure=>omega
      case rel =>
       refine⟨k+1,by show _=_;have:=t.out;omega,by go_num,c,fun j D => ?_⟩;by_cases e:j=k
       ·subst e;exact l.out
       exact v.out j (by omega)
     go_wp2;go_roundg g
     case measure=>omega
     case rel =>
      refine⟨k+1,by show _=_;have:=t.out;omega,by go_num,c,fun j D => ?_⟩;by_cases e:j=k
      ·subst e;exact l.out
      exact v.out j (by omega)
    |true =>
     have z:=(N.out rfl).1;have F:=qaa ((N.out rfl).2);by_cases W:q<n
     ·have P:(q:Int)<n:=by omega
      cases gk with
      |zero=>have:=E.out;omega
      |succ I =>
       cases B:qaZ n L a q
       ·have A:Hid (ubB (qaZ n L) a b q=true->(qaZ n L) k q=true):=fun h=>by unfold ubB at h;simp[B] at h
        go_wp2_with (first
         |(refine wpList_load_row rfl 25 _ rfl _ rfl _ _ _ _ c.out.box underlying25 rfl d.out ?_)
         |(refine qaf 25 _ rfl rfl _ rfl _ _ _ _ c.out.box underlying25 rfl d.out ?_)
         |(go_at_call 24;refine(qdm p.out _ _ (by omega) (by omega) c.out).mono ?_;rintro e u ⟨rfl,f⟩;have c:=qaa f))
        go_roundg I
        case measure=>omega
        case rel=>exact⟨q+1,true,by show _=_;have:=E.out;omega,by go_num,rfl,c,(fun _=>⟨by omega,fun i J m=>by by_cases e:i=q;(· subst e;exact A.out m);(· exact F.out i (by omega) m)⟩),(fun h=>by cases h)⟩
       cases C:qaZ n L b q
       ·have A:Hid (ubB (qaZ n L) a b q=true->(qaZ n L) k q=true):=fun h=>by unfold ubB at h;simp[C] at h
        go_wp2_with (first
         |(refine wpList_load_row rfl 25 _ rfl _ rfl _ _ _ _ c.out.box underlying25 rfl d.out ?_)
         |(refine qaf 25 _ rfl rfl _ rfl _ _ _ _ c.out.box underlying25 rfl d.out ?_)
         |(go_at_call 24;refine(qdm p.out _ _ (by omega) (by omega) c.out).mono ?_;rintro e u ⟨rfl,f⟩;have c:=qaa f))
        go_roundg I
        case measure=>omega
        case rel=>exact⟨q+1,true,by show _=_;have:=E.out;omega,by go_num,rfl,c,(fun _=>⟨by omega,fun i J m=>by by_cases e:i=q;(· subst e;exact A.out m);(· exact F.out i (by omega) m)⟩),(fun h=>by cases h)⟩
       cases O:qaZ n L k q
       ·have l:Hid (qaK n (qaZ n L) a b k=false):=qdu (k:=q) W (by unfold ubB;simp[B,C]) O
        go_wp2_with (first
         |(refine wpList_load_row rfl 25 _ rfl _ rfl _ _ _ _ c.out.box underlying25 rfl d.out ?_)
         |(refine qaf 25 _ rfl rfl _ rfl _ _ _ _ c.out.box underlying25 rfl d.out ?_)
         |(go_at_call 24;refine(qdm p.out _ _ (by omega) (by omega) c.out).mono ?_;rintro e u ⟨rfl,f⟩;have c:=qaa f))
        go_roundg I
        case measure=>omega
        case rel=>exact⟨q+1,false,by show _=_;have:=E.out;omega,by go_num,rfl,c,(fun h=>by cases h),(fun _=>l.out)⟩
       have A:Hid (ubB (qaZ n L) a b q=true->(qaZ n L) k q=true):=fun _=>O
       go_wp2_with (first
        |(refine wpList_load_row rfl 25 _ rfl _ rfl _ _ _ _ c.out.box underlying25 rfl d.out ?_)
        |(refine qaf 25 _ rfl rfl _ rfl _ _ _ _ c.out.box underlying25 rfl d.out ?_)
        |(go_at_call 24;refine(qdm p.out _ _ (by omega) (by omega) c.out).mono ?_;rintro e u ⟨rfl,f⟩;have c:=qaa f))
       go_roundg I
       case measure=>omega
       case rel=>exact⟨q+1,true,by show _=_;have:=E.out;omega,by go_num,rfl,c,(fun _=>⟨by omega,fun i J m=>by by_cases e:i=q;(· subst e;exact A.out m);(· exact F.out i (by omega) m)⟩),(fun h=>by cases h)⟩
     have P:¬(q:Int)<n:=by omega
     have l:Hid (qaK n (qaZ n L) a b k=true):=qfw R.out (fun i J=>F.out i (by omega));go_wp2;go_ret;exact⟨k,rfl,by show _=_;rw[qdy (j:=k) (by omega) l.out,decide_eq_false (by omega)];rfl,c.out.from_ M.out⟩
theorem qrO (arr:Array Value)(n:Nat)(L:List (Int×Int))(s:Option Addr)(T:Nat)(H:qi4 arr n L s T)(a b:Nat)(Y:a<n)(Z:b<n)(w:World)(U:qaY w s L):Calls prog 26 #[.agg arr,.int .i64 a,.int .i64 b] w fun e X=>∃r:Int,e=.returned (.int .i64 r)/\Hid (decide (r<0) = !qa1 n (fun i j=>qaZ n L j i) a b)/\Below w.heap.size w X:=by
 have G:=H.cfg.f0;have hn:=H.hn;have d:=qaa (qaV H.cfg.size);have p:=qaa H;have S:=qaa (qfv w arr s L U);have M:Hid (Below w.heap.size w (w.alloc (.cells arr 25))):=bwA;go_enter func26,ntmps26;go_wp2;generalize w.alloc (.cells arr 25)=W0 at *
 go_loopg [7,8,9] n (fun g x y aa wr=>∃k:Nat,Hid (k+g=n)/\x=.int .i64 k/\Hid (qbM w.heap.size W0 arr s L wr)/\Hid (∀j,j<k->qaK n (fun i j=>qaZ n L j i) a b j=false))
 case atStart=>exact⟨0,by show _=_;omega,rfl,S,fun j D=>by omega⟩
 case round =>
  obtain⟨k,t,rfl,c,v⟩:=hrel;have K:=(c.out.cell 0).trans G
  cases gk with
  |zero =>
   have V:¬(k:Int)<n:=by have:=t.out;omega
   go_wp2;go_ret;exact⟨-1,rfl,by show _=_;rw[qeA (fun j D=>v.out j (by have:=t.out;omega))];rfl,c.out.from_ M.out⟩
  |succ g =>
   have V:(k:Int)<n:=by have:=t.out;omega
   cases B:qaZ n L k a
   ·have l:Hid (qaK n (fun i j=>qaZ n L j i) a b k=false):=by show _=_;unfold qaK ubB;simp[B]
    go_wp2_with (first
     |(refine wpList_load_row rfl 25 _ rfl _ rfl _ _ _ _ c.out.box underlying25 rfl d.out ?_)
     |(refine qaf 25 _ rfl rfl _ rfl _ _ _ _ c.out.box underlying25 rfl d.out ?_)
     |(go_at_call 24;refine(qdm p.out _ _ (by omega) (by omega) c.out).mono ?_;rintro e u ⟨rfl,f⟩;have c:=qaa f))
    go_loopg [9,8] 0 (fun g x y wr=>x=.int .i64 0/\y=.bool false/\Hid (qbM w.heap.size W0 arr s L wr))
    case atStart=>exact⟨rfl,rfl,c⟩
    case round =>
     obtain⟨rfl,rfl,c⟩:=hrel;have K:=(c.out.cell 0).trans G;go_wp2;go_roundg g
     case measure=>omega
     case rel =>
      refine⟨k+1,by show _=_;have:=t.out;omega,by go_num,c,fun j D => ?_⟩;by_cases e:j=k
      ·subst e;exact l.out
      exact v.out j (by omega)
   cases C:qaZ n L k b
   ·have l:Hid (qaK n (fun i j=>qaZ n L j i) a b k=false):=by show _=_;unfold qaK ubB;simp[C]
    go_wp2_with (first
     |(refine wpList_load_row rfl 25 _ rfl _ rfl _ _ _ _ c.out.box underlying25 rfl d.out ?_)
     |(refine qaf 25 _ rfl rfl _ rfl _ _ _ _ c.out.box underlying25 rfl d.out ?_)
     |(go_at_call 24;refine(qdm p.out _ _ (by omega) (by omega) c.out).mono ?_;rintro e u ⟨rfl,f⟩;have c:=qaa f))
    go_loopg [9,8] 0 (fun g x y wr=>x=.int .i64 0/\y=.bool false/\Hid (qbM w.heap.size W0 arr s L wr))
    case atStart=>exact⟨rfl,rfl,c⟩
    case round =>
     obtain⟨rfl,rfl,c⟩:=hrel;have K:=(c.out.cell 0).trans G;go_wp2;go_roundg g
     case measure=>omega
     case rel =>
      refine⟨k+1,by show _=_;have:=t.out;omega,by go_num,c,fun j D => ?_⟩;by_cases e:j=k
      ·subst e;exact l.out
      exact v.out j (by omega)
   have R:Hid (ubB (fun i j=>qaZ n L j i) a b k=true):=by show _=_;unfold ubB;simp[B,C]
   go_wp2_with (first
    |(refine wpList_load_row rfl 25 _ rfl _ rfl _ _ _ _ c.out.box underlying25 rfl d.out ?_)
    |(refine qaf 25 _ rfl rfl _ rfl _ _ _ _ c.out.box underlying25 rfl d.out ?_)
    |(go_at_call 24;refine(qdm p.out _ _ (by omega) (by omega) c.out).mono ?_;rintro e u ⟨rfl,f⟩;have c:=qaa f))
   go_loopg [9,8] (n+1) (fun g x y wr=>∃(q:Nat) (o:Bool),Hid (q+g=n+1)/\x=.int .i64 q/\y=.bool o/\Hid (qbM w.heap.size W0 arr s L wr)/\Hid (o=true->q<=n/\∀i,i<q->ubB (fun i j=>qaZ n L j i) a b i=true->(fun i j=>qaZ n L j i) k i=true)/\Hid (o=false->qaK n (fun i j=>qaZ n L j i) a b k=false))
   case atStart=>exact⟨0,true,by show _=_;omega,rfl,rfl,c,fun _=>⟨by omega,fun i J=>by omega⟩,fun h=>by cases h⟩
   case round =>
    obtain⟨q,o,E,rfl,rfl,c,N,Q⟩:=hrel;have K:=(c.out.cell 0).trans G
    cases o with
    |false =>
     have l:=qaa (Q.out rfl);by_cases P:(q:Int)<n
     ·go_wp2;go_roundg g
      case measure=>omega
      case rel =>
       refine⟨k+1,by show _=_;have:=t.out;omega,by go_num,c,fun j D => ?_⟩;by_cases e:j=k
       ·subst e;exact l.out
       exact v.out j (by omega)
     go_wp2;go_roundg g
     case measure=>omega
     case rel =>
      refine⟨k+1,by show _=_;have:=t.out;omega,by go_num,c,fun j D => ?_⟩;by_cases e:j=k
      ·subst e;exact l.out
      exact v.out j (by omega)
    |true =>
     have z:=(N.out rfl).1;have F:=qaa ((N.out rfl).2);by_cases W:q<n
     ·have P:(q:Int)<n:=by omega
      cases gk with
      |zero=>have:=E.out;omega
      |succ I =>
       cases B:qaZ n L q a
       ·have A:Hid (ubB (fun i j=>qaZ n L j i) a b q=true->(fun i j=>qaZ n L j i) k q=true):=fun h=>by unfold ubB at h;simp[B] at h
        go_wp2_with (first
         |(refine wpList_load_row rfl 25 _ rfl _ rfl _ _ _ _ c.out.box underlying25 rfl d.out ?_)
         |(refine qaf 25 _ rfl rfl _ rfl _ _ _ _ c.out.box underlying25 rfl d.out ?_)
         |(go_at_call 24;refine(qdm p.out _ _ (by omega) (by omega) c.out).mono ?_;rintro e u ⟨rfl,f⟩;have c:=qaa f))
        go_roundg I
        case measure=>omega
        case rel=>exact⟨q+1,true,by show _=_;have:=E.out;omega,by go_num,rfl,c,(fun _=>⟨by omega,fun i J m=>by by_cases e:i=q;(· subst e;exact A.out m);(· exact F.out i (by omega) m)⟩),(fun h=>by cases h)⟩
       cases C:qaZ n L q b
       ·have A:Hid (ubB (fun i j=>qaZ n L j i) a b q=true->(fun i j=>qaZ n L j i) k q=true):=fun h=>by unfold ubB at h;simp[C] at h
        go_wp2_with (first
         |(refine wpList_load_row rfl 25 _ rfl _ rfl _ _ _ _ c.out.box underlying25 rfl d.out ?_)
         |(refine qaf 25 _ rfl rfl _ rfl _ _ _ _ c.out.box underlying25 rfl d.out ?_)
         |(go_at_call 24;refine(qdm p.out _ _ (by omega) (by omega) c.out).mono ?_;rintro e u ⟨rfl,f⟩;have c:=qaa f))
        go_roundg I
        case measure=>omega
        case rel=>exact⟨q+1,true,by show _=_;have:=E.out;omega,by go_num,rfl,c,(fun _=>⟨by omega,fun i J m=>by by_cases e:i=q;(· subst e;exact A.out m);(· exact F.out i (by omega) m)⟩),(fun h=>by cases h)⟩
       cases O:qaZ n L q k
       ·have l:Hid (qaK n (fun i j=>qaZ n L j i) a b k=false):=qdu (k:=q) W (by unfold ubB;simp[B,C]) O
        go_wp2_with (first
         |(refine wpList_load_row rfl 25 _ rfl _ rfl _ _ _ _ c.out.box underlying25 rfl d.out ?_)
         |(refine qaf 25 _ rfl rfl _ rfl _ _ _ _ c.out.box underlying25 rfl d.out ?_)
         |(go_at_call 24;refine(qdm p.out _ _ (by omega) (by omega) c.out).mono ?_;rintro e u ⟨rfl,f⟩;have c:=qaa f))
        go_roundg I
        case measure=>omega
        case rel=>exact⟨q+1,false,by show _=_;have:=E.out;omega,by go_num,rfl,c,(fun h=>by cases h),(fun _=>l.out)⟩
       have A:Hid (ubB (fun i j=>qaZ n L j i) a b q=true->(fun i j=>qaZ n L j i) k q=true):=fun _=>O
       go_wp2_with (first
        |(refine wpList_load_row rfl 25 _ rfl _ rfl _ _ _ _ c.out.box underlying25 rfl d.out ?_)
        |(refine qaf 25 _ rfl rfl _ rfl _ _ _ _ c.out.box underlying25 rfl d.out ?_)
        |(go_at_call 24;refine(qdm p.out _ _ (by omega) (by omega) c.out).mono ?_;rintro e u ⟨rfl,f⟩;have c:=qaa f))
       go_roundg I
       case measure=>omega
       case rel=>exact⟨q+1,true,by show _=_;have:=E.out;omega,by go_num,rfl,c,(fun _=>⟨by omega,fun i J m=>by by_cases e:i=q;(· subst e;exact A.out m);(· exact F.out i (by omega) m)⟩),(fun h=>by cases h)⟩
     have P:¬(q:Int)<n:=by omega
     have l:Hid (qaK n (fun i j=>qaZ n L j i) a b k=true):=qfw R.out (fun i J=>F.out i (by omega));go_wp2;go_ret;exact⟨k,rfl,by show _=_;rw[qdy (j:=k) (by omega) l.out,decide_eq_false (by omega)];rfl,c.out.from_ M.out⟩

def qd3 (n:Nat)(m:Nat->Nat->Bool)(a b:Nat):Bool:=decide (n=n)&&(!(a==b)&&m a b&&m b a)
def qbz (n:Nat)(m:Nat->Nat->Bool):Bool:=(List.range n).all fun a=>(List.range n).all fun b => !qd3 n m a b
theorem qfP (c:a<n)(d:b<n)(h:qd3 n m a b=true):qbz n m=false:=by
 unfold qbz;rw[List.all_eq_false];refine⟨a,List.mem_range.2 c,?_⟩;rw[Bool.not_eq_true,List.all_eq_false];exact⟨b,List.mem_range.2 d,by rw[h];decide⟩
theorem qeP (h:∀a b,a<n->b<n->qd3 n m a b=false):qbz n m=true:=by
 unfold qbz;rw[List.all_eq_true];intro a c;rw[List.all_eq_true];intro b d;rw[h a b (List.mem_range.1 c) (List.mem_range.1 d)];rfl
def qb5 (n:Nat)(m:Nat->Nat->Bool)(a b:Nat):Bool:=qa1 n m a b&&qa1 n (fun i j=>m j i) a b
def qb6 (n:Nat)(m:Nat->Nat->Bool):Bool:=(List.range n).all fun a=>(List.range n).all fun b=>qb5 n m a b
theorem qdM (c:a<n)(d:b<n)(h:qb5 n m a b=false):qb6 n m=false:=by
 unfold qb6;rw[List.all_eq_false];refine⟨a,List.mem_range.2 c,?_⟩;rw[Bool.not_eq_true,List.all_eq_false];exact⟨b,List.mem_range.2 d,by rw[h];decide⟩
theorem qeV (h:∀a b,a<n->b<n->qb5 n m a b=true):qb6 n m=true:=by
 unfold qb6;rw[List.all_eq_true];intro a c;rw[List.all_eq_true];intro b d;exact h a b (List.mem_range.1 c) (List.mem_range.1 d)
theorem qpX (H:qi4 arr n L ea ecap)(a b:Nat)(c:a<n)(d:b<n)(h:qbM s W0 arr ea L W):Calls prog 25 #[.agg arr,.int .i64 a,.int .i64 b] W fun e j=>∃r:Int,e=.returned (.int .i64 r)/\Hid (decide (r<0) = !qa1 n (qaZ n L) a b)/\qbM s W0 arr ea L j :=
 (qrs arr n L ea ecap H a b c d W h.edges).mono fun _ _ ⟨r,g,i,f⟩=>⟨r,g,i,h.step f⟩
theorem qsn (H:qi4 arr n L ea ecap)(a b:Nat)(c:a<n)(d:b<n)(h:qbM s W0 arr ea L W):Calls prog 26 #[.agg arr,.int .i64 a,.int .i64 b] W fun e l=>∃r:Int,e=.returned (.int .i64 r)/\Hid (decide (r<0) = !qa1 n (fun i j=>qaZ n L j i) a b)/\qbM s W0 arr ea L l :=
 (qrO arr n L ea ecap H a b c d W h.edges).mono fun _ _ ⟨r,g,k,f⟩=>⟨r,g,k,h.step f⟩
theorem qli (arr:Array Value)(n:Nat)(L:List (Int×Int))(j:Option Addr)(F:Nat)(H:qi4 arr n L j F)(w:World)(G:qaY w j L):Calls prog 14 #[.agg arr] w fun e O=>e=.returned (.bool (qbz n (qaZ n L)))/\Below w.heap.size w O:=by
 have z:=H.cfg.f0;have P:=H.hn;have h:=qaa (qaV H.cfg.size);have p:=qaa H;have E:=qaa (qfv w arr j L G);have s:Hid (Below w.heap.size w (w.alloc (.cells arr 25))):=bwA;go_enter func14,ntmps14;go_wp2;generalize w.alloc (.cells arr 25)=W0 at *
 go_loopg [3,4] n (fun g x y wr=>∃k:Nat,Hid (k+g=n)/\x=.int .i64 k/\Hid (qbM w.heap.size W0 arr j L wr)/\Hid (∀a b,a<k->b<n->qd3 n (qaZ n L) a b=false))
 case atStart=>exact⟨0,by show _=_;omega,rfl,E,fun a b A=>by omega⟩
 case round =>
  obtain⟨k,o,rfl,c,t⟩:=hrel;have I:=(c.out.cell 0).trans z
  cases gk with
  |zero =>
   have J:¬(k:Int)<n:=by have:=o.out;omega
   go_wp2;go_ret;exact⟨by rw[qeP (fun a b A f=>t.out a b (by have:=o.out;omega) f)];rfl,c.out.from_ s.out⟩
  |succ g =>
   have J:(k:Int)<n:=by have:=o.out;omega
   go_wp2
   go_loopg [4] n (fun g x wr=>∃q:Nat,Hid (q+g=n)/\x=.int .i64 q/\Hid (qbM w.heap.size W0 arr j L wr)/\Hid (∀b,b<q->qd3 n (qaZ n L) k b=false))
   case atStart=>exact⟨0,by show _=_;omega,rfl,c,fun b f=>by omega⟩
   case round =>
    obtain⟨q,i,rfl,c,m⟩:=hrel;have I:=(c.out.cell 0).trans z
    cases gk with
    |zero =>
     have N:¬(q:Int)<n:=by have:=i.out;omega
     go_wp2;go_roundg g
     case measure=>omega
     case rel =>
      refine⟨k+1,by show _=_;have:=o.out;omega,by go_num,c,fun a b A f => ?_⟩;by_cases e:a=k
      ·subst e;exact m.out b (by have:=i.out;omega)
      exact t.out a b (by omega) f
    |succ r =>
     have N:(q:Int)<n:=by have:=i.out;omega
     by_cases B:k=q
     ·have d:Hid (qd3 n (qaZ n L) k q=false):=by show _=_;unfold qd3;simp[B]
      have K:((k:Int)==q)=true:=beq_iff_eq.2 (by omega);have M:((k:Int) != q)=false:=by rw[bne_eq_false_iff_eq];omega
      go_wp2;go_roundg r
      case measure=>omega
      case rel =>
       refine⟨q+1,by show _=_;have:=i.out;omega,by go_num,c,fun b f => ?_⟩;by_cases e:b=q
       ·subst e;exact d.out
       exact m.out b (by omega)
     have K:((k:Int)==q)=false:=beq_eq_false_iff_ne.2 (by omega);have M:((k:Int) != q)=true:=by rw[bne_iff_ne];omega
     have D:=qaa (beq_eq_false_iff_ne.2 B);cases u:qaZ n L k q
     ·have d:Hid (qd3 n (qaZ n L) k q=false):=by show _=_;unfold qd3;simp[u]
      go_wp2_with (first
       |(refine wpList_load_row rfl 25 _ rfl _ rfl _ _ _ _ c.out.box underlying25 rfl h.out ?_)
       |(refine qaf 25 _ rfl rfl _ rfl _ _ _ _ c.out.box underlying25 rfl h.out ?_)
       |(go_at_call 24;refine(qdm p.out _ _ (by omega) (by omega) c.out).mono ?_;rintro e C ⟨rfl,l⟩;have c:=qaa l))
      go_roundg r
      case measure=>omega
      case rel =>
       refine⟨q+1,by show _=_;have:=i.out;omega,by go_num,c,fun b f => ?_⟩;by_cases e:b=q
       ·subst e;exact d.out
       exact m.out b (by omega)
     cases v:qaZ n L q k
     ·have d:Hid (qd3 n (qaZ n L) k q=false):=by show _=_;unfold qd3;simp[v]
      go_wp2_with (first
       |(refine wpList_load_row rfl 25 _ rfl _ rfl _ _ _ _ c.out.box underlying25 rfl h.out ?_)
       |(refine qaf 25 _ rfl rfl _ rfl _ _ _ _ c.out.box underlying25 rfl h.out ?_)
       |(go_at_call 24;refine(qdm p.out _ _ (by omega) (by omega) c.out).mono ?_;rintro e C ⟨rfl,l⟩;have c:=qaa l))
      go_roundg r
      case measure=>omega
      case rel =>
       refine⟨q+1,by show _=_;have:=i.out;omega,by go_num,c,fun b f => ?_⟩;by_cases e:b=q
       ·subst e;exact d.out
       exact m.out b (by omega)
     have d:Hid (qd3 n (qaZ n L) k q=true):=by show _=_;unfold qd3;rw[u,v,D.out];simp
     go_wp2_with (first
      |(refine wpList_load_row rfl 25 _ rfl _ rfl _ _ _ _ c.out.box underlying25 rfl h.out ?_)
      |(refine qaf 25 _ rfl rfl _ rfl _ _ _ _ c.out.box underlying25 rfl h.out ?_)
      |(go_at_call 24;refine(qdm p.out _ _ (by omega) (by omega) c.out).mono ?_;rintro e C ⟨rfl,l⟩;have c:=qaa l))
     go_ret;exact⟨by rw[qfP (a:=k) (b:=q) (by omega) (by omega) d.out];rfl,c.out.from_ s.out⟩
theorem qku (arr:Array Value)(n:Nat)(L:List (Int×Int))(s:Option Addr)(K:Nat)(H:qi4 arr n L s K)(w:World)(N:qaY w s L):Calls prog 15 #[.agg arr] w fun e S=>e=.returned (.bool (qb6 n (qaZ n L)))/\Below w.heap.size w S:=by
 have F:=H.cfg.f0;have T:=H.hn;have h:=qaa (qaV H.cfg.size);have p:=qaa H;have J:=qaa (qfv w arr s L N);have B:Hid (Below w.heap.size w (w.alloc (.cells arr 25))):=bwA;go_enter func15,ntmps15;go_wp2;generalize w.alloc (.cells arr 25)=W0 at *
 go_loopg [3,4] n (fun g x y wr=>∃k:Nat,Hid (k+g=n)/\x=.int .i64 k/\Hid (qbM w.heap.size W0 arr s L wr)/\Hid (∀a b,a<k->b<n->qb5 n (qaZ n L) a b=true))
 case atStart=>exact⟨0,by show _=_;omega,rfl,J,fun a b G=>by omega⟩
 case round =>
  obtain⟨k,v,rfl,c,D⟩:=hrel;have O:=(c.out.cell 0).trans F
  cases gk with
  |zero =>
   have P:¬(k:Int)<n:=by have:=v.out;omega
   go_wp2;go_ret;exact⟨by rw[qeV (fun a b G t=>D.out a b (by have:=v.out;omega) t)];rfl,c.out.from_ B.out⟩
  |succ g =>
   have P:(k:Int)<n:=by have:=v.out;omega
   go_wp2
   go_loopg [4] n (fun g x wr=>∃q:Nat,Hid (q+g=n)/\x=.int .i64 q/\Hid (qbM w.heap.size W0 arr s L wr)/\Hid (∀b,b<q->qb5 n (qaZ n L) k b=true))
   case atStart=>exact⟨0,by show _=_;omega,rfl,c,fun b t=>by omega⟩
   case round =>
    obtain⟨q,z,rfl,c,E⟩:=hrel;have O:=(c.out.cell 0).trans F
    cases gk with
    |zero =>
     have R:¬(q:Int)<n:=by have:=z.out;omega
     go_wp2;go_roundg g
     case measure=>omega
     case rel =>
      refine⟨k+1,by show _=_;have:=v.out;omega,by go_num,c,fun a b G t => ?_⟩;by_cases e:a=k
      ·subst e;exact E.out b (by have:=z.out;omega)
      exact D.out a b (by omega) t
    |succ M =>
     have R:(q:Int)<n:=by have:=z.out;omega
     cases l:qa1 n (qaZ n L) k q
     ·have o:Hid (qb5 n (qaZ n L) k q=false):=by show _=_;unfold qb5;rw[l];rfl
      have m:=qaa l
      go_wp2_with (first
       |(refine wpList_load_row rfl 25 _ rfl _ rfl _ _ _ _ c.out.box underlying25 rfl h.out ?_)
       |(refine qaf 25 _ rfl rfl _ rfl _ _ _ _ c.out.box underlying25 rfl h.out ?_)
       |(go_at_call 25;refine(qpX p.out k q (by omega) (by omega) c.out).mono ?_;rintro e A ⟨r,rfl,f,d⟩;have c:=qaa d;have Q:decide (r<0)=true:=(by rw[f.out,m.out];rfl)))
      go_ret;exact⟨by rw[qdM (a:=k) (b:=q) (by omega) (by omega) o.out];rfl,c.out.from_ B.out⟩
     cases u:qa1 n (fun i j=>qaZ n L j i) k q
     ·have o:Hid (qb5 n (qaZ n L) k q=false):=by show _=_;unfold qb5;rw[l,u];rfl
      have m:=qaa l;have C:=qaa u
      go_wp2_with (first
       |(refine wpList_load_row rfl 25 _ rfl _ rfl _ _ _ _ c.out.box underlying25 rfl h.out ?_)
       |(refine qaf 25 _ rfl rfl _ rfl _ _ _ _ c.out.box underlying25 rfl h.out ?_)
       |(go_at_call 25;refine(qpX p.out k q (by omega) (by omega) c.out).mono ?_;rintro e A ⟨r,rfl,f,d⟩;have c:=qaa d;have I:decide (r<0)=false:=(by rw[f.out,m.out];rfl))
       |(go_at_call 26;refine(qsn p.out k q (by omega) (by omega) c.out).mono ?_;rintro e A ⟨r,rfl,f,d⟩;have c:=qaa d;have Q:decide (r<0)=true:=(by rw[f.out,C.out];rfl)))
      go_ret;exact⟨by rw[qdM (a:=k) (b:=q) (by omega) (by omega) o.out];rfl,c.out.from_ B.out⟩
     have o:Hid (qb5 n (qaZ n L) k q=true):=by show _=_;unfold qb5;rw[l,u];rfl
     have m:=qaa l;have C:=qaa u
     go_wp2_with (first
      |(refine wpList_load_row rfl 25 _ rfl _ rfl _ _ _ _ c.out.box underlying25 rfl h.out ?_)
      |(refine qaf 25 _ rfl rfl _ rfl _ _ _ _ c.out.box underlying25 rfl h.out ?_)
      |(go_at_call 25;refine(qpX p.out k q (by omega) (by omega) c.out).mono ?_;rintro e A ⟨r,rfl,f,d⟩;have c:=qaa d;have I:decide (r<0)=false:=(by rw[f.out,m.out];rfl))
      |(go_at_call 26;refine(qsn p.out k q (by omega) (by omega) c.out).mono ?_;rintro e A ⟨r,rfl,f,d⟩;have c:=qaa d;have I:decide (r<0)=false:=(by rw[f.out,C.out];rfl)))
     go_roundg M
     case measure=>omega
     case rel =>
      refine⟨q+1,by show _=_;have:=z.out;omega,by go_num,c,fun b t => ?_⟩;by_cases e:b=q
      ·subst e;exact o.out
      exact E.out b (by omega)

end
end Go.Proofs.YtcokgepdckkjdaaGreatDoor
