import Derived.Test.YtllcbnfmihfaaaaGreatDoorUq31
import Derived.Test.YtllcbnfmihfaaaaGreatDoorUq33
set_option maxRecDepth 100000
set_option maxHeartbeats 8000000
namespace Go.Proofs.YtllcbnfmihfaaaaGreatDoor
open Go.Proofs.Tryz
section
open Go.ChangeShapes Go.WideShapes Go.ChangeAt Go.RowKit Go.Lib Go.Deep
theorem qnG:(prog.globals[0]?).map (·.type)=some 274:=by kernel_rfl
theorem qni:(prog.globals[1]?).map (·.type)=some 275:=by kernel_rfl
theorem qgt:prog.cellsOf 270=1:=by kernel_rfl
theorem qjO:prog.cellsOf 274=8:=by kernel_rfl
theorem qfX:prog.cellsOf 273=3:=by kernel_rfl
theorem qmI:prog.cellsOf 271=1:=by kernel_rfl
theorem qk4:prog.cellsOf 3=1:=by kernel_rfl
theorem qj9:(Rows.laid_redact_reading_cborSorts:DataW Unit)=tabData .i64 [4,6,7,8,9,10,0,0]:=by kernel_rfl
theorem qjI:(Rows.laid_redact_reading_packHeads:DataW Unit)=.agg (qeF.map fun x=>.agg [.lit (.int .i64 x.1),.lit (.int .i64 x.2),.lit (.int .u64 0)]):=by kernel_rfl
theorem qox {l:List Value}(h:l.length=3):∃a b c,l=[a,b,c]:=by
 match l,h with
 |[a,b,c],_=>exact⟨a,b,c,rfl⟩
theorem qob {α:Type}{l:List α}(h:l.length=3):∃a b c,l=[a,b,c]:=by
 match l,h with
 |[a,b,c],_=>exact⟨a,b,c,rfl⟩
theorem qns {W:World}{sp:Nat→Bool}{held:Bool}{fuel:Nat}{cs:List Value}{x y z:Int}{p:List MemPlace}(h:DataW.trod (fun _=>()) prog W 0 sp held fuel 273 cs=some (.agg [.lit (.int .i64 x),.lit (.int .i64 y),.lit (.int .u64 z)],p)):cs=[.int .i64 x,.int .i64 y,.int .u64 z]:=by
 obtain⟨xs,n,_,hx,hl,hlen,hf⟩:=DataW.trod_struct underlying273 h
 rw[qfX] at hl
 have hxl:xs.length=3:=hlen
 obtain⟨v0,v1,v2,rfl⟩:=qox hl
 obtain⟨y0,y1,y2,rfl⟩:=qob hxl
 have t0:DataW.trod (fun _=>()) prog W 0 sp held n 270 (([v0,v1,v2].drop 0).take (prog.cellsOf 270))=some y0:=hf 0 _ rfl
 have t1:DataW.trod (fun _=>()) prog W 0 sp held n 3 (([v0,v1,v2].drop 1).take (prog.cellsOf 3))=some y1:=hf 1 _ rfl
 have t2:DataW.trod (fun _=>()) prog W 0 sp held n 271 (([v0,v1,v2].drop 2).take (prog.cellsOf 271))=some y2:=hf 2 _ rfl
 rw[qgt] at t0
 rw[qk4] at t1
 rw[qmI] at t2
 obtain⟨z0,e0,hy0⟩:=DataW.trod_int underlying270 t0
 obtain⟨z1,e1,hy1⟩:=DataW.trod_int underlying3 t1
 obtain⟨z2,e2,hy2⟩:=DataW.trod_int underlying271 t2
 simp at e0 e1 e2
 subst e0 e1 e2
 obtain⟨rfl,_⟩:=hy0
 obtain⟨rfl,_⟩:=hy1
 obtain⟨rfl,_⟩:=hy2
 simp only[List.map_cons,List.map_nil,Prod.mk.injEq,DataW.agg.injEq,List.cons.injEq,DataW.lit.injEq,Lit.int.injEq,and_true,true_and] at hx
 obtain⟨⟨rfl,rfl,rfl⟩,_⟩:=hx
 simp
theorem qoy {cs:List Value}{u:Nat}{a b c:Value}(h:(cs.drop (u*3)).take 3=[a,b,c]):cs[u*3]? = some a∧cs[u*3+1]? = some b∧cs[u*3+2]? = some c:=by
 have h0:=congrArg (fun l=>l[0]?) h
 have h1:=congrArg (fun l=>l[1]?) h
 have h2:=congrArg (fun l=>l[2]?) h
 simp[List.getElem?_drop] at h0 h1 h2
 exact⟨h0,h1,h2⟩
theorem qme {W:World}(hL':laidMet prog Rows.checksRow.laid W):qcv W:=by
 refine⟨?_,?_⟩
 ·obtain⟨g,t,cs,fuel,p,hg,hty,hvar,hd⟩:=laidMet.reads hL' (d:=Rows.laid_redact_reading_cborSorts) (.tail _ (.tail _ (.tail _ (.tail _ (.head _)))))
  obtain rfl:g=0:=Option.some.inj (hg.symm.trans (by kernel_rfl))
  obtain rfl:=Option.some.inj (qnG.symm.trans hty)
  rw[qj9] at hd
  have hcs:=cells_of_tab underlying274 underlying270 qgt qjO hd
  intro u hu
  have h1:=World.var?_cell hg hvar u
  rw[h1,←Array.getElem?_toList,hcs]
  have:∀v:Fin 8,([4,6,7,8,9,10,0,0]:List Int)[v.val]? = some ((qcQ v.val:Nat):Int):=by decide
  rw[List.getElem?_map,this ⟨u,hu⟩]
  rfl
 ·obtain⟨g,t,cs,fuel,p,hg,hty,hvar,hd⟩:=laidMet.reads hL' (d:=Rows.laid_redact_reading_packHeads) (.tail _ (.tail _ (.tail _ (.tail _ (.tail _ (.head _))))))
  obtain rfl:g=1:=Option.some.inj (hg.symm.trans (by kernel_rfl))
  obtain rfl:=Option.some.inj (qni.symm.trans hty)
  rw[qjI] at hd
  intro u hu
  obtain⟨f0,d0,q0,hd0,h0⟩:=array_elem underlying275 hd u hu
  have hlen:qeF.length=32:=rfl
  rw[List.getElem?_map,List.getElem?_eq_getElem (by omega)] at hd0
  cases hd0
  have r0:=qns h0
  rw[qfX] at r0
  obtain⟨c0,c1,c2⟩:=qoy r0
  have e:qeF.getD u (0,0)=qeF[u]'(by omega):=by rw[List.getD_eq_getElem?_getD,List.getElem?_eq_getElem (by omega)];rfl
  rw[e]
  refine⟨?_,?_,?_⟩
  ·rw[World.var?_cell hg hvar,←Array.getElem?_toList];exact c0
  ·rw[World.var?_cell hg hvar,←Array.getElem?_toList];exact c1
  ·rw[World.var?_cell hg hvar,←Array.getElem?_toList];exact c2
end
section
open Go.RowKit Go.Lib
structure qiG (V:World)(B:Nat)(la:Option Addr)(N lcap:Nat)(xs:List Value)(mc:Nat→Nat):Prop where
 w2:V.cell? ⟨B,2,none⟩=some (.slice la N lcap)
 len:xs.length=N
 row:∀(i:Nat) (v:Value),xs[i]? = some v→∃gr,la=some ⟨gr,0,none⟩∧V.cell? ⟨gr,i,none⟩=some v
 all:∀(i:Nat) (v:Value),xs[i]? = some v→qfx V v (.int .u8 (mc i)) 0
structure qdj (W V:World):Prop where
 heap:V.heap=W.heap
 os:V.os=W.os
 tape:V.tape=W.tape
 output:V.output=W.output
theorem qdj.refl (W:World):qdj W W:=⟨rfl,rfl,rfl,rfl⟩
theorem qdj.drew {W V:World}(h:qdj W V):qdj W V.drew:=⟨h.heap,h.os,h.tape,h.output⟩
theorem qdj.below {W V:World}(h:qdj W V):Below W.heap.size W V:=⟨h.os,h.tape,h.output,by rw[h.heap];exact Nat.le_refl _,fun j _=>by rw[h.heap]⟩
theorem qdj.cell {W V:World}(h:qdj W V)(a:Addr):V.cell? a=W.cell? a:=World.cell?_of_block (by rw[h.heap])
theorem qev {W V:World}(h:V.heap=W.heap)(a:Addr):V.cell? a=W.cell? a:=World.cell?_of_block (by rw[h])
theorem qiG.at_ {V:World}{B:Nat}{la:Option Addr}{N lcap:Nat}{xs:List Value}{mc:Nat→Nat}(h:qiG V B la N lcap xs mc){i:Nat}(hi:i<N):∃gr a n cap,la=some ⟨gr,0,none⟩∧V.cell? ⟨gr,i,none⟩=some (.slice a n cap)∧xs[i]? = some (.slice a n cap)∧∀j,j<n→∃g,a=some ⟨g,0,none⟩∧V.cell? ⟨g,j,none⟩=some (.int .u8 (mc i)):=by
 obtain⟨v,hv⟩:∃v,xs[i]? = some v:=⟨_,List.getElem?_eq_getElem (by rw[h.len];exact hi)⟩
 obtain⟨gr,e1,e2⟩:=h.row i v hv
 obtain⟨a,n,cap,rfl,h3⟩:=h.all i v hv
 refine⟨gr,a,n,cap,e1,e2,hv,fun j hj => ?_⟩
 rcases h3 with h3|⟨g,cur,h4,_,h5,h6,h7⟩
 ·omega
 ·exact⟨g,h4,(qaa h5 j).trans (h7 j hj)⟩
theorem ql1 (W:World)(B:Nat)(la:Option Addr)(N lcap:Nat)(xs:List Value)(h:qiG W B la N lcap xs mkN)(hN:N≤1000000000)(hbig:∀(i:Nat) (a:Option Addr) (n c:Nat),xs[i]? = some (Value.slice a n c)→n≤1000000000):Calls prog 36 #[.pointer (some ⟨B,0,none⟩)] W fun e W'=>e=.returned (.bool true)∧qdj W W':=by
 have HL:Hid (qiG W B la N lcap xs mkN):=h
 have HBG:Hid (∀(i:Nat) (a:Option Addr) (n c:Nat),xs[i]? = some (Value.slice a n c)→n≤1000000000):=hbig
 have hw2:=h.w2
 clear h hbig
 go_enter func36,ntmps36
 go_wp2
 go_loopg [3] N (fun g z wr=>∃i:Nat,z=.int .i64 i∧Hid (i+g=N)∧Hid (qdj W wr))
 case atStart=>exact⟨0,rfl,by show _=_;omega,qdj.refl _⟩
 case round =>
  obtain⟨i,rfl,hg,HS⟩:=hrel
  have w2:wr.cell? ⟨B,2,none⟩=some (.slice la N lcap):=(HS.out.cell _).trans hw2
  cases gk with
  |zero =>
   have hge:¬(i:Int)<(N:Int):=by have:=hg.out;omega
   go_wp2
   go_ret
   exact⟨rfl,HS.out⟩
  |succ g =>
   have hlt:(i:Int)<(N:Int):=by have:=hg.out;omega
   obtain⟨gr,a,n,cap,rfl,hr1,hx,hby⟩:=HL.out.at_ (i:=i) (by omega)
   have hnb:=HBG.out i a n cap hx
   have HBY:Hid (∀j,j<n→∃g,a=some ⟨g,0,none⟩∧W.cell? ⟨g,j,none⟩=some (.int .u8 (mkN i))):=hby
   have cM:∀V,Calls prog 61 #[.int .i64 i] V fun e W'=>e=.returned (.int .u8 (mkN i))∧V=W':=fun V=>(qdR i (by omega) V).mono fun e W' h=>⟨h.1,h.2.symm⟩
   clear hby hx w2
   have w2:wr.cell? ⟨B,2,none⟩=some (.slice (some ⟨gr,0,none⟩) N lcap):=(HS.out.cell _).trans hw2
   have r1:wr.cell? ⟨gr,i,none⟩=some (.slice a n cap):=(HS.out.cell _).trans hr1
   go_wp2
   go_loopg [4] n (fun gj zj wj=>∃j:Nat,zj=.int .i64 j∧Hid (j+gj=n)∧Hid (qdj W wj))
   case atStart=>exact⟨0,rfl,by show _=_;omega,HS⟩
   case round =>
    obtain⟨j,rfl,hgj,HSj⟩:=hrel
    clear w2 r1
    have w2:wr.cell? ⟨B,2,none⟩=some (.slice (some ⟨gr,0,none⟩) N lcap):=(HSj.out.cell _).trans hw2
    have r1:wr.cell? ⟨gr,i,none⟩=some (.slice a n cap):=(HSj.out.cell _).trans hr1
    cases gk with
    |zero =>
     have hgej:¬(j:Int)<(n:Int):=by have:=hgj.out;omega
     go_wp2
     go_roundg g
     case measure=>omega
     case rel=>exact⟨i+1,by go_num,by show _=_;have:=hg.out;omega,HSj⟩
    |succ gj =>
     have hltj:(j:Int)<(n:Int):=by have:=hgj.out;omega
     obtain⟨gb,rfl,hb⟩:=HBY.out j (by omega)
     go_wp2
     refine rgn (S:=fun Z=>Z.heap=W.heap) (HSj.out.heap) (by kernel_rfl) ?_
     intro hS
     refine qda (i:=0) (v:=.pointer (some ⟨B,0,none⟩)) (some 26) rfl (by kernel_rfl) (by kernel_rfl) (by kernel_rfl) (fun _ _ _ h=>h) (by kernel_rfl) (.inl ⟨by kernel_rfl,fun Z hZ=>(by kernel_rfl)⟩) hS ?_
     refine qda (i:=1) (v:=.pointer (some ⟨B,0,none⟩)) (some 27) rfl (by kernel_rfl) (by kernel_rfl) (by kernel_rfl) (fun _ _ _ h=>h) (by kernel_rfl) (.inl ⟨by kernel_rfl,fun Z hZ => ?y1⟩) hS ?_
     case y1=>(go_simp)
     refine qda (i:=2) (v:=.pointer (some ⟨B,2,none⟩)) (some 28) rfl (by kernel_rfl) (by kernel_rfl) (by kernel_rfl) (fun _ _ _ h=>h) (by kernel_rfl) (.inl ⟨by kernel_rfl,fun Z hZ => ?y2⟩) hS ?_
     case y2=>(go_simp)
     refine qda (i:=3) (v:=.slice (some ⟨gr,0,none⟩) N lcap) (some 29) rfl (by kernel_rfl) (by kernel_rfl) (by kernel_rfl) (fun _ _ _ h=>h) (by kernel_rfl) (.inl ⟨by kernel_rfl,fun Z hZ => ?y3⟩) hS ?_
     case y3=>(have hz:Z.cell? ⟨B,2,none⟩=some (.slice (some ⟨gr,0,none⟩) N lcap):=(qev hZ _).trans hw2;go_simp)
     refine qda (i:=4) (v:=.int .i64 i) (some 30) rfl (by kernel_rfl) (by kernel_rfl) (by kernel_rfl) (fun _ _ _ h=>h) (by kernel_rfl) (.inl ⟨by kernel_rfl,fun Z hZ=>(by kernel_rfl)⟩) hS ?_
     refine qda (i:=5) (v:=.pointer (some ⟨gr,i,none⟩)) (some 31) rfl (by kernel_rfl) (by kernel_rfl) (by kernel_rfl) (fun _ _ _ h=>h) (by kernel_rfl) (.inl ⟨by kernel_rfl,fun Z hZ => ?y5⟩) hS ?_
     case y5=>(go_simp)
     refine qda (i:=6) (v:=.slice (some ⟨gb,0,none⟩) n cap) (some 32) rfl (by kernel_rfl) (by kernel_rfl) (by kernel_rfl) (fun _ _ _ h=>h) (by kernel_rfl) (.inl ⟨by kernel_rfl,fun Z hZ => ?y6⟩) hS ?_
     case y6=>(have hz:Z.cell? ⟨gr,i,none⟩=some (.slice (some ⟨gb,0,none⟩) n cap):=(qev hZ _).trans hr1;go_simp)
     refine qda (i:=7) (v:=.int .i64 j) (some 33) rfl (by kernel_rfl) (by kernel_rfl) (by kernel_rfl) (fun _ _ _ h=>h) (by kernel_rfl) (.inl ⟨by kernel_rfl,fun Z hZ=>(by kernel_rfl)⟩) hS ?_
     refine qda (i:=8) (v:=.pointer (some ⟨gb,j,none⟩)) (some 34) rfl (by kernel_rfl) (by kernel_rfl) (by kernel_rfl) (fun _ _ _ h=>h) (by kernel_rfl) (.inl ⟨by kernel_rfl,fun Z hZ => ?y8⟩) hS ?_
     case y8=>(go_simp)
     refine qda (i:=9) (v:=.int .u8 (mkN i)) (some 35) rfl (by kernel_rfl) (by kernel_rfl) (by kernel_rfl) (fun _ _ _ h=>h) (by kernel_rfl) (.inl ⟨by kernel_rfl,fun Z hZ => ?y9⟩) hS ?_
     case y9=>(have hz:Z.cell? ⟨gb,j,none⟩=some (.int .u8 (mkN i)):=(qev hZ _).trans hb;go_simp)
     refine qda (i:=10) (v:=.int .i64 i) (some 36) rfl (by kernel_rfl) (by kernel_rfl) (by kernel_rfl) (fun _ _ _ h=>h) (by kernel_rfl) (.inl ⟨by kernel_rfl,fun Z hZ=>(by kernel_rfl)⟩) hS ?_
     refine rdH 11 rfl (by kernel_rfl) (fun K hK => ?_)
     go_simp
     refine(cM _).mono ?_
     rintro e w9 ⟨rfl,rfl⟩
     simp only[]
     refine hK.out _ _ hS (fun _ => ?_)
     clear hK
     refine qda (i:=12) (v:=.bool false) (some 38) rfl (by kernel_rfl) (by kernel_rfl) (by kernel_rfl) (fun _ _ _ h=>h) (by kernel_rfl) (.inl ⟨by kernel_rfl,fun Z hZ => ?y12⟩) hS ?_
     case y12=>(go_simp)
     refine wpAnyH_done (by kernel_rfl) ?_ _
     go_simp
     go_wp2
     go_roundg gj
     case measure=>omega
     case rel=>exact⟨j+1,by go_num,by show _=_;have:=hgj.out;omega,HSj.out.drew⟩
theorem qfB (W:World)(bs:List UInt8)(fm d l _lim:Int)(i:Nat)(c:UInt8)(hc:bs[i]? = some c)(h1:qaz bs l i=true)(n m:Nat)(hs:c.toNat / 32=n)(hn:n<6)(hm:c.toNat%32=m)(hlow:m<24)(h1n:n=1)(hb:bs.length≤200000000):Calls prog 207 #[.agg (inA bs fm d l),.int .i64 i] W fun e W'=>e=.returned (.tuple #[.agg (hdC (kdT n) (-1-(m:Int)) ((i:Int)+1) false),.agg (qae (0,0))])∧Below W.heap.size W W':=by
 have hix:=qah bs i c hc
 have hib:=ltL hc
 have hc255:=c.toNat_lt
 have hq:(c.toNat:Int) / 32=(n:Int):=by omega
 have hr:(c.toNat:Int)%32=(m:Int):=by omega
 have t7:((n:Int)==7)=false:=by simp;omega
 have t6:((n:Int)==6)=false:=by simp;omega
 have kt:∀w:World,(w.alloc (.cells #[.int .i64 3,.int .i64 3,.int .i64 5,.int .i64 4,.int .i64 6,.int .i64 7] 3)).cell? ⟨w.heap.size,n,none⟩=some (.int .i64 (kdT n)):=fun w=>qb4 w n hn
 have hni:(n:Int)<6:=by omega
 have tg:decide (27<(m:Int))=false:=by simp;omega
 have tl:decide ((m:Int)<24)=true:=by simp;omega
 have t1:((n:Int)==1)=true:=by simp;omega
 have cH1:=qap fm d h1
 have HX:=qat W bs fm d l
 clear h1 hc hs hm h1n
 unfold inA
 go_enter func207,ntmps207
 go_wp2_with (first
  |(go_at_call 113;refine HX.out.ck (cH1 _) ?_;clear cH1;intro w2 HX2 c0 c1 c2 c3;have n1:W.heap.size<w2.heap.size:=(by have:=HX2.out.size;omega);have n2:W.heap.size<w2.heap.size+1:=(by omega))
  |((with_reducible refine zH 4 80 rfl rfl (W.heap.size+1) (kdT n) (-1-(m:Int)) ((i:Int)+1) false ?_ ?_);exact⟨rfl,rfl,(HX2.out.next (bwO (.cells #[.int .i64 3,.int .i64 3,.int .i64 5,.int .i64 4,.int .i64 6,.int .i64 7] 3))).hd⟩)
  |((with_reducible refine zF 5 81 rfl rfl (W.heap.size+2) (0,0) ?_ ?_);exact⟨rfl,rfl,sx (by omega) (HX2.out.next (bwO (.cells #[.int .i64 3,.int .i64 3,.int .i64 5,.int .i64 4,.int .i64 6,.int .i64 7] 3))).flt⟩))
 have hf:=(HX2.out.next (bwO (.cells #[.int .i64 3,.int .i64 3,.int .i64 5,.int .i64 4,.int .i64 6,.int .i64 7] 3))).fin (hdC (kdT n) (-1-(m:Int)) ((i:Int)+1) false) (0,0)
 refine eoH results207 hf rfl rfl rfl ⟨?_,hf.2.2⟩
 rfl
theorem qfM (W:World)(bs:List UInt8)(fm d l _lim:Int)(i:Nat)(c:UInt8)(hc:bs[i]? = some c)(h1:qaz bs l i=true)(n m:Nat)(hs:c.toNat / 32=n)(hn:n<6)(hm:c.toNat%32=m)(hlow:m<24)(h1n:¬n=1)(hb:bs.length≤200000000):Calls prog 207 #[.agg (inA bs fm d l),.int .i64 i] W fun e W'=>e=.returned (.tuple #[.agg (hdC (kdT n) ((m:Int)) ((i:Int)+1) false),.agg (qae (0,0))])∧Below W.heap.size W W':=by
 have hix:=qah bs i c hc
 have hib:=ltL hc
 have hc255:=c.toNat_lt
 have hq:(c.toNat:Int) / 32=(n:Int):=by omega
 have hr:(c.toNat:Int)%32=(m:Int):=by omega
 have t7:((n:Int)==7)=false:=by simp;omega
 have t6:((n:Int)==6)=false:=by simp;omega
 have kt:∀w:World,(w.alloc (.cells #[.int .i64 3,.int .i64 3,.int .i64 5,.int .i64 4,.int .i64 6,.int .i64 7] 3)).cell? ⟨w.heap.size,n,none⟩=some (.int .i64 (kdT n)):=fun w=>qb4 w n hn
 have hni:(n:Int)<6:=by omega
 have tg:decide (27<(m:Int))=false:=by simp;omega
 have tl:decide ((m:Int)<24)=true:=by simp;omega
 have t1:((n:Int)==1)=false:=by simp;omega
 have cH1:=qap fm d h1
 have HX:=qat W bs fm d l
 clear h1 hc hs hm h1n
 unfold inA
 go_enter func207,ntmps207
 go_wp2_with (first
  |(go_at_call 113;refine HX.out.ck (cH1 _) ?_;clear cH1;intro w2 HX2 c0 c1 c2 c3;have n1:W.heap.size<w2.heap.size:=(by have:=HX2.out.size;omega);have n2:W.heap.size<w2.heap.size+1:=(by omega))
  |((with_reducible refine zH 4 80 rfl rfl (W.heap.size+1) (kdT n) ((m:Int)) ((i:Int)+1) false ?_ ?_);exact⟨rfl,rfl,(HX2.out.next (bwO (.cells #[.int .i64 3,.int .i64 3,.int .i64 5,.int .i64 4,.int .i64 6,.int .i64 7] 3))).hd⟩)
  |((with_reducible refine zF 5 81 rfl rfl (W.heap.size+2) (0,0) ?_ ?_);exact⟨rfl,rfl,sx (by omega) (HX2.out.next (bwO (.cells #[.int .i64 3,.int .i64 3,.int .i64 5,.int .i64 4,.int .i64 6,.int .i64 7] 3))).flt⟩))
 have hf:=(HX2.out.next (bwO (.cells #[.int .i64 3,.int .i64 3,.int .i64 5,.int .i64 4,.int .i64 6,.int .i64 7] 3))).fin (hdC (kdT n) ((m:Int)) ((i:Int)+1) false) (0,0)
 refine eoH results207 hf rfl rfl rfl ⟨?_,hf.2.2⟩
 rfl
end
end Go.Proofs.YtllcbnfmihfaaaaGreatDoor
