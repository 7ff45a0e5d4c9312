import Derived.Test.YtllcbnfmihfaaaaGreatDoorCq27
set_option maxRecDepth 100000
set_option maxHeartbeats 8000000
namespace Go.Proofs.YtllcbnfmihfaaaaGreatDoor
open Go.Proofs.Tryz
variable {cs:List Value}{V W:World}{j u:Nat}{v:Value}{bs tl:List UInt8}
section
open Go.ChangeShapes Go.WideShapes Go.ChangeAt Go.RowKit Go.Lib Go.Deep
theorem qtG:(prog.globals[0]?).map (·.type)=some 274:=by kernel_rfl
theorem qu4:(prog.globals[1]?).map (·.type)=some 275:=by kernel_rfl
theorem qj0:prog.cellsOf 270=1:=by kernel_rfl
theorem qm0:prog.cellsOf 274=8:=by kernel_rfl
theorem qjW:prog.cellsOf 273=3:=by kernel_rfl
theorem qlK:prog.cellsOf 271=1:=by kernel_rfl
theorem qn0:prog.cellsOf 3=1:=by kernel_rfl
theorem qmJ:(Rows.laid_redact_reading_cborSorts:DataW Unit)=tabData .i64 [4,6,7,8,9,10,0,0]:=by kernel_rfl
theorem qmQ:(Rows.laid_redact_reading_packHeads:DataW Unit)=.agg (qgC.map fun x=>.agg [.lit (.int .i64 x.1),.lit (.int .i64 x.2),.lit (.int .u64 0)]):=by kernel_rfl
theorem qxu {l:List Value}(h:l.length=3):∃a b c,l=[a,b,c]:=by
 match l,h with
 |[a,b,c],_=>exact⟨a,b,c,rfl⟩
theorem qvo {α:Type}{l:List α}(h:l.length=3):∃a b c,l=[a,b,c]:=by
 match l,h with
 |[a,b,c],_=>exact⟨a,b,c,rfl⟩
theorem quR {sp:Nat→Bool}{held:Bool}{fuel:Nat}{x y z:Int}{p:List MemPlace}(h:DataW.trod (fun _=>()) prog W 0 sp held fuel 273 cs=some (.agg [.lit (.int .i64 x),.lit (.int .i64 y),.lit (.int .u64 z)],p)):cs=[.int .i64 x,.int .i64 y,.int .u64 z]:=by
 obtain⟨xs,n,_,hx,hl,hlen,hf⟩:=DataW.trod_struct underlying273 h;rw[qjW] at hl;have hxl:xs.length=3:=hlen;obtain⟨v0,v1,v2,rfl⟩:=qxu hl;obtain⟨y0,y1,y2,rfl⟩:=qvo hxl;have t0:DataW.trod (fun _=>()) prog W 0 sp held n 270 (([v0,v1,v2].drop 0).take (prog.cellsOf 270))=some y0:=hf 0 _ rfl;have t1:DataW.trod (fun _=>()) prog W 0 sp held n 3 (([v0,v1,v2].drop 1).take (prog.cellsOf 3))=some y1:=hf 1 _ rfl;have t2:DataW.trod (fun _=>()) prog W 0 sp held n 271 (([v0,v1,v2].drop 2).take (prog.cellsOf 271))=some y2:=hf 2 _ rfl;rw[qj0] at t0;rw[qn0] at t1;rw[qlK] at t2;obtain⟨z0,e0,hy0⟩:=DataW.trod_int underlying270 t0;obtain⟨z1,e1,hy1⟩:=DataW.trod_int underlying3 t1;obtain⟨z2,e2,hy2⟩:=DataW.trod_int underlying271 t2;simp at e0 e1 e2;subst e0 e1 e2;obtain⟨rfl,_⟩:=hy0;obtain⟨rfl,_⟩:=hy1;obtain⟨rfl,_⟩:=hy2;simp only[List.map_cons,List.map_nil,Prod.mk.injEq,DataW.agg.injEq,List.cons.injEq,DataW.lit.injEq,Lit.int.injEq,and_true,true_and] at hx;obtain⟨⟨rfl,rfl,rfl⟩,_⟩:=hx;simp
theorem qwU {a b c:Value}(h:(cs.drop (u*3)).take 3=[a,b,c]):cs[u*3]? = some a∧cs[u*3+1]? = some b∧cs[u*3+2]? = some c:=by
 have h0:=congrArg (fun l=>l[0]?) h;have h1:=congrArg (fun l=>l[1]?) h;have h2:=congrArg (fun l=>l[2]?) h;simp[List.getElem?_drop] at h0 h1 h2;exact⟨h0,h1,h2⟩
theorem qrq (hL':laidMet prog Rows.checksRow.laid W):qdh W:=by
 refine⟨?_,?_⟩
 ·obtain⟨g,t,cs,fuel,p,hg,hty,hvar,hd⟩:=laidMet.reads hL' (d:=Rows.laid_redact_reading_cborSorts) (.tail _ (.tail _ (.tail _ (.tail _ (.head _)))));obtain rfl:g=0:=Option.some.inj (hg.symm.trans (by kernel_rfl));obtain rfl:=Option.some.inj (qtG.symm.trans hty);rw[qmJ] at hd;have hcs:=cells_of_tab underlying274 underlying270 qj0 qm0 hd;intro u hu;have h1:=World.var?_cell hg hvar u;rw[h1,←Array.getElem?_toList,hcs];have:∀v:Fin 8,([4,6,7,8,9,10,0,0]:List Int)[v.val]? = some ((qq5 v.val:Nat):Int):=by decide
  rw[List.getElem?_map,this ⟨u,hu⟩];rfl
 obtain⟨g,t,cs,fuel,p,hg,hty,hvar,hd⟩:=laidMet.reads hL' (d:=Rows.laid_redact_reading_packHeads) (.tail _ (.tail _ (.tail _ (.tail _ (.tail _ (.head _))))));obtain rfl:g=1:=Option.some.inj (hg.symm.trans (by kernel_rfl));obtain rfl:=Option.some.inj (qu4.symm.trans hty);rw[qmQ] at hd;intro u hu;obtain⟨f0,d0,q0,hd0,h0⟩:=array_elem underlying275 hd u hu;have hlen:qgC.length=32:=rfl;rw[List.getElem?_map,List.getElem?_eq_getElem (by omega)] at hd0;cases hd0;have r0:=quR h0;rw[qjW] at r0;obtain⟨c0,c1,c2⟩:=qwU r0;have e:qgC.getD u (0,0)=qgC[u]'(by omega):=by rw[List.getD_eq_getElem?_getD,List.getElem?_eq_getElem (by omega)];rfl
 rw[e];refine⟨?_,?_,?_⟩
 ·rw[World.var?_cell hg hvar,←Array.getElem?_toList];exact c0
 ·rw[World.var?_cell hg hvar,←Array.getElem?_toList];exact c1
 rw[World.var?_cell hg hvar,←Array.getElem?_toList];exact c2
end
section
open Go.RowKit Go.Lib
theorem qte (W:World)(hz:W.cell? ⟨8,15,none⟩=some (.int .u8 4)):Calls prog 272 #[.int .u64 16] W fun e W'=>e=.returned (.int .i64 4)∧W'=W:=by
 have h1:IntKind.u64.wrap (-16)=18446744073709551600:=by kernel_rfl
 have h2:bits .and .u64 16 18446744073709551600=16:=by kernel_rfl
 have h3:IntKind.u64.wrap (16*285870213051353865)=4573923408821661840:=by kernel_rfl
 go_enter func272,ntmps272;go_wp2;go_ret;exact⟨rfl,rfl⟩
theorem qol (W:World)(hz:W.cell? ⟨8,15,none⟩=some (.int .u8 4)):Calls prog 263 #[.int .u64 16] W fun e W'=>e=.returned (.int .i64 4)∧W'=W:=by
 have c:=qte W hz;go_enter func263,ntmps263
 go_wp2_with (first|(go_at_call 272;refine c.mono ?_;rintro e w2 ⟨rfl,rfl⟩))
 go_ret;exact⟨rfl,rfl⟩
theorem qqr (W:World):Calls prog 262 #[.int .i64 16] W fun e W'=>e=.returned (.bool true)∧W'=W:=by
 have h2:bits .and .i64 16 15=0:=by kernel_rfl
 go_enter func262,ntmps262;go_wp2;go_ret;exact⟨rfl,rfl⟩
def hxL (u:Nat):List UInt8:=if u<16 then [qfU u] else hxL (u / 16)++[qfU (u%16)]
theorem qox (h:u<16):hxL u=[qfU u]:=by rw[hxL,if_pos h]
theorem qs8 (h:¬u<16):hxL u=hxL (u / 16)++[qfU (u%16)]:=by rw[hxL,if_neg h]
theorem qkD:∀(k u:Nat),u<16^(k+1)→(hxL u).length≤k+1
 |0,u,h=>by rw[qox (by simpa using h)];simp
 |k+1,u,h=>by
  by_cases hu:u<16
  ·rw[qox hu];simp
  rw[qs8 hu,List.length_append];have h2:u / 16<16^(k+1):=by
   rw[Nat.div_lt_iff_lt_mul (by omega)];rw[Nat.pow_succ] at h;exact h
  have:=qkD k (u / 16) h2;simp;omega
structure qqo (W:World)(tl:List UInt8)(V:World):Prop where
 below:Below W.heap.size W V
 arr:V.heap[W.heap.size]? = some (.cells ((List.replicate (65-tl.length) (0:UInt8)++tl).map qav).toArray 381)
 le:tl.length≤65
theorem qmi (x:Nat)(hx:x<16)(V:World):(Instr.index 9 (.string ⟨#[48,49,50,51,52,53,54,55,56,57,97,98,99,100,101,102,103,104,105,106,107,108,109,110,111,112,113,114,115,116,117,118,119,120,121,122]⟩) (.int .u64 x)).run prog V=.ok (.int .u8 ((qfU x).toNat:Int)) V:=by
 have h:x=0∨x=1∨x=2∨x=3∨x=4∨x=5∨x=6∨x=7∨x=8∨x=9∨x=10∨x=11∨x=12∨x=13∨x=14∨x=15:=by omega
 rcases h with rfl|rfl|rfl|rfl|rfl|rfl|rfl|rfl|rfl|rfl|rfl|rfl|rfl|rfl|rfl|rfl<;>(show _=_;kernel_rfl)
theorem qwS (a:Nat)(ha:a<18446744073709551616):bits .and .u64 (a:Int) 15=((a%16:Nat):Int):=by
 have h:(BitVec.ofNat 64 a &&& BitVec.ofNat 64 15).toNat=a%16:=by
  rw[BitVec.toNat_and,BitVec.toNat_ofNat,BitVec.toNat_ofNat,Nat.mod_eq_of_lt (by omega),Nat.mod_eq_of_lt (by omega)];exact Nat.and_two_pow_sub_one_eq_mod a 4
 have e1:BitVec.ofInt 64 (a:Int)=BitVec.ofNat 64 a:=BitVec.ofInt_natCast ..;show IntKind.u64.wrap ((BitVec.ofInt 64 (a:Int) &&& BitVec.ofNat 64 15).toNat:Int)=_;rw[e1,h];unfold IntKind.wrap;simp[IntKind.bits,IntKind.signed];omega
theorem qqo.cell (h:qqo W tl V)(hj:j+1+tl.length=65):V.cell? ⟨W.heap.size,j,none⟩=some (.int .u8 0):=by
 have:=qab h.arr j;rw[this];simp[show j<65-tl.length by omega,List.getElem?_append,qav]
theorem qqo.set (h:qqo W tl V)(hj:j+1+tl.length=65)(b:UInt8):qqo W (b::tl) (V.setCell ⟨W.heap.size,j,none⟩ (qav b)):=by
 refine⟨h.below.setCell (Nat.le_refl _) _,?_,by simp;omega⟩;rw[heap_setCell_same V _ _ _ _ _ h.arr];have e1:65-tl.length=j+1:=by omega
 have e2:65-(b::tl).length=j:=by simp;omega
 rw[e1,e2];congr 1;congr 1;apply Array.ext';simp only[Array.toList_setIfInBounds,List.map_append,List.map_replicate,List.map_cons,List.replicate_succ'];rw[List.append_assoc,List.set_append_right _ _ (by simp)];simp
theorem qqo.str (h:qqo W tl V){i c:Nat}(hi:i+tl.length=65):(convert 28 9 (.slice (some ⟨W.heap.size,i,none⟩) tl.length c)).run prog V=.ok (.string ⟨tl.toArray⟩) V:=by
 refine run_convert_bytes_back V 28 9 5 ⟨W.heap.size,i,none⟩ c tl underlying28 underlying5 underlying9 ?_;intro j hj;have e:(⟨W.heap.size,i,none⟩:Addr).add j=⟨W.heap.size,i+j,none⟩:=by by_cases h:j=0<;>simp[Addr.add,h]
 rw[e];have:=qab h.arr (i+j);rw[this];have e2:65-tl.length=i:=by omega
 rw[e2];simp[qav,List.getElem?_append_right,List.getElem?_eq_getElem hj]
theorem qqo.thaw (h:qqo W tl V)(j:Nat):V.frozen? ⟨W.heap.size,j,none⟩=false:=by
 have:=h.arr;simp[World.frozen?,this]
theorem qoe (V:World)(N j n:Nat)(h:j+n=65)(hn:0<n):(Instr.sliceAt 381 (.pointer (some ⟨N,0,none⟩)) (some (.int .i64 j)) none none).run prog V=.ok (.slice (some ⟨N,j,none⟩) n n) V:=by
 rw[run_sliceAt_array_l V 381 ⟨N,0,none⟩ (by kernel_rfl) .i64 j (by omega) (by show(j:Int)≤65;omega)];have e:prog.arrayLen 381=65:=by kernel_rfl
 have e2:(sizeOf (prog.elem 381)).run prog V=.ok 1 V:=by kernel_rfl
 have e3:(⟨N,0,none⟩:Addr).add j=⟨N,j,none⟩:=by by_cases h:j=0<;>simp[Addr.add,h]
 rw[e2,e];simp only[Result.andThen_ok,slicedAt,Int.toNat_natCast,Nat.mul_one];rw[if_neg (by omega),e3,show 65-j=n by omega]
theorem qvf (u:Nat)(hu:u<18446744073709551616)(W:World)(hz:W.cell? ⟨8,15,none⟩=some (.int .u8 4)):Calls prog 244 #[.slice none 0 0,.int .u64 u,.int .i64 16,.bool false,.bool false] W fun e W'=>e=.returned (.tuple #[.slice none 0 0,.string ⟨(hxL u).toArray⟩])∧Below W.heap.size W W':=by
 have hg:8<W.heap.size:=by
  by_cases h:8<W.heap.size
  ·exact h
  simp[World.cell?,h] at hz
 have cP:=fun V=>qqr V;have cT:∀V,Below W.heap.size W V→Calls prog 263 #[.int .u64 16] V fun e W'=>e=.returned (.int .i64 4)∧W'=V:=fun V hV=>qol V ((hV.cell hg).trans hz);go_enter func244,ntmps244
 go_wp2_with (first
  |(go_at_call 262;refine(cP _).mono ?_;rintro e w2 ⟨rfl,rfl⟩)
  |(go_at_call 263;refine(cT _ bwA).mono ?_;rintro e w3 ⟨rfl,rfl⟩))
 go_loopg [1,13] 16 (fun g x y wr=>∃(uk i:Nat) (tl:List UInt8),x=.int .u64 uk∧y=.int .i64 i∧Hid (i+tl.length=65)∧Hid (hxL u=hxL uk++tl)∧Hid (uk<16^g)∧Hid (tl.length+g≤16)∧Hid (qqo W tl wr))
 case atStart =>
  exact⟨u,65,[],rfl,rfl,rfl,(by show _=_;simp),hu,Nat.le_refl 16,⟨bwA,(qac W _).trans (by kernel_rfl),Nat.zero_le _⟩⟩
 case round =>
  obtain⟨uk,i,tl,rfl,rfl,HI,HH,HG,HL,HX⟩:=hrel;obtain⟨j,rfl⟩:∃j,i=j+1:=⟨i-1,by have:=HI.out;have:=HL.out;omega⟩
  have hj:j<65:=by have:=HI.out;omega
  have hbig:uk<18446744073709551616:=by
   have h1:=HG.out;have h2:=HL.out;have h3:16^gk≤16^16:=Nat.pow_le_pow_right (by omega) (by omega);omega
  have HA:=qaa (qwS uk hbig);have hc:=HX.out.cell HI.out;have hfz:=HX.out.thaw j;by_cases hk:uk<16
  ·have d1:decide ((16:Int)≤uk)=false:=by simp;omega
   have HE:Hid (hxL u=qfU uk::tl):=by show _=_;rw[HH.out,qox hk];rfl
   obtain⟨b,HB⟩:∃b,Hid (qfU uk=b):=⟨_,rfl⟩
   have hix:∀V,(Instr.index 9 (.string ⟨#[48,49,50,51,52,53,54,55,56,57,97,98,99,100,101,102,103,104,105,106,107,108,109,110,111,112,113,114,115,116,117,118,119,120,121,122]⟩) (.int .u64 uk)).run prog V=.ok (.int .u8 (b.toNat:Int)) V:=fun V=>HB.out▸qmi uk hk V;have hsl:=fun V=>qoe V W.heap.size j (b::tl).length (by have:=HI.out;simp;omega) (by simp);have hcv:(convert 28 9 (.slice (some ⟨W.heap.size,j,none⟩) (b::tl).length (b::tl).length)).run prog (wr.setCell ⟨W.heap.size,j,none⟩ (.int .u8 (b.toNat:Int)))=.ok (.string ⟨(b::tl).toArray⟩) (wr.setCell ⟨W.heap.size,j,none⟩ (.int .u8 (b.toNat:Int))):=(HX.out.set HI.out b).str (i:=j) (c:=(b::tl).length) (by have:=HI.out;simp;omega);have HX2:=qaa (HX.out.set HI.out b);have HE2:=qaa (HB.out▸HE.out);obtain⟨n,HN⟩:∃n,Hid ((b::tl).length=n):=⟨_,rfl⟩
   rw[HN.out] at hsl hcv
   go_wp2_with fail
   refine bodyPost_ret (results_tmp2 results244 _ _ _) rfl ⟨?_,HX2.out.below⟩;rw[HE2.out];rfl
  have d1:decide ((16:Int)≤uk)=true:=by simp;omega
  obtain⟨x,HXM⟩:∃x,Hid (uk%16=x):=⟨_,rfl⟩
  have hx16:x<16:=by have:=HXM.out;omega
  obtain⟨b,HB⟩:∃b,Hid (qfU x=b):=⟨_,rfl⟩
  have hix:∀V,(Instr.index 9 (.string ⟨#[48,49,50,51,52,53,54,55,56,57,97,98,99,100,101,102,103,104,105,106,107,108,109,110,111,112,113,114,115,116,117,118,119,120,121,122]⟩) (.int .u64 x)).run prog V=.ok (.int .u8 (b.toNat:Int)) V:=fun V=>HB.out▸qmi x hx16 V;have HE:Hid (hxL u=hxL (uk / 16)++b::tl):=by show _=_;rw[HH.out,qs8 hk,HXM.out,HB.out];simp
  have ha:=HXM.out▸HA.out;have HK:Hid (16≤uk):=by show _≤_;omega
  go_wp2_with fail
  cases gk with
  |zero =>
   have h1:=HG.out;have h2:=HK.out;simp at h1;omega
  |succ g =>
   go_roundg g
   case measure=>omega
   case rel =>
    refine⟨uk / 16,j,b::tl,by go_num,by go_num,?_,HE.out,?_,?_,HX.out.set HI.out b⟩
    ·show _=_;have:=HI.out;simp;omega
    ·show _<_;have h1:=HG.out;rw[Nat.div_lt_iff_lt_mul (by omega)];rw[Nat.pow_succ] at h1;exact h1
    show _≤_;have:=HL.out;simp;omega
theorem qxC (u:Nat)(hu:u<18446744073709551616)(W:World)(hz:W.cell? ⟨8,15,none⟩=some (.int .u8 4)):Calls prog 253 #[.int .u64 u,.int .i64 16] W fun e W'=>e=.returned (.string ⟨(hxL u).toArray⟩)∧Below W.heap.size W W':=by
 have c:=qvf u hu W hz;go_enter func253,ntmps253
 go_wp2_with (first|(go_at_call 244;refine c.mono ?_;rintro e w2 ⟨rfl,hB⟩))
 go_ret;exact⟨rfl,hB⟩
theorem qwW (u:Nat)(hu:u<18446744073709551616)(W:World)(hz:W.cell? ⟨8,15,none⟩=some (.int .u8 4)):Calls prog 239 #[.int .u64 u,.int .i64 16] W fun e W'=>e=.returned (.string ⟨(hxL u).toArray⟩)∧Below W.heap.size W W':=by
 have c:=qxC u hu W hz;go_enter func239,ntmps239
 go_wp2_with (first|(go_at_call 253;refine c.mono ?_;rintro e w2 ⟨rfl,hB⟩))
 go_ret;exact⟨rfl,hB⟩
def qt4 (u:Nat):List UInt8:=List.replicate (16-(hxL u).length) 48++hxL u
theorem qq2 (u:Nat)(hu:u<18446744073709551616):(qt4 u).length=16:=by
 have:=qkD 15 u hu;simp[qt4];omega
theorem qxl (n:Nat):repeatL [48] n=List.replicate n 48:=by
 induction n with
 |zero=>rfl
 |succ n ih=>simp[repeatL,List.replicate_succ] at ih ⊢;exact ih
theorem qt1 (a b:List UInt8):(⟨a.toArray⟩:ByteArray)++⟨b.toArray⟩=⟨(a++b).toArray⟩:=by
 apply ByteArray.ext;simp
theorem qm3 (u:Nat)(hu:u<18446744073709551616)(W:World)(hz:W.cell? ⟨8,15,none⟩=some (.int .u8 4)):Calls prog 222 #[.int .u64 u] W fun e W'=>e=.returned (.string ⟨(qt4 u).toArray⟩)∧Below W.heap.size W W':=by
 have c:=qwW u hu W hz;have hl:=qkD 15 u hu;obtain⟨l,HL⟩:∃l,Hid (hxL u=l):=⟨_,rfl⟩
 rw[HL.out] at c hl;obtain⟨n,HN⟩:∃n,Hid (16-l.length=n):=⟨_,rfl⟩
 have HN2:Hid (l.length+n=16):=by show _=_;have:=HN.out;omega
 obtain⟨r,HR⟩:∃r,Hid (repeatL [48] n=r):=⟨_,rfl⟩
 have HR2:=qaa ((qxl n).symm.trans HR.out);have cR:∀V:World,Calls prog 240 #[.string ⟨#[48]⟩,.int .i64 n] V fun e w'=>e=.returned (.string ⟨r.toArray⟩)∧Below V.heap.size V w':=fun V=>HR.out▸Tryz.strings_Repeat ⟨#[48]⟩ n V (by have:=HN2.out;omega) (by have:=HN2.out;show 1*n≤_;omega);have hno:¬9223372036854775807<r.length+l.length:=by
  have h1:=HN2.out;have h2:r.length=n:=by rw[←HR2.out];simp
  omega
 have hsz:(16:Int)-l.length=n:=by have:=HN2.out;omega
 go_enter func222,ntmps222
 go_wp2_with (first
  |(go_at_call 239;refine c.mono ?_;rintro e w2 ⟨rfl,hB⟩)
  |(go_at_call 240;refine(cR _).mono ?_;rintro e w3 ⟨rfl,hB2⟩))
 go_ret;refine⟨?_,hB.trans (hB2.mono hB.size)⟩;rw[qt1,←HR2.out,←HN.out,←HL.out];rfl
def kyB (key:Int)(i:Nat):Nat:=(key / 2^(8*i)%256).toNat
theorem qw4 (key:Int)(i:Nat):kyB key i<256:=by unfold kyB;omega
def kyS (key:Int):Nat→Nat
 |0=>14695981039346656037
 |k+1=>wmF (kyS key k) (kyB key k)
theorem qs6 (key:Int):∀k,kyS key k<18446744073709551616
 |0=>by show 14695981039346656037<_;omega
 |k+1=>qkj _ _
def quX (s:Nat):List UInt8→Nat
 |[]=>s
 |b::t=>quX (wmF s b.toNat) t
theorem qoH:∀(l:List UInt8) (s:Nat),s<18446744073709551616→quX s l<18446744073709551616
 |[],_,h=>h
 |_::t,_,_=>qoH t _ (qkj _ _)
def qs5 (key:Int)(label:Nat)(l:List UInt8):List UInt8:=qt4 (quX (wmF (kyS key 8) label) l)
theorem qc8 {base:Nat}(h:Own W base v bs):∃ia cap,v=.slice ia bs.length cap∧qa4 W ia bs:=by
 have h':=h;obtain⟨⟨h1,h2⟩,_,_⟩:=h;rcases h2 with ⟨rfl,h2⟩|⟨g,cap,cur,rfl,_,hg,h5,h6,_⟩
 ·refine⟨none,0,by rw[h2],⟨fun i hi=>by omega,by omega⟩⟩
 have hc:=qcB h';refine⟨_,cap,rfl,⟨fun i hi=>⟨g,0,rfl,(ltA hg),by rw[Nat.zero_add];exact hc.2 i hi⟩,by omega⟩⟩
theorem qrx (key:Int)(k:Nat)(W:World):Calls prog 221 #[.int .u64 (kyS key k),.int .u8 (key / 2^(8*k)%256)] W fun e W'=>e=.returned (.int .u64 (kyS key (k+1)))∧W'=W:=by
 have h:=qi5 (kyS key k) (kyB key k) (qs6 key k) (qw4 key k) W;have e:((kyB key k:Nat):Int)=key / 2^(8*k)%256:=by unfold kyB;omega
 rw[e] at h;exact h
theorem qoN (key:Int)(label:Nat)(hlb:label<256)(k:Nat)(W:World)(F:Nat→Prop)(x:Value)(d:DataW Unit)(hF:∀j,F j→j<W.heap.size)(h:qai k W F x d)(hl:(qaU k d).length≤999999999)(hz:W.cell? ⟨8,15,none⟩=some (.int .u8 4)):Calls prog 190 #[.int .i64 key,.int .i64 label,x] W fun e W'=>e=.returned (.string ⟨(qs5 key label (qaU k d)).toArray⟩)∧Below W.heap.size W W':=by
 have hg:8<W.heap.size:=by
  by_cases h:8<W.heap.size
  ·exact h
  simp[World.cell?,h] at hz
 have cK:=fun k V=>qrx key k V;have cL:=fun V=>qi5 (kyS key 8) label (qs6 key 8) hlb V;have cC0:=qej k W F x d hF h hl;have cD:∀V u,Below W.heap.size W V→u<18446744073709551616→Calls prog 222 #[.int .u64 (u:Nat)] V fun e W'=>e=.returned (.string ⟨(qt4 u).toArray⟩)∧Below V.heap.size V W':=fun V u hV hu=>qm3 u hu V ((hV.cell hg).trans hz);obtain⟨t,y,rfl⟩:=h.iface;obtain⟨bs,HBS⟩:∃bs,Hid (qaU k d=bs):=⟨_,rfl⟩
 rw[HBS.out] at cC0 hl ⊢;have cC:Calls prog 67 #[.int .i64 2,.iface t y] W fun e W'=>∃ia cap,e=.returned (.slice ia bs.length cap)∧Hid (qa4 W' ia bs)∧Below W.heap.size W W':=cC0.mono (by
  rintro e w' ⟨v,rfl,ho,hB⟩;obtain⟨ia,cap,rfl,hb⟩:=qc8 ho;exact⟨ia,cap,rfl,hb,hB⟩)
 obtain⟨S,HS⟩:∃S,Hid (quX (wmF (kyS key 8) label) bs=S):=⟨_,rfl⟩
 have HT:Hid (qs5 key label bs=qt4 S):=by show qt4 _=_;rw[HS.out]
 have HL:Hid (wmF (kyS key 8) label<18446744073709551616):=qkj _ _;rw[HT.out];go_enter func190,ntmps190
 go_wp2_with fail
 go_loopg [7,11] 8 (fun g x y wr=>∃(k:Nat),Hid (k+g=8)∧x=.int .u64 (kyS key k)∧y=.int .i64 k∧W=wr)
 case atStart =>
  exact⟨0,rfl,rfl,rfl,rfl⟩
 case round =>
  obtain⟨k,HK,rfl,rfl,rfl⟩:=hrel
  cases gk with
  |zero =>
   have hk8:k=8:=by have:=HK.out;omega
   subst hk8
   go_wp2_with (first
    |(go_at_call 221;refine(cL _).mono ?_;rintro e w2 ⟨rfl,rfl⟩)
    |(go_at_call 67;refine cC.mono ?_;rintro e w3 ⟨ia,cap,rfl,HB,hB3⟩))
   go_loopg [7,29] bs.length (fun g x y wr=>∃(k s:Nat),Hid (k+g=bs.length)∧x=.int .u64 s∧y=.int .i64 k∧Hid (quX s (bs.drop k)=S)∧Hid (s<18446744073709551616)∧w3=wr)
   case atStart=>exact⟨0,_,(by show _=_;omega),rfl,rfl,HS,HL,rfl⟩
   case round =>
    obtain⟨k,s,HK,rfl,rfl,HS,HL,rfl⟩:=hrel
    cases gk with
    |zero =>
     have hk:¬(k:Int)<bs.length:=by have:=HK.out;omega
     have hs:s=S:=by
      have:=HS.out;rw[List.drop_of_length_le (by have:=HK.out;omega)] at this;exact this
     subst hs;have c:=cD _ s hB3 HL.out
     go_wp2_with (first
      |(go_at_call 222;refine c.mono ?_;rintro e w5 ⟨rfl,hB5⟩))
     go_ret;exact⟨rfl,hB3.trans (hB5.mono hB3.size)⟩
    |succ g =>
     have hkn:k<bs.length:=by have:=HK.out;omega
     have hk:(k:Int)<bs.length:=by omega
     obtain⟨b0,off,e1,e2,e3⟩:=HB.out.at_ k hkn;subst e1;have hr:=HS.out;rw[List.drop_eq_getElem_cons hkn] at hr;obtain⟨c,hc⟩:∃c,bs[k]=c:=⟨_,rfl⟩
     rw[hc] at e3 hr;have cW:=fun V=>qi5 s c.toNat HL.out (UInt8.toNat_lt c) V;have HN:Hid (quX (wmF s c.toNat) (bs.drop (k+1))=S):=hr
     go_wp2_with (first
      |(go_at_call 221;refine(cW _).mono ?_;rintro e w5 ⟨rfl,rfl⟩))
     go_roundg g
     case measure=>omega
     case rel=>exact⟨k+1,_,(by show _=_;have:=HK.out;omega),rfl,by go_num,HN,qkj _ _,rfl⟩
  |succ g =>
   have hk8:k<8:=by have:=HK.out;omega
   have hlt:(k:Int)<8:=by omega
   have c:=cK k
   go_wp2_with (first
    |(go_at_call 221;refine(c _).mono ?_;rintro e w2 ⟨rfl,rfl⟩))
   go_roundg g
   case measure=>omega
   case rel=>exact⟨k+1,(by show _=_;have:=HK.out;omega),rfl,by go_num,rfl⟩
end
section
open Go.RowKit
theorem Own.mono {b b':Nat}(h:Own W b v bs)(hb:b'≤b):Own W b' v bs:=by
 obtain⟨⟨h1,h2⟩,h3,h4⟩:=h;refine⟨⟨h1,?_⟩,by omega,h4⟩;rcases h2 with h2|⟨g,cap,cur,e,hg,h5⟩
 ·exact .inl h2
 exact .inr ⟨g,cap,cur,e,by omega,h5⟩
theorem qo4 (V:World)(fout:Int)(t:TypeId)(y:Value)(ys:List UInt8)(hf:(fout==1)=false)(cW:Calls prog 67 #[.int .i64 fout,.iface t y] V fun e V'=>∃v',e=.returned v'∧Own V' V.heap.size v' ys∧Below V.heap.size V V'):Calls prog 42 #[.int .i64 fout,.iface t y] V fun e V'=>∃v',e=.returned (.tuple #[v',.int .i64 0])∧Own V' V.heap.size v' ys∧Below V.heap.size V V':=by
 go_enter func42,ntmps42
 go_wp2_with (first
  |(go_at_call 67;refine cW.mono ?_;rintro e w5 ⟨v5,rfl,h5,hB5⟩;obtain⟨h51,h52,a5,n5,k5,rfl⟩:=h5))
 go_ret2
 exact⟨_,rfl,⟨h51,h52,_,_,_,rfl⟩,hB5⟩
theorem qm4 (V:World)(t:TypeId)(y:Value)(ys:List UInt8)(cH:Calls prog 66 #[.iface t y] V fun e W'=>e=.returned (.bool false)∧Below V.heap.size V W')(cW:∀U,Below V.heap.size V U→Calls prog 67 #[.int .i64 1,.iface t y] U fun e V'=>∃v',e=.returned v'∧Own V' V.heap.size v' ys∧Below V.heap.size U V'):Calls prog 42 #[.int .i64 1,.iface t y] V fun e V'=>∃v',e=.returned (.tuple #[v',.int .i64 0])∧Own V' V.heap.size v' ys∧Below V.heap.size V V':=by
 go_enter func42,ntmps42
 go_wp2_with (first
  |(go_at_call 66;refine cH.mono ?_;rintro e w4 ⟨rfl,hB4⟩;have cW2:=cW w4 hB4)
  |(go_at_call 67;refine cW2.mono ?_;rintro e w5 ⟨v5,rfl,h5,hB5⟩;obtain⟨h51,h52,a5,n5,k5,rfl⟩:=h5))
 go_ret2
 exact⟨_,rfl,⟨h51,h52,_,_,_,rfl⟩,hB4.trans hB5⟩
theorem qmH (V:World)(t:TypeId)(y:Value)(cH:Calls prog 66 #[.iface t y] V fun e W'=>e=.returned (.bool true)∧Below V.heap.size V W'):Calls prog 42 #[.int .i64 1,.iface t y] V fun e V'=>e=.returned (.tuple #[.slice none 0 0,.int .i64 13])∧Below V.heap.size V V':=by
 go_enter func42,ntmps42
 go_wp2_with (first
  |(go_at_call 66;refine cH.mono ?_;rintro e w4 ⟨rfl,hB4⟩))
 go_ret2
 exact⟨rfl,hB4⟩
end
end Go.Proofs.YtllcbnfmihfaaaaGreatDoor
