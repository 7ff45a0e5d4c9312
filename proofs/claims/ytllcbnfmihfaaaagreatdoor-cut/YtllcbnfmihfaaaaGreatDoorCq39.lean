import Derived.Test.YtllcbnfmihfaaaaGreatDoorCq38
import Derived.Test.YtllcbnfmihfaaaaGreatDoorCq27
set_option maxRecDepth 100000
set_option maxHeartbeats 8000000
namespace Go.Proofs.YtllcbnfmihfaaaaGreatDoor
open Go.Proofs.Tryz
section
open Go.RowKit Go.Shelf
def qxz (c:Cfg)(A:Array Value)(w':World):Prop:=A.size=38∧A.all (·.oneCell')=true∧(qhk c=0→qbx c.labels c.L=true∧∃a k cap,A=qbZ (qan c.labels.toNat (qcF c.labels.toNat c.L)) a k cap∧∃lo',PrB w' lo' (.slice a k cap) ((qcA c.pol.data.toList).map enS))
theorem qlB (c:Cfg)(w':World)(h:¬qhk c=0):qxz c qcG w':=⟨qbc,qd2,fun e=>absurd e h⟩
def qw7 (c:Cfg)(w:World)(e:Ending)(w':World):Prop:=∃A,e=.returned (.tuple #[.agg A,.int .i64 (qhk c),.int .i64 (qnn c)])∧qxz c A w'∧Below w.heap.size w w'
def qxx (n:Nat)(s:ByteArray):Int:=qez n s.data.toList
def PoK (n:Nat)(s:ByteArray)(w:World)(a:Option Addr)(m cap:Nat)(w':World):Prop:=qxx n s=0→PrB w' w.heap.size (.slice a m cap) ((qcA s.data.toList).map enS)
theorem qmR (s:ByteArray)(n:Nat)(w:World)(hgl:qlZ w):Calls prog 83 #[.string s,.int .i64 n] w fun e w'=>∃a m cap,e=.returned (.tuple #[.slice a m cap,.int .i64 (qez n s.data.toList),.int .i64 (qka n s.data.toList)])∧Below w.heap.size w w'∧PoK n s w a m cap w':=by
 refine(qkL s n w hgl).mono ?_;rintro e w' ⟨a,m,cap,h1,h2,h3⟩;exact⟨a,m,cap,h1,h2,h3⟩
theorem qkO (c:Cfg)(w:World)(hc:ql7 w c)(hg:qlZ w):Calls prog 48 #[.agg c.arr] w (qw7 c w):=by
 have HC:=qaa hc;have HG:=qaa hg;have HS:=qaa c.size;have HX:=qaa (qsL w c);have hL:c.L.length≤maxLen:=by have:=hc.eb;unfold maxLen;omega
 have hB8:c.B.length≤maxLen:=by have:=hc.bb;unfold maxLen;omega
 have cO:Calls prog 81 #[.agg c.arr] ((w.alloc (.cells c.arr 45)).alloc (.cells qcG 110)) fun e w'=>e=.returned (.tuple #[.agg (roA c.labels c.L c.dflt c.clr),.int .i64 (roE c.labels c.L c.dflt c.clr)])∧Below ((w.alloc (.cells c.arr 45)).alloc (.cells qcG 110)).heap.size ((w.alloc (.cells c.arr 45)).alloc (.cells qcG 110)) w' :=
  qiE c.arr c.labels c.L c.ea c.ecap c.dflt c.clr rfl rfl rfl rfl hL _ (hc.edges.below HX.out.below)
 have hO1:(roA c.labels c.L c.dflt c.clr).size=37:=by unfold roA;split<;>exact qae _ _
 have hO2:(roA c.labels c.L c.dflt c.clr).all (·.oneCell')=true:=by unfold roA;split<;>exact qa5 _ _
 have HO1:=qaa hO1;have HO2:=qaa hO2;have HZO:Hid (qaB.size=(roA c.labels c.L c.dflt c.clr).size):=by show _=_;rw[hO1];exact qae _ _
 have HRO:Hid (roE c.labels c.L c.dflt c.clr=0→qbx c.labels c.L=true∧roA c.labels c.L c.dflt c.clr=qan c.labels.toNat (qcF c.labels.toNat c.L)):=qv7;have HNZ:Hid (¬roE c.labels c.L c.dflt c.clr=0→qhk c=roE c.labels c.L c.dflt c.clr∧qnn c=0):=qxs;have HPE:Hid (roE c.labels c.L c.dflt c.clr=0→qhk c=(if qf4 c.inn c.out c.depth c.bytes=false then 4 else if qaG c.B=false then 5 else qez c.labels.toNat c.pol.data.toList)∧qnn c=(if qf4 c.inn c.out c.depth c.bytes=false then 0 else if qaG c.B=false then 0 else qka c.labels.toNat c.pol.data.toList)):=fun h=>by
  refine⟨?_,?_⟩
  ·unfold qhk;rw[if_neg (fun hh=>hh h)]
  unfold qnn;rw[if_neg (fun hh=>hh h)]
 clear hO1 hO2 hc hg;generalize roA c.labels c.L c.dflt c.clr=O at *;generalize roE c.labels c.L c.dflt c.clr=E0 at *;go_enter func48,ntmps48
 go_wp2_with (first
  |(refine qch rfl rfl _ rfl (w.heap.size+1) ?hN ?_;case hN=>(simp only[World.size_alloc];done))
  |(refine wpList_load_row rfl 45 _ rfl _ rfl _ _ _ _ HX.out.box underlying45 rfl (qaV HS.out) ?_)
  |fail)
 refine cO.mono ?_;clear cO;rintro e w2 ⟨rfl,hB2⟩;have HX2:=qaa (HX.out.step hB2);clear hB2 HX;have HX3:Hid (qsZ w c (w2.alloc (.cells O 107))):=HX2.out.step bwA;have HOR:Hid ((w2.alloc (.cells O 107)).heap[w2.heap.size]? = some (.cells O 107)):=qac _ _;by_cases hE:E0=0
 ·subst hE;obtain⟨hok,hOe⟩:=HRO.out rfl;obtain⟨hp1,hp2⟩:=HPE.out rfl;have HOE:=qaa hOe;have HOK:=qaa hok;have h6:(w2.alloc (.cells O 107)).cell? ⟨w.heap.size,6,none⟩=some (.int .i64 c.inn):=HX3.out.cell 6;have h7:(w2.alloc (.cells O 107)).cell? ⟨w.heap.size,7,none⟩=some (.int .i64 c.out):=HX3.out.cell 7;have h8:(w2.alloc (.cells O 107)).cell? ⟨w.heap.size,8,none⟩=some (.int .i64 c.depth):=HX3.out.cell 8;have h9:(w2.alloc (.cells O 107)).cell? ⟨w.heap.size,9,none⟩=some (.int .i64 c.bytes):=HX3.out.cell 9;have h10:(w2.alloc (.cells O 107)).cell? ⟨w.heap.size,10,none⟩=some (.slice c.ba c.B.length c.bcap):=HX3.out.cell 10;have h3:(w2.alloc (.cells O 107)).cell? ⟨w.heap.size,3,none⟩=some (.string c.pol):=HX3.out.cell 3;have h0:(w2.alloc (.cells O 107)).cell? ⟨w.heap.size,0,none⟩=some (.int .i64 c.labels):=HX3.out.cell 0;have cLm:=fun W=>qjH c.inn c.out c.depth c.bytes W;clear HRO HPE HNZ hOe hok;cases e1:qf4 c.inn c.out c.depth c.bytes
  ·have HP1:Hid (qhk c=4):=by show _=_;rw[hp1,e1];rfl
   have HP2:Hid (qnn c=0):=by show _=_;rw[hp2,e1];rfl
   have HNE:Hid (¬qhk c=0):=by show ¬_;rw[HP1.out];decide
   rw[e1] at cLm;clear hp1 hp2 e1
   go_wp2_with (first
    |(go_at_call 38;refine(cLm _).mono ?_;rintro e w3 ⟨rfl,rfl⟩)
    |(refine qas rfl rfl _ rfl w2.heap.size rfl ?_)
    |(refine wpList_store_row rfl 107 _ _ rfl w2.heap.size O rfl rfl 107 qaB (qac w2 _) (qar HO1.out) HZO.out HO2.out ?_;rw[World.setRow_alloc_new])
    |(refine qak rfl 110 _ rfl _ rfl _ [] ?hl qdx ?_;case hl=>simp)
    |(refine wpList_store_row rfl 110 _ _ rfl (w.heap.size+1) qcG rfl rfl 110 qcG HX3.out.res (qbk qbc) rfl qd2 ?_))
   refine bodyPost_ret (qba results48 _ _ (w.heap.size+1) 110 qcG (0,0) _ rfl (setRow_heap _ _ qcG _ _ _ HX3.out.res) underlying110 rfl (qbk qbc) (.int .i64 4) (.int .i64 0) rfl rfl) rfl ⟨qcG,by rw[HP1.out,HP2.out],qlB c _ HNE.out,qah HX3.out.below (by omega) _⟩
  rw[e1] at cLm;have hBk:=qhL c.ba c.bcap c.B hB8 (w2.alloc (.cells O 107)) (HC.out.ints.below HX3.out.below);cases e2:qaG c.B
  ·have HP1:Hid (qhk c=5):=by show _=_;rw[hp1,e1,e2];rfl
   have HP2:Hid (qnn c=0):=by show _=_;rw[hp2,e1,e2];rfl
   have HNE:Hid (¬qhk c=0):=by show ¬_;rw[HP1.out];decide
   rw[e2] at hBk;clear hp1 hp2 e1 e2
   go_wp2_with (first
    |(go_at_call 38;refine(cLm _).mono ?_;rintro e w3 ⟨rfl,rfl⟩)
    |(go_at_call 82;refine hBk.mono ?_;rintro e w3 ⟨rfl,rfl⟩)
    |(refine qas rfl rfl _ rfl w2.heap.size rfl ?_)
    |(refine wpList_store_row rfl 107 _ _ rfl w2.heap.size O rfl rfl 107 qaB (qac w2 _) (qar HO1.out) HZO.out HO2.out ?_;rw[World.setRow_alloc_new])
    |(refine qak rfl 110 _ rfl _ rfl _ [] ?hl qdx ?_;case hl=>simp)
    |(refine wpList_store_row rfl 110 _ _ rfl (w.heap.size+1) qcG rfl rfl 110 qcG HX3.out.res (qbk qbc) rfl qd2 ?_))
   refine bodyPost_ret (qba results48 _ _ (w.heap.size+1) 110 qcG (0,0) _ rfl (setRow_heap _ _ qcG _ _ _ HX3.out.res) underlying110 rfl (qbk qbc) (.int .i64 5) (.int .i64 0) rfl rfl) rfl ⟨qcG,by rw[HP1.out,HP2.out],qlB c _ HNE.out,qah HX3.out.below (by omega) _⟩
  rw[e2] at hBk;have cR:=qmR c.pol c.labels.toNat (w2.alloc (.cells O 107)) (HG.out.below HX3.out.below);rw[(qdO HOK.out).1] at cR;have HP1:Hid (qhk c=qez c.labels.toNat c.pol.data.toList):=by show _=_;rw[hp1,e1,e2];rfl
  have HP2:Hid (qnn c=qka c.labels.toNat c.pol.data.toList):=by show _=_;rw[hp2,e1,e2];rfl
  have HN0:Hid (qez c.labels.toNat c.pol.data.toList=0→qka c.labels.toNat c.pol.data.toList=0):=fun h=>by
   unfold qez at h;unfold qka;split at h
   ·cases h
   next hh=>rw[if_neg hh]
  have HEQ:Hid (qxx c.labels.toNat c.pol=qez c.labels.toNat c.pol.data.toList):=rfl;generalize qez c.labels.toNat c.pol.data.toList=E1 at *;generalize qka c.labels.toNat c.pol.data.toList=N1 at *;by_cases hE1:E1=0
  ·subst hE1;have hN0:=HN0.out rfl;subst hN0;have HBS:Hid (∀pa pm pc,prog.built 110 [(0,.agg O),(1,.slice pa pm pc)]=some (qbZ O pa pm pc)):=fun pa pm pc=>by rw[HOE.out];exact qoc _ _ _ _ _
   have HZS:Hid (∀pa pm pc,qcG.size=(qbZ O pa pm pc).size):=fun pa pm pc=>by rw[qcd HO1.out];exact qbc
   have hlt2:w2.heap.size<(w2.alloc (.cells O 107)).heap.size:=by simp
   go_wp2_with (first
    |(go_at_call 38;refine(cLm _).mono ?_;rintro e w3 ⟨rfl,rfl⟩)
    |(go_at_call 82;refine hBk.mono ?_;rintro e w3 ⟨rfl,rfl⟩)
    |(go_at_call 83;refine cR.mono ?_;rintro e w4 ⟨pa,pm,pc,rfl,hB4,hP4⟩;have HP4:=qaa hP4;have HX4:=qaa (HX3.out.step hB4);have HOR4:=qaa ((hB4.block _ hlt2).trans HOR.out))
    |(refine wpList_load_row rfl 107 _ rfl _ rfl _ _ _ _ HOR4.out underlying107 rfl (qar HO1.out) ?_)
    |(refine qak rfl 110 _ rfl _ rfl _ [(0,.agg O),(1,.slice pa pm pc)] ?hl (HBS.out pa pm pc) ?_;case hl=>simp[go_sem])
    |(refine wpList_store_row rfl 110 _ _ rfl (w.heap.size+1) (qbZ O pa pm pc) rfl rfl 110 qcG HX4.out.res (qbk (qcd HO1.out _ _ _)) (HZS.out _ _ _) (qeG HO2.out _ _ _) ?_)
    |(refine qas rfl rfl _ rfl w2.heap.size rfl ?_)
    |(refine wpList_store_row rfl 107 _ _ rfl w2.heap.size O rfl rfl 107 qaB (qac w2 _) (qar HO1.out) HZO.out HO2.out ?_;rw[World.setRow_alloc_new]))
   refine bodyPost_ret (qba results48 _ _ (w.heap.size+1) 110 (qbZ O pa pm pc) (0,0) _ rfl (setRow_heap _ _ qcG _ _ _ HX4.out.res) underlying110 rfl (qbk (qcd HO1.out _ _ _)) (.int .i64 0) (.int .i64 0) rfl rfl) rfl ⟨qbZ O pa pm pc,by rw[HP1.out,HP2.out],?_,qah HX4.out.below (by omega) _⟩;refine⟨qcd HO1.out _ _ _,qeG HO2.out _ _ _,fun _=>⟨HOK.out,pa,pm,pc,by rw[HOE.out],?_⟩⟩;have hq:=HP4.out HEQ.out;have hlo:=ltA HX2.out.res;exact⟨_,hq.kept fun b h1 _=>setRow_other _ (w.heap.size+1) b _ (by rw[World.size_alloc] at h1;omega)⟩
  have HNE:Hid (¬qhk c=0):=by show ¬_;rw[HP1.out];exact hE1
  go_wp2_with (first
   |(go_at_call 38;refine(cLm _).mono ?_;rintro e w3 ⟨rfl,rfl⟩)
   |(go_at_call 82;refine hBk.mono ?_;rintro e w3 ⟨rfl,rfl⟩)
   |(go_at_call 83;refine cR.mono ?_;rintro e w4 ⟨pa,pm,pc,rfl,hB4,hP4⟩;have HX4:=qaa (HX3.out.step hB4))
   |(refine wpList_store_row rfl 110 _ _ rfl (w.heap.size+1) qcG rfl rfl 110 qcG HX4.out.res (qbk qbc) rfl qd2 ?_)
   |(refine qas rfl rfl _ rfl w2.heap.size rfl ?_)
   |(refine wpList_store_row rfl 107 _ _ rfl w2.heap.size O rfl rfl 107 qaB (qac w2 _) (qar HO1.out) HZO.out HO2.out ?_;rw[World.setRow_alloc_new])
   |(refine qak rfl 110 _ rfl _ rfl _ [] ?hl qdx ?_;case hl=>simp)
   |(refine wpList_store_row rfl 110 _ _ rfl (w.heap.size+1) qcG rfl rfl 110 qcG HX3.out.res (qbk qbc) rfl qd2 ?_))
  refine bodyPost_ret (qba results48 _ _ (w.heap.size+1) 110 qcG (0,0) _ rfl (setRow_heap _ _ qcG _ _ _ HX4.out.res) underlying110 rfl (qbk qbc) (.int .i64 E1) (.int .i64 N1) rfl rfl) rfl ⟨qcG,by rw[HP1.out,HP2.out],qlB c _ HNE.out,qah HX4.out.below (by omega) _⟩
 obtain⟨hp1,hp2⟩:=HNZ.out hE;have HP1:=qaa hp1;have HP2:=qaa hp2;have HNE:Hid (¬qhk c=0):=by show ¬_;rw[hp1];exact hE
 go_wp2_with (first
  |(refine qas rfl rfl _ rfl w2.heap.size rfl ?_)
  |(refine wpList_store_row rfl 107 _ _ rfl w2.heap.size O rfl rfl 107 qaB (qac w2 _) (qar HO1.out) HZO.out HO2.out ?_;rw[World.setRow_alloc_new])
  |(refine qak rfl 110 _ rfl _ rfl _ [] ?hl qdx ?_;case hl=>simp)
  |(refine wpList_store_row rfl 110 _ _ rfl (w.heap.size+1) qcG rfl rfl 110 qcG HX3.out.res (qbk qbc) rfl qd2 ?_))
 refine bodyPost_ret (qba results48 _ _ (w.heap.size+1) 110 qcG (0,0) _ rfl (setRow_heap _ _ qcG _ _ _ HX3.out.res) underlying110 rfl (qbk qbc) (.int .i64 E0) (.int .i64 0) rfl rfl) rfl ⟨qcG,by rw[HP1.out,HP2.out],qlB c _ HNE.out,qah HX3.out.below (by omega) _⟩
end
section
open Go.RowKit Go.Lib
theorem qnf (g:Nat)(l:List UInt8)(hl:l≠[]):qd5 (g+1) l=qmw (decodeL l).1++qd5 g (l.drop (decodeL l).2):=by
 cases l with
 |nil=>exact absurd rfl hl
 |cons b t=>rfl
theorem qil (W:World)(base:Nat)(v:Value)(s:ByteArray)(bs:List UInt8)(hl:bs.length+(jsT s.data.toList).length≤999999999)(h:Own W base v bs):Calls prog 160 #[v,.string s] W fun e W'=>∃v',e=.returned v'∧Own W' base v' (bs++jsT s.data.toList)∧Below base W W'∧KpU W W':=by
 obtain⟨i0,hi,hz0,hz1,hz2⟩:=info_parts Tryz.infoU8;obtain⟨a,n,c,rfl⟩:=h.2.2;have HO:=qaa h;have hll:s.data.toList.length=s.size:=Array.length_toList;have HJ:Hid (bs.length+2+(qd5 s.size s.data.toList).length≤999999999∧jsT s.data.toList=[34]++qd5 s.size s.data.toList++[34]):=by
  unfold jsT at hl;rw[hll] at hl;refine⟨by simp only[List.length_append,List.length_cons,List.length_nil] at hl;omega,?_⟩;unfold jsT;rw[hll]
 have hbs:bs.length≤999999999:=by omega
 go_enter func160,ntmps160
 go_wp2_with (first
  |(at_builtin;refine wpList_append_own _ rfl _ _ 28 rfl base 5 i0 (.int .u8 0) 1 1 underlying28 hi hz0 hz1 hz2 rfl (by decide) _ _ _ rfl (HO.out.1.alloc _) ⟨W.heap.size,0,none⟩ 1 1 [.int .u8 34] rfl rfl (qag _ _ _) (fun u hu=>by simp at hu;subst hu;rfl) (by unfold maxLen;omega) (by omega) (by simp;have:=HO.out.2.1;omega) ?_;intro v' w2 hown' hgrow' hnil';obtain⟨gw2,capw2,rfl⟩:=ownsRow_succ hown';have HB2:=qaa (qaz ((Below.refl _ _).alloc HO.out.2.1 _) (HO.out.1.alloc _) hgrow' (by simp;have:=HO.out.2.1;omega));have HO2:Hid (Own w2 base (.slice (some ⟨gw2,0,none⟩) _ capw2) (bs++[34])):=⟨qbG hown' rfl,Nat.le_trans HO.out.2.1 HB2.out.size,_,_,_,rfl⟩;have HKP:=qaa ((qed W _).trans (qek (HO.out.1.alloc _) hgrow'))))
 have HT:Hid (qgU base W w2.heap.size s 0 (.slice (some ⟨gw2,0,none⟩) (bs.length+1) capw2) (bs++[34]) (w2.iter s 0)):=by
  refine⟨qgt HO2.out bwA,World.iter_heap _ _ _,HB2.out.alloc HO2.out.2.1 _,HO2.out.2.1,HKP.out.trans (qed _ _)⟩
 generalize w2.iter s 0=W0 at *;generalize w2.heap.size=N at *
 go_loopg [0] s.size (fun g y wr=>∃(i:Nat) (a3:Option Addr) (n3 c3:Nat) (cur:List UInt8),y=.slice a3 n3 c3∧Hid (i≤s.size)∧Hid (s.size≤i+g)∧Hid (qgU base W N s i (.slice a3 n3 c3) cur wr)∧Hid ((bs++[34])++qd5 s.size s.data.toList=cur++qd5 g (s.data.toList.drop i)))
 case atStart=>exact⟨0,_,_,_,_,rfl,Nat.zero_le _,by show _≤_;omega,HT,by show _=_;rw[List.drop_zero]⟩
 case round =>
  obtain⟨i,a3,n3,c3,cur,rfl,his,hig,HT,HL⟩:=hrel;have HCL:Hid (cur.length≤999999998):=by
   have:=congrArg List.length HL.out;have h2:=HJ.out.1;simp only[List.length_append,List.length_cons,List.length_nil] at this;show _≤_;omega
  by_cases h1:i=s.size
  ·have HF:Hid ((bs++[34])++qd5 s.size s.data.toList=cur):=by
    have h:=HL.out;rw[h1,←hll,List.drop_length,qoY,List.append_nil] at h;rw[←hll];exact h
   have hnx:=fun ty=>qeb (P:=prog) wr N s i ty HT.out.it (by omega);have hcl:=HCL.out
   go_wp2_with (first
    |(at_builtin;refine wpList_append_own _ rfl _ _ 28 rfl base 5 i0 (.int .u8 0) 1 1 underlying28 hi hz0 hz1 hz2 rfl (by decide) _ _ _ rfl (HT.out.own.1.alloc _) ⟨wr.heap.size,0,none⟩ 1 1 [.int .u8 34] rfl rfl (qag _ _ _) (fun u hu=>by simp at hu;subst hu;rfl) (by unfold maxLen;omega) (by omega) (by simp;have:=HT.out.own.2.1;omega) ?_;intro v' w3 hown' hgrow' hnil';obtain⟨gw3,capw3,rfl⟩:=ownsRow_succ hown';have HT3:=qaa (HT.out.app (l:=[34]) hown' hgrow')))
   go_ret;have he:bs++jsT s.data.toList=cur++[34]:=by rw[HJ.out.2,←HF.out];simp
   rw[he];exact⟨_,rfl,HT3.out.own,HT3.out.below,HT3.out.kp⟩
  have hn:i<s.size:=by have:=his.out;omega
  obtain⟨g,rfl⟩:∃g,gk=g+1:=⟨gk-1,by have:=hig.out;omega⟩
  have hnx:=fun ty=>qgz (P:=prog) wr N s i ty HT.out.it hn;obtain⟨r,hr⟩:∃r,(Utf8.decode s i).1=r:=⟨_,rfl⟩
  obtain⟨k,hk⟩:∃k,(Utf8.decode s i).2=k:=⟨_,rfl⟩
  rw[hr,hk] at hnx;have hrle:r≤1114111:=by rw[←hr];exact Lib.rune_le s i
  have hde:=Lib.decodeL_drop s i;have hne:s.data.toList.drop i≠[]:=by
   intro h;have:=congrArg List.length h;rw[List.length_drop] at this;simp at this;omega
  have HC:Hid (qd5 (g+1) (s.data.toList.drop i)=qmw r++qd5 g (s.data.toList.drop (i+k))):=by
   show _=_;rw[qnf _ _ hne,hde];rw[show(Utf8.decode s i).1=r from hr,show(Utf8.decode s i).2=k from hk,List.drop_drop]
  have hk1:1≤k:=by have:=Lib.decodeL_width (s.data.toList.drop i);rw[hde,hk] at this;exact this
  have hkl:k≤s.size-i:=by
   have:=Lib.decodeL_le (s.data.toList.drop i) hne;rw[hde,hk,List.length_drop] at this;omega
  have HT2:Hid (qgU base W N s (i+k) (.slice a3 n3 c3) cur (wr.putObj N (.stringIter s (i+k)))):=HT.out.next _
  have HL2:Hid ((bs++[34])++qd5 s.size s.data.toList=(cur++qmw r)++qd5 g (s.data.toList.drop (i+k))):=by
   show _=_;rw[HL.out,HC.out,List.append_assoc]
  have HEL:Hid (cur.length+(qmw r).length≤999999998):=by
   have:=congrArg List.length HL2.out;have h2:=HJ.out.1;simp only[List.length_append,List.length_cons,List.length_nil] at this;show _≤_;omega
  generalize wr.putObj N (.stringIter s (i+k))=W2 at *;have hcl:=HCL.out;by_cases h34:r=34∨r=92
  ·rcases h34 with rfl|rfl
   ·have HE:Hid (qmw 34=[92,34]):=rfl;have hel:=HEL.out;have hcl:=HCL.out
    go_wp2_with (first
     |(at_builtin;refine wpList_append_own _ rfl _ _ 28 rfl base 5 i0 (.int .u8 0) 1 1 underlying28 hi hz0 hz1 hz2 rfl (by decide) _ _ _ rfl (HT2.out.own.1.alloc _) ⟨W2.heap.size,0,none⟩ 2 2 [.int .u8 92,.int .u8 34] rfl rfl (qag _ _ _) (fun u hu=>by simp at hu;rcases hu with rfl|rfl<;>rfl) (by unfold maxLen;omega) (by omega) (by simp;have:=HT2.out.own.2.1;omega) ?_;intro v' w3 hown' hgrow' hnil';obtain⟨gw3,capw3,rfl⟩:=ownsRow_succ hown';have HT3:Hid (qgU base W N s (i+k) (.slice (some ⟨gw3,0,none⟩) (cur.length+2) capw3) (cur++[92,34]) w3):=HT2.out.app (l:=[92,34]) hown' hgrow'))
    go_roundg g
    case measure=>omega
    case rel=>exact⟨i+k,_,_,_,_,rfl,by show _≤_;omega,by show _≤_;have:=hig.out;omega,HT3,by have h:=HL2.out;rw[HE.out] at h;exact h⟩
   have HE:Hid (qmw 92=[92,92]):=rfl;have hel:=HEL.out;have hcl:=HCL.out
   go_wp2_with (first
    |(at_builtin;refine wpList_append_own _ rfl _ _ 28 rfl base 5 i0 (.int .u8 0) 1 1 underlying28 hi hz0 hz1 hz2 rfl (by decide) _ _ _ rfl (HT2.out.own.1.alloc _) ⟨W2.heap.size,0,none⟩ 2 2 [.int .u8 92,.int .u8 92] rfl rfl (qag _ _ _) (fun u hu=>by simp at hu;rcases hu with rfl|rfl<;>rfl) (by unfold maxLen;omega) (by omega) (by simp;have:=HT2.out.own.2.1;omega) ?_;intro v' w3 hown' hgrow' hnil';obtain⟨gw3,capw3,rfl⟩:=ownsRow_succ hown';have HT3:Hid (qgU base W N s (i+k) (.slice (some ⟨gw3,0,none⟩) (cur.length+2) capw3) (cur++[92,92]) w3):=HT2.out.app (l:=[92,92]) hown' hgrow'))
   go_roundg g
   case measure=>omega
   case rel=>exact⟨i+k,_,_,_,_,rfl,by show _≤_;omega,by show _≤_;have:=hig.out;omega,HT3,by have h:=HL2.out;rw[HE.out] at h;exact h⟩
  have hb1:((r:Int)==34)=false:=by simp;omega
  have hb2:((r:Int)==92)=false:=by simp;omega
  by_cases h32:r<32
  ·have HE:Hid (qmw r=[92,117,48,48]++[qfU (r / 16),qfU (r%16)]):=by show _=_;unfold qmw;rw[if_neg h34,if_pos h32];rfl
   have h32':(r:Int)<32:=by omega
   have hsz:(⟨([92,117,48,48]:List UInt8).toArray⟩:ByteArray).size=4:=rfl
   go_wp2_with (first
    |(at_builtin;refine wpList_append_own_string _ rfl _ _ 28 9 rfl base 5 i0 underlying28 underlying9 hi hz0 hz1 hz2 _ _ _ rfl HT2.out.own.1 ⟨[92,117,48,48].toArray⟩ rfl (by rw[hsz];unfold maxLen;omega) (by rw[hsz];omega) HT2.out.own.2.1 ?_;intro v' w5 hown' hgrow5 hnil5;have HT3:=qaa (HT2.out.appS hown' hgrow5);obtain⟨a4,n4,c4,rfl⟩:=HT3.out.own.2.2))
   have hS:(fun _:World=>True) {w5 with drawn:=w5.drawn+1}:=trivial;have HT4:=qaa HT3.out.drew;have hc4:(cur++[92,117,48,48]).length=cur.length+4:=by simp
   have hel:cur.length+6≤999999998:=by have h:=HEL.out;rw[HE.out] at h;simpa using h
   refine wp_region_held (S:=fun _=>True) (by kernel_rfl) ?_;refine tkH 0 35 (.slice a4 n4 c4) rfl (by kernel_rfl) (fun _ _ _ h=>h) (fun Z hZ=>by kernel_rfl) hS ?_;refine tkH 1 36 (.int .i32 r) rfl (by kernel_rfl) (fun _ _ _ h=>h) (fun Z hZ=>by kernel_rfl) hS ?_;refine tkH 2 37 (.int .i32 ((r / 16:Nat):Int)) rfl (by kernel_rfl) (fun _ _ _ h=>h) (fun Z hZ => ?y2) hS ?_
   case y2=>(go_simp)
   refine tkH 3 38 (qav (qfU (r / 16))) rfl (by kernel_rfl) (fun _ _ _ h=>h) (fun Z hZ => ?y3) hS ?_
   case y3=>exact qlX 9 _ _ rfl rfl (by kernel_rfl) (qs3 (r / 16) (by omega) Z)
   refine tkH 4 39 (.int .i32 r) rfl (by kernel_rfl) (fun _ _ _ h=>h) (fun Z hZ=>by kernel_rfl) hS ?_;refine tkH 5 40 (.int .i32 ((r%16:Nat):Int)) rfl (by kernel_rfl) (fun _ _ _ h=>h) (fun Z hZ => ?y5) hS ?_
   case y5=>(have z2:=qu2 r h32;go_simp)
   refine tkH 6 41 (qav (qfU (r%16))) rfl (by kernel_rfl) (fun _ _ _ h=>h) (fun Z hZ => ?y6) hS ?_
   case y6=>exact qlX 9 _ _ rfl rfl (by kernel_rfl) (qs3 (r%16) (by omega) Z)
   refine rdS 7 rfl (by kernel_rfl) (fun K hK => ?_);refine ifw (by kernel_rfl) ?_;refine qkT (.tmp 38) (.tmp 41) rfl (qfU (r / 16)) (qfU (r%16)) (by kernel_rfl) (by kernel_rfl) ?_;refine hK.out _ _ trivial (fun _ => ?_);refine rdS 8 rfl (by kernel_rfl) (fun K hK => ?_);refine ifw (by kernel_rfl) ?_;refine qeN (.tmp 35) (.tmp 42) 28 rfl base 5 i0 (.int .u8 0) 1 1 underlying28 hi hz0 hz1 hz2 rfl (by decide) (.slice a4 n4 c4) _ _ (by kernel_rfl) (HT4.out.own.1.alloc _) ⟨w5.heap.size,0,none⟩ 2 2 [qav (qfU (r / 16)),qav (qfU (r%16))] (by kernel_rfl) rfl (qag _ _ _) (fun u hu=>by simp at hu;rcases hu with rfl|rfl<;>rfl) (by rw[hc4];unfold maxLen;omega) (by rw[hc4];omega) (by have:=HT4.out.own.2.1;rw[World.size_alloc];exact Nat.le_succ_of_le this) ?_;intro v' w6 hown hgr _;obtain⟨g6,cap6,rfl⟩:=ownsRow_succ hown;have HT6:Hid (qgU base W N s (i+k) (.slice (some ⟨g6,0,none⟩) ((cur++[92,117,48,48]).length+2) cap6) ((cur++[92,117,48,48])++[qfU (r / 16),qfU (r%16)]) w6):=HT4.out.app (l:=[qfU (r / 16),qfU (r%16)]) hown hgr;refine hK.out _ _ trivial (fun _ => ?_);refine tkH 9 0 (.slice (some ⟨g6,0,none⟩) ((cur++[92,117,48,48]).length+2) cap6) rfl (by kernel_rfl) (fun _ _ _ h=>h) (fun Z hZ=>by kernel_rfl) trivial ?_;refine wpAnyH_done (by kernel_rfl) ?_ _;go_simp;go_wp2;go_roundg g
   case measure=>omega
   case rel=>exact⟨i+k,_,_,_,_,rfl,by show _≤_;omega,by show _≤_;have:=hig.out;omega,by rw[hc4] at HT6;exact HT6,by have h:=HL2.out;rw[HE.out,←List.append_assoc] at h;exact h⟩
  have HE:Hid (qmw r=qcD r):=by show _=_;unfold qmw;rw[if_neg h34,if_neg h32]
  have h32':¬(r:Int)<32:=by omega
  have hrl:=qcg (r:Int);have cA:=Any.utf8_AppendRune_plain Tryz.lays242 (by kernel_rfl) base (.slice a3 n3 c3) cur.length (cur.map qav) (r:Int) (by omega) (by omega) W2 HT2.out.own.1 (by omega) HT2.out.own.2.1
  go_wp2_with (first
   |(go_at_call 201;refine cA.mono ?_;rintro e w3 ⟨v3,rfl,hown,o,hgrow⟩;rw[qhx,List.length_map] at hown;have HT3:=qaa (HT2.out.app (l:=qcD r) hown hgrow);obtain⟨a4,n4,c4,rfl⟩:=HT3.out.own.2.2))
  go_roundg g
  case measure=>omega
  case rel=>exact⟨i+k,_,_,_,_,rfl,by show _≤_;omega,by show _≤_;have:=hig.out;omega,HT3,by have h:=HL2.out;rw[HE.out] at h;exact h⟩
end
end Go.Proofs.YtllcbnfmihfaaaaGreatDoor
