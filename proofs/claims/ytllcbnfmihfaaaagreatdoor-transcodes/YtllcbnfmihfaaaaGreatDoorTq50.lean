import Derived.Test.YtllcbnfmihfaaaaGreatDoorTq49
set_option maxRecDepth 100000
set_option maxHeartbeats 8000000
namespace Go.Proofs.YtllcbnfmihfaaaaGreatDoor
open Go.Proofs.Tryz
variable {W W' w:World}{cs:Value}{fuel k:Nat}
section
open Go.RowKit Go.Lib
structure q1j (W:World):Prop where
 rd:qeK W
 tb:qiG W.heap.size W
theorem q1j.below {V:World}(h:q1j W)(hb:Below W.heap.size W V):q1j V:=⟨h.rd.below hb,fun w' hw=>h.tb w' (hb.trans (hw.mono hb.size))⟩
theorem q6t (W:World)(fin fout d l:Int)(bs:List UInt8)(hb:bs.length≤200000000):(trQ fin fout d l bs).1.length≤200000000:=by
 unfold trQ
 cases hL:qf4 fin fout d l with
 |false=>rw[if_neg (by decide)];simp
 |true =>
  rw[if_pos rfl];have hc:qfm fin=true∧1≤d∧d≤16∧1≤l∧l≤4096:=by
   unfold qf4 at hL;simp at hL;exact⟨hL.1.1.1.1.1,by omega,by omega,by omega,by omega⟩
  obtain⟨h1,h3,h4,h5,h6⟩:=hc;have cR:=q0H W fin d l bs (qyR h1) (by omega) (by omega) (by omega) hb;generalize qgE fin bs d l=D at *
  cases D with
  |error f=>simp
  |ok dd =>
   simp only[];have hf:szF (d.toNat+1) dd≤1638400∧TxV (d.toNat+1) dd:=q09 cR fun e w' hr=>⟨by have:=(hr.2.2.2 (d.toNat+1)).1;have:=hr.2.2.1;omega,(hr.2.2.2 _).2⟩
   split
   ·simp
   show(wrO fout (d.toNat+1) dd).length≤200000000;unfold wrO;have h7:=qyM _ _ hf.2;have h8:=qjz (d.toNat+1) dd;have h9:=qpp (d.toNat+1) dd;split
   ·rw[q0f _ _ hf.2];omega
   split<;>omega
theorem q0x (W:World)(B b0:Nat)(cs gv:Value)(la:Option Addr)(lcap M:Nat)(xs:List Value)(oa:Array Value)(fa fb fc fd:Int)(s:List UInt8)(ho1:oa[1]? = some (.int .i64 fa))(ho2:oa[2]? = some (.int .i64 fb))(ho3:oa[3]? = some (.int .i64 fc))(ho4:oa[4]? = some (.int .i64 fd))(ho5:oa[5]? = some (.string ⟨s.toArray⟩))(hsl:s.length≤200000000)(h:q0k W B b0 cs gv la lcap M xs)(hM:M≤100000000)(hb0:b0≤W.heap.size)(ht:q1j W):Calls prog 54 #[.pointer (some ⟨B,0,none⟩),.agg oa] W fun e W'=>e=.returned (.bool true)∧Frm W W' (fun j=>j=B∨some j=(Value.slice la (4*M) lcap).ownBlock)∧∃la' lcap' xs',q0k W' B b0 cs gv la' lcap' (M+1) xs':=by
 obtain⟨W1,hW1⟩:∃W1,W1=W.alloc (.cells oa 74):=⟨_,rfl⟩
 have HD:=qaa hW1;have HB1:Hid (Below W.heap.size W W1):=by rw[hW1];exact bwA
 have HBX:Hid (W1.heap[W.heap.size]? = some (.cells oa 74)):=by rw[hW1];exact qac _ _
 have HW1:=qaa (ltA HBX.out);have HOA:Hid (oa[1]? = some (.int .i64 fa)∧oa[2]? = some (.int .i64 fb)∧oa[3]? = some (.int .i64 fc)∧oa[4]? = some (.int .i64 fd)∧oa[5]? = some (.string ⟨s.toArray⟩)):=⟨ho1,ho2,ho3,ho4,ho5⟩
 have HCELL:Hid (∀V:World,V.heap[W.heap.size]? = some (.cells oa 74)→V.cell? ⟨W.heap.size,1,none⟩=some (.int .i64 fa)∧V.cell? ⟨W.heap.size,2,none⟩=some (.int .i64 fb)∧V.cell? ⟨W.heap.size,3,none⟩=some (.int .i64 fc)∧V.cell? ⟨W.heap.size,4,none⟩=some (.int .i64 fd)∧V.cell? ⟨W.heap.size,5,none⟩=some (.string ⟨s.toArray⟩)):=fun V hV=>⟨(qab hV 1).trans ho1,(qab hV 2).trans ho2,(qab hV 3).trans ho3,(qab hV 4).trans ho4,(qab hV 5).trans ho5⟩
 obtain⟨k1,k2,k3,k4,k5⟩:=HCELL.out W1 HBX.out;have cL:=fun V=>q1d V s hsl;have HLS:=qaa h;have HT:=qaa ht;have HN:Hid (s.length≤200000000∧M≤100000000∧b0≤W.heap.size):=⟨hsl,hM,hb0⟩
 have HQL:=qaa (q6t W fa fb fc fd s hsl);clear h ht ho1 ho2 ho3 ho4 ho5 hW1 hsl hM hb0;go_enter func54,ntmps54
 go_wp2_with (first
  |(go_at_call 91;refine(cL _).mono ?_;clear cL k1 k2 k3 k4 k5;rintro e w2 ⟨rfl,hg2,hB2⟩;have HG2:=qaa hg2;have HB2:=qaa (HB1.out.trans (hB2.mono HB1.out.size));have HX2:=qaa ((hB2.block _ (ltA HBX.out)).trans HBX.out);clear hg2 hB2;obtain⟨k1,k2,k3,k4,k5⟩:=HCELL.out w2 HX2.out)
  |(refine q0F HD.out ?_)
  |(go_at_call 19;refine Hid.out ?_))
 unfold Hid;have cU:=q3p w2 fa fb fc fd (some ⟨W1.heap.size,0,none⟩) s (s.length+8) (q3M HG2.out HN.out.1) (HT.out.below HB2.out).rd (HT.out.below HB2.out).tb HN.out.1;have cR:=fun V=>q3u V fa fb fc fd s HN.out.1;generalize trQ fa fb fc fd s=R at *;obtain⟨ol,en,pl⟩:=R;refine cU.mono ?_;clear cU k1 k2 k3 k4 k5;rintro e w3 ⟨hB3,v,rfl,hU⟩;have HB3:=qaa (HB2.out.trans (hB3.mono HB2.out.size));have HS23:=qaa hB3.size;have HL2:=qaa (ltA HG2.out);have HG3:=qaa ((hB3.block _ HL2.out).trans HG2.out);have HX3:=qaa ((hB3.block _ (ltA HX2.out)).trans HX2.out);obtain⟨k1,k2,k3,k4,k5⟩:=HCELL.out w3 HX3.out;have hee:((en:Int)==en)=true:=beq_self_eq_true _;have hpp:((pl:Int)==pl)=true:=beq_self_eq_true _;have hU2:(v=.slice none 0 0∧ol=[])∨(en=0∧∃g cap,v=.slice (some ⟨g,0,none⟩) ol.length cap∧Own w3 w2.heap.size v ol):=by
  rcases hU with ⟨h1,h2⟩|⟨_,h2,h3⟩
  ·rcases h2.1.2 with ⟨e2,e1⟩|⟨g,cap,cur,e1,_⟩
   ·exact .inl ⟨e2,List.length_eq_zero_iff.1 e1⟩
   exact .inr ⟨h1,g,cap,e1,h2⟩
  exact .inl ⟨h2,h3⟩
 clear hB3 hU;unfold q2I at cR;simp only[] at cR ⊢;rcases hU2 with ⟨rfl,rfl⟩|⟨rfl,g,cap,rfl,hO⟩
 ·have cR1:=cR;clear cR
  go_wp2_with (first
   |(go_at_call 24;refine(cR1 _).mono ?_;clear cR1 k1 k2 k3 k4 k5;rintro e w4 ⟨rfl,hB4⟩;have HB4:=qaa (HB3.out.trans (hB4.mono HB3.out.size));have HG4:=qaa ((hB4.block _ (ltA HG3.out)).trans HG3.out);have HX4:=qaa ((hB4.block _ (ltA HX3.out)).trans HX3.out);have HB34:=qaa hB4;clear hB4;obtain⟨k1,k2,k3,k4,k5⟩:=HCELL.out w4 HX4.out)
   |(go_at_call 92;refine(qzd w4 s W1.heap.size HG4.out HN.out.1).mono ?_;clear k1 k2 k3 k4 k5;rintro e w5 ⟨rfl,hB5⟩;have HB5:=qaa (q3P HW1.out HB4.out hB5);have HS5:Hid (w2.heap.size≤w5.heap.size):=(by show _≤_;have h1:=HS23.out;have h2:=HB34.out.size;have h3:=hB5.size;omega);have HBU:=qaa hB5)
   |(go_at_call 93;refine(q3F w5 B b0 w2.heap.size cs gv la (4*M) lcap xs en (HLS.out.next HB5.out).wd (by have h1:=ltA HLS.out.wd.wd;have h2:=HW1.out;have h3:=HL2.out;omega) (fun g e=>by have h1:=qy1 HLS.out.wd.row e;have h2:=HW1.out;have h3:=HL2.out;omega) (by have h1:=HB5.out.size;have h2:=HN.out;omega) (by have:=HS5.out;omega) (by have h2:=HN.out;omega)).mono ?_;rintro e w6 ⟨rfl,S,lv',a1,c1,a2,c2,a3,c3,hk⟩;have HK:=qaa hk))
  go_ret;exact⟨rfl,q3H HLS.out (by have:=HW1.out;have:=HL2.out;omega) rfl (by omega) HB5.out HK.out⟩
 have HO:=qaa hO;have cR1:=cR
 go_wp2_with (first
  |(go_at_call 24;refine(cR1 _).mono ?_;rintro e w4 ⟨rfl,hB4⟩;have HB4:=qaa (HB3.out.trans (hB4.mono HB3.out.size));have HG4:=qaa ((hB4.block _ (ltA HG3.out)).trans HG3.out);have HX4:=qaa ((hB4.block _ (ltA HX3.out)).trans HX3.out);have HB34:=qaa hB4;obtain⟨k1,k2,k3,k4,k5⟩:=HCELL.out w4 HX4.out)
  |(go_at_call 92;refine(qzd w4 s W1.heap.size HG4.out HN.out.1).mono ?_;rintro e w5 ⟨rfl,hB5⟩;have HB5:=qaa (q3P HW1.out HB4.out hB5);have HS5:Hid (w2.heap.size≤w5.heap.size):=(by show _≤_;have h1:=HS23.out;have h2:=HB34.out.size;have h3:=hB5.size;omega);have HBU:=qaa hB5)
  |(go_at_call 93;refine(q3d w5 B b0 w2.heap.size cs gv la (4*M) lcap xs g cap ol 0 (HLS.out.next HB5.out).wd (by have h1:=ltA HLS.out.wd.wd;have h2:=HW1.out;have h3:=HL2.out;omega) (fun g e=>by have h1:=qy1 HLS.out.wd.row e;have h2:=HW1.out;have h3:=HL2.out;omega) (by have h1:=HB5.out.size;have h2:=HN.out;omega) (by have:=HS5.out;omega) (by have h2:=HN.out;omega) (q6b HO.out HB34.out HBU.out HL2.out) HQL.out rfl).mono ?_;rintro e w6 ⟨rfl,S,lv',a1,c1,a2,c2,a3,c3,hk⟩;have HK:=qaa hk))
 go_ret;exact⟨rfl,q3H HLS.out (by have:=HW1.out;have:=HL2.out;omega) rfl HQL.out HB5.out HK.out⟩
def q6A (kind:Int):Prop:=∀(o:OpD),o.kind=kind→o.s.size≤200000000→∀(W:World) (B b0:Nat) (cs gv:Value) (la:Option Addr) (lcap M:Nat) (xs:List Value),q0k W B b0 cs gv la lcap M xs→M≤100000000→b0≤W.heap.size→q1j W →
 Calls prog 35 #[.pointer (some ⟨B,0,none⟩),.agg o.arr] W fun e W'=>e=.returned (.bool true)∧Frm W W' (fun j=>j=B∨some j=(Value.slice la (4*M) lcap).ownBlock)∧∃la' lcap' M' xs',M'≤M+1∧q0k W' B b0 cs gv la' lcap' M' xs'
theorem q6D (s:ByteArray):s=⟨s.data.toList.toArray⟩:=by simp
theorem q3O:q6A 4:=by
 intro o hk hs W B b0 cs gv la lcap M xs h hM hb0 ht;have ok:o.arr[0]? = some (.int .i64 4):=by rw[←hk];rfl
 have hB1:Below W.heap.size W (W.alloc (.cells o.arr 74)):=bwA;have HB1:=qaa hB1;have cU:=q0x (W.alloc (.cells o.arr 74)) B b0 cs gv la lcap M xs o.arr o.a o.b o.c o.d o.s.data.toList rfl rfl rfl rfl (by rw[←q6D];rfl) (by rw[Array.length_toList];exact hs) (h.next hB1) hM (Nat.le_trans hb0 hB1.size) (ht.below hB1);have HOP:Hid ((W.alloc (.cells o.arr 74)).heap[W.heap.size]? = some (.cells o.arr 74)):=qac _ _;have HIO:Hid ((prog.info? 74).map (·.size)=some o.arr.size):=by show _=_;rw[show o.arr.size=7 from rfl];kernel_rfl
 go_enter func35,ntmps35
 go_wp2_with (first
  |(refine wpList_load_row rfl 74 _ rfl _ rfl _ _ _ _ HOP.out underlying74 rfl HIO.out ?_)
  |(go_at_call 54;refine cU.mono ?_;rintro e w2 ⟨rfl,hF2,hl2⟩;have HF2:=qaa hF2;have HL2:=qaa hl2))
 go_ret;refine⟨rfl,(q3L HB1.out).next HF2.out,?_⟩;obtain⟨la',lcap',xs',h⟩:=HL2.out;exact⟨la',lcap',M+1,xs',Nat.le_refl _,h⟩
structure q0b (w W:World)(cs:Value)(k:Nat):Prop where
 below:Below w.heap.size w W
 ls:∃la lcap M xs,M≤k∧q0k W w.heap.size w.heap.size cs (.slice none 0 0) la lcap M xs
theorem q0b.step (h:q0b w W cs k)(hb:Below W.heap.size W W'):q0b w W' cs k:=by
 obtain⟨la,lcap,M,xs,h1,h2⟩:=h.ls;exact⟨h.below.trans (hb.mono h.below.size),la,lcap,M,xs,h1,h2.next hb⟩
theorem q0b.more {k':Nat}(h:q0b w W cs k)(hk:k≤k'):q0b w W cs k':=by
 obtain⟨la,lcap,M,xs,h1,h2⟩:=h.ls;exact⟨h.below,la,lcap,M,xs,by omega,h2⟩
theorem q1o {X:Nat→Prop}(h:Below w.heap.size w W)(hf:Frm W W' X)(hx:∀j,X j→w.heap.size≤j):Below w.heap.size w W' :=
 h.trans ⟨hf.os,hf.tape,hf.output,hf.size,fun j hj=>hf.block j (by have:=h.size;omega) (fun e=>by have:=hx j e;omega)⟩
theorem q3e (h:qzo W W'):Below W.heap.size W W':=⟨h.os,h.tape,h.output,Nat.le_of_eq (by rw[h.heap]),fun j _=>by rw[h.heap]⟩
theorem q0b.step2 {la:Option Addr}{lcap M:Nat}{xs:List Value}(h:q0b w W cs k)(hM:M≤k)(hl:q0k W w.heap.size w.heap.size cs (.slice none 0 0) la lcap M xs)(hF:Frm W W' (fun j=>j=w.heap.size∨some j=(Value.slice la (4*M) lcap).ownBlock))(hl':∃la' lcap' M' xs',M'≤M+1∧q0k W' w.heap.size w.heap.size cs (.slice none 0 0) la' lcap' M' xs'):q0b w W' cs (k+1):=by
 obtain⟨la',lcap',M',xs',h1,h2⟩:=hl';refine⟨q1o h.below hF (fun j e => ?_),la',lcap',M',xs',by omega,h2⟩;rcases e with rfl|e
 ·exact Nat.le_refl _
 exact qbA hl.wd.row e.symm
theorem q3a (kind:Int)(hsay:q6A kind)(ca:Option Addr)(cn ccap:Nat)(sa:Option Addr)(sn scap:Nat)(h:Nat→OpD)(hsn:sn≤100000000)(hst:∀k,k<sn→(h k).s.size≤200000000)(pa:Option Addr)(pcap:Nat)(w:World)(hO:q3o w sa sn h)(hP:qbV w pa [kind])(hg:q1j w):Calls prog 15 #[.slice ca cn ccap,.slice sa sn scap,.slice pa 1 pcap] w fun e w'=>e=.returned (.bool true)∧Below w.heap.size w w':=by
 have HS:=qaa hsay;have HO:=qaa hO;have HP:=qaa hP;have HG:=qaa hg;have HST:=qaa hst;clear hsay hO hP hg hst;have HT:Hid (q0b w (w.alloc (.cells #[.slice ca cn ccap,.slice none 0 0,.slice none 0 0] 71)) (.slice ca cn ccap) 0):=⟨bwA,none,0,0,[],Nat.le_refl _,q60 _ _ _ _ _ (qac _ _)⟩
 go_enter func15,ntmps15;go_wp2;generalize w.alloc (.cells #[.slice ca cn ccap,.slice none 0 0,.slice none 0 0] 71)=W0 at *
 go_loopg [8,9,10,11,12] sn (fun gh x1 x2 x3 x4 x5 wr=>∃k:Nat,Hid (k+gh=sn)∧x1=.int .i64 k∧Hid (q0b w wr (.slice ca cn ccap) k))
 case atStart=>exact⟨0,by show _=_;omega,rfl,HT⟩
 case round =>
  clear HT;obtain⟨k,hk,rfl,HX⟩:=hrel
  cases gk with
  |zero =>
   have hlt:¬(k:Int)<sn:=by have:=hk.out;omega
   obtain⟨la,lcap,M,xs,hMk,hls⟩:=HX.out.ls;have HLS:=qaa hls;have cA:=q3E wr w.heap.size la (4*M) lcap M xs hls.rd rfl (by have:=hk.out;omega) hls.big hls.hdis hls.grp;clear hls hMk
   go_wp2_with (first|(go_at_call 37;refine cA.mono ?_;clear cA;rintro e w2 ⟨rfl,hF2⟩;have HF2:=qaa hF2;clear hF2))
   go_ret;exact⟨rfl,q1o HX.out.below HF2.out (fun j ⟨i,v,h1,h2⟩=>by have:=(HLS.out.dis i v j h1 h2).1;omega)⟩
  |succ gh =>
   have hlt:(k:Int)<sn:=by have:=hk.out;omega
   have hlt2:(k:Int)<144115188075855872:=by omega
   obtain⟨b,off,rfl,hbl,hcc⟩:=(HO.out.below HX.out.below).at_ k (by omega);have hss:=HST.out k (by omega);have k0:wr.cell? ⟨b,off+k*7,none⟩=some (.int .i64 (h k).kind):=hcc k 0 (by omega) (by omega);have k1:wr.cell? ⟨b,off+k*7+1,none⟩=some (.int .i64 (h k).a):=hcc k 1 (by omega) (by omega);have k2:wr.cell? ⟨b,off+k*7+2,none⟩=some (.int .i64 (h k).b):=hcc k 2 (by omega) (by omega);have k3:wr.cell? ⟨b,off+k*7+3,none⟩=some (.int .i64 (h k).c):=hcc k 3 (by omega) (by omega);have k4:wr.cell? ⟨b,off+k*7+4,none⟩=some (.int .i64 (h k).d):=hcc k 4 (by omega) (by omega);have k5:wr.cell? ⟨b,off+k*7+5,none⟩=some (.string (h k).s):=hcc k 5 (by omega) (by omega);have k6:wr.cell? ⟨b,off+k*7+6,none⟩=some (.slice (h k).pp (h k).pl (h k).pc):=hcc k 6 (by omega) (by omega);clear hcc;generalize h k=o at *;have HSS:=qaa hss;clear hss;have hB1:Below wr.heap.size wr (wr.alloc (.cells o.arr 74)):=bwA;have HX1:=qaa (HX.out.step hB1);have cM:=q4g pa pcap [kind] o.kind (by simp[maxLen]) (wr.alloc (.cells o.arr 74)) (HP.out.below HX1.out.below);have HN:Hid ((wr.alloc (.cells o.arr 74)).heap[wr.heap.size]? = some (.cells o.arr 74)):=qac _ _;have HIO:Hid ((prog.info? 74).map (·.size)=some o.arr.size):=by show _=_;rw[show o.arr.size=7 from rfl];kernel_rfl
   clear hB1;by_cases hkk:o.kind=kind
   ·have HKK:=qaa hkk;have hM:qzx [kind] o.kind=true:=by simp[qzx,hkk]
    rw[hM] at cM;clear hM hkk
    go_wp2_with (first
     |(go_at_call 34;refine cM.mono ?_;clear cM;rintro e w2 ⟨rfl,rfl⟩;clear k0 k1 k2 k3 k4 k5 k6 hlt2)
     |(refine wpList_load_row rfl 74 _ rfl _ rfl _ _ _ _ HN.out underlying74 rfl HIO.out ?_)
     |fail)
    show Calls prog 35 #[.pointer (some ⟨w.heap.size,0,none⟩),.agg o.arr] (wr.alloc (.cells o.arr 74)) _;obtain⟨la,lcap,M,xs,hMk,hls⟩:=HX1.out.ls;refine(HS.out o HKK.out HSS.out (wr.alloc (.cells o.arr 74)) w.heap.size w.heap.size (.slice ca cn ccap) (.slice none 0 0) la lcap M xs hls (by have:=hk.out;omega) HX1.out.below.size (HG.out.below HX1.out.below)).mono ?_;rintro e w3 ⟨rfl,hF3,hl3⟩;have HX3:=qaa (HX1.out.step2 hMk hls hF3 hl3);clear hF3 hl3 hls hMk;obtain⟨la3,lcap3,M3,xs3,hMk3,hls3⟩:=HX3.out.ls;have cL:=q3T w3 w.heap.size la3 (4*M3) lcap3 xs3 hls3.rd (by have:=hk.out;omega) hls3.big;clear hls3 hMk3
    go_wp2_with (first
     |(go_at_call 36;refine cL.mono ?_;clear cL;rintro e w4 ⟨rfl,hs4⟩;have HX4:=qaa (HX3.out.step (q3e hs4));clear hs4))
    go_roundg gh
    case measure=>omega
    case rel=>exact⟨k+1,by show _=_;have:=hk.out;omega,by go_num,HX4⟩
   have hM:qzx [kind] o.kind=false:=by simp[qzx];intro e;exact hkk e.symm
   rw[hM] at cM;clear hM hkk
   go_wp2_with (first
    |(go_at_call 34;refine cM.mono ?_;clear cM;rintro e w2 ⟨rfl,rfl⟩))
   go_roundg gh
   case measure=>omega
   case rel=>exact⟨k+1,by show _=_;have:=hk.out;omega,by go_num,HX1.out.more (Nat.le_succ k)⟩
theorem q0y (ca:Option Addr)(cn ccap:Nat)(sa:Option Addr)(sn scap:Nat)(h:Nat→OpD)(hsn:sn≤100000000)(hst:∀k,k<sn→(h k).s.size≤200000000)(w:World)(hO:q3o w sa sn h)(hg:q1j w):Calls prog 5 #[.slice ca cn ccap,.slice sa sn scap] w fun e w'=>e=.returned (.bool true)∧Below w.heap.size w w':=by
 have hb:Below w.heap.size w (w.alloc (.cells #[.int .i64 4] 3)):=bwA;have hP:qbV (w.alloc (.cells #[.int .i64 4] 3)) (some ⟨w.heap.size,0,none⟩) [4]:=⟨fun i hi=>⟨w.heap.size,0,rfl,by simp,fun j hj=>by
  have:j=0:=by simpa using hj
  subst this;exact qab (qac _ _) 0⟩⟩
 have cP:=q3a 4 q3O ca cn ccap sa sn scap h hsn hst (some ⟨w.heap.size,0,none⟩) 1 _ (hO.below hb) hP (hg.below hb);have HB:=qaa hb;clear hb hP hO hg;go_enter func5,ntmps5
 go_wp2_with (first|(go_at_call 15;refine cP.mono ?_;clear cP;rintro e w2 ⟨rfl,hB2⟩))
 go_ret;exact⟨rfl,HB.out.trans (hB2.mono (by simp))⟩
end
section
open Go.ChangeShapes Go.WideShapes Go.ChangeAt Go.RowKit Go.Lib Go.Deep
theorem q3B (hL:laidMetH prog Rows.checksRow.laid W)(hS:W.ShapedOpen prog):qeK W:=by
 refine⟨(qpC hL hS).tabs,qrq hL,?_⟩;have hL':laidMet prog Rows.checksRow.laid W:=hL;obtain⟨g,t,cs,fuel,p,hg,hty,hvar,hd⟩:=laidMet.reads hL' (d:=Rows.laid_math_bits_deBruijn64tab) (.tail _ (.head _));obtain rfl:g=8:=Option.some.inj (hg.symm.trans (by kernel_rfl));unfold World.var? at hvar;rw[hg] at hvar;simp only[Option.bind_some] at hvar;split at hvar
 ·next h=>exact ltA h
 cases hvar
theorem qx7:(prog.globals[6]?).map (·.type)=some 380:=by kernel_rfl
theorem qt9:prog.cellsOf 380=20:=by kernel_rfl
theorem qur:(Rows.laid_internal_strconv_uint64pow10:DataW Unit)=tabData .u64 pow10Tab:=by kernel_rfl
theorem q4T (hL:laidMetH prog Rows.checksRow.laid W)(hS:W.ShapedOpen prog):q1j W:=by
 have hL':laidMet prog Rows.checksRow.laid W:=hL;refine⟨q3B hL hS,Lib.tabBelow_of_tabIs ?_⟩;obtain⟨g,t,cs,fuel,p,hg,hty,hvar,hd⟩:=laidMet.reads hL' (d:=Rows.laid_internal_strconv_uint64pow10) (.tail _ (.tail _ (.head _)));obtain rfl:g=6:=Option.some.inj (hg.symm.trans (by kernel_rfl));obtain rfl:=Option.some.inj (qx7.symm.trans hty);rw[qur] at hd;have hcs:=cells_of_tab underlying380 underlying271 qlK qt9 hd;have hv2:W.var? prog qnt=some cs:=by
  refine Eq.trans ?_ hvar;exact congrArg (fun s=>W.var? prog s) (by kernel_rfl)
 unfold TabIs;rw[hv2,←hcs]
section
variable {H:Type} {enc:TypeId×Value→H} {w:World}
theorem q4I:∀d:DataW H,1≤Rows.uptoBulk d
 |.lit l=>by cases l<;>simp[Rows.uptoBulk]
 |.nil=>by rw[Rows.uptoBulk];omega
 |.ptr d=>by rw[Rows.uptoBulk];omega
 |.slice e s=>by rw[Rows.uptoBulk];omega
 |.agg p=>by rw[Rows.uptoBulk];omega
 |.iface _ d=>by rw[Rows.uptoBulk];omega
 |.map e=>by rw[Rows.uptoBulk];omega
 |.held _=>by rw[Rows.uptoBulk];omega
theorem qzI:∀{l:List (DataW H)} {d:DataW H},d∈l→Rows.uptoBulk d≤Rows.uptoBulkAll l
 |[],_,h=>by cases h
 |a::r,d,h=>by
  rw[Rows.uptoBulkAll];rcases List.mem_cons.1 h with rfl|h
  ·omega
  have:=qzI h;omega
theorem q2D:∀l:List (DataW H),l.length≤Rows.uptoBulkAll l
 |[]=>Nat.zero_le _
 |a::r=>by
  rw[Rows.uptoBulkAll,List.length_cons];have h1:=q2D r;have h2:=q4I a;omega
theorem q66 {cs:List Value}{x:DataW H×List MemPlace}(h:DataW.trod enc prog w 0 (fun _=>true) true fuel 74 cs=some x):∃o:OpD,cs=o.arr.toList∧(-9223372036854775808≤o.a∧o.a≤9223372036854775807)∧o.s.size≤Rows.uptoBulk x.1:=by
 obtain⟨xs,n,_,rfl,hl,hlen,hf⟩:=DataW.trod_struct underlying74 h;rw[q3y] at hl
 match cs,hl,xs,hlen with
 |[v0,v1,v2,v3,v4,v5,v6],_,[y0,y1,y2,y3,y4,y5,y6],_ =>
  have g0:=qm6 hf 0 rfl 3 0 rfl rfl qcU rfl rfl;have g1:=qm6 hf 1 rfl 3 1 rfl rfl qcU rfl rfl;have g2:=qm6 hf 2 rfl 3 2 rfl rfl qcU rfl rfl;have g3:=qm6 hf 3 rfl 3 3 rfl rfl qcU rfl rfl;have g4:=qm6 hf 4 rfl 3 4 rfl rfl qcU rfl rfl;have g5:=qm6 hf 5 rfl 9 5 rfl rfl qmb rfl rfl;have g6:=qm6 hf 6 rfl 72 6 rfl rfl q6i rfl rfl;obtain⟨z0,e0,_⟩:=DataW.trod_int underlying3 g0;obtain⟨z1,e1,_,wz⟩:=DataW.trod_int underlying3 g1;obtain⟨z2,e2,_⟩:=DataW.trod_int underlying3 g2;obtain⟨z3,e3,_⟩:=DataW.trod_int underlying3 g3;obtain⟨z4,e4,_⟩:=DataW.trod_int underlying3 g4;obtain⟨s5,e5,hy5⟩:=DataW.trod_string underlying9 g5;obtain⟨pa,pn,pc,e6⟩:=q5n (v:=v6) underlying72 (by simpa using g6);simp at e0 e1 e2 e3 e4 e5;subst e0 e1 e2 e3 e4 e5 e6;have bd:=bounds_i64 wz;refine⟨⟨z0,z1,z2,z3,z4,s5,pa,pn,pc⟩,rfl,⟨by simpa using bd.1,by simpa using bd.2⟩,?_⟩;obtain⟨rfl,_⟩:=hy5;have h1:Rows.uptoBulk (DataW.lit (H:=H) (.string s5.data.toList))≤_:=qzI (l:=[y0,y1,y2,y3,y4,(DataW.lit (.string s5.data.toList),[]),y6].map Prod.fst) (by simp);simp only[List.map_cons,List.map_nil] at h1 ⊢;rw[show Rows.uptoBulk (DataW.lit (H:=H) (.string s5.data.toList))=s5.data.toList.length+1 by rw[Rows.uptoBulk]] at h1;rw[Rows.uptoBulk];have h2:s5.data.toList.length=s5.size:=by rw[Array.length_toList];rfl
  show s5.size≤_;omega
theorem q5T {v:Value}{x:DataW H×List MemPlace}(h:DataW.trod enc prog w 0 (fun _=>true) true fuel 23 [v]=some x)(hbk:Rows.uptoBulk x.1≤1048576):∃(a:Option Addr) (n cap:Nat) (g:Nat→OpD),v=.slice a n cap∧q3o w a n g∧n≤1048576∧∀k,k<n→(g k).s.size≤1048576:=by
 rcases open_slice underlying23 h with ⟨hv,_⟩|⟨a,len,cap,m,n,D,Pl,hv,_,hl,hm,hmm,rfl,hx⟩
 ·cases hv;exact⟨none,0,0,fun _=>op0,rfl,⟨fun k hk=>by omega,fun k hk=>by omega⟩,by omega,fun k hk=>by omega⟩
 cases hv;have hmc:m=cap:=by rw[hmm];rfl
 subst hmc;rw[q3y] at hx;simp only[] at hbk;rw[Rows.uptoBulk] at hbk;have hlen:=q2D ((List.range len).map D);rw[List.length_map,List.length_range] at hlen;have hz:∀i,i<len→∃o:OpD,(-9223372036854775808≤o.a∧o.a≤9223372036854775807)∧o.s.size≤1048576∧∀j,j<7→w.cell? ((a.add (i*7)).add j)=o.arr[j]?:=fun i hi=>by
  obtain⟨cs',h1,h2⟩:=hx i (by omega);obtain⟨_,hlen,hc⟩:=World.cells?_some h1;obtain⟨o,rfl,ha,hsz⟩:=q66 h2;have h3:=qzI (l:=(List.range len).map D) (List.mem_map.2 ⟨i,List.mem_range.2 hi,rfl⟩);exact⟨o,ha,by simp only[] at hsz;omega,fun j hj=>(hc j hj).trans (by simp)⟩
 have ih:Inhabited OpD:=⟨op0⟩
 obtain⟨g,hg⟩:=choose_lt hz;refine⟨some a,len,m,g,rfl,⟨fun k hk => ?_,fun k hk=>(hg k hk).1⟩,by omega,fun k hk=>(hg k hk).2.1⟩;obtain⟨b,off,rfl,hlt⟩:=qjN (w:=w) (a:=a) (v:=.int .i64 (g 0).kind) (by
  have:=(hg 0 (by omega)).2.2 0 (by omega);rw[Nat.zero_mul,add_add] at this;exact this)
 refine⟨b,off,rfl,hlt,fun k j hk hj => ?_⟩;have:=(hg k hk).2.2 j hj;rw[add_add,qcn] at this;rw[←this,Nat.add_assoc]
end
theorem qzh (H:Type)(enc:TypeId×Value→H)(W:World)(args:Array Value)(ds gs:List (DataW H))(before:List MemPlace)(base:Nat)(hval:∀(j:Nat) t v,f5.params[j]? = some t→args[j]? = some v→Value.okWide prog W .any base t v)(hW:DataW.Whole enc prog f5.params.toList Rows.transcodesSpec.vars false W args.toList ds gs before)(hk:Rows.uptoSmall H (ds++gs)=true)(hL:laidMetH prog Rows.transcodesUptoRow.laid W)(hS:W.ShapedOpen prog):Calls prog 5 args W fun e W'=>∃v,e=.returned v∧Rows.transcodesSpec.post enc prog f5 false true false false W args v W':=by
 have hW':=hW;obtain⟨p,q,hA0,hV,rfl,hfz,hnd⟩:=hW;have hA:=hA0;rw[Tryz.params5] at hA hval;obtain⟨v0,v1,d0,d1,p0,p1,rfl,rfl,rfl,h0,h1⟩:=trodAll_two hA;obtain⟨rfl,rfl⟩:=trodVars_none hV;obtain⟨a0,l0,c0,rfl⟩:=okWide_slice underlying22 (hval 0 22 v0 rfl rfl);obtain⟨a1,l1,c1,rfl⟩:=okWide_slice underlying23 (hval 1 23 v1 rfl rfl);obtain⟨n0,h0'⟩:=h0;obtain⟨n1,h1'⟩:=h1;have hk':Rows.uptoBulkAll [d0,d1]≤1048576:=of_decide_eq_true hk;have hb1:=Nat.le_trans (qzI (l:=[d0,d1]) (d:=d1) (by simp)) hk';obtain⟨sa,sn,scap,h,ev1,hO,hsn,hst⟩:=q5T (v:=.slice a1 l1 c1) (x:=(d1,p1)) h1' hb1;cases ev1;refine(q0y _ _ _ _ _ _ h (by omega) (fun k hk=>by have:=hst k hk;omega) W hO (q4T hL hS)).mono ?_;rintro e W' ⟨rfl,hB⟩;have hlt:∀x∈p0++p1++[],x.block<W.heap.size:=fun x hx=>hW'.lt x hx;refine⟨_,rfl,[d0,d1],[],p0++p1++[],[],p0++p1,[],hW',trodAll_mk1 (shut_bool underlying4 true),?_,rfl,hB.frame _,fun h=>by cases h⟩;exact trodAll_mk2 (Below.trod Tryz.laidOut (by kernel_rfl) (of_decide_eq_true (by kernel_rfl)) ⟨n0,h0'⟩ hB (fun x hx=>hlt x (by simp[hx]))) (Below.trod Tryz.laidOut (by kernel_rfl) (of_decide_eq_true (by kernel_rfl)) ⟨n1,h1'⟩ hB (fun x hx=>hlt x (by simp[hx])))
end
section
open Go.ChangeShapes Go.WideShapes Go.ChangeAt Go.RowKit Go.Lib
theorem qz9 (os:Os){H:Type}(enc:TypeId×Value→H):∃places,DataW.whole enc prog ((quD (World.holding prog os ⟨#[],#[],[]⟩)).forCall (fun _ _=>0) ⟨#[],#[.slice none 0 0,.slice none 0 0],[]⟩).memory f5.params.toList Rows.transcodesSpec.vars false #[Value.slice none 0 0,Value.slice none 0 0].toList 8=some ([.nil,.nil],[],places) :=
 ⟨[],by kernel_rfl⟩
theorem qz2 (os:Os)(started:os.Started)(H:Type)(enc:TypeId×Value→H)(F:Stop.Interp):ReturnsInHanded {} Tryz.checked os 5 .any ((Rows.OpenSpec.upto Rows.transcodesSpec).preRow enc prog f5 Rows.transcodesUptoRow.domain false Rows.transcodesUptoRow.laid) (((Rows.OpenSpec.upto Rows.transcodesSpec).at F).post enc prog f5 false true false false):=by
 obtain⟨places,hx⟩:=qz9 os enc;refine returnsInHanded_of_row (C:=Tryz.checked) (s:=Rows.OpenSpec.upto Rows.transcodesSpec) Tryz.own started (by kernel_rfl) func5
  (witness_row_at (enc:=enc) (C:=Tryz.checked) false (quD (World.holding prog os ⟨#[],#[],[]⟩)) #[.slice none 0 0,.slice none 0 0] rfl (by kernel_rfl) (by kernel_rfl) (by kernel_rfl)
   (OpenSpec.preRow_of_cond 8 hx (by kernel_rfl) (fun k hk=>by obtain rfl:=Option.some.inj hk;kernel_rfl) (by kernel_rfl) (q4M os))) ?_
 intro W base args ds gs before hval hW _ hk _ hL hS _;exact qzh H enc W args ds gs before base hval hW (hk _ rfl) hL hS
theorem q0K:(Rows.transcodesUptoRow.inPlace==Tryz.pinned.checked.prog.inPlace 5)=true:=by kernel_rfl
theorem q0I:(Rows.transcodesUptoRow.unfollowed==Tryz.pinned.checked.prog.unfollowed 5)=true:=by kernel_rfl
theorem q1g:(Rows.transcodesUptoRow.recurses==Tryz.pinned.checked.prog.recurses 5)=true:=by kernel_rfl
theorem q0L:(Rows.transcodesUptoRow.named==Tryz.pinned.checked.prog.varsNamed 5)=true:=by kernel_rfl
theorem qzB:joinedFacts Tryz.pinned.checked.prog 5 f5 (Rows.OpenSpec.upto Rows.transcodesSpec).bare Rows.transcodesUptoRow=true:=by
 unfold joinedFacts;rw[q0K,q0I,q1g,q0L];kernel_rfl
theorem qzY:Rows.TranscodesUptoSaid :=
 OpenClaim.holds_of_cond 5 f5 rfl rfl rfl rfl rfl rfl rfl ⟨rfl,rfl,rfl,rfl,rfl⟩ rfl rfl rfl rfl rfl (by kernel_rfl) func5 qzB
  (of_decide_eq_true (by kernel_rfl)) (by unfold Func.isWrapper;first|(rw[if_pos (by decide +kernel)];kernel_rfl)|(rw[if_neg (by decide +kernel)];exact⟨rfl,rfl⟩))
  (fun os started H enc _ F=>by rw[OpenClaim.pre_eq_preRow];exact qz2 os started H enc F)
theorem qzA (f:FuncId)(fn:Func)(hf:Tryz.pinned.checked.prog.funcNamed Rows.transcodesUptoRow.func=some f)(hfn:Tryz.pinned.checked.prog.funcs[f]? = some fn):true=Tryz.pinned.checked.prog.looks []∧∀(j:Nat) t,fn.params[j]? = some t→Tryz.pinned.checked.prog.wantsStandIn t=false:=by
 obtain rfl:f=5:=Option.some.inj ((show prog.funcNamed Rows.transcodesUptoRow.func=some 5 by kernel_rfl).symm.trans hf) |>.symm;obtain rfl:fn=f5:=(Option.some.inj (func5.symm.trans hfn)).symm;refine⟨by kernel_rfl,fun j t ht => ?_⟩;rw[Tryz.params5] at ht;have hm:t∈#[(22:TypeId),23]:=Array.mem_of_getElem? ht;rcases(by simpa using hm:t=22∨t=23) with rfl|rfl
 ·exact(show prog.wantsStandIn 22=false by kernel_rfl)
 exact(show prog.wantsStandIn 23=false by kernel_rfl)
theorem transcodes_card:Rows.TranscodesUptoCardSaid :=
 Claim7.holds_tied_plain_at .later [] _ _ _ _ qzY (fun _ h=>by cases h) (by kernel_rfl) (fun _ h=>by cases h) transcodesUpto_row_tie rfl ⟨rfl,rfl⟩ (by kernel_rfl) rfl qzA (by kernel_rfl)
#print axioms transcodes_card
end
end Go.Proofs.YtllcbnfmihfaaaaGreatDoor
