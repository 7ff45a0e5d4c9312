import Derived.Test.YtllcbnfmihfaaaaGreatDoorTq46
import Derived.Test.YtllcbnfmihfaaaaGreatDoorTq42
set_option maxRecDepth 100000
set_option maxHeartbeats 8000000
namespace Go.Proofs.YtllcbnfmihfaaaaGreatDoor
open Go.Proofs.Tryz
section
open Go.RowKit Go.Lib
theorem q3i (k:Nat)(W:World)(bs:List UInt8)(fm d l lim:Int)(q0 x:Nat)(n:Int)(o:Bool)(dp:Int)(hn:n=min (x:Int) 9223372036854775807)(hl:Lm bs l lim)(hi:InR bs lim q0)(hb:bs.length≤200000000)(hd0:0≤dp)(hd1:dp≤100000)(rd:Nat→Except (Int×Int) (DataW Unit×Nat))(hbad:∀p,Bad (rd p))(hgo:∀p x q,rd p=.ok (x,q)→p<q)(cJ:∀V (p:Nat),InR bs lim p→Calls prog 116 #[.agg (inA bs fm d l),.int .i64 p,.int .i64 (dp+1)] V (qyp k bs lim V (rd p))):Calls prog 177 #[.agg (inA bs fm d l),.agg (hdC 6 n (q0:Int) o),.int .i64 dp] W (qyp (k+1) bs lim W (liR (qb9 rd x q0 []))):=by
 obtain⟨ti,hti,ht0,ht1,ht2⟩:=info_parts Tryz.infoThR;obtain⟨R,HR⟩:∃R,Hid (qb9 rd x q0 []=R):=⟨_,show _=_ from rfl⟩
 rw[HR.out];have HL:Hid (Lm bs l lim):=hl;have HI:Hid (InR bs lim q0):=hi;have HN:Hid (n=min (x:Int) 9223372036854775807):=hn;have HCJ:Hid (∀V (p:Nat),InR bs lim p→Calls prog 116 #[.agg #[.string ⟨bs.toArray⟩,.int .i64 fm,.int .i64 d,.int .i64 l],.int .i64 p,.int .i64 (dp+1)] V (qyp k bs lim V (rd p))):=cJ;have HGO:Hid (∀p x q,rd p=.ok (x,q)→p<q):=hgo;have HBAD:Hid (∀p,Bad (rd p)):=hbad;clear hl hi cJ hgo hbad hn;unfold inA hdC;go_enter func177,ntmps177
 go_wp2_with (first
  |((with_reducible refine zT 9 22 rfl rfl (W.heap.size+4) (thA 6 0 ⟨#[]⟩ qxE qxE) ?_ ?_);exact⟨rfl,rfl,(q2E W _ _).tv,thg⟩;refine nmd ?_;intro V0 EV0;have HX:Hid (qy9 W (inA bs fm d l) (hdC 6 n (q0:Int) o) (thA 6 0 ⟨#[]⟩ qxE qxE) V0):=EV0▸(q2E W _ _).row _;clear EV0;obtain⟨c0,c1,c2,c3⟩:=qyf HX.out.box;have d0:V0.cell? ⟨W.heap.size+1,0,none⟩=some (.int .i64 6):=qab HX.out.hd 0;have d1:V0.cell? ⟨W.heap.size+1,1,none⟩=some (.int .i64 n):=qab HX.out.hd 1;have d2:V0.cell? ⟨W.heap.size+1,2,none⟩=some (.int .i64 (q0:Int)):=qab HX.out.hd 2))
 go_loopg [10,11] (bs.length+1-q0) (fun g z10 z11 wr=>∃(p kj:Nat) (ds:List (DataW Unit)) (ua:Option Addr) (un uc:Nat),z10=.int .i64 p∧z11=.int .i64 kj∧Hid (bs.length+1≤p+g)∧Hid (InR bs lim p)∧Hid (kj≤p∧kj≤x)∧Hid (ds.length=kj)∧Hid (qb9 rd (x-kj) p ds=R)∧Hid (qy9 W (inA bs fm d l) (hdC 6 n (q0:Int) o) (thA 6 0 ⟨#[]⟩ qxE (.slice ua un uc)) wr)∧Hid (qys k wr (W.heap.size+5) (.slice ua un uc) (fun _=>False) ds))
 case atStart=>exact⟨q0,0,[],none,0,0,rfl,rfl,by show _≤_;omega,HI,⟨Nat.zero_le _,Nat.zero_le _⟩,rfl,HR,HX,qzz _ _ _ _⟩
 case round =>
  clear HR HX HI c0 c1 c2 c3 d0 d1 d2;obtain⟨p,kj,ds,ua,un,uc,rfl,rfl,hg,HI,HK,HDS,HR,HX,HKD⟩:=hrel;have hp0:=HI.out.1;have hkp:=HK.out.1;have hwr:=HX.out.size;obtain⟨c0,c1,c2,c3⟩:=qyf HX.out.box;have d0:wr.cell? ⟨W.heap.size+1,0,none⟩=some (.int .i64 6):=qab HX.out.hd 0;have d1:wr.cell? ⟨W.heap.size+1,1,none⟩=some (.int .i64 n):=qab HX.out.hd 1;have d2:wr.cell? ⟨W.heap.size+1,2,none⟩=some (.int .i64 (q0:Int)):=qab HX.out.hd 2;by_cases hkx:kj=x
  ·have hlt:¬(kj:Int)<n:=by have:=HN.out;omega
   have HE:Hid (R=.ok (ds,p)):=by
    show _=_;rw[←HR.out,hkx,Nat.sub_self];rfl
   clear HR hg
   go_wp2_with (first
    |((with_reducible refine wpList_load_row rfl 93 (.tmp 9) rfl (W.heap.size+4) ?hx 93 (#[.int .i64 6,.int .i64 0,.string ⟨#[]⟩,.slice none 0 0,.slice ua un uc]) (0,0) _ ?hg underlying93 rfl ?hi ?_);(case hx=>exact rfl);(case hg=>exact HX.out.tv);(case hi=>exact qyL))
    |((with_reducible refine zT 6 111 rfl rfl (W.heap.size+2) (thA 6 0 ⟨#[]⟩ qxE (.slice ua un uc)) ?_ ?_);exact⟨rfl,rfl,HX.out.th,thg⟩)
    |((with_reducible refine zF 8 113 rfl rfl (W.heap.size+3) (0,0) ?_ ?_);exact⟨rfl,rfl,sx (by omega) HX.out.flt⟩))
   have hf:=HX.out.fin (thA 6 0 ⟨#[]⟩ qxE (.slice ua un uc)) (0,0);refine eoT results177 hf (.int .i64 p) rfl rfl rfl rfl ⟨hf.2.2,?_⟩;rw[HE.out];exact⟨HI.out,_,_,_,_,_,_,_,_,_,rfl,(HKD.out.next (by simp) (fun j hj1 hj2=>by rw[setRow_other _ _ _ _ (by omega),setRow_other _ _ _ _ (by omega)])).list (by omega)⟩
  have hkx2:kj<x:=by have:=HK.out.2;omega
  have hlt:(kj:Int)<n:=by have:=HN.out;omega
  have t7:((6:Int)==7)=false:=rfl
  go_wp2_with fail
  refine(HCJ.out _ p HI.out).mono ?_;clear c0 c1 c2 c3 d0 d1 d2;rintro e w2 ⟨hB2,he⟩;have HX4:=qaa (HX.out.next hB2);have HKD4:=qaa (HKD.out.next hB2.size (fun j _ hj=>hB2.block j hj));have hs2:=hB2.size;have hwi:=HX.out.size
  cases hr:rd p with
  |error f =>
   rw[hr] at he;obtain⟨kk,nn,s,a1,i1,j1,b1,q1,m1,z,rfl⟩:=he;have hne:(f.1==0)=false:=by
    have:=HBAD.out p f.1 f.2 hr;simpa using this
   have HE:Hid (R=.error f):=by
    show _=_;rw[←HR.out,show x-kj=(x-kj-1)+1 by omega,qb9,hr]
   clear HR hr;simp only[]
   go_wp2_with (first
    |((with_reducible refine zT 17 96 rfl rfl (w2.heap.size) (thA kk nn s (.slice a1 i1 j1) (.slice b1 q1 m1)) ?_ ?_);exact⟨rfl,rfl,(qxI w2 _ _).1,thg⟩)
    |((with_reducible refine zF 19 98 rfl rfl (w2.heap.size+1) (f) ?_ ?_);exact⟨rfl,rfl,sx (by omega) (qxI w2 _ _).2⟩;refine nmd ?_;intro V5 EV5;have HX5:Hid (qy9 W (inA bs fm d l) (hdC 6 n (q0:Int) o) (thA 6 0 ⟨#[]⟩ qxE (.slice ua un uc)) V5):=EV5▸HX4.out.next (qxL _ _ _ _ _);have HF5:Hid (V5.heap[w2.heap.size+1]? = some (.cells (qqp (f)) 95)):=EV5▸qzi;clear EV5;obtain⟨c0,c1,c2,c3⟩:=qyf HX5.out.box;have u0:V5.cell? ⟨w2.heap.size+1,0,none⟩=some (.int .i64 (f.1)):=qab HF5.out 0))
   refine rgn (S:=fun Z=>Z.heap[w2.heap.size+1]? = some (.cells (qqp f) 95)) (HF5.out) (by kernel_rfl) ?_;intro hS;refine tk 1 103 (.agg (qqp f)) rfl (by kernel_rfl) iQ3 (fun Z hZ=>yF 19 hZ rfl rfl) hS ?_;refine tk 0 102 (.agg th0) rfl (by kernel_rfl) iQ3 (fun Z hZ => ?y0) hS ?_
   case y0=>(unfold th0 thA qxE;go_simp)
   have hS3:=(setRow_other _ (W.heap.size+2) (w2.heap.size+1) th0 (by omega)).trans hS;refine sTh 2 6 102 (W.heap.size+2) (th0) (by kernel_rfl) (HX5.out.drew.th) thg (hS3) ?_;refine tkk 3 7 (.int .i64 0) (by kernel_rfl) iQ3 hS3 ?_;refine sF 4 8 103 (W.heap.size+3) f (by kernel_rfl) (sx (by omega) HX5.out.drew.flt) (sx (by omega) hS3) ?_;refine wpAnyH_done (by kernel_rfl) ?_ _;go_simp;go_wp2;have hf:=HX5.out.drew.fin (th0) (f);refine eoT results177 hf (.int .i64 0) rfl rfl rfl rfl ⟨hf.2.2,?_⟩;rw[HE.out];exact⟨_,_,_,_,_,_,_,_,_,_,rfl⟩
  |ok y =>
   obtain⟨dd,pq⟩:=y;rw[hr] at he;obtain⟨hqi,kk,nn,s,a1,i1,j1,b1,q1,m1,rfl,hA⟩:=he;have HQI:Hid (InR bs lim pq):=hqi;have HA:Hid (qyi k w2 (fun j=>wr.heap.size≤j∧j<w2.heap.size) (.agg #[.int .i64 kk,.int .i64 nn,.string s,.slice a1 i1 j1,.slice b1 q1 m1]) dd):=hA;have hpq:=HGO.out p dd pq hr;have hqb:=hqi.1;have HUL:Hid (∀g,(Value.slice ua un uc).ownBlock=some g→g<wr.heap.size):=by
    obtain⟨xs,ho,_⟩:=HKD.out;exact fun g e=>qy1 ho e
   have HR2:Hid (qb9 rd (x-(kj+1)) pq (ds++[dd])=R):=by
    show _=_;rw[←HR.out]
    conv=>rhs;rw[show x-kj=(x-(kj+1))+1 by omega,qb9,hr]
   clear HR hr hA hqi;simp only[]
   go_wp2_with (first
    |((with_reducible refine zT 17 96 rfl rfl (w2.heap.size) (thA kk nn s (.slice a1 i1 j1) (.slice b1 q1 m1)) ?_ ?_);exact⟨rfl,rfl,(qxI w2 _ _).1,thg⟩)
    |((with_reducible refine zF 19 98 rfl rfl (w2.heap.size+1) (0,0) ?_ ?_);exact⟨rfl,rfl,sx (by omega) (qxI w2 _ _).2⟩;refine nmd ?_;intro V5 EV5;have HB5:Hid (Below w2.heap.size w2 V5):=EV5▸qxL _ _ _ _ _;have HX5:Hid (qy9 W (inA bs fm d l) (hdC 6 n (q0:Int) o) (thA 6 0 ⟨#[]⟩ qxE (.slice ua un uc)) V5):=HX4.out.next HB5.out;have HF5:Hid (V5.heap[w2.heap.size+1]? = some (.cells (qqp (0,0)) 95)):=EV5▸qzi;have HT5:Hid (V5.heap[w2.heap.size]? = some (.cells #[.int .i64 kk,.int .i64 nn,.string s,.slice a1 i1 j1,.slice b1 q1 m1] 93)):=EV5▸q0p;have HKD5:Hid (qys k V5 (W.heap.size+5) (.slice ua un uc) (fun _=>False) ds):=HKD4.out.next HB5.out.size (fun j _ hj=>HB5.out.block j hj);have HA5:Hid (qyi k V5 (fun j=>wr.heap.size≤j∧j<V5.heap.size) (.agg #[.int .i64 kk,.int .i64 nn,.string s,.slice a1 i1 j1,.slice b1 q1 m1]) dd):=HA.out.same (fun j hj=>⟨hj.1,Nat.lt_of_lt_of_le hj.2 HB5.out.size⟩) (fun j hj=>HB5.out.block j hj.2);clear EV5;have k4:V5.cell? ⟨W.heap.size+1+1+1+1,4,none⟩=some (.slice ua un uc):=qab HX5.out.tv 4;obtain⟨c0,c1,c2,c3⟩:=qyf HX5.out.box;have u0:V5.cell? ⟨w2.heap.size+1,0,none⟩=some (.int .i64 (0)):=qab HF5.out 0)
    |((with_reducible refine wpList_load_row rfl 93 (.tmp 17) rfl (w2.heap.size) ?hx 93 (#[.int .i64 kk,.int .i64 nn,.string s,.slice a1 i1 j1,.slice b1 q1 m1]) (0,0) _ ?hg underlying93 rfl ?hi ?_);(case hx=>exact rfl);(case hg=>exact HT5.out);(case hi=>exact qyL);obtain⟨xs,ho,hch⟩:=HKD5.out;have HO:Hid (V5.ownsRow (W.heap.size+5) 93 5 (.slice ua un uc) ds.length xs):=ho;have HCH:Hid (∀(i:Nat) (d:DataW Unit),ds[i]? = some d→∃a,qzH xs i a∧qyi k V5 (fun j=>(W.heap.size+5)≤j∧j<V5.heap.size∧some j≠(Value.slice ua un uc).ownBlock∧¬False) (.agg a) d):=hch;clear ho hch)
    |(at_builtin;(refine qaX _ rfl _ _ 91 rfl (W.heap.size+5) 93 ti (.agg th0) 5 80 underlying91 hti ht0 ht1 ht2 rfl (by decide) _ _ _ rfl (HO.out.alloc _) ⟨V5.heap.size,0,none⟩ 1 1 [.int .i64 kk,.int .i64 nn,.string s,.slice a1 i1 j1,.slice b1 q1 m1] rfl rfl (qag _ _ _) (qzs _ _ _ _ _ _ _ _ _) (by decide) (by have:=HDS.out;unfold maxLen;omega) (by have:=HDS.out;omega) (by have:=HX5.out.size;simp;omega) ?_);intro v' w5 hown' hgrow5 hw5;obtain⟨g5,cap5,rfl⟩:=ownsRow_succ hown';have HX6:Hid (qy9 W (inA bs fm d l) (hdC 6 n (q0:Int) o) (thA 6 0 ⟨#[]⟩ qxE (.slice ua un uc)) w5):=HX5.out.grow (fun g e=>qbA HO.out e) hgrow5;have HKD6:Hid (qys k w5 (W.heap.size+5) (.slice (some ⟨g5,0,none⟩) (ds.length+1) cap5) (fun _=>False) (ds++[dd])):=qys.push (L:=wr.heap.size) HO.out HCH.out HA5.out (fun g e=>HUL.out g e) (by omega) (fun _ _ h=>h) rfl hown' hgrow5 hw5;clear hown' hgrow5 hw5 c0 c1 c2 c3 k4 u0;have k4:w5.cell? ⟨W.heap.size+1+1+1+1,4,none⟩=some (.slice ua un uc):=qab HX6.out.tv 4;have f4:w5.frozen? ⟨W.heap.size+1+1+1+1,4,none⟩=false:=frozen_of_row w5 (W.heap.size+4) 4 _ _ HX6.out.tv))
   have HX7:Hid (qy9 W (inA bs fm d l) (hdC 6 n (q0:Int) o) (thA 6 0 ⟨#[]⟩ qxE (.slice (some ⟨g5,0,none⟩) (ds.length+1) cap5)) (w5.setCell ⟨W.heap.size+1+1+1+1,4,none⟩ (.slice (some ⟨g5,0,none⟩) (ds.length+1) cap5))):=(HX6.out.cell _).2;have HKD7:Hid (qys k (w5.setCell ⟨W.heap.size+1+1+1+1,4,none⟩ (.slice (some ⟨g5,0,none⟩) (ds.length+1) cap5)) (W.heap.size+5) (.slice (some ⟨g5,0,none⟩) (ds.length+1) cap5) (fun _=>False) (ds++[dd])):=HKD6.out.next (by simp[World.setCell]) (fun j hj1 hj2=>heap_setCell_other w5 _ _ _ (by simp;omega))
   go_roundg (gk-(pq-p))
   case measure=>have:=hg.out;omega
   case rel=>exact⟨pq,kj+1,ds++[dd],_,_,_,rfl,by go_num,by show _≤_;have:=hg.out;omega,HQI,⟨by omega,by omega⟩,by show _=_;rw[List.length_append];have:=HDS.out;simp;omega,HR2,HX7,HKD7⟩
def RbE (k:Nat)(bs:List UInt8)(lim:Int)(W:World)(r:Except (Int×Int) (DataW Unit×Nat))(T:Array Value)(z:Int)(F:Int×Int):Prop :=
 ∀W',Below W.heap.size W W'→qyp k bs lim W r (.returned (.tuple #[.agg T,.int .i64 z,.agg (qqp F)])) W'
theorem q22 {k:Nat}{bs:List UInt8}{lim:Int}{W:World}{kd n:Int}{s:ByteArray}{z:Int}(f:Int×Int):RbE k bs lim W (.error f) (thA kd n s qxE qxE) z f :=
 fun _ h=>⟨h,_,_,_,_,_,_,_,_,_,_,rfl⟩
def BnV (k:Nat)(W:World)(bs:List UInt8)(fm d l lim dp:Int)(R:Except (Int×Int) (DataW Unit×Nat))(a n q:Int)(o:Bool):Prop :=
 (a=3∧o=true∧1≤q∧q≤200000001∧∃f,(∀V,Calls prog 71 #[.agg (inA bs fm d l),.int .i64 (q-1),.int .i64 10] V fun e W'=>e=.returned (.agg (qqp f))∧Below V.heap.size V W')∧RbE k bs lim W R th0 0 f)
  ∨ (a=3∧o=false∧RbE k bs lim W R (thA 3 n ⟨#[]⟩ qxE qxE) q (0,0))
  ∨ (∃tx,((a==4)=tx∧(tx=false→a=5))∧∃lx r f,(∀V,Calls prog 176 #[.agg (inA bs fm d l),.int .i64 q,.int .i64 n,.bool tx] V fun e W'=>e=.returned (.tuple #[.string lx,.int .i64 r,.agg (qqp f)])∧Below V.heap.size V W')∧RbE k bs lim W R (thA a 0 lx qxE qxE) r f)
  ∨ ((a=6∨a=7)∧∀V,Calls prog 177 #[.agg (inA bs fm d l),.agg (hdC a n q o),.int .i64 dp] V (qyp k bs lim V R))
  ∨ ((0≤a∧a≤2)∧RbE k bs lim W R (thA a 0 ⟨#[]⟩ qxE qxE) q (0,0))
def BnW (k:Nat)(W:World)(bs:List UInt8)(fm d l lim dp:Int)(R:Except (Int×Int) (DataW Unit×Nat))(a n q:Int)(o:Bool)(F:Int×Int):Prop :=
 ((F.1==0)=false∧RbE k bs lim W R th0 0 F)∨(F=(0,0)∧BnV k W bs fm d l lim dp R a n q o)
def BnP (bs:List UInt8)(fm d l dp:Int)(i:Nat):Prop :=
 qyb bs l i=false∨(qyb bs l i=true∧∃ic:Bool,(∀V,Calls prog 174 #[.agg (inA bs fm d l),.int .i64 i] V fun e W'=>e=.returned (.bool ic)∧Below V.heap.size V W')∧(ic=true→dp<d))
theorem q5l (k:Nat)(W:World)(bs:List UInt8)(fm d l lim:Int)(i:Nat)(dp:Int)(h1:qyb bs l i=true)(cI:∀V,Calls prog 174 #[.agg (inA bs fm d l),.int .i64 i] V fun e W'=>e=.returned (.bool true)∧Below V.heap.size V W')(hdd:d≤dp)(h2:qr0 bs l i 11=(11,(i:Int))):Calls prog 116 #[.agg (inA bs fm d l),.int .i64 i,.int .i64 dp] W (qyp (k+1) bs lim W (.error (11,(i:Int)))):=by
 have cH1:=qyz fm d h1;have cI1:=cI;unfold inA at cI1;have hdf:decide (d≤dp)=true:=by simpa using hdd
 have cB1:=q11 fm d h2;have HX:=qzU W bs fm d l;clear h1 cI hdd h2;unfold inA;go_enter func116,ntmps116
 go_wp2_with (first
  |(go_at_call 113;refine HX.out.ck (cH1 _) ?_;clear cH1;intro w2 HX2 c0 c1 c2 c3)
  |(go_at_call 174;refine HX2.out.ck (cI1 _) ?_;clear cI1 c0 c1 c2 c3;intro w3 HX3 c0 c1 c2 c3)
  |(go_at_call 71;refine HX3.out.ck (cB1 _) ?_;clear cB1 c0 c1 c2 c3;intro w4 HX4 c0 c1 c2 c3)
  |((with_reducible refine zT 6 28 rfl rfl (W.heap.size+1) (th0) ?_ ?_);exact⟨rfl,rfl,HX4.out.th,thg⟩)
  |((with_reducible refine zF 8 31 rfl rfl (W.heap.size+2) (11,(i:Int)) ?_ ?_);exact⟨rfl,rfl,qyc HX4.out bwR _⟩))
 have hf:=qxQ HX4.out bwR (th0) (11,(i:Int));exact eoT results116 hf (.int .i64 0) rfl rfl rfl rfl ⟨hf.2.2,_,_,_,_,_,_,_,_,_,_,rfl⟩
theorem q5Y (k:Nat)(W:World)(bs:List UInt8)(fm d l lim:Int)(i:Nat)(dp:Int)(R:Except (Int×Int) (DataW Unit×Nat))(hp:BnP bs fm d l dp i)(cD:∀V,Calls prog 175 #[.agg (inA bs fm d l),.int .i64 i] V fun e W'=>(∃a n q o F,e=.returned (.tuple #[.agg (hdC a n q o),.agg (qqp F)])∧BnW (k+1) W bs fm d l lim dp R a n q o F)∧Below V.heap.size V W'):Calls prog 116 #[.agg (inA bs fm d l),.int .i64 i,.int .i64 dp] W (qyp (k+1) bs lim W R):=by
 have HX:=qzU W bs fm d l;have hw:qyb bs l i=false∨(qyb bs l i=true∧∃ic:Bool,(∀V,Calls prog 174 #[.agg (inA bs fm d l),.int .i64 i] V fun e W'=>e=.returned (.bool ic)∧Below V.heap.size V W')∧(ic=true→decide (d≤dp)=false)):=hp.imp id fun ⟨h,ic,c,h2⟩=>⟨h,ic,c,fun e=>decide_eq_false (by have:=h2 e;omega)⟩
 have HCD:Hid (∀V,Calls prog 175 #[.agg #[.string ⟨bs.toArray⟩,.int .i64 fm,.int .i64 d,.int .i64 l],.int .i64 i] V fun e W'=>(∃a n q o F,e=.returned (.tuple #[.agg (hdC a n q o),.agg (qqp F)])∧BnW (k+1) W bs fm d l lim dp R a n q o F)∧Below V.heap.size V W'):=cD;clear hp cD;rcases hw with h|⟨h,ic,cI,hdf⟩
 rotate_left
 cases ic
 rotate_left
 replace hdf:=hdf rfl
 all_goals
  have cH1:=qyz fm d h;unfold inA at *;clear h;go_enter func116,ntmps116
  go_upto_region 4 with (first
   |(go_at_call 113;refine HX.out.ck (cH1 _) ?_;clear cH1;intro w2 HX2 c0 c1 c2 c3;have HX3:=HX2)
   |(go_at_call 174;refine HX2.out.ck (cI _) ?_;clear cI c0 c1 c2 c3 HX3;intro w3 HX3 c0 c1 c2 c3)
   |(go_at_call 175;refine(HCD.out _).mono ?_;clear HCD c0 c1 c2 c3;rintro e w6 ⟨⟨a,n,q,o,F,rfl,hw⟩,hB6⟩;have HX6:=qaa (HX3.out.next hB6);have HW:=qaa hw;clear hw hB6)
   |((with_reducible refine zH 9 36 rfl rfl (w6.heap.size) a n q o ?_ ?_);exact⟨rfl,rfl,(qxI w6 _ _).1⟩)
   |((with_reducible refine zF 10 37 rfl rfl (w6.heap.size+1) F ?_ ?_);exact⟨rfl,rfl,sx (by omega) (qxI w6 _ _).2⟩;refine nmd ?_;intro V7 EV7;have HX7:Hid (RTh W (inA bs fm d l) V7):=EV7▸HX6.out.next (qxL _ _ _ _ _);have HF7:Hid (V7.heap[w6.heap.size+1]? = some (.cells (qqp F) 95)):=EV7▸qzi;have HG7:Hid (V7.heap[w6.heap.size]? = some (.cells (hdC a n q o) 294)):=EV7▸q0p;have hM:W.heap.size+3≤w6.heap.size:=ltA HX6.out.flt;clear EV7;generalize w6.heap.size=M at *;obtain⟨c0,c1,c2,c3⟩:=qyf HX7.out.box;obtain⟨g0,g1,g2,g3⟩:=q7j HG7.out;have u0:V7.cell? ⟨M+1,0,none⟩=some (.int .i64 F.1):=qab HF7.out 0))
  rcases HW.out with ⟨hne,hfin⟩|⟨rfl,hw⟩
  ·have HFN:=qaa hfin;clear HW hfin
   go_wp2_with fail
   refine rgn (S:=fun Z=>Z.heap[M+1]? = some (.cells (qqp F) 95)) (HF7.out) (by kernel_rfl) ?_;intro hS;refine tk 1 42 (.agg (qqp F)) rfl (by kernel_rfl) iQ3 (fun Z hZ=>yF 10 hZ rfl rfl) hS ?_;refine tk 0 41 (.agg th0) rfl (by kernel_rfl) iQ3 (fun Z hZ => ?y0) hS ?_
   case y0=>(unfold th0 thA qxE;go_simp)
   have hS3:=sx (cs:=th0) (show M+1≠W.heap.size+1 by omega) hS;refine sTh 2 6 41 (W.heap.size+1) (th0) (by kernel_rfl) (HX7.out.drew.th) thg (hS3) ?_;refine tkk 3 7 (.int .i64 0) (by kernel_rfl) iQ3 hS3 ?_;refine sF 4 8 42 (W.heap.size+2) (F) (by kernel_rfl) (qyc HX7.out.drew bwR _) (sx (by omega) hS3) ?_;refine wpAnyH_done (by kernel_rfl) ?_ _;go_simp;go_wp2;have hf:=qxQ HX7.out.drew bwR (th0) (F);exact eoT results116 hf (.int .i64 0) rfl rfl rfl rfl (HFN.out _ hf.2.2)
  replace u0:V7.cell? ⟨M+1,0,none⟩=some (.int .i64 0):=u0
  rcases hw with ⟨rfl,rfl,hq1,hq2,f,cB,hfin⟩|⟨rfl,rfl,hfin⟩|⟨tx,⟨htx,h5⟩,lx,r,f,cR,hfin⟩|⟨ha,cP⟩|⟨⟨ha,hb⟩,hfin⟩
  ·have HFN:=qaa hfin;unfold inA at cB;clear HW hfin
   go_wp2_with (first
    |(go_at_call 71;refine ck (cB _) HX7.out.next ?_;clear cB c0 c1 c2 c3 g0 g1 g2 g3 u0;intro w8 HX8)
    |((with_reducible refine zT 6 49 rfl rfl (W.heap.size+1) (th0) ?_ ?_);exact⟨rfl,rfl,HX8.out.th,thg⟩)
    |((with_reducible refine zF 8 54 rfl rfl (W.heap.size+2) f ?_ ?_);exact⟨rfl,rfl,qyc HX8.out bwR _⟩))
   have hf:=qxQ HX8.out bwR (th0) f;exact eoT results116 hf (.int .i64 0) rfl rfl rfl rfl (HFN.out _ hf.2.2)
  ·have HFN:=qaa hfin;clear HW hfin
   go_wp2_with fail
   refine rgn (S:=fun Z=>Z.heap[M]? = some (.cells (hdC 3 n q false) 294)) (HG7.out) (by kernel_rfl) ?_;intro hS;refine tkk 0 55 (.pointer (some ⟨M,1,none⟩)) (by kernel_rfl) iQ3 hS ?_;refine tk 1 56 (.int .i64 n) rfl (by kernel_rfl) iQ3 (fun Z hZ => ?y1) hS ?_
   case y1=>(have hz:Z.cell? ⟨M,1,none⟩=some (.int .i64 n):=qab hZ 1;go_simp)
   refine tk 2 57 (.agg (thA 3 n ⟨#[]⟩ qxE qxE)) rfl (by kernel_rfl) iQ3 (fun Z hZ => ?y2) hS ?_
   case y2=>(unfold thA qxE;go_simp)
   refine tkk 3 58 (.pointer (some ⟨M,2,none⟩)) (by kernel_rfl) iQ3 hS ?_;refine tk 4 59 (.int .i64 q) rfl (by kernel_rfl) iQ3 (fun Z hZ => ?y4) hS ?_
   case y4=>(have hz:Z.cell? ⟨M,2,none⟩=some (.int .i64 q):=qab hZ 2;go_simp)
   refine tk 5 60 (.agg (qqp (0,0))) rfl (by kernel_rfl) iQ3 (fun Z hZ => ?y5) hS ?_
   case y5=>(unfold qqp;go_simp)
   have hS3:=sx (cs:=thA 3 n ⟨#[]⟩ qxE qxE) (show M≠W.heap.size+1 by omega) hS;refine sTh 6 6 57 (W.heap.size+1) (thA 3 n ⟨#[]⟩ qxE qxE) (by kernel_rfl) (HX7.out.drew.th) thg (hS3) ?_;refine tkk 7 7 (.int .i64 q) (by kernel_rfl) iQ3 hS3 ?_;refine sF 8 8 60 (W.heap.size+2) (0,0) (by kernel_rfl) (qyc HX7.out.drew bwR _) (sx (by omega) hS3) ?_;refine wpAnyH_done (by kernel_rfl) ?_ _;go_simp;go_wp2;have hf:=qxQ HX7.out.drew bwR (thA 3 n ⟨#[]⟩ qxE qxE) (0,0);exact eoT results116 hf (.int .i64 q) rfl rfl rfl rfl (HFN.out _ hf.2.2)
  ·have HFN:=qaa hfin;have t3:(a==3)=false:=by
    cases tx
    ·simp[h5 rfl]
    simp at htx;simp[htx]
   have t5:tx=true∨(tx=false∧(a==5)=true):=by
    cases tx
    ·exact .inr ⟨rfl,by simp[h5 rfl]⟩
    exact .inl rfl
   have HR:=qaa cR;clear HW hfin h5 cR;rcases t5 with rfl|⟨rfl,t5⟩
   all_goals
    have cR:=HR.out;unfold inA at cR
    go_wp2_with (first
     |(go_at_call 176;refine ckB (cR _) HX7.out.next ?_;clear cR c0 c1 c2 c3 g0 g1 g2 g3 u0;intro w8 hB8 HX8;have HG8:Hid (w8.heap[M]? = some (.cells (hdC a n q o) 294)):=(hB8.block _ (ltA HG7.out)).trans HG7.out;have hM8:M<w8.heap.size:=ltA HG8.out)
     |((with_reducible refine zF 13 76 rfl rfl (w8.heap.size) f ?_ ?_);exact⟨rfl,rfl,qac w8 _⟩;refine nmd ?_;intro V9 EV9;have HX9:Hid (RTh W (inA bs fm d l) V9):=EV9▸HX8.out.next (qxR _ _);have HF9:Hid (V9.heap[w8.heap.size]? = some (.cells (qqp f) 95)):=EV9▸setRow_heap _ _ _ _ _ _ (qac _ _);have HG9:Hid (V9.heap[M]? = some (.cells (hdC a n q o) 294)):=EV9▸((qxR w8 _).block _ hM8).trans HG8.out;clear EV9;generalize w8.heap.size=M2 at *))
    refine rgn (S:=fun Z=>Z.heap[M]? = some (.cells (hdC a n q o) 294)∧Z.heap[M2]? = some (.cells (qqp f) 95)) (⟨HG9.out,HF9.out⟩) (by kernel_rfl) ?_;intro hS;refine tk 5 82 (.agg (qqp f)) rfl (by kernel_rfl) iQ3 (fun Z hZ=>yF 13 hZ.2 rfl rfl) hS ?_;refine tkk 0 77 (.pointer (some ⟨M,0,none⟩)) (by kernel_rfl) iQ3 hS ?_;refine tk 1 78 (.int .i64 a) rfl (by kernel_rfl) iQ3 (fun Z hZ => ?y1) hS ?_
    case y1=>(have hz:Z.cell? ⟨M,0,none⟩=some (.int .i64 a):=qab hZ.1 0;go_simp)
    refine tkk 2 79 (.string lx) (by kernel_rfl) iQ3 hS ?_;refine tk 3 80 (.agg (thA a 0 lx qxE qxE)) rfl (by kernel_rfl) iQ3 (fun Z hZ => ?y3) hS ?_
    case y3=>(unfold thA qxE;go_simp)
    refine tkk 4 81 (.int .i64 r) (by kernel_rfl) iQ3 hS ?_;have hS3:=And.intro (sx (cs:=thA a 0 lx qxE qxE) (show M≠W.heap.size+1 by omega) hS.1) (sx (cs:=thA a 0 lx qxE qxE) (show M2≠W.heap.size+1 by omega) hS.2);refine sTh 6 6 80 (W.heap.size+1) (thA a 0 lx qxE qxE) (by kernel_rfl) (HX9.out.drew.th) thg (hS3) ?_;refine tkk 7 7 (.int .i64 r) (by kernel_rfl) iQ3 hS3 ?_;refine sF 8 8 82 (W.heap.size+2) f (by kernel_rfl) (qyc HX9.out.drew bwR _) (⟨sx (by omega) hS3.1,sx (by omega) hS3.2⟩) ?_;refine wpAnyH_done (by kernel_rfl) ?_ _;go_simp;go_wp2;have hf:=qxQ HX9.out.drew bwR (thA a 0 lx qxE qxE) f;exact eoT results116 hf (.int .i64 r) rfl rfl rfl rfl (HFN.out _ hf.2.2)
  ·have HCP:=qaa cP;clear HW cP;rcases ha with rfl|rfl
   all_goals
    have cP:=HCP.out;unfold inA at cP
    go_wp2_with (first
     |((with_reducible refine wpList_load_row rfl 294 (.tmp 9) rfl (M) ?hx 294 (hdC _ n q o) (0,0) _ ?hg underlying294 rfl ?hi ?_);(case hx=>exact rfl);(case hg=>exact HG7.out);(case hi=>exact q2x _ _ _ _)))
    refine(cP _).mono ?_;clear cP c0 c1 c2 c3 g0 g1 g2 g3 u0;rintro e w8 hrb;have hlt2:=ltA HX7.out.flt;obtain⟨hB8,r',kk,nn,s,a1,i1,j1,b1,p1,m1,z,F,hlo,rfl,hA,hF⟩:=qy2 (q5V hrb);have HX8:=qaa (HX7.out.next hB8);have HRB:=qaa hrb.2;clear hrb hlo hA hF hB8;simp only[]
    go_wp2_with (first
     |((with_reducible refine zT 6 90 rfl rfl (W.heap.size+1) (thA kk nn s (.slice a1 i1 j1) (.slice b1 p1 m1)) ?_ ?_);exact⟨rfl,rfl,HX8.out.th,thg⟩)
     |((with_reducible refine zF 8 92 rfl rfl (W.heap.size+2) F ?_ ?_);exact⟨rfl,rfl,qyc HX8.out bwR _⟩))
    have hf:=qxQ HX8.out bwR (thA kk nn s (.slice a1 i1 j1) (.slice b1 p1 m1)) F;refine eoT results116 hf (.int .i64 z) rfl rfl rfl rfl ⟨hf.2.2,?_⟩
    cases R with
    |error f=>exact HRB.out
    |ok y =>
     obtain⟨h1,kd,n',s',a',i',j',b',p',m',h2,h3⟩:=HRB.out;exact⟨h1,kd,n',s',a',i',j',b',p',m',h2,q5F h3 HX7.out.below.size hlt2⟩
  have HFN:=qaa hfin;have t3:(a==3)=false:=by simp;omega
  have t4:(a==4)=false:=by simp;omega
  have t5:(a==5)=false:=by simp;omega
  have t6:(a==6)=false:=by simp;omega
  have t7:(a==7)=false:=by simp;omega
  clear HW hfin
  go_wp2_with fail
  refine rgn (S:=fun Z=>Z.heap[M]? = some (.cells (hdC a n q o) 294)) (HG7.out) (by kernel_rfl) ?_;intro hS;refine tkk 0 93 (.pointer (some ⟨M,0,none⟩)) (by kernel_rfl) iQ3 hS ?_;refine tk 1 94 (.int .i64 a) rfl (by kernel_rfl) iQ3 (fun Z hZ => ?y1) hS ?_
  case y1=>(have hz:Z.cell? ⟨M,0,none⟩=some (.int .i64 a):=qab hZ 0;go_simp)
  refine tk 2 95 (.agg (thA a 0 ⟨#[]⟩ qxE qxE)) rfl (by kernel_rfl) iQ3 (fun Z hZ => ?y2) hS ?_
  case y2=>(unfold thA qxE;go_simp)
  refine tkk 3 96 (.pointer (some ⟨M,2,none⟩)) (by kernel_rfl) iQ3 hS ?_;refine tk 4 97 (.int .i64 q) rfl (by kernel_rfl) iQ3 (fun Z hZ => ?y4) hS ?_
  case y4=>(have hz:Z.cell? ⟨M,2,none⟩=some (.int .i64 q):=qab hZ 2;go_simp)
  refine tk 5 98 (.agg (qqp (0,0))) rfl (by kernel_rfl) iQ3 (fun Z hZ => ?y5) hS ?_
  case y5=>(unfold qqp;go_simp)
  have hS3:=sx (cs:=thA a 0 ⟨#[]⟩ qxE qxE) (show M≠W.heap.size+1 by omega) hS;refine sTh 6 6 95 (W.heap.size+1) (thA a 0 ⟨#[]⟩ qxE qxE) (by kernel_rfl) (HX7.out.drew.th) thg (hS3) ?_;refine tkk 7 7 (.int .i64 q) (by kernel_rfl) iQ3 hS3 ?_;refine sF 8 8 98 (W.heap.size+2) (0,0) (by kernel_rfl) (qyc HX7.out.drew bwR _) (sx (by omega) hS3) ?_;refine wpAnyH_done (by kernel_rfl) ?_ _;go_simp;go_wp2;have hf:=qxQ HX7.out.drew bwR (thA a 0 ⟨#[]⟩ qxE qxE) (0,0);exact eoT results116 hf (.int .i64 q) rfl rfl rfl rfl (HFN.out _ hf.2.2)
theorem q64 {fm:Int}(hfm:fm=2∨fm=3)(c:UInt8):(hdO fm c.toNat).1≤10:=by
 rcases hfm with rfl|rfl
 ·exact(qvl c.toNat c.toNat_lt).1
 exact(qvE c.toNat c.toNat_lt).1
theorem q2v (so w x:Nat)(h5:¬so=5)(h6:¬so=6):nR so w x=min (x:Int) 9223372036854775807:=by
 unfold nR;rw[if_neg h5,if_neg h6]
theorem qzk (x:Int):-9223372036854775808≤wrap64 x∧wrap64 x≤9223372036854775807:=by
 unfold wrap64;omega
theorem q5P (x:Nat)(w:Int):-9223372036854775808≤qws x w∧qws x w≤9223372036854775807:=by
 unfold qws;split
 ·exact qzk _
 split
 ·exact qzk _
 split
 ·exact qzk _
 exact qzk _
theorem q3W (bs:List UInt8)(fm depth l lim:Int)(hfm:fm=2∨fm=3)(hl:Lm bs l lim)(hb:bs.length≤200000000)(hd2:depth≤100000):∀(g wi:Nat) (W:World) (i:Nat),(wi:Int)≤depth→depth<wi+g→InR bs lim i →
  Calls prog 116 #[.agg (inA bs fm depth l),.int .i64 i,.int .i64 wi] W (qyp g bs lim W (thB (hdO fm) bs lim depth g wi i)):=by
 intro g
 induction g with
 |zero=>exact fun wi W i h1 h2 _=>absurd h2 (by omega)
 |succ g ih =>
  intro wi W i h1 h2 hi;have go:∀R,BnP bs fm depth l wi i→(∀a n q o F,(∀so w x p,hdR fm bs lim i=.ok (so,w,x,p)→a=kdR so∧n=nR so w x∧q=(p:Int)∧o=ovR so x∧F=(0,0))→(∀f,hdR fm bs lim i=.error f→F=f)→BnW (g+1) W bs fm depth l lim wi R a n q o F)→Calls prog 116 #[.agg (inA bs fm depth l),.int .i64 i,.int .i64 wi] W (qyp (g+1) bs lim W R):=fun R hp hB=>q5Y g W bs fm depth l lim i wi R hp fun V=>(q2G V bs fm depth l lim i hl hi hb hfm).mono fun e W' ⟨⟨a,n,q,o,F,he,h3,h4⟩,h5⟩=>⟨⟨a,n,q,o,F,he,hB a n q o F h3 h4⟩,h5⟩
  have herr:∀f,hdR fm bs lim i=.error f→BnP bs fm depth l wi i→(f.1==0)=false→Calls prog 116 #[.agg (inA bs fm depth l),.int .i64 i,.int .i64 wi] W (qyp (g+1) bs lim W (.error f)):=fun f hf hp hne=>go _ hp fun a n q o F _ h4=>.inl (by obtain rfl:=h4 f hf;exact⟨hne,q22 _⟩)
  cases hc:bs[i]? with
  |none =>
   conv=>rhs;rw[thB,hc]
   exact herr _ (by unfold hdR;rw[hc]) (.inl (qxS hc)) rfl
  |some c =>
   by_cases hp:(i:Int)=lim
   ·conv=>rhs;rw[thB,hc]
    simp only[];rw[if_pos hp];exact herr _ (by unfold hdR;rw[hc];simp only[];rw[if_pos hp]) (.inl (qyg hl hc hp)) rfl
   have hh:=qxO hl hi hc hp;have hn:=qxJ hi hc hp;have cI:=fun V=>qzN V bs fm depth l i c hc hfm;have hle:=q64 hfm c;obtain⟨so,w,ar,hso⟩:∃so w ar,hdO fm c.toNat=(so,w,ar):=⟨_,_,_,rfl⟩
   rw[qhJ hc hp hso];rw[hso] at cI hle;simp only[] at cI hle;have hhd:¬so=0→hdR fm bs lim i=match qd9 bs lim w (i+1) ar with
     |.error f=>.error f
     |.ok (x,q)=>.ok (so,w,x,q):=fun h0=>by
    unfold hdR;rw[hc];simp only[];rw[if_neg hp,hso,if_neg h0];rfl
   by_cases h0:so=0
   ·rw[if_pos h0];have e:hdR fm bs lim i=.error (9,(i:Int)):=q1Q hc hp (by rw[hso];exact h0);exact herr _ e (.inr ⟨hh,_,cI,fun h=>by simp at h;omega⟩) rfl
   rw[if_neg h0];have hhd:=hhd h0;have hok:∀x q R a,hdR fm bs lim i=.ok (so,w,x,q)→kdR so=a→BnP bs fm depth l wi i→BnV (g+1) W bs fm depth l lim wi R a (nR so w x) q (ovR so x)→Calls prog 116 #[.agg (inA bs fm depth l),.int .i64 i,.int .i64 wi] W (qyp (g+1) bs lim W R):=fun x q R a hf ha hp hB=>go R hp fun a n q' o F h3 _=>by obtain⟨rfl,rfl,rfl,rfl,rfl⟩:=h3 _ _ _ _ hf;rw[ha];exact .inr ⟨rfl,hB⟩
   by_cases hct:so=9∨so=10
   ·have cI1:=cI;rw[decide_eq_true hct] at cI1;by_cases hdp:(wi:Int)=depth
    ·rw[if_pos ⟨hct,hdp⟩];exact q5l g W bs fm depth l lim i wi hh cI1 (by omega) (qxT hl hi hc hp 11)
    rw[if_neg (fun h=>hdp h.2)];have hp:BnP bs fm depth l wi i:=.inr ⟨hh,_,cI1,fun _=>by omega⟩
    cases har:qd9 bs lim w (i+1) ar with
    |error f =>
     rw[har] at hhd;have hne:(f.1==0)=false:=by have:=qii bs lim _ _ _ f.1 f.2 har;simpa using this
     exact herr f hhd hp hne
    |ok y =>
     obtain⟨x,q⟩:=y;rw[har] at hhd;have hq:=(qyU _ _ _ _ _ hn har).2;simp only[];have hJ:∀V (p:Nat),InR bs lim p→Calls prog 116 #[.agg (inA bs fm depth l),.int .i64 p,.int .i64 ((wi:Int)+1)] V (qyp g bs lim V (thB (hdO fm) bs lim depth g (wi+1) p)):=fun V p hip=>ih (wi+1) V p (by omega) (by omega) hip;have hbad:∀p,Bad (thB (hdO fm) bs lim depth g (wi+1) p):=fun p=>qlo (hdO fm) bs lim depth g (wi+1) p (by omega) (by omega);have hgo:∀p x q,thB (hdO fm) bs lim depth g (wi+1) p=.ok (x,q)→p<q:=fun p x q h=>qnr (hdO fm) bs lim depth g (wi+1) p x q h;rcases hct with rfl|rfl
     ·have hP:=fun V=>q3i g V bs fm depth l lim q x (nR 9 w x) (ovR 9 x) wi (q2v _ _ _ (by decide) (by decide)) hl hq hb (by omega) (by omega) (thB (hdO fm) bs lim depth g (wi+1)) hbad hgo hJ;exact hok _ _ _ 6 hhd rfl hp (.inr (.inr (.inr (.inl ⟨.inl rfl,hP⟩))))
     have hP:=fun V=>q4p g V bs fm depth l lim q x (nR 10 w x) (ovR 10 x) wi (q2v _ _ _ (by decide) (by decide)) hl hq hb (by omega) (by omega) hfm (thB (hdO fm) bs lim depth g (wi+1)) hbad hgo hJ;exact hok _ _ _ 7 hhd rfl hp (.inr (.inr (.inr (.inl ⟨.inr rfl,hP⟩))))
   have cI1:=cI;rw[decide_eq_false hct] at cI1;rw[if_neg (fun h=>hct h.1)];have hp:BnP bs fm depth l wi i:=.inr ⟨hh,_,cI1,fun e=>by cases e⟩
   cases har:qd9 bs lim w (i+1) ar with
   |error f =>
    rw[har] at hhd;have hne:(f.1==0)=false:=by have:=qii bs lim _ _ _ f.1 f.2 har;simpa using this
    exact herr f hhd hp hne
   |ok y =>
    obtain⟨x,q⟩:=y;rw[har] at hhd;obtain⟨hqe,hq⟩:=qyU _ _ _ _ _ hn har;have hq0:0<q:=by omega
    have bad1:∀V,Calls prog 71 #[.agg (inA bs fm depth l),.int .i64 ((q:Int)-1),.int .i64 10] V fun e W'=>e=.returned (.agg (qqp (10,(q:Int)-1)))∧Below V.heap.size V W':=fun V=>by
     obtain⟨r0,rfl⟩:∃r0,q=r0+1:=⟨q-1,by omega⟩
     have h:=qyv V bs fm depth l r0 10;rw[q1n hl hq,show(r0:Int)=((r0+1:Nat):Int)-1 by omega] at h;exact h
    simp only[];have hlf:∀(a:Int) (dd:DataW Unit),kdR so=a→0≤a∧a≤2→(∀W':World,qyi (g+1) W' (fun j=>W.heap.size≤j∧j<W'.heap.size) (.agg (thA a 0 ⟨#[]⟩ qxE qxE)) dd)→Calls prog 116 #[.agg (inA bs fm depth l),.int .i64 i,.int .i64 wi] W (qyp (g+1) bs lim W (.ok (dd,q))):=fun a dd h0 h1 h2=>hok _ _ _ a hhd h0 hp (.inr (.inr (.inr (.inr ⟨h1,fun W' h=>⟨h,hq,_,_,_,_,_,_,_,_,_,rfl,h2 W'⟩⟩))));have hov:kdR so=3→ovR so x=true→Calls prog 116 #[.agg (inA bs fm depth l),.int .i64 i,.int .i64 wi] W (qyp (g+1) bs lim W (.error (10,(q:Int)-1))):=fun h1 h2=>hok _ _ _ 3 hhd h1 hp (.inl ⟨rfl,h2,by omega,by have:=hq.1;omega,_,bad1,q22 _⟩);have hnm:∀z,kdR so=3→ovR so x=false→nR so w x=z → -9223372036854775808≤z∧z≤9223372036854775807→Calls prog 116 #[.agg (inA bs fm depth l),.int .i64 i,.int .i64 wi] W (qyp (g+1) bs lim W (.ok (.lit (.int .i64 z),q))):=fun z h1 h2 h3 h4=>by subst h3;exact hok _ _ _ 3 hhd h1 hp (.inr (.inl ⟨rfl,h2,fun W' h=>⟨h,hq,_,_,_,_,_,_,_,_,_,rfl,qyO ⟨rfl,h4⟩⟩⟩))
    have hv:so=1∨so=2∨so=3∨so=4∨so=5∨so=6∨so=7∨so=8:=by omega
    rcases hv with rfl|rfl|rfl|rfl|rfl|rfl|rfl|rfl
    ·exact hlf 0 _ rfl (by decide) fun _=>qyO rfl
    ·exact hlf 1 _ rfl (by decide) fun _=>qyO rfl
    ·exact hlf 2 _ rfl (by decide) fun _=>qyO rfl
    ·unfold qjF;simp only[];by_cases hx:9223372036854775807<x
     ·rw[show nbF 4 w x q=.error (10,(q:Int)-1) by simp[nbF,hx]];exact hov rfl (by simp[ovR,hx])
     rw[show nbF 4 w x q=.ok (x:Int) by simp[nbF,hx]];exact hnm _ rfl (by simp[ovR,hx]) (by simp[nR];omega) (by omega)
    ·unfold qjF;simp only[];rw[show nbF 5 w x q=.ok (qws x w) by simp[nbF]];exact hnm _ rfl (by simp[ovR]) (by simp[nR]) (q5P x w)
    ·unfold qjF;simp only[];by_cases hx:9223372036854775807<x
     ·rw[show nbF 6 w x q=.error (10,(q:Int)-1) by simp[nbF,hx]];exact hov rfl (by simp[ovR,hx])
     rw[show nbF 6 w x q=.ok (-1-(x:Int)) by simp[nbF,hx]];exact hnm _ rfl (by simp[ovR,hx]) (by simp[nR];omega) (by omega)
    ·have cR:=fun V=>q40 V bs fm depth l lim q x (nR 7 w x) (q2v _ _ _ (by decide) (by decide)) hl hq hb;unfold qjF;simp only[]
     cases hr:qhb bs lim x q [] with
     |error f =>
      rw[hr] at cR;exact hok _ _ _ 5 hhd rfl hp (.inr (.inr (.inl ⟨false,⟨rfl,fun _=>rfl⟩,_,0,f,cR,q22 f⟩)))
     |ok y =>
      obtain⟨lx,r⟩:=y;rw[hr] at cR;exact hok _ _ _ 5 hhd rfl hp (.inr (.inr (.inl ⟨false,⟨rfl,fun _=>rfl⟩,_,r,_,cR,fun W' h=>⟨h,(q28 _ _ _ _ _ hq hr).1,_,_,_,_,_,_,_,_,_,rfl,qyO rfl⟩⟩)))
    have cR:=fun V=>q2F V bs fm depth l lim q x (nR 8 w x) (q2v _ _ _ (by decide) (by decide)) hl hq hb;unfold qjF;simp only[]
    cases hr:qfg bs lim x q [] 0 with
    |error f =>
     rw[hr] at cR;exact hok _ _ _ 4 hhd rfl hp (.inr (.inr (.inl ⟨true,⟨rfl,fun e=>by cases e⟩,_,0,f,cR,q22 f⟩)))
    |ok y =>
     obtain⟨lx,r⟩:=y;rw[hr] at cR;exact hok _ _ _ 4 hhd rfl hp (.inr (.inr (.inl ⟨true,⟨rfl,fun e=>by cases e⟩,_,r,_,cR,fun W' h=>⟨h,(q1h _ _ _ _ _ _ hq hr).1,_,_,_,_,_,_,_,_,_,rfl,qyO rfl⟩⟩)))
end
end Go.Proofs.YtllcbnfmihfaaaaGreatDoor
