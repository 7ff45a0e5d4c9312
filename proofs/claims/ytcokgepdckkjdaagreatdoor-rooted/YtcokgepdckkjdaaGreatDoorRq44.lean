import Derived.Test.YtcokgepdckkjdaaGreatDoorRq40
set_option maxRecDepth 100000
set_option maxHeartbeats 8000000
namespace Go.Proofs.YtcokgepdckkjdaaGreatDoor
open Go.Proofs.Tryz
variable {W:World}{A:Array Value}{u:Value}{g p:Nat}{bs:List UInt8}{rd:Nat->Except (Int×Int) (DataW Unit×Nat)}{ds:List (DataW Unit)}{R:Except (Int×Int) (List (DataW Unit)×Nat)}
section
open Go.RowKit Go.Lib
theorem qz6 {V2 w5:World}{y:Array Value}{m:Nat}{xs:List Value}{o:Obj}(h:qyz W A y V2)(d:V2.ownsRow (W.heap.size+4) 55 5 u m xs)(a:(V2.alloc o).grownBy w5 u.ownBlock):qyz W A y w5:=by
 have g:=h.size;have b:∀j,j<W.heap.size+4->w5.heap[j]? = V2.heap[j]?:=fun j c=>(a.block j (by simp;omega) (fun e=>by have:=qbA d e.symm;omega)).trans (Below.heap_alloc _ _ _ (by omega));have f:V2.heap.size+1<=w5.heap.size:=by have:=a.size;simpa using this
 exact⟨(b _ (by omega)).trans h.box,(b _ (by omega)).trans h.th,(b _ (by omega)).trans h.flt,(b _ (by omega)).trans h.tv,h.below.trans ⟨a.os,a.tape,a.output,by omega,fun j c=>b j (by omega)⟩⟩
theorem q1U {V:World}{kd n:Int}{s:ByteArray}{kv:Value}(h:qyz W A (thA kd n s kv u) V)(b:Value):qyz W A (thA kd n s kv b) (V.setCell ⟨W.heap.size+3,4,none⟩ b):=by
 have a:∀j,j≠W.heap.size+3->(V.setCell ⟨W.heap.size+3,4,none⟩ b).heap[j]? = V.heap[j]?:=fun j c=>heap_setCell_other V _ _ _ (by simpa using c);refine⟨(a _ (by omega)).trans h.box,(a _ (by omega)).trans h.th,(a _ (by omega)).trans h.flt,?_,h.below.trans ⟨rfl,rfl,rfl,by simp[World.setCell],fun j c=>a j (by omega)⟩⟩;rw[heap_setCell_same _ _ _ _ _ _ h.tv];rfl
theorem q15 {lim:Int}{f:Int×Int}(h:qyU bs lim (liJ rd) 93 g p ds R)(i:qyi bs lim (rd p) (.error f))(e:∀p:Nat,(p:Int)=lim->p<bs.length->rd p=.error (8,(p:Int))):R=.error f:=by
 have a:rd p=.error f:=by
  rcases i with h|⟨q,_,_,_,x,c⟩
  ·exact h
  cases c
 rcases h.2 with ⟨j,_,b⟩|⟨b,d,c⟩
 ·rw[<-b];unfold q2k liJ;rw[a]
 rw[e p b d] at a;injection a with a;rw[c,a]
theorem q0Q {l lim:Int}(t:Lm bs l lim){q p3:Nat}{dd:DataW Unit}(h:qyU bs lim (liJ rd) 93 g p ds R)(H:qyi bs lim (rd p) (.ok (dd,q)))(u:∀p:Nat,(p:Int)=lim->p<bs.length->rd p=.error (8,(p:Int)))(F:∀p x q,rd p=.ok (x,q)->p<q)(v:InR bs lim q)(M:bs.length+1<=p+g)(r:p3=skR bs l (bs.length+1-q) q):InR bs lim p3/\((qxS bs l p3=false/\R=.error (qr0 bs l p3 9))\/∃c,bs[p3]? = some c/\qxS bs l p3=true/\((c.toNat=93/\R=.ok (ds++[dd],p3+1)/\InR bs lim (p3+1))\/(¬c.toNat=93/\c.toNat=44/\InR bs lim (p3+1)/\∃a,g=a+2/\p<p3/\qgW bs lim (liJ rd) 93 (a+1) (p3+1) (ds++[dd])=R)\/(¬c.toNat=93/\¬c.toNat=44/\R=.error (qr0 bs l p3 9)))):=by
 rcases H with i|⟨O,d,m,n,x,f⟩
 ·have N:=F p dd q i;rcases h.2 with ⟨a,e,o⟩|⟨m,n,f⟩
  ·have G:liJ rd ds p=.ok (ds++[dd],q):=by unfold liJ;rw[i]
   obtain⟨w,L,j⟩:=qz2 t v r G o;refine⟨w,?_⟩;rcases j with j|⟨c,s,y,b⟩
   ·exact .inl j
   refine .inr ⟨c,s,y,?_⟩;rcases b with b|⟨z,c2,A,B⟩|b
   ·exact .inl b
   ·have:=ltL s;obtain⟨k,rfl⟩:∃k,a=k+1:=⟨a-1,by omega⟩
    exact .inr (.inl ⟨z,c2,A,k,by omega,by omega,B⟩)
   exact .inr (.inr b)
  rw[u p m n] at i;cases i
 injection f with f;injection f with h5 h6;subst h6;obtain⟨C,D,E⟩:=q0v t m n;rw[C] at r;subst r;refine⟨v,.inl ⟨D,?_⟩⟩;rw[E];rcases h.2 with ⟨a,_,o⟩|⟨I,J,K⟩
 ·rw[<-o];unfold q2k liJ;rw[d]
 rw[u p I J] at d;injection d with d;rw[K,d]
theorem qzm (d n:Int)(s:ByteArray)(a b:Option Addr)(i j p q:Nat):∀u∈[Value.int .i64 d,.int .i64 n,.string s,.slice a i j,.slice b p q],u.oneCell'=true:=fun u c=>by
 simp at c;rcases c with rfl|rfl|rfl|rfl|rfl<;>rfl
theorem qyX (k:Nat)(W:World)(bs:List UInt8)(fm d l lim:Int)(i:Nat)(dp:Int)(c:UInt8)(hc:bs[i]? = some c)(hv:c.toNat=91)(hp:¬(i:Int)=lim)(hl:Lm bs l lim)(hi:InR bs lim i)(hb:bs.length<=281474976710656)(co:lim<=200000000)(cu:0<=dp)(cv:dp<d)(cw:d<=100000)(rd:Nat->Except (Int×Int) (DataW Unit×Nat))(b0:∀p,Bad (rd p))(b5:∀p:Nat,(p:Int)=lim->p<bs.length->rd p=.error (8,(p:Int)))(b2:∀p bn ar,rd p=.ok (bn,ar)->p<ar)(cJ:∀V (p:Nat),Below W.heap.size W V->InR bs lim p->Calls prog 45 #[.agg (inA bs fm d l),.int .i64 p,.int .i64 (dp+1)] V (qxJ k bs lim V (rd p))):Calls prog 73 #[.agg (inA bs fm d l),.int .i64 i,.int .i64 dp] W (qxJ (k+1) bs lim W (liR (qe4 bs lim (liJ rd) 93 (i+1) []))):=by
 obtain⟨ti,cc,b9,ca,cb⟩:=info_parts Tryz.infoThR;obtain⟨be,HR⟩:∃be,Hid (qe4 bs lim (liJ rd) 93 (i+1) []=be):=⟨_,show _=_ from rfl⟩
 rw[HR.out];have cy:=ltL hc;have cz:=qxF bs i c hc;have di:=nec (c:=c) 123 (by omega);have b3:=qxG hi hc hp;have HL:=qaa hl;have cH:=q0H bs fm d l;have cB:=q09 bs fm d l;have cS:∀V (p:Nat),p<=bs.length->Calls prog 29 #[.agg #[.string ⟨bs.toArray⟩,.int .i64 fm,.int .i64 d,.int .i64 l],.int .i64 p] V fun aj W'=>aj=.returned (.int .i64 (skR bs l (bs.length+1-p) p))/\Below V.heap.size V W':=fun V p hp=>qyt V bs fm d l p hb hp;have bp:Hid (∀V (p:Nat),Below W.heap.size W V->InR bs lim p->Calls prog 45 #[.agg #[.string ⟨bs.toArray⟩,.int .i64 fm,.int .i64 d,.int .i64 l],.int .i64 p,.int .i64 (dp+1)] V (qxJ k bs lim V (rd p))):=cJ;have ch:=qaa b0;have bu:=qaa b5;have bq:=qaa b2;have az:=fun V=>cS V (i+1) (by omega);obtain⟨Q,bk⟩:∃Q,Q=skR bs l (bs.length+1-(i+1)) (i+1):=⟨_,rfl⟩
 obtain⟨b7,cr⟩:=qza hl b3 bk HR.out;rw[<-bk] at az;have c7:=b7.1;have ai:=fun V=>cH V Q;have cx:decide (d<=dp)=false:=by simp;omega
 clear hc hv hp hl hi b3 cJ b2 b0 b5 bk HR;rcases cr with ⟨F,H,I,he,bx,ag⟩|⟨a4,bz⟩
 ·rw[I] at ai;have cl:=fun V=>qxF bs Q F H V;have a9:((F.toNat:Int)==93)=true:=by rw[he];rfl
  have bd:=qaa bx;have bw:=qaa ag;have db:=ltL H;clear H I he bx ag cH cB cS bp bq b7;unfold inA;go_enter func73,ntmps73
  go_wp2_with (first
   |(go_at_call 29;refine ck4 (az _) w.out.next (fun _ h=>h.box) ?_;clear az m o c2 r t b;intro J v m o c2 r;have t:J.cell? ⟨W.heap.size+1+1+1,0,none⟩=some (.int .i64 6):=qab v.out.tv 0;have b:J.cell? ⟨W.heap.size+1+1+1,4,none⟩=some (.slice none 0 0):=qab v.out.tv 4)
   |(go_at_call 43;refine ck4 (ai _) v.out.next (fun _ h=>h.box) ?_;clear ai m o c2 r t b;intro w3 M m o c2 r;have t:w3.cell? ⟨W.heap.size+1+1+1,0,none⟩=some (.int .i64 6):=qab M.out.tv 0;have b:w3.cell? ⟨W.heap.size+1+1+1,4,none⟩=some (.slice none 0 0):=qab M.out.tv 4)
   |((with_reducible refine zT 9 21 rfl rfl (W.heap.size+3) (thA 6 0 ⟨#[]⟩ qxE qxE) ?_ ?_);exact⟨rfl,rfl,q0j W _,thg⟩;refine nmd ?_;intro V0 au;have w:Hid (qyz W (inA bs fm d l) (thA 6 0 ⟨#[]⟩ qxE qxE) V0):=au▸q0p W _ _;clear au;obtain⟨m,o,c2,r⟩:=qya w.out.box;have t:V0.cell? ⟨W.heap.size+1+1+1,0,none⟩=some (.int .i64 6):=qab w.out.tv 0;have b:V0.cell? ⟨W.heap.size+1+1+1,4,none⟩=some (.slice none 0 0):=qab w.out.tv 4)
   |((with_reducible refine wpList_load_row rfl 55 (.tmp 9) rfl (W.heap.size+3) ?hx 55 (thA 6 0 ⟨#[]⟩ qxE qxE) (0,0) _ ?hg underlying55 rfl ?hi ?_);(case hx=>exact rfl);(case hg=>exact M.out.tv);(case hi=>exact qyd _ _ _ _ _))
   |((with_reducible refine zT 6 43 rfl rfl (W.heap.size+1) (thA 6 0 ⟨#[]⟩ qxE qxE) ?_ ?_);exact⟨rfl,rfl,M.out.th,thg⟩)
   |((with_reducible refine zF 8 46 rfl rfl (W.heap.size+2) (0,0) ?_ ?_);exact⟨rfl,rfl,qxT M.out.rth bwR _⟩))
  have G:=qxK M.out.rth bwR (thA 6 0 ⟨#[]⟩ qxE qxE) (0,0);refine eoT results73 G (.int .i64 ((Q:Int)+1)) rfl rfl rfl rfl ⟨G.2.2,?_⟩;exact⟨.ok (.agg [],Q+1),.inl (by rw[bd.out];rfl),bw.out,_,_,_,_,_,_,_,_,_,rfl,(qzo k _ (W.heap.size) (fun _=>False)).list (Nat.le_refl _)⟩
 have aa:=qaa bz;have cp:(qxS bs l Q=false)\/(∃c,bs[Q]? = some c/\qxS bs l Q=true/\((c.toNat:Int)==93)=false):=by
  rcases a4 with h|⟨c,h1,h2,h3⟩
  ·exact .inl h
  exact .inr ⟨c,h1,h2,by simp;omega⟩
 clear a4 bz;rcases cp with a4|⟨F,H,I,a9⟩
 focus
  rw[a4] at ai;clear a4
 rotate_left
 focus
  rw[I] at ai;have c4:=fun V=>qxF bs Q F H V;have dc:=ltL H;clear I H
 all_goals
  unfold inA;go_enter func73,ntmps73
  go_wp2_with (first
   |(go_at_call 29;refine ckB (az _) w.out.next ?_;clear az m o c2 r t b;intro J a0 v;obtain⟨m,o,c2,r⟩:=qya v.out.box;have t:J.cell? ⟨W.heap.size+1+1+1,0,none⟩=some (.int .i64 6):=qab v.out.tv 0;have b:J.cell? ⟨W.heap.size+1+1+1,4,none⟩=some (.slice none 0 0):=qab v.out.tv 4)
   |(go_at_call 43;refine ckB (ai _) v.out.next ?_;clear ai m o c2 r t b;intro w3 al M;obtain⟨m,o,c2,r⟩:=qya M.out.box;have t:w3.cell? ⟨W.heap.size+1+1+1,0,none⟩=some (.int .i64 6):=qab M.out.tv 0;have b:w3.cell? ⟨W.heap.size+1+1+1,4,none⟩=some (.slice none 0 0):=qab M.out.tv 4)
   |((with_reducible refine zT 9 21 rfl rfl (W.heap.size+3) (thA 6 0 ⟨#[]⟩ qxE qxE) ?_ ?_);exact⟨rfl,rfl,q0j W _,thg⟩;refine nmd ?_;intro V0 au;have w:Hid (qyz W (inA bs fm d l) (thA 6 0 ⟨#[]⟩ qxE qxE) V0):=au▸q0p W _ _;clear au;obtain⟨m,o,c2,r⟩:=qya w.out.box;have t:V0.cell? ⟨W.heap.size+1+1+1,0,none⟩=some (.int .i64 6):=qab w.out.tv 0;have b:V0.cell? ⟨W.heap.size+1+1+1,4,none⟩=some (.slice none 0 0):=qab w.out.tv 4))
  go_loopg [1] (bs.length+1-Q) (fun ab cf wr=>∃(p:Nat) (y:List (DataW Unit)) (a:Option Addr) (n c:Nat),cf=.int .i64 p/\Hid (bs.length+1<=p+ab)/\Hid (qyU bs lim (liJ rd) 93 ab p y be)/\Hid (y.length<=p)/\Hid (qyz W (inA bs fm d l) (thA 6 0 ⟨#[]⟩ qxE (.slice a n c)) wr)/\Hid (qyq k wr (W.heap.size+4) (.slice a n c) (fun _=>False) y))
  case atStart=>exact⟨Q,[],none,0,0,rfl,by show _<=_;omega,aa,Nat.zero_le _,M,qzo _ _ _ _⟩
  case round =>
   clear aa w v M a0 al m o c2 r t b;obtain⟨p,y,a,n,c,rfl,hg,aa,a3,w,aw⟩:=hrel;have da:(p:Int)<=200000000:=Int.le_trans aa.out.1.2 co;have c6:=aa.out.1.1;have dh:=w.out.size;obtain⟨m,o,c2,r⟩:=qya w.out.box;have t:wr.cell? ⟨W.heap.size+1+1+1,0,none⟩=some (.int .i64 6):=qab w.out.tv 0;have b:wr.cell? ⟨W.heap.size+1+1+1,4,none⟩=some (.slice a n c):=qab w.out.tv 4;have cs:wr.cell? ⟨W.heap.size+3,0,none⟩=some (.int .i64 6):=t;have n0:W.heap.size+1+1+1<wr.heap.size:=by omega
   have n2:W.heap.size+3<wr.heap.size:=by omega
   have n1:W.heap.size<wr.heap.size:=by omega
   go_wp2_with fail
   refine(bp.out _ p ((w.out.below.alloc w.out.below.size _).alloc (by simp;have:=w.out.below.size;omega) _) aa.out.1).mono ?_;clear m o c2 r t b n0 n1 n2 cs;rintro aj J ⟨a0,r',b6,he⟩;have dg:wr.heap.size+2<=J.heap.size:=by have:=a0.size;simp only[World.size_alloc] at this;omega
   have al:Below (wr.heap.size+2) ((wr.alloc (.cells (qqp (0,0)) 57)).alloc (.cells th0 55)) J:=by
    have h:=a0;simp only[World.size_alloc] at h;exact h
   clear a0;have HV:Hid (∀a f,Below wr.heap.size wr ((J.setRow (wr.heap.size+1) a).setRow wr.heap.size f)):=fun a f=>qzV wr J a f al;have HK:Hid (J.heap[wr.heap.size+1]? = some (.cells th0 55)):=(al.block _ (by omega)).trans (by have:=qac (wr.alloc (.cells (qqp (0,0)) 57)) (.cells th0 55);simpa only [World.size_alloc] using this);have HF:=qaa ((al.block _ (by omega)).trans ((Below.heap_alloc _ _ _ (by simp)).trans (qac _ _)));have bc:Hid (∀ab,(Value.slice a n c).ownBlock=some ab->ab<wr.heap.size):=by
    obtain⟨xs,ho,_⟩:=aw.out;exact fun ab hg=>qy0 ho hg
   have bb:=qaa b6;clear b6
   cases r' with
   |error f =>
    obtain⟨x,Z,s,T,Y,z,U,q1,R,cf,rfl⟩:=he;have c5:(f.1==0)=false:=by
     have:=qzv bb.out (ch.out p) f.1 f.2 rfl;simpa using this
    simp only[]
    go_wp2_with (first
     |((with_reducible refine zT 12 65 rfl rfl (wr.heap.size+1) (thA x Z s (.slice T Y z) (.slice U q1 R)) ?_ ?_);exact⟨rfl,rfl,HK.out,thg⟩)
     |((with_reducible refine zF 11 67 rfl rfl (wr.heap.size) (f) ?_ ?_);exact⟨rfl,rfl,sx (by omega) HF.out⟩;refine nmd ?_;intro C K;have v:=qaa (K▸w.out.next (HV.out _ _));have ax:=qaa (K▸aw.out.next (HV.out _ _).size (fun j _ u=>(HV.out _ _).block j u));have av:Hid (C.heap[wr.heap.size+1]? = some (.cells #[.int .i64 x,.int .i64 Z,.string s,.slice T Y z,.slice U q1 R] 55)):=K▸sx (by omega) (setRow_heap _ _ _ _ _ _ HK.out);have g:=qaa (K▸setRow_heap _ _ _ _ _ _ (sx (by omega) HF.out));clear K;obtain⟨xs,ho,a2⟩:=ax.out;have HO:=qaa ho;have a5:Hid (∀(i:Nat) (d:DataW Unit),y[i]? = some d->∃a',qz1 xs i a'/\qxY k C (fun j=>W.heap.size+4<=j/\j<C.heap.size/\some j≠(Value.slice a n c).ownBlock/\¬False) (.agg a') d):=a2;clear ho a2 ax;obtain⟨m,o,c2,r⟩:=qya v.out.box;have t:C.cell? ⟨W.heap.size+1+1+1,0,none⟩=some (.int .i64 6):=qab v.out.tv 0;have b:C.cell? ⟨W.heap.size+1+1+1,4,none⟩=some (.slice a n c):=qab v.out.tv 4)
     |((with_reducible refine wpList_load_row rfl 55 (.tmp 12) rfl (wr.heap.size+1) ?hx 55 (#[.int .i64 x,.int .i64 Z,.string s,.slice T Y z,.slice U q1 R]) (0,0) _ ?hg underlying55 rfl ?hi ?_);(case hx=>exact rfl);(case hg=>exact av.out);(case hi=>exact qyO))
     |(at_builtin;(refine qaX _ rfl _ _ 53 rfl (W.heap.size+4) 55 ti (.agg th0) 5 80 underlying53 cc b9 ca cb rfl (by decide) _ _ _ rfl (HO.out.alloc _) ⟨C.heap.size,0,none⟩ 1 1 [.int .i64 x,.int .i64 Z,.string s,.slice T Y z,.slice U q1 R] rfl rfl (qag _ _ _) (qzm _ _ _ _ _ _ _ _ _) (by decide) (by have:=a3.out;unfold maxLen;omega) (by have:=a3.out;omega) (by have:=v.out.size;simp;omega) ?_);intro v' B aq ae a8;obtain⟨P,O,rfl⟩:=ownsRow_succ aq;have q:=qaa (qz6 v.out HO.out ae);have am:=qaa ((ae.block _ (by simp;have:=ltA g.out;omega) (fun aj=>by have:=bc.out _ aj.symm;omega)).trans ((Below.heap_alloc _ _ _ (ltA g.out)).trans g.out));clear aq ae a8 m o c2 r t b;have b:B.cell? ⟨W.heap.size+1+1+1,4,none⟩=some (.slice a n c):=qab q.out.tv 4;have f4:B.frozen? ⟨W.heap.size+1+1+1,4,none⟩=false:=frozen_of_row B (W.heap.size+3) 4 _ _ q.out.tv;have u0:B.cell? ⟨wr.heap.size,0,none⟩=some (.int .i64 (f.1)):=qab am.out 0))
    have HE:=qaa (q15 aa.out bb.out bu.out);have an:Hid (qyz W (inA bs fm d l) (thA 6 0 ⟨#[]⟩ qxE (.slice (some ⟨P,0,none⟩) (y.length+1) O)) (B.setCell ⟨W.heap.size+1+1+1,4,none⟩ (.slice (some ⟨P,0,none⟩) (y.length+1) O))):=q1U q.out _;have ci:Hid ((B.setCell ⟨W.heap.size+1+1+1,4,none⟩ (.slice (some ⟨P,0,none⟩) (y.length+1) O)).heap[wr.heap.size]? = some (.cells (qqp f) 57)):=(heap_setCell_other B _ _ _ (by simp;omega)).trans am.out;generalize B.setCell ⟨W.heap.size+1+1+1,4,none⟩ (.slice (some ⟨P,0,none⟩) (y.length+1) O)=V6 at *;clear q am b f4 HO a5 v av g HK HF HV al w aw;refine rgn (S:=fun bf=>bf.heap[wr.heap.size]? = some (.cells (qqp f) 57)) (ci.out) (by kernel_rfl) ?_;intro hS;refine tk 0 77 (.agg th0) rfl (by kernel_rfl) iQ3 (fun bf hZ => ?y0) hS ?_
    case y0=>(unfold th0 thA qxE;go_simp)
    refine tk 1 78 (.agg (qqp f)) rfl (by kernel_rfl) iQ3 (fun bf hZ=>yF 11 hZ rfl rfl) hS ?_;have bi:=(setRow_other _ (W.heap.size+1) wr.heap.size th0 (by omega)).trans hS;refine sTh 2 6 77 (W.heap.size+1) (th0) (by kernel_rfl) (an.out.th) thg (bi) ?_;refine tkk 3 7 (.int .i64 0) (by kernel_rfl) iQ3 bi ?_;refine sF 4 8 78 (W.heap.size+2) f (by kernel_rfl) (qxT (V:=V6) an.out.rth bwR _) (sx (by omega) bi) ?_;refine wpAnyH_done (by kernel_rfl) ?_ _;go_simp;go_wp2;have G:=qxK an.out.rth.drew bwR (th0) (f);refine eoT results73 G (.int .i64 0) rfl rfl rfl rfl ⟨G.2.2,?_⟩;exact⟨.error (f),.inl (by rw[HE.out];rfl),_,_,_,_,_,_,_,_,_,_,rfl⟩
   |ok bn =>
    obtain⟨dd,ar⟩:=bn;obtain⟨ag,x,Z,s,T,Y,z,U,q1,R,rfl,hA⟩:=he;simp only[];have bw:=qaa ag;have A:True:=trivial;have HA:Hid (qxY k J (fun j=>wr.heap.size+2<=j/\j<J.heap.size) (.agg #[.int .i64 x,.int .i64 Z,.string s,.slice T Y z,.slice U q1 R]) dd):=hA.same (fun j u=>⟨by have:=u.1;simp only[World.size_alloc] at this;omega,u.2⟩) (fun _ _=>rfl);clear hA
    go_wp2_with (first
     |((with_reducible refine zT 12 65 rfl rfl (wr.heap.size+1) (thA x Z s (.slice T Y z) (.slice U q1 R)) ?_ ?_);exact⟨rfl,rfl,HK.out,thg⟩)
     |((with_reducible refine zF 11 67 rfl rfl (wr.heap.size) (0,0) ?_ ?_);exact⟨rfl,rfl,sx (by omega) HF.out⟩;refine nmd ?_;intro C K;have v:=qaa (K▸w.out.next (HV.out _ _));have ax:=qaa (K▸aw.out.next (HV.out _ _).size (fun j _ u=>(HV.out _ _).block j u));have av:Hid (C.heap[wr.heap.size+1]? = some (.cells #[.int .i64 x,.int .i64 Z,.string s,.slice T Y z,.slice U q1 R] 55)):=K▸sx (by omega) (setRow_heap _ _ _ _ _ _ HK.out);have g:=qaa (K▸setRow_heap _ _ _ _ _ _ (sx (by omega) HF.out));have bo:Hid (qxY k C (fun j=>wr.heap.size+2<=j/\j<C.heap.size) (.agg #[.int .i64 x,.int .i64 Z,.string s,.slice T Y z,.slice U q1 R]) dd):=K▸HA.out.same (fun j u=>⟨u.1,by simpa using u.2⟩) (fun j u=>by rw[setRow_other _ _ _ _ (by omega),setRow_other _ _ _ _ (by omega)]);clear K;obtain⟨xs,ho,a2⟩:=ax.out;have HO:=qaa ho;have a5:Hid (∀(i:Nat) (d:DataW Unit),y[i]? = some d->∃a',qz1 xs i a'/\qxY k C (fun j=>W.heap.size+4<=j/\j<C.heap.size/\some j≠(Value.slice a n c).ownBlock/\¬False) (.agg a') d):=a2;clear ho a2 ax;obtain⟨m,o,c2,r⟩:=qya v.out.box;have t:C.cell? ⟨W.heap.size+1+1+1,0,none⟩=some (.int .i64 6):=qab v.out.tv 0;have b:C.cell? ⟨W.heap.size+1+1+1,4,none⟩=some (.slice a n c):=qab v.out.tv 4)
     |((with_reducible refine wpList_load_row rfl 55 (.tmp 12) rfl (wr.heap.size+1) ?hx 55 (#[.int .i64 x,.int .i64 Z,.string s,.slice T Y z,.slice U q1 R]) (0,0) _ ?hg underlying55 rfl ?hi ?_);(case hx=>exact rfl);(case hg=>exact av.out);(case hi=>exact qyO))
     |(at_builtin;(refine qaX _ rfl _ _ 53 rfl (W.heap.size+4) 55 ti (.agg th0) 5 80 underlying53 cc b9 ca cb rfl (by decide) _ _ _ rfl (HO.out.alloc _) ⟨C.heap.size,0,none⟩ 1 1 [.int .i64 x,.int .i64 Z,.string s,.slice T Y z,.slice U q1 R] rfl rfl (qag _ _ _) (qzm _ _ _ _ _ _ _ _ _) (by decide) (by have:=a3.out;unfold maxLen;omega) (by have:=a3.out;omega) (by have:=v.out.size;simp;omega) ?_);intro v' B aq ae a8;obtain⟨P,O,rfl⟩:=ownsRow_succ aq;have q:=qaa (qz6 v.out HO.out ae);have am:=qaa ((ae.block _ (by simp;have:=ltA g.out;omega) (fun aj=>by have:=bc.out _ aj.symm;omega)).trans ((Below.heap_alloc _ _ _ (ltA g.out)).trans g.out));have br:=qaa (qyq.push (L:=wr.heap.size+2) HO.out a5.out bo.out (fun ab hg=>by have:=bc.out ab hg;omega) (by omega) (fun _ _ h=>h) rfl aq ae a8);clear aq ae a8 m o c2 r t b;have b:B.cell? ⟨W.heap.size+1+1+1,4,none⟩=some (.slice a n c):=qab q.out.tv 4;have f4:B.frozen? ⟨W.heap.size+1+1+1,4,none⟩=false:=frozen_of_row B (W.heap.size+3) 4 _ _ q.out.tv;have u0:B.cell? ⟨wr.heap.size,0,none⟩=some (.int .i64 (0)):=qab am.out 0;obtain⟨m,o,c2,r⟩:=qya q.out.box))
    obtain⟨D,bl⟩:∃D,D=skR bs l (bs.length+1-ar) ar:=⟨_,rfl⟩
    obtain⟨b8,cq⟩:=q0Q HL.out aa.out bb.out bu.out bq.out ag hg.out bl;have df:=ag.1;have c9:=b8.1;have bg:=fun V=>cS V ar ag.1;rw[<-bl] at bg;have e:=fun V=>cH V D;have ao:=fun V=>cB V D 9;have an:Hid (qyz W (inA bs fm d l) (thA 6 0 ⟨#[]⟩ qxE (.slice (some ⟨P,0,none⟩) (y.length+1) O)) (B.setCell ⟨W.heap.size+1+1+1,4,none⟩ (.slice (some ⟨P,0,none⟩) (y.length+1) O))):=q1U q.out _;have bt:Hid (qyq k (B.setCell ⟨W.heap.size+1+1+1,4,none⟩ (.slice (some ⟨P,0,none⟩) (y.length+1) O)) (W.heap.size+4) (.slice (some ⟨P,0,none⟩) (y.length+1) O) (fun _=>False) (y++[dd])):=br.out.next (by simp[World.setCell]) (fun j cm cn=>heap_setCell_other B _ _ _ (by simp;omega))
    refine(bg _).mono ?_;rintro aj w7 ⟨rfl,a7⟩;have ay:=qaa (an.out.next a7);have a6:=qaa (bt.out.next a7.size (fun j _ u=>a7.block j u));clear ag bl b8 bg m o c2 r b f4 an bt a7 br q am HO a5 v av g bo HK HF HV al w aw HA;simp only[];obtain⟨m,o,c2,r⟩:=qya ay.out.box;have t:=A;have b:=A;rcases cq with ⟨I,ad⟩|⟨F,H,I,hx⟩
    ·rw[I] at e;have HE:=qaa ad;generalize qr0 bs l D 9=xx at *;clear I ad cS cH cB
     go_wp2_with (first
      |(go_at_call 43;refine ckB (e _) ay.out.next ?_;clear e m o c2 r t b;intro w8 X E;have ah:=qaa (a6.out.next X.size (fun j _ u=>X.block j u));obtain⟨m,o,c2,r⟩:=qya E.out.box;have t:=A;have b:=A)
      |(go_at_call 31;refine ckB (ao _) E.out.next ?_;clear ao m o c2 r t b;intro w9 ac N;have ba:=qaa (ah.out.next ac.size (fun j _ u=>ac.block j u));obtain⟨m,o,c2,r⟩:=qya N.out.box;have t:=A;have b:=A)
      |((with_reducible refine zT 6 101 rfl rfl (W.heap.size+1) (th0) ?_ ?_);exact⟨rfl,rfl,N.out.th,thg⟩)
      |((with_reducible refine zF 8 104 rfl rfl (W.heap.size+2) (xx) ?_ ?_);exact⟨rfl,rfl,qxT N.out.rth bwR _⟩))
     have G:=qxK N.out.rth bwR (th0) (xx);refine eoT results73 G (.int .i64 0) rfl rfl rfl rfl ⟨G.2.2,?_⟩;exact⟨.error (xx),.inl (by rw[HE.out];rfl),_,_,_,_,_,_,_,_,_,_,rfl⟩
    rw[I] at e;have cl:=fun V=>qxF bs D F H V;have c8:=ltL H;rcases hx with ⟨ak,ad,af⟩|⟨ak,ap,af,g',ck,de,b4⟩|⟨ak,ap,ad⟩
    ·have a9:((F.toNat:Int)==93)=true:=by rw[ak];rfl
     have cd:((F.toNat:Int) != 93)=false:=by rw[ak];rfl
     have bd:=qaa ad;have cj:=qaa af;clear I ak ad af H cS cH cB ao
     go_wp2_with (first
      |(go_at_call 43;refine ckB (e _) ay.out.next ?_;clear e m o c2 r t b;intro w8 X E;have ah:=qaa (a6.out.next X.size (fun j _ u=>X.block j u));obtain⟨m,o,c2,r⟩:=qya E.out.box;have t:=A;have b:=A)
      |((with_reducible refine wpList_load_row rfl 55 (.tmp 9) rfl (W.heap.size+3) ?hx 55 (thA 6 0 ⟨#[]⟩ qxE (.slice (some ⟨P,0,none⟩) (y.length+1) O)) (0,0) _ ?hg underlying55 rfl ?hi ?_);(case hx=>exact rfl);(case hg=>exact E.out.tv);(case hi=>exact qyd _ _ _ _ _))
      |((with_reducible refine zT 6 111 rfl rfl (W.heap.size+1) (thA 6 0 ⟨#[]⟩ qxE (.slice (some ⟨P,0,none⟩) (y.length+1) O)) ?_ ?_);exact⟨rfl,rfl,E.out.th,thg⟩)
      |((with_reducible refine zF 8 114 rfl rfl (W.heap.size+2) (0,0) ?_ ?_);exact⟨rfl,rfl,qxT E.out.rth bwR _⟩))
     have G:=qxK E.out.rth bwR (thA 6 0 ⟨#[]⟩ qxE (.slice (some ⟨P,0,none⟩) (y.length+1) O)) (0,0);refine eoT results73 G (.int .i64 ((D:Int)+1)) rfl rfl rfl rfl ⟨G.2.2,?_⟩;exact⟨.ok (.agg (y++[dd]),D+1),.inl (by rw[bd.out];rfl),cj.out,_,_,_,_,_,_,_,_,_,rfl,(ah.out.next (by simp) (fun j cm cn=>by rw[setRow_other _ _ _ _ (by omega),setRow_other _ _ _ _ (by omega)])).list (by omega)⟩
    ·have a9:((F.toNat:Int)==93)=false:=by rw[ap];rfl
     have cd:((F.toNat:Int) != 93)=true:=by rw[ap];rfl
     have ct:((F.toNat:Int) != 44)=false:=by rw[ap];rfl
     subst ck;have bh:=fun V=>cS V (D+1) af.1;obtain⟨p4,bm⟩:∃p4,p4=skR bs l (bs.length+1-(D+1)) (D+1):=⟨_,rfl⟩
     have bj:=q2c HL.out af b4;rw[<-bm] at bj bh;have bv:Hid (D+1<=p4):=by
      show _<=_;rw[bm];rcases qyV HL.out (bs.length+1-(D+1)) (D+1) af with ⟨q',_,h2,_,h4,_⟩|⟨q',_,h2,h3,_⟩
      ·rw[h2];exact h4
      rw[h2];have:=af.2;omega
     have cg:=qaa bj;clear I ak ap af H cS cH cB ao b4 bm bj
     go_wp2_with (first
      |(go_at_call 43;refine ckB (e _) ay.out.next ?_;clear e m o c2 r t b;intro w8 X E;have ah:=qaa (a6.out.next X.size (fun j _ u=>X.block j u));obtain⟨m,o,c2,r⟩:=qya E.out.box;have t:=A;have b:=A)
      |(go_at_call 29;refine ckB (bh _) E.out.next ?_;clear bh m o c2 r t b;intro w9 ac N;have ba:=qaa (ah.out.next ac.size (fun j _ u=>ac.block j u));obtain⟨m,o,c2,r⟩:=qya N.out.box;have t:=A;have b:=A))
     go_roundg (g'+1)
     case measure=>omega
     case rel=>exact⟨p4,y++[dd],_,_,_,rfl,by show _<=_;have:=hg.out;have:=bv.out;omega,cg,by show _<=_;rw[List.length_append];have:=a3.out;have:=bv.out;simp;omega,N,ba⟩
    have a9:((F.toNat:Int)==93)=false:=by simp;omega
    have cd:((F.toNat:Int) != 93)=true:=by simp;omega
    have ct:((F.toNat:Int) != 44)=true:=by simp;omega
    have HE:=qaa ad;generalize qr0 bs l D 9=xx at *;clear I ak ap ad H cS cH cB
    go_wp2_with (first
     |(go_at_call 43;refine ckB (e _) ay.out.next ?_;clear e m o c2 r t b;intro w8 X E;have ah:=qaa (a6.out.next X.size (fun j _ u=>X.block j u));obtain⟨m,o,c2,r⟩:=qya E.out.box;have t:=A;have b:=A)
     |(go_at_call 31;refine ckB (ao _) E.out.next ?_;clear ao m o c2 r t b;intro w9 ac N;have ba:=qaa (ah.out.next ac.size (fun j _ u=>ac.block j u));obtain⟨m,o,c2,r⟩:=qya N.out.box;have t:=A;have b:=A)
     |((with_reducible refine zT 6 101 rfl rfl (W.heap.size+1) (th0) ?_ ?_);exact⟨rfl,rfl,N.out.th,thg⟩)
     |((with_reducible refine zF 8 104 rfl rfl (W.heap.size+2) (xx) ?_ ?_);exact⟨rfl,rfl,qxT N.out.rth bwR _⟩))
    have G:=qxK N.out.rth bwR (th0) (xx);refine eoT results73 G (.int .i64 0) rfl rfl rfl rfl ⟨G.2.2,?_⟩;exact⟨.error (xx),.inl (by rw[HE.out];rfl),_,_,_,_,_,_,_,_,_,_,rfl⟩

end
end Go.Proofs.YtcokgepdckkjdaaGreatDoor
