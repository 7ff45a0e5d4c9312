import Derived.Test.YtpifimohecagoaaGreatDoorPq18
import Derived.Test.YtpifimohecagoaaGreatDoorPq21
set_option maxRecDepth 100000
set_option maxHeartbeats 8000000
namespace Go.Proofs.YtpifimohecagoaaGreatDoor
open Go.Proofs.Tryz
variable{cs:List Value}{V W:World}{b last p q:Nat}{lim:Int}{bs:List UInt8}
section
open Go.ChangeShapes Go.WideShapes Go.ChangeAt Go.RowKit Go.Lib Go.Deep
theorem qv0:(prog.globals[0]?).map (·.type)=some 172:=by kernel_rfl
theorem qvU:(prog.globals[1]?).map (·.type)=some 174:=by kernel_rfl
theorem qkF:prog.cellsOf 168=1:=by kernel_rfl
theorem qnM:prog.cellsOf 172=8:=by kernel_rfl
theorem qkp:prog.cellsOf 171=3:=by kernel_rfl
theorem qmD:prog.cellsOf 169=1:=by kernel_rfl
theorem qq4:prog.cellsOf 3=1:=by kernel_rfl
theorem qnL:(Rows.laid_redact_reading_cborSorts:DataW Unit)=tabData .i64 [4,6,7,8,9,10,0,0]:=by kernel_rfl
theorem qo3:(Rows.laid_redact_reading_packHeads:DataW Unit)=.agg (qhC.map λx=>.agg [.lit (.int .i64 x.1),.lit (.int .i64 x.2),.lit (.int .u64 0)]):=by kernel_rfl
theorem q0e{l:List Value}(h:l.length=3):∃a b c,l=[a,b,c]:=by
 match l,h with
 |[a,b,c],_=>exact⟨a,b,c,rfl⟩
theorem qy7{α:Type}{l:List α}(h:l.length=3):∃a b c,l=[a,b,c]:=by
 match l,h with
 |[a,b,c],_=>exact⟨a,b,c,rfl⟩
theorem qvV{sp:Nat->Bool}{held:Bool}{fuel:Nat}{x y z:Int}{p:List MemPlace}(h:DataW.trod (λ_=>()) prog W 0 sp held fuel 171 cs=some (.agg [.lit (.int .i64 x),.lit (.int .i64 y),.lit (.int .u64 z)],p)):cs=[.int .i64 x,.int .i64 y,.int .u64 z]:=by
 obtain⟨u,n,_,j,i,o,a⟩:=DataW.trod_struct underlying171 h;rw[qkp]at i;have q:u.length=3:=o;obtain⟨b,c,d,rfl⟩:=q0e i;obtain⟨v,w,A,rfl⟩:=qy7 q;have k:DataW.trod (λ_=>()) prog W 0 sp held n 168 (([b,c,d].drop 0).take (prog.cellsOf 168))=some v:=a 0 _ rfl;have l:DataW.trod (λ_=>()) prog W 0 sp held n 3 (([b,c,d].drop 1).take (prog.cellsOf 3))=some w:=a 1 _ rfl;have m:DataW.trod (λ_=>()) prog W 0 sp held n 169 (([b,c,d].drop 2).take (prog.cellsOf 169))=some A:=a 2 _ rfl;rw[qkF]at k;rw[qq4]at l;rw[qmD]at m;obtain⟨B,e,r⟩:=DataW.trod_int underlying168 k;obtain⟨C,f,s⟩:=DataW.trod_int underlying3 l;obtain⟨D,g,t⟩:=DataW.trod_int underlying169 m;simp at e f g;subst e f g;obtain⟨rfl,_⟩:=r;obtain⟨rfl,_⟩:=s;obtain⟨rfl,_⟩:=t;simp only[List.map_cons,List.map_nil,Prod.mk.injEq,DataW.agg.injEq,List.cons.injEq,DataW.lit.injEq,Lit.int.injEq,and_true,true_and]at j;obtain⟨⟨rfl,rfl,rfl⟩,_⟩:=j;simp
theorem qzE{u:Nat}{a b c:Value}(h:(cs.drop (u*3)).take 3=[a,b,c]):cs[u*3]?=some a/\cs[u*3+1]?=some b/\cs[u*3+2]?=some c:=by
 have d:=congrArg (λl=>l[0]?) h;have e:=congrArg (λl=>l[1]?) h;have f:=congrArg (λl=>l[2]?) h;simp[List.getElem?_drop]at d e f;exact⟨d,e,f⟩
theorem qtU(i:laidMet prog Rows.paddedRow.laid W):qdB W:=by
 refine⟨?_,?_⟩
 ·obtain⟨g,t,cs,n,p,a,f,c,b⟩:=laidMet.reads i (d:=Rows.laid_redact_reading_cborSorts) (.tail _ (.tail _ (.tail _ (.tail _ (.head _)))));obtain rfl:g=0:=Option.some.inj (a.symm.trans (by kernel_rfl));obtain rfl:=Option.some.inj (qv0.symm.trans f);rw[qnL]at b;have r:=cells_of_tab underlying172 underlying168 qkF qnM b;intro u h;have q:=World.var?_cell a c u;rw[q,<-Array.getElem?_toList,r];have:∀v:Fin 8,([4,6,7,8,9,10,0,0]:List Int)[v.val]?=some ((qmU v.val:Nat):Int):=by decide
  rw[List.getElem?_map,this ⟨u,h⟩];rfl
 obtain⟨g,t,cs,n,p,a,f,c,b⟩:=laidMet.reads i (d:=Rows.laid_redact_reading_packHeads) (.tail _ (.tail _ (.tail _ (.tail _ (.tail _ (.head _))))));obtain rfl:g=1:=Option.some.inj (a.symm.trans (by kernel_rfl));obtain rfl:=Option.some.inj (qvU.symm.trans f);rw[qo3]at b;intro u h;obtain⟨w,s,q0,j,o⟩:=array_elem underlying174 b u h;have x:qhC.length=32:=rfl;rw[List.getElem?_map,List.getElem?_eq_getElem (by omega)]at j;cases j;have k:=qvV o;rw[qkp]at k;obtain⟨l,m,c2⟩:=qzE k;have e:qhC.getD u (0,0)=qhC[u]'(by omega):=by rw[List.getD_eq_getElem?_getD,List.getElem?_eq_getElem (by omega)];rfl
 rw[e];refine⟨?_,?_,?_⟩
 ·rw[World.var?_cell a c,<-Array.getElem?_toList];exact l
 ·rw[World.var?_cell a c,<-Array.getElem?_toList];exact m
 rw[World.var?_cell a c,<-Array.getElem?_toList];exact c2

end
section
open Go.RowKit
theorem qmy{α:Type}{itF:α->Nat->Except (Int×Int) (α×Nat)}(c:∀a p b q,itF a p=.ok (b,q)->p<q):∀(g p:Nat) (a b:α) (q:Nat),qfQ bs lim itF last g p a=.ok (b,q)->p<q
 |0,p,a,b,q,h=>by rw[qfQ]at h;cases h
 |g+1,p,a,b,q,h=>by
  rw[qfQ]at h;split at h
  ·cases h
  next u1 p1 h1 =>
  split at h
  ·cases h
  next a2 p2 h2 =>
  split at h
  ·cases h
  next u3 p3 h3 =>
  have:=qc6 _ _ _ _ _ _ h1;have:=c _ _ _ _ h2;have:=qc6 _ _ _ _ _ _ h3;split at h
  ·cases h
  split at h
  ·cases h
  split at h
  ·injection h with h;injection h with h4 h5;omega
  split at h
  ·have:=qmy c g (p3+1) a2 b q h;omega
  cases h
theorem qrG{α:Type}{itF:α->Nat->Except (Int×Int) (α×Nat)}(b:∀a p a' q,itF a p=.ok (a',q)->p<q){a a':α}(h:qdV bs lim itF last p a=.ok (a',q)):p<q:=by
 unfold qdV at h;split at h
 ·cases h
 next u1 p1 h1 =>
 have:=qc6 _ _ _ _ _ _ h1;split at h
 ·have:=qmy b _ _ _ _ _ h;omega
 split at h
 ·cases h
 split at h
 ·injection h with h;injection h with h4 h5;omega
 have:=qmy b _ _ _ _ _ h;omega
theorem qxf{depth:Int}{wi:Nat}{rd:Nat->Except (Int×Int) (DataW Unit×Nat)}{nm:UInt8->Nat->Except (Int×Int) (Int×Nat)}{c:UInt8}{d:DataW Unit}(a:∀p d q,rd p=.ok (d,q)->p<q)(b:∀z q,(c.toNat=45\/qbO c=true)->nm c p=.ok (z,q)->p<=q)(h:qjC bs lim depth wi rd nm c p=.ok (d,q)):p<=q:=by
 unfold qjC at h;split at h
 ·split at h
  ·cases h
  next u r hr =>
  injection h with h;injection h with h1 h2;have:=qck _ _ _ _ _ _ hr;omega
 split at h
 ·split at h
  ·cases h
  next u r hr =>
  injection h with h;injection h with h1 h2;have:=qck _ _ _ _ _ _ hr;omega
 split at h
 ·split at h
  ·cases h
  next u r hr =>
  injection h with h;injection h with h1 h2;have:=qck _ _ _ _ _ _ hr;omega
 split at h
 ·split at h
  ·cases h
  next l r hr =>
  injection h with h;injection h with h1 h2;have:=qe4 _ _ _ _ _ _ _ _ hr;omega
 split at h
 ·split at h
  ·cases h
  split at h
  ·cases h
  next l r hr =>
  injection h with h;injection h with h1 h2;have:=qrG (qu5 a) hr;omega
 split at h
 ·split at h
  ·cases h
  split at h
  ·cases h
  next l r hr =>
  injection h with h;injection h with h1 h2;have:=qrG (quM a) hr;omega
 split at h
 ·next hc =>
  split at h
  ·cases h
  next z r hr =>
  injection h with h;injection h with h1 h2;have:=b z r hc hr;omega
 cases h
def nmS(s:Src)(c:UInt8)(p:Nat):Except (Int×Int) (Int×Nat):=qeq {s with pos:=p} c
theorem qn1(s:Src):∀(g a p:Nat) (d:DataW Unit) (q:Nat),thJ s.bs s.lim s.depth (nmS s) g a p=.ok (d,q)->p<q
 |0,_,_,_,_,h=>by rw[thJ]at h;cases h
 |g+1,a,p,d,q,h=>by
  rw[thJ]at h;split at h
  ·cases h
  split at h
  ·cases h
  have:=qxf (p:=p+1) (nm:=nmS s) (qn1 s g (a+1)) (λz q b c=>(qff (s:={s with pos:=p+1}) b c).2) h;omega
theorem qbL:∀(g:Nat) (W:World) (b:Nat) (s:Src),qad W b s->s.bs.length<=200000000->(∀V,But b W V->U8 V)->7<b->s.depth<=100000->(s.within:Int)<=s.depth->s.depth<s.within+g ->
  Calls prog 188 #[.agg #[.pointer (some ⟨b,0,none⟩)]] W (qcj g W b s (thJ s.bs s.lim s.depth (nmS s) g s.within s.pos))
 |0,W,b,s,_,_,_,_,_,d,h2=>by omega
 |g+1,W,b,s,h,hlen,hU,h7,hdp,hwd,hgd=>by
  have x:¬(s.within:Int)=s.depth->qgC g b {s with within:=s.within+1} W (thJ s.bs s.lim s.depth (nmS s) g (s.within+1)):=λD U p t r =>
   qbL g U b {s with pos:=p,within:=s.within+1} t hlen (λX A=>hU X (r.trans A)) h7 hdp (by show((s.within+1:Nat):Int)<=s.depth;omega) (by show s.depth<((s.within+1:Nat):Int)+g;omega)
  rcases qaR h with d|d|⟨c,d⟩
  ·have e:thJ s.bs s.lim s.depth (nmS s) (g+1) s.within s.pos=.error (9,(s.pos:Int)):=by
    rw[thJ,List.getElem?_eq_none (by have:s.pos=s.bs.length:=d;omega)]
   rw[e];exact qiq W b s 9 h (λV u=>qb1 V b s u d)
  ·have e:thJ s.bs s.lim s.depth (nmS s) (g+1) s.within s.pos=.error (8,(s.pos:Int)):=by
    rw[thJ,List.getElem?_eq_getElem d.1];simp only[];rw[if_pos d.2]
   rw[e];exact qiq W b s 8 h (λV u=>qbd V b s u d)
  have e:thJ s.bs s.lim s.depth (nmS s) (g+1) s.within s.pos=qjC s.bs s.lim s.depth s.within (thJ s.bs s.lim s.depth (nmS s) g (s.within+1)) (nmS s) c (s.pos+1):=by
   rw[thJ,d.1];simp only[];rw[if_neg d.2]
  rw[e];have v:(((s.pos+1:Nat)):Int)-1=s.pos:=by omega
  unfold qjC;by_cases m:c.toNat=110
  ·rw[if_pos m];refine(qp4 g W b s c h d m).mono λe w a=>?_;cases f:qaQ s.bs s.lim [117,108,108] (s.pos+1)<;>(rw[f]at a;exact a)
  rw[if_neg m];by_cases c2:c.toNat=116
  ·rw[if_pos c2];refine(qoC g W b s c h d c2).mono λe w a=>?_;cases f:qaQ s.bs s.lim [114,117,101] (s.pos+1)<;>(rw[f]at a;exact a)
  rw[if_neg c2];by_cases n:c.toNat=102
  ·rw[if_pos n];refine(qlw g W b s c h d n).mono λe w a=>?_;cases f:qaQ s.bs s.lim [97,108,115,101] (s.pos+1)<;>(rw[f]at a;exact a)
  rw[if_neg n];by_cases o:c.toNat=34
  ·rw[if_pos o];refine(qnR g W b s c h d o hlen hU h7).mono λe w a=>?_;cases f:qcT s.bs s.lim (s.bs.length+1-(s.pos+1)) (s.pos+1) [] 0<;>(rw[f]at a;exact a)
  rw[if_neg o];by_cases j:c.toNat=91
  ·rw[if_pos j];by_cases i:(s.within:Int)=s.depth
   ·rw[if_pos i,v];exact qgA W b s c h d j i
   rw[if_neg i];refine(qo7 g W b s c h d j _ (x i) (qn1 s g (s.within+1)) hlen i (by omega)).mono λe w a=>?_;cases f:qdV s.bs s.lim (liJ (thJ s.bs s.lim s.depth (nmS s) g (s.within+1))) 93 (s.pos+1) []<;>(rw[f]at a;exact a)
  rw[if_neg j];by_cases k:c.toNat=123
  ·rw[if_pos k];by_cases i:(s.within:Int)=s.depth
   ·rw[if_pos i,v];exact qhI W b s c h d k i
   rw[if_neg i];refine(qqz g W b s c h d k _ (x i) (qn1 s g (s.within+1)) hlen hU h7 i (by omega)).mono λe w a=>?_;cases f:qdV s.bs s.lim (enJ s.bs s.lim (thJ s.bs s.lim s.depth (nmS s) g (s.within+1))) 125 (s.pos+1) ([],[])<;>(rw[f]at a;exact a)
  rw[if_neg k];by_cases l:c.toNat=45\/qbO c=true
  ·rw[if_pos l];refine(qj5 W b s c h d l).mono λe w a=>?_;have y:nmS s c (s.pos+1)=qeq s.next c:=rfl
   rw[y]
   cases f:qeq s.next c with
   |error C =>
    rw[f]at a;exact a
   |ok B =>
    obtain⟨z,q⟩:=B;rw[f]at a;obtain⟨r,rfl,t⟩:=a;exact⟨r,⟨_,_,rfl,rfl,(qff l f).1⟩,t⟩
  rw[if_neg l,v];exact qrN W b s c h d (by
   rintro(a|a|a|a|a|a|a)
   ·exact m a
   ·exact c2 a
   ·exact n a
   ·exact o a
   ·exact j a
   ·exact k a
   exact l a)

def qoT(sp:Nat->Except (Int×Int) (Unit×Nat))(th:Nat->Except (Int×Int) (DataW Unit×Nat))(bs:List UInt8)(lim:Int):Except (Int×Int) (DataW Unit) :=
 match sp 0 with
 |.error e=>.error e
 |.ok (_,p0)=>match th p0 with
  |.error e=>.error e
  |.ok (d,p1)=>match sp p1 with
   |.error e=>.error e
   |.ok (_,p2)=>match qsf ⟨none,bs,0,0,lim,p2,0⟩with
    |.error e=>.error e
    |.ok _=>.ok d
def qh0(th:Nat->Except (Int×Int) (DataW Unit×Nat)):Except (Int×Int) Nat :=
 match th 0 with
 |.error e=>.error e
 |.ok (_,p)=>.ok p
def qgW(k:Nat)(W:World)(r:Except (Int×Int) (DataW Unit))(e:Ending)(W':World):Prop :=
 Below W.heap.size W W'/\match r with
 |.ok d=>∃t y,e=.returned (.iface t y)/\qai k W' (λj=>W.heap.size<=j/\j<W'.heap.size) (.iface t y) d
 |.error (en,pl)=>qan en pl e
theorem qk6(W:World)(b p:Nat)(c:W.cell? ⟨b,3,none⟩=some (.int .i64 p)):Calls prog 184 #[.pointer (some ⟨b,0,none⟩)] W λe a=>e=.returned (.int .i64 p)/\a=W:=by
 go_enter func184,ntmps184;go_wp2;go_ret;exact⟨rfl,rfl⟩
theorem qkJ.toJ{k:Nat}{s:Src}{r:Except (Int×Int) (DataW Unit×Nat)}{e:Ending}{W':World}(h:qkJ k W b s r e W'):qcj k W b s r e W':=by
 refine⟨h.1,?_⟩;have a:=h.2
 cases r with
 |ok x=>exact a
 |error x=>exact a.1
theorem ql8(k:Nat)(W:World)(Z:Int)(c:Option Addr)(bs:List UInt8)(f:Nat)(d l:Int)(ah:qav W c bs)(x:Nat->Except (Int×Int) (Unit×Nat))(G:Nat->Except (Int×Int) (DataW Unit×Nat))(cR:∀V,qav V c bs->Calls prog 32 #[.int .i64 Z,.agg #[.int .i64 d,.int .i64 l],.slice c bs.length f] V λe X=>∃b,e=.returned (.iface 130 (.agg #[.pointer (some ⟨b,0,none⟩)]))/\qad X b ⟨c,bs,f,d,l,0,0⟩/\V.heap.size<=b/\Below V.heap.size V X)(Y:∀(b:Nat) (V:World) (p:Nat),W.heap.size<=b->qad V b ⟨c,bs,f,d,l,p,0⟩->Calls prog 189 #[.agg #[.pointer (some ⟨b,0,none⟩)]] V (qbU V b ⟨c,bs,f,d,l,p,0⟩ (λ_:Unit=>.tuple #[]) (x p)))(cT:∀(b:Nat) (V:World) (p:Nat),W.heap.size<=b->Below W.heap.size W V->qad V b ⟨c,bs,f,d,l,p,0⟩->Calls prog 188 #[.agg #[.pointer (some ⟨b,0,none⟩)]] V (qcj k V b ⟨c,bs,f,d,l,p,0⟩ (G p))):Calls prog 49 #[.int .i64 Z,.agg #[.int .i64 d,.int .i64 l],.slice c bs.length f] W (qgW k W (qoT x G bs l)):=by
 have ab:Below W.heap.size W (W.alloc (.cells #[.int .i64 d,.int .i64 l] 54)):=bwA;have P:=qab ab;have cN:=cR (W.alloc (.cells #[.int .i64 d,.int .i64 l] 54)) (ah.below ab);obtain⟨R,U⟩:∃R,Hid (qoT x G bs l=R):=⟨_,show _=_ from rfl⟩
 rw[U.out];have a:=U.out;unfold qoT at a;go_enter func49,ntmps49
 go_wp2_with(first
  |(go_at_call 32;refine cN.mono ?_;rintro e w2 ⟨b,rfl,hS,aq,J⟩))
 have Q:=qab (P.out.trans (J.mono P.out.size));have g:W.heap.size<=b:=by simp only[World.size_alloc]at aq;omega
 have C:=Y b w2 0 g hS;have af:=λ(V:World) (p:Nat) M=>Y b V p g M;have ag:=λ(V:World) (p:Nat) (J:Below W.heap.size W V) M=>cT b V p g J M;refine qca (y:=(189,.agg #[.pointer (some ⟨b,0,none⟩)])) (w:=w2) (by kernel_rfl) ?_
 go_wp2_with fail
 cases h:x 0 with
 |error q =>
  obtain⟨o,r⟩:=q;rw[h]at a C;simp only[]at a;subst a;refine C.mono ?_;rintro e A ⟨K,hF⟩;obtain rfl:=(show qan o r e from hF)
  go_wp2;exact⟨rfl,qa6 Q.out K g,rfl⟩
 |ok z =>
  obtain⟨u0,N⟩:=z;rw[h]at a C;simp only[]at a;refine C.mono ?_;rintro e A ⟨K,aj⟩;obtain⟨rfl,aa⟩:=(show e=.returned (.tuple #[])/\qad A b ⟨c,bs,f,d,l,N,0⟩from aj)
  have I:=qab (qa6 Q.out K g);have E:=ag A N I.out aa;have ar:=qab (ltA aa.row)
  go_wp2_with fail
  refine qca (y:=(188,.agg #[.pointer (some ⟨b,0,none⟩)])) (w:=A) (by kernel_rfl) ?_
  go_wp2_with fail
  cases h2:G N with
  |error q =>
   obtain⟨o,r⟩:=q;rw[h2]at a E;simp only[]at a;subst a;refine E.mono ?_;rintro e m ⟨L,hF⟩;obtain rfl:=(show qan o r e from hF)
   go_wp2;exact⟨rfl,qa6 I.out L g,rfl⟩
  |ok dq =>
   obtain⟨F,O⟩:=dq;rw[h2]at a E;simp only[]at a;refine E.mono ?_;rintro e m ⟨L,ak⟩;obtain⟨⟨t,y,rfl,ai⟩,an⟩:=(show(∃t y,e=.returned (.iface t y)/\qai k m (λj=>A.heap.size<=j/\j<m.heap.size) (.iface t y) F)/\qad m b ⟨c,bs,f,d,l,O,0⟩from ak)
   have S:=qab (qa6 I.out L g);have ap:=ar.out;have HD:Hid (qai k m (λj=>b<j/\j<m.heap.size) (.iface t y) F):=ai.same (λj i=>⟨Nat.lt_of_lt_of_le ap i.1,i.2⟩) (λ_ _=>rfl);have D:=af m O an
   go_wp2_with fail
   refine qca (y:=(189,.agg #[.pointer (some ⟨b,0,none⟩)])) (w:=m) (by kernel_rfl) ?_
   go_wp2_with fail
   cases h3:x O with
   |error q =>
    obtain⟨o,r⟩:=q;rw[h3]at a D;simp only[]at a;subst a;refine D.mono ?_;rintro e n ⟨s,hF⟩;obtain rfl:=(show qan o r e from hF)
    go_wp2;exact⟨rfl,qa6 S.out s g,rfl⟩
   |ok z =>
    obtain⟨u2,v⟩:=z;rw[h3]at a D;simp only[]at a;refine D.mono ?_;rintro e n ⟨s,al⟩;obtain⟨rfl,ao⟩:=(show e=.returned (.tuple #[])/\qad n b ⟨c,bs,f,d,l,v,0⟩from al)
    have T:=qab (qa6 S.out s g);have ad:Hid (qai k n (λj=>b<j/\j<n.heap.size) (.iface t y) F):=HD.out.same (λj i=>⟨i.1,Nat.lt_of_lt_of_le i.2 s.size⟩) (λj i=>s.block j i.2 (by omega));have B:Calls prog 182 #[.pointer (some ⟨b,0,none⟩)] n (qbU n b ⟨c,bs,f,d,l,v,0⟩ (λ_:Unit=>.tuple #[]) (qsf ⟨none,bs,0,0,l,v,0⟩)):=qht n b ⟨c,bs,f,d,l,v,0⟩ ao
    go_wp2_with fail
    refine qca (y:=(182,.pointer (some ⟨b,0,none⟩))) (w:=n) (by kernel_rfl) ?_
    go_wp2_with fail
    cases h4:qsf ⟨none,bs,0,0,l,v,0⟩with
    |error q =>
     obtain⟨o,r⟩:=q;rw[h4]at a B;simp only[]at a;subst a;refine B.mono ?_;rintro e H ⟨u,hF⟩;obtain rfl:=(show qan o r e from hF)
     go_wp2;exact⟨rfl,qa6 T.out u g,rfl⟩
    |ok z =>
     obtain⟨u4,p4⟩:=z;rw[h4]at a B;simp only[]at a;subst a;refine B.mono ?_;rintro e H ⟨u,am⟩;obtain⟨rfl,au⟩:=(show e=.returned (.tuple #[])/\qad H b ⟨c,bs,f,d,l,p4,0⟩from am)
     have ae:Hid (qai k H (λj=>W.heap.size<=j/\j<H.heap.size) (.iface t y) F):=ad.out.same (λj i=>⟨by omega,Nat.lt_of_lt_of_le i.2 u.size⟩) (λj i=>u.block j i.2 (by omega));have ac:=qab (qa6 T.out u g);go_wp2;go_ret;exact⟨ac.out,_,_,rfl,ae.out⟩
theorem qgH(k:Nat)(W:World)(h:Int)(f:Nat)(c:Option Addr)(bs:List UInt8)(g:Nat)(d l:Int)(ah:qav W c bs)(z:Nat->Except (Int×Int) (Unit×Nat))(H:Nat->Except (Int×Int) (DataW Unit×Nat))(cR:∀V,qav V c bs->Calls prog 32 #[.int .i64 h,.agg #[.int .i64 d,.int .i64 l],.slice c bs.length g] V λe Y=>∃b,e=.returned (.iface 133 (.agg #[.pointer (some ⟨b,0,none⟩),.func (.func f) #[] #[]]))/\qad Y b ⟨c,bs,g,d,l,0,0⟩/\V.heap.size<=b/\Below V.heap.size V Y)(Z:∀(b:Nat) (V:World) (p:Nat),W.heap.size<=b->qad V b ⟨c,bs,g,d,l,p,0⟩->Calls prog 183 #[.pointer (some ⟨b,0,none⟩)] V (qbU V b ⟨c,bs,g,d,l,p,0⟩ (λ_:Unit=>.tuple #[]) (z p)))(cT:∀(b:Nat) (V:World) (p:Nat),W.heap.size<=b->Below W.heap.size W V->qad V b ⟨c,bs,g,d,l,p,0⟩->Calls prog 217 #[.agg #[.pointer (some ⟨b,0,none⟩),.func (.func f) #[] #[]]] V (qcj k V b ⟨c,bs,g,d,l,p,0⟩ (H p))):Calls prog 49 #[.int .i64 h,.agg #[.int .i64 d,.int .i64 l],.slice c bs.length g] W (qgW k W (qoT z H bs l)):=by
 have ab:Below W.heap.size W (W.alloc (.cells #[.int .i64 d,.int .i64 l] 54)):=bwA;have Q:=qab ab;have cN:=cR (W.alloc (.cells #[.int .i64 d,.int .i64 l] 54)) (ah.below ab);obtain⟨R,X⟩:∃R,Hid (qoT z H bs l=R):=⟨_,show _=_ from rfl⟩
 rw[X.out];have a:=X.out;unfold qoT at a;go_enter func49,ntmps49
 go_wp2_with(first
  |(go_at_call 32;refine cN.mono ?_;rintro e w2 ⟨b,rfl,hS,aq,K⟩))
 have S:=qab (Q.out.trans (K.mono Q.out.size));have i:W.heap.size<=b:=by simp only[World.size_alloc]at aq;omega
 have D:=Z b w2 0 i hS;have af:=λ(V:World) (p:Nat) N=>Z b V p i N;have ag:=λ(V:World) (p:Nat) (K:Below W.heap.size W V) N=>cT b V p i K N;refine qca (y:=(183,.pointer (some ⟨b,0,none⟩))) (w:=w2) (by kernel_rfl) ?_
 go_wp2_with fail
 cases h1:z 0 with
 |error r =>
  obtain⟨q,s⟩:=r;rw[h1]at a D;simp only[]at a;subst a;refine D.mono ?_;rintro e B ⟨L,hF⟩;obtain rfl:=(show qan q s e from hF)
  go_wp2;exact⟨rfl,qa6 S.out L i,rfl⟩
 |ok A =>
  obtain⟨u0,O⟩:=A;rw[h1]at a D;simp only[]at a;refine D.mono ?_;rintro e B ⟨L,aj⟩;obtain⟨rfl,aa⟩:=(show e=.returned (.tuple #[])/\qad B b ⟨c,bs,g,d,l,O,0⟩from aj)
  have J:=qab (qa6 S.out L i);have F:=ag B O J.out aa;have ar:=qab (ltA aa.row)
  go_wp2_with fail
  refine qca (y:=(217,.agg #[.pointer (some ⟨b,0,none⟩),.func (.func f) #[] #[]])) (w:=B) (by kernel_rfl) ?_
  go_wp2_with fail
  cases h2:H O with
  |error r =>
   obtain⟨q,s⟩:=r;rw[h2]at a F;simp only[]at a;subst a;refine F.mono ?_;rintro e n ⟨M,hF⟩;obtain rfl:=(show qan q s e from hF)
   go_wp2;exact⟨rfl,qa6 J.out M i,rfl⟩
  |ok dq =>
   obtain⟨G,P⟩:=dq;rw[h2]at a F;simp only[]at a;refine F.mono ?_;rintro e n ⟨M,ak⟩;obtain⟨⟨t,y,rfl,ai⟩,an⟩:=(show(∃t y,e=.returned (.iface t y)/\qai k n (λj=>B.heap.size<=j/\j<n.heap.size) (.iface t y) G)/\qad n b ⟨c,bs,g,d,l,P,0⟩from ak)
   have T:=qab (qa6 J.out M i);have ap:=ar.out;have HD:Hid (qai k n (λj=>b<j/\j<n.heap.size) (.iface t y) G):=ai.same (λj m=>⟨Nat.lt_of_lt_of_le ap m.1,m.2⟩) (λ_ _=>rfl);have E:=af n P an
   go_wp2_with fail
   refine qca (y:=(183,.pointer (some ⟨b,0,none⟩))) (w:=n) (by kernel_rfl) ?_
   go_wp2_with fail
   cases h3:z P with
   |error r =>
    obtain⟨q,s⟩:=r;rw[h3]at a E;simp only[]at a;subst a;refine E.mono ?_;rintro e o ⟨u,hF⟩;obtain rfl:=(show qan q s e from hF)
    go_wp2;exact⟨rfl,qa6 T.out u i,rfl⟩
   |ok A =>
    obtain⟨u2,x⟩:=A;rw[h3]at a E;simp only[]at a;refine E.mono ?_;rintro e o ⟨u,al⟩;obtain⟨rfl,ao⟩:=(show e=.returned (.tuple #[])/\qad o b ⟨c,bs,g,d,l,x,0⟩from al)
    have U:=qab (qa6 T.out u i);have ad:Hid (qai k o (λj=>b<j/\j<o.heap.size) (.iface t y) G):=HD.out.same (λj m=>⟨m.1,Nat.lt_of_lt_of_le m.2 u.size⟩) (λj m=>u.block j m.2 (by omega));have C:Calls prog 182 #[.pointer (some ⟨b,0,none⟩)] o (qbU o b ⟨c,bs,g,d,l,x,0⟩ (λ_:Unit=>.tuple #[]) (qsf ⟨none,bs,0,0,l,x,0⟩)):=qht o b ⟨c,bs,g,d,l,x,0⟩ ao
    go_wp2_with fail
    refine qca (y:=(182,.pointer (some ⟨b,0,none⟩))) (w:=o) (by kernel_rfl) ?_
    go_wp2_with fail
    cases h4:qsf ⟨none,bs,0,0,l,x,0⟩with
    |error r =>
     obtain⟨q,s⟩:=r;rw[h4]at a C;simp only[]at a;subst a;refine C.mono ?_;rintro e I ⟨v,hF⟩;obtain rfl:=(show qan q s e from hF)
     go_wp2;exact⟨rfl,qa6 U.out v i,rfl⟩
    |ok A =>
     obtain⟨u4,p4⟩:=A;rw[h4]at a C;simp only[]at a;subst a;refine C.mono ?_;rintro e I ⟨v,am⟩;obtain⟨rfl,au⟩:=(show e=.returned (.tuple #[])/\qad I b ⟨c,bs,g,d,l,p4,0⟩from am)
     have ae:Hid (qai k I (λj=>W.heap.size<=j/\j<I.heap.size) (.iface t y) G):=ad.out.same (λj m=>⟨by omega,Nat.lt_of_lt_of_le m.2 v.size⟩) (λj m=>v.block j m.2 (by omega));have ac:=qab (qa6 U.out v i);go_wp2;go_ret;exact⟨ac.out,_,_,rfl,ae.out⟩
theorem qtY(k:Nat)(W:World)(H:Int)(a:Option Addr)(bs:List UInt8)(g:Nat)(d l:Int)(h:qav W a bs)(m:Nat->Except (Int×Int) (DataW Unit×Nat))(F:∀V,qav V a bs->Calls prog 32 #[.int .i64 H,.agg #[.int .i64 d,.int .i64 l],.slice a bs.length g] V λe q=>∃b,e=.returned (.iface 130 (.agg #[.pointer (some ⟨b,0,none⟩)]))/\qad q b ⟨a,bs,g,d,l,0,0⟩/\V.heap.size<=b/\Below V.heap.size V q)(G:∀(b:Nat) (V:World) (p:Nat),W.heap.size<=b->Below W.heap.size W V->qad V b ⟨a,bs,g,d,l,p,0⟩->Calls prog 188 #[.agg #[.pointer (some ⟨b,0,none⟩)]] V (qcj k V b ⟨a,bs,g,d,l,p,0⟩ (m p))):Calls prog 15 #[.int .i64 H,.agg #[.int .i64 d,.int .i64 l],.slice a bs.length g] W (λe q=>qnJ W (λn:Nat=>.int .i64 n) (qh0 m) e q/\∀n,qh0 m=.ok n->n<=bs.length):=by
 have C:Below W.heap.size W (W.alloc (.cells #[.int .i64 d,.int .i64 l] 54)):=bwA;have x:Hid (Below W.heap.size W (W.alloc (.cells #[.int .i64 d,.int .i64 l] 54))):=C;have E:=F (W.alloc (.cells #[.int .i64 d,.int .i64 l] 54)) (h.below C);obtain⟨R,z⟩:∃R,Hid (qh0 m=R):=⟨_,show _=_ from rfl⟩
 rw[z.out];have f:=z.out;unfold qh0 at f;clear C h F z;go_enter func15,ntmps15
 go_wp2_with(first
  |(go_at_call 32;refine E.mono ?_;clear E;rintro e v ⟨b,rfl,K,L,I⟩))
 have o:Hid (Below W.heap.size W v):=x.out.trans (I.mono x.out.size);have D:W.heap.size<=b:=by simp only[World.size_alloc]at L;omega
 have i:=G b v 0 D o.out K;clear G I L K x;refine qca (y:=(188,.agg #[.pointer (some ⟨b,0,none⟩)])) (w:=v) (by kernel_rfl) ?_
 go_wp2_with fail
 cases A:m 0 with
 |error S =>
  obtain⟨Q,X⟩:=S;rw[A]at f i;simp only[]at f;subst f;refine i.mono ?_;rintro e c ⟨r,hF⟩;obtain rfl:=(show qan Q X e from hF)
  go_wp2;exact⟨rfl,⟨qa6 o.out r D,rfl⟩,λn s=>by cases s⟩
 |ok P =>
  obtain⟨O,u⟩:=P;rw[A]at f i;simp only[]at f;subst f;refine i.mono ?_;clear i A;rintro e c ⟨r,J⟩;obtain⟨⟨t,y,rfl,T⟩,B⟩:=(show(∃t y,e=.returned (.iface t y)/\qai k c (λj=>v.heap.size<=j/\j<c.heap.size) (.iface t y) O)/\qad c b ⟨a,bs,g,d,l,u,0⟩from J)
  have M:Hid (Below W.heap.size W c):=qa6 o.out r D;have N:Hid (u<=bs.length):=B.le;have U:c.cell? ⟨b,3,none⟩=some (.int .i64 u):=qaa B.row 3;clear r J B T o
  go_wp2_with fail
  refine qca (y:=(184,.pointer (some ⟨b,0,none⟩))) (w:=c) (by kernel_rfl) ?_
  go_wp2_with fail
  refine(qk6 c b u U).mono ?_;rintro e Y ⟨rfl,rfl⟩;go_wp2;go_ret;exact⟨⟨M.out,rfl⟩,λn s=>by injection s with s;have:=N.out;omega⟩
theorem qmG(k:Nat)(W:World)(I:Int)(f:Nat)(a:Option Addr)(bs:List UInt8)(i:Nat)(d l:Int)(h:qav W a bs)(o:Nat->Except (Int×Int) (DataW Unit×Nat))(G:∀V,qav V a bs->Calls prog 32 #[.int .i64 I,.agg #[.int .i64 d,.int .i64 l],.slice a bs.length i] V λe r=>∃b,e=.returned (.iface 133 (.agg #[.pointer (some ⟨b,0,none⟩),.func (.func f) #[] #[]]))/\qad r b ⟨a,bs,i,d,l,0,0⟩/\V.heap.size<=b/\Below V.heap.size V r)(H:∀(b:Nat) (V:World) (p:Nat),W.heap.size<=b->Below W.heap.size W V->qad V b ⟨a,bs,i,d,l,p,0⟩->Calls prog 217 #[.agg #[.pointer (some ⟨b,0,none⟩),.func (.func f) #[] #[]]] V (qcj k V b ⟨a,bs,i,d,l,p,0⟩ (o p))):Calls prog 15 #[.int .i64 I,.agg #[.int .i64 d,.int .i64 l],.slice a bs.length i] W (λe r=>qnJ W (λn:Nat=>.int .i64 n) (qh0 o) e r/\∀n,qh0 o=.ok n->n<=bs.length):=by
 have D:Below W.heap.size W (W.alloc (.cells #[.int .i64 d,.int .i64 l] 54)):=bwA;have z:Hid (Below W.heap.size W (W.alloc (.cells #[.int .i64 d,.int .i64 l] 54))):=D;have F:=G (W.alloc (.cells #[.int .i64 d,.int .i64 l] 54)) (h.below D);obtain⟨R,A⟩:∃R,Hid (qh0 o=R):=⟨_,show _=_ from rfl⟩
 rw[A.out];have g:=A.out;unfold qh0 at g;clear D h G A;go_enter func15,ntmps15
 go_wp2_with(first
  |(go_at_call 32;refine F.mono ?_;clear F;rintro e x ⟨b,rfl,L,M,J⟩))
 have q:Hid (Below W.heap.size W x):=z.out.trans (J.mono z.out.size);have E:W.heap.size<=b:=by simp only[World.size_alloc]at M;omega
 have m:=H b x 0 E q.out L;clear H J M L z;refine qca (y:=(217,.agg #[.pointer (some ⟨b,0,none⟩),.func (.func f) #[] #[]])) (w:=x) (by kernel_rfl) ?_
 go_wp2_with fail
 cases B:o 0 with
 |error T =>
  obtain⟨S,Y⟩:=T;rw[B]at g m;simp only[]at g;subst g;refine m.mono ?_;rintro e c ⟨s,hF⟩;obtain rfl:=(show qan S Y e from hF)
  go_wp2;exact⟨rfl,⟨qa6 q.out s E,rfl⟩,λn u=>by cases u⟩
 |ok Q =>
  obtain⟨P,v⟩:=Q;rw[B]at g m;simp only[]at g;subst g;refine m.mono ?_;clear m B;rintro e c ⟨s,K⟩;obtain⟨⟨t,y,rfl,U⟩,C⟩:=(show(∃t y,e=.returned (.iface t y)/\qai k c (λj=>x.heap.size<=j/\j<c.heap.size) (.iface t y) P)/\qad c b ⟨a,bs,i,d,l,v,0⟩from K)
  have N:Hid (Below W.heap.size W c):=qa6 q.out s E;have O:Hid (v<=bs.length):=C.le;have X:c.cell? ⟨b,3,none⟩=some (.int .i64 v):=qaa C.row 3;clear s K C U q
  go_wp2_with fail
  refine qca (y:=(184,.pointer (some ⟨b,0,none⟩))) (w:=c) (by kernel_rfl) ?_
  go_wp2_with fail
  refine(qk6 c b v X).mono ?_;rintro e Z ⟨rfl,rfl⟩;go_wp2;go_ret;exact⟨⟨N.out,rfl⟩,λn u=>by injection u with u;have:=O.out;omega⟩

structure qcS(W:World):Prop where
 u8:U8 W
 hd:qdB W
 big:9<=W.heap.size
theorem U8.but(h:U8 W)(e:But b W V)(j:7<b)(k:9<=W.heap.size):U8 V:=by
 have a:∀(q off:Nat) (v:Value),q<=7->W.cell? ⟨q,off,none⟩=some v->V.cell? ⟨q,off,none⟩=some v:=λq off v l g=>(World.cell?_of_block (w:=W) (e.block q (by omega) (by omega))).trans g;exact⟨λc f=>a _ _ _ (by decide) (h.1 c f),λi d=>⟨a _ _ _ (by decide) (h.2 i d).1,a _ _ _ (by decide) (h.2 i d).2⟩⟩
theorem qcS.below(h:qcS W)(a:Below W.heap.size W V):qcS V:=⟨h.u8.below a,h.hd.below a,Nat.le_trans h.big a.size⟩
theorem qyr:(List.range 256).all (λc=>decide ((qdO c).1<=10/\(qdO c).2.1<=8/\((qdO c).2.1=0\/(qdO c).2.2=0)/\(qdO c).2.2<18446744073709551616))=true:=by kernel_rfl
theorem qy4:∀c,c<256->(qdO c).1<=10/\(qdO c).2.1<=8/\((qdO c).2.1=0\/(qdO c).2.2=0)/\(qdO c).2.2<18446744073709551616:=λc a=>of_decide_eq_true (List.all_eq_true.1 qyr c (List.mem_range.2 a))
theorem qyb:(List.range 256).all (λc=>decide ((qcb c).1<=10/\(qcb c).2.1<=8/\((qcb c).2.1=0\/(qcb c).2.2=0)/\(qcb c).2.2<18446744073709551616))=true:=by kernel_rfl
theorem qx6:∀c,c<256->(qcb c).1<=10/\(qcb c).2.1<=8/\((qcb c).2.1=0\/(qcb c).2.2=0)/\(qcb c).2.2<18446744073709551616:=λc a=>of_decide_eq_true (List.all_eq_true.1 qyb c (List.mem_range.2 a))
theorem qqj(h:qdB W)(e:1<b):qf6 53 qdO b W :=
 ⟨.inl rfl,λc a=>(qy4 c a).1,λc a=>(qy4 c a).2,λc V d=>qjK V c.toNat c.toNat_lt (h.but d e)⟩
theorem qqe(h:qdB W)(e:1<b):qf6 54 qcb b W :=
 ⟨.inr rfl,λc a=>(qx6 c a).1,λc a=>(qx6 c a).2,λc V d=>qjS V c.toNat c.toNat_lt (h.but d e)⟩
def spO(fm:Int)(bs:List UInt8)(lim:Int)(p:Nat):Except (Int×Int) (Unit×Nat):=if fm=1 then spF bs lim (bs.length+1-p) p else .ok ((),p)
def thO(fm:Int)(bs:List UInt8)(d lim:Int)(p:Nat):Except (Int×Int) (DataW Unit×Nat) :=
 if fm=1 then thJ bs lim d (λc p=>qeq ⟨none,bs,0,0,lim,p,0⟩ c) (d.toNat+1) 0 p else if fm=2 then thB qdO bs lim d (d.toNat+1) 0 p else thB qcb bs lim d (d.toNat+1) 0 p
def qgn(fm:Int)(bs:List UInt8)(d lim:Int):Except (Int×Int) (DataW Unit):=qoT (spO fm bs lim) (thO fm bs d lim) bs lim
theorem qkX(W:World)(n:Int)(a:Option Addr)(bs:List UInt8)(f:Nat)(d l:Int)(x:n=1\/n=2\/n=3)(h:qav W a bs)(j:qcS W)(s:0<=d)(t:d<=100000)(v:bs.length<=200000000):Calls prog 49 #[.int .i64 n,.agg #[.int .i64 d,.int .i64 l],.slice a bs.length f] W (qgW (d.toNat+1) W (qgn n bs d l)):=by
 have y:=j.big;rcases x with rfl|rfl|rfl
 ·have k:spO 1 bs l=λp=>spF bs l (bs.length+1-p) p:=by funext p;unfold spO;rw[if_pos rfl]
  have m:thO 1 bs d l=λp=>thJ bs l d (λc p=>qeq ⟨none,bs,0,0,l,p,0⟩ c) (d.toNat+1) 0 p:=by funext p;unfold thO;rw[if_pos rfl]
  unfold qgn;rw[k,m];refine ql8 (d.toNat+1) W 1 a bs f d l h _ _ (λV q=>qed V a bs f d l q) (λb V p r g=>qaT V b ⟨a,bs,f,d,l,p,0⟩ g) (λb V p r i g=>?_);exact qbL (d.toNat+1) V b ⟨a,bs,f,d,l,p,0⟩ g v (λU o=>(j.below i).u8.but o (by omega) (j.below i).big) (by omega) t (by simpa using s) (by show d<((0:Nat):Int)+((d.toNat+1:Nat):Int);omega)
 ·have k:spO 2 bs l=λp=>.ok ((),p):=by funext p;unfold spO;rw[if_neg (by decide)]
  have m:thO 2 bs d l=λp=>thB qdO bs l d (d.toNat+1) 0 p:=by funext p;unfold thO;rw[if_neg (by decide),if_pos rfl]
  unfold qgn;rw[k,m];refine qgH (d.toNat+1) W 2 53 a bs f d l h _ _ (λV q=>qdW V a bs f d l q) (λb V p r g=>(qeI V b).mono ?_) (λb V p r i g=>?_)
  ·rintro e w ⟨rfl,rfl⟩;exact⟨But.refl _ _,rfl,g⟩
  exact(qaW qdO 53 (d.toNat+1) V b ⟨a,bs,f,d,l,p,0⟩ g v (λU o=>(j.below i).u8.but o (by omega) (j.below i).big) (by omega) (qqj (j.below i).hd (by omega)) t (by simpa using s) (by show d<((0:Nat):Int)+((d.toNat+1:Nat):Int);omega)).mono λe w u=>u.toJ
 have k:spO 3 bs l=λp=>.ok ((),p):=by funext p;unfold spO;rw[if_neg (by decide)]
 have m:thO 3 bs d l=λp=>thB qcb bs l d (d.toNat+1) 0 p:=by funext p;unfold thO;rw[if_neg (by decide),if_neg (by decide)]
 unfold qgn;rw[k,m];refine qgH (d.toNat+1) W 3 54 a bs f d l h _ _ (λV q=>qeg V a bs f d l q) (λb V p r g=>(qeI V b).mono ?_) (λb V p r i g=>?_)
 ·rintro e w ⟨rfl,rfl⟩;exact⟨But.refl _ _,rfl,g⟩
 exact(qaW qcb 54 (d.toNat+1) V b ⟨a,bs,f,d,l,p,0⟩ g v (λU o=>(j.below i).u8.but o (by omega) (j.below i).big) (by omega) (qqe (j.below i).hd (by omega)) t (by simpa using s) (by show d<((0:Nat):Int)+((d.toNat+1:Nat):Int);omega)).mono λe w u=>u.toJ
theorem qp3(W:World)(j:Int)(a:Option Addr)(bs:List UInt8)(f:Nat)(d l:Int)(y:j=1\/j=2\/j=3)(h:qav W a bs)(i:qcS W)(r:0<=d)(s:d<=100000)(u:bs.length<=200000000):Calls prog 15 #[.int .i64 j,.agg #[.int .i64 d,.int .i64 l],.slice a bs.length f] W (λe x=>qnJ W (λn:Nat=>.int .i64 n) (qh0 (thO j bs d l)) e x/\∀n,qh0 (thO j bs d l)=.ok n->n<=bs.length):=by
 have z:=i.big;rcases y with rfl|rfl|rfl
 ·have k:thO 1 bs d l=λp=>thJ bs l d (λc p=>qeq ⟨none,bs,0,0,l,p,0⟩ c) (d.toNat+1) 0 p:=by funext p;unfold thO;rw[if_pos rfl]
  rw[k];refine qtY (d.toNat+1) W 1 a bs f d l h _ (λV q=>qed V a bs f d l q) (λb V p v g m=>?_);exact qbL (d.toNat+1) V b ⟨a,bs,f,d,l,p,0⟩ m u (λU o=>(i.below g).u8.but o (by omega) (i.below g).big) (by omega) s (by simpa using r) (by show d<((0:Nat):Int)+((d.toNat+1:Nat):Int);omega)
 ·have k:thO 2 bs d l=λp=>thB qdO bs l d (d.toNat+1) 0 p:=by funext p;unfold thO;rw[if_neg (by decide),if_pos rfl]
  rw[k];refine qmG (d.toNat+1) W 2 53 a bs f d l h _ (λV q=>qdW V a bs f d l q) (λb V p v g m=>?_);exact(qaW qdO 53 (d.toNat+1) V b ⟨a,bs,f,d,l,p,0⟩ m u (λU o=>(i.below g).u8.but o (by omega) (i.below g).big) (by omega) (qqj (i.below g).hd (by omega)) s (by simpa using r) (by show d<((0:Nat):Int)+((d.toNat+1:Nat):Int);omega)).mono λe w t=>t.toJ
 have k:thO 3 bs d l=λp=>thB qcb bs l d (d.toNat+1) 0 p:=by funext p;unfold thO;rw[if_neg (by decide),if_neg (by decide)]
 rw[k];refine qmG (d.toNat+1) W 3 54 a bs f d l h _ (λV q=>qeg V a bs f d l q) (λb V p v g m=>?_);exact(qaW qcb 54 (d.toNat+1) V b ⟨a,bs,f,d,l,p,0⟩ m u (λU o=>(i.below g).u8.but o (by omega) (i.below g).big) (by omega) (qqe (i.below g).hd (by omega)) s (by simpa using r) (by show d<((0:Nat):Int)+((d.toNat+1:Nat):Int);omega)).mono λe w t=>t.toJ
theorem qoA{P:Program}{f:FuncId}{args:Array Value}{w:World}{R:Ending->World->Prop}{p:Prop}(h:Calls P f args w R)(c:∀e a,R e a->p):p:=by
 obtain⟨e,a,d,b,_⟩:=h [];exact c e a b

def qzd(k:Nat)(W:World)(r:Except (Int×Int) (DataW Unit))(e:Ending)(W':World):Prop :=
 Below W.heap.size W W'/\match r with
 |.ok d=>∃t y,e=.returned (.tuple #[.iface t y,.int .i64 0,.int .i64 0])/\qai k W' (λj=>W.heap.size<=j/\j<W'.heap.size) (.iface t y) d
 |.error (en,pl)=>e=.returned (.tuple #[.nilIface,.int .i64 en,.int .i64 pl])
theorem qkO(k:Nat)(W:World)(v:Array Value)(r:Except (Int×Int) (DataW Unit))(D:Calls prog 48 v ((W.alloc (.cells #[.int .i64 0] 29)).alloc (.cells #[.int .i64 0] 3)) (qgW k ((W.alloc (.cells #[.int .i64 0] 29)).alloc (.cells #[.int .i64 0] 3)) r)):Calls prog 47 #[.func (.func 48) #[] v] W (qzd k W r):=by
 have T:∀(x:Fn) (first u:Array Value) (w:World),(Instr.makeFunc x first u).run prog w=.ok (.func x first u) w:=λ_ _ _ _=>rfl;have B:Below W.heap.size W ((W.alloc (.cells #[.int .i64 0] 29)).alloc (.cells #[.int .i64 0] 3)):=(bwA).alloc (by simp) _;have K:=Boxed.new W 29 (.int .i64 0);have z:=Boxed.new (W.alloc (.cells #[.int .i64 0] 29)) 3 (.int .i64 0);have L:=K.alloc (.cells #[.int .i64 0] 3);rw[World.size_alloc]at z;have h:=qab B;have l:=qab L;have m:=qab z
 go_enter_defers func47,ntmps47
 go_wp2_with fail
 refine D.mono ?_;rcases r with⟨E,M⟩|d
 ·rintro e a ⟨b,hF⟩;obtain rfl:=hF;have q1:Boxed a W.heap.size 29 (.int .i64 0):=(b.block _ l.out.lt).trans l.out;have g:Boxed a (W.heap.size+1) 3 (.int .i64 0):=(b.block _ m.out.lt).trans m.out;have p:=h.out.trans (b.mono h.out.size);have n:=qab q1;have o:=qab g;have i:=qab p;go_wp2;refine leaves_cons (f:=66) (args:=#[.pointer (some ⟨W.heap.size,0,none⟩),.pointer (some ⟨W.heap.size+1,0,none⟩)]) (by simp) (by simp[go_sem]) ?_;refine(qoi W.heap.size (W.heap.size+1) E M 0 0 a n.out.cell o.out.cell n.out.frozen o.out.frozen (by omega)).mono ?_;rintro e P Q ⟨rfl,rfl,s,c2,C⟩;have q:=i.out.trans (C _ (Nat.le_refl _) (by omega) i.out.size);simp[Leaves,settle,results,results47,go_sem,s,c2,qzd,q]
 rintro e a ⟨b,J⟩;obtain⟨t,y,rfl,H⟩:=(show∃t y,e=.returned (.iface t y)/\qai k a (λj=>((W.alloc (.cells #[.int .i64 0] 29)).alloc (.cells #[.int .i64 0] 3)).heap.size<=j/\j<a.heap.size) (.iface t y) d from J)
 have A:Hid (qai k a (λj=>W.heap.size+2<=j/\j<a.heap.size) (.iface t y) d):=H.same (λj c=>⟨by have:=c.1;simp only[World.size_alloc]at this;omega,c.2⟩) (λ_ _=>rfl);have q1:Boxed a W.heap.size 29 (.int .i64 0):=(b.block _ l.out.lt).trans l.out;have g:Boxed a (W.heap.size+1) 3 (.int .i64 0):=(b.block _ m.out.lt).trans m.out;have p:=h.out.trans (b.mono h.out.size);have n:=qab q1;have o:=qab g;have i:=qab p;have s:=q1.cell;have f1:=q1.frozen;have c2:=g.cell;have R:=g.frozen;go_wp2;have F:=grownBy_setCell' a W.heap.size (.int .i64 0);have G:=grownBy_setCell' (a.setCell ⟨W.heap.size,0,none⟩ (.int .i64 0)) (W.heap.size+1) (.int .i64 0);have N:=((n.out.set (.int .i64 0)).kept G (by intro e;injection e with e;omega)).cell;have O:=(Boxed.set (.int .i64 0) (o.out.kept F (by intro e;injection e with e;omega))).cell;have q:Below W.heap.size W ((a.setCell ⟨W.heap.size,0,none⟩ (.int .i64 0)).setCell ⟨W.heap.size+1,0,none⟩ (.int .i64 0)) :=
  i.out.trans ⟨rfl,rfl,rfl,by simp[World.setCell],λk S=>(heap_setCell_other _ _ _ _ (by simp;omega)).trans (heap_setCell_other a _ _ _ (by simp;omega))⟩
 have I:qai k ((a.setCell ⟨W.heap.size,0,none⟩ (.int .i64 0)).setCell ⟨W.heap.size+1,0,none⟩ (.int .i64 0)) (λj=>W.heap.size<=j/\j<((a.setCell ⟨W.heap.size,0,none⟩ (.int .i64 0)).setCell ⟨W.heap.size+1,0,none⟩ (.int .i64 0)).heap.size) (.iface t y) d:=A.out.same (λj c=>⟨by omega,by simp[World.setCell];exact c.2⟩) (λj c=>(heap_setCell_other _ _ _ _ (by simp;omega)).trans (heap_setCell_other a _ _ _ (by simp;omega)));generalize(a.setCell ⟨W.heap.size,0,none⟩ (.int .i64 0)).setCell ⟨W.heap.size+1,0,none⟩ (.int .i64 0)=V at *;refine leaves_cons (f:=66) (args:=#[.pointer (some ⟨W.heap.size,0,none⟩),.pointer (some ⟨W.heap.size+1,0,none⟩)]) (by simp) (by simp[go_sem]) ?_;refine(qnW ⟨W.heap.size,0,none⟩ ⟨W.heap.size+1,0,none⟩ V).mono ?_;rintro e P Q ⟨rfl,rfl,rfl⟩;simp[Leaves,settle,results,results47,go_sem,N,O,qzd,q];exact⟨t,y,⟨rfl,rfl⟩,I⟩
theorem qmj(p q:Addr)(w:World):CallsD prog 31 #[.pointer (some p),.pointer (some q)] .returning w λe c d=>e=.returned (.tuple #[])/\c=.returning/\d=w:=by
 refine callsD_of_wpS func31 rfl λa cs b=>?_;simp only[ntmps31,List.size_toArray,List.length_cons,List.length_nil,Nat.reduceAdd,Nat.reduceSub,Array.replicate_succ,Array.replicate_zero,List.push_toArray,List.append_toArray,List.nil_append,List.cons_append];apply wpS_seq;apply wpS_region;simp[wpOpsS,go_sem,recoverD,b,Exit.thenS];refine wpS_of_wp ?_;go_wp2;cases a
 simp_all[bodyPostS,results,results31]
theorem qmr(p q:Nat)(a b x y:Int)(w:World)(c:w.cell? ⟨p,0,none⟩=some (.int .i64 x))(d:w.cell? ⟨q,0,none⟩=some (.int .i64 y))(n:w.frozen? ⟨p,0,none⟩=false)(o:w.frozen? ⟨q,0,none⟩=false)(h:p≠q):CallsD prog 31 #[.pointer (some ⟨p,0,none⟩),.pointer (some ⟨q,0,none⟩)] (.panicking [{v:=qd5 a b,recovered:=false}]) w λe K i=>e=.returned (.tuple #[])/\K=.panicking [{v:=qd5 a b,recovered:=true}] /\
   (i.cell? ⟨p,0,none⟩=some (.int .i64 a)/\i.cell? ⟨q,0,none⟩=some (.int .i64 b)/\∀B,B<=p->B<=q->B<=w.heap.size->Below B w i):=by
 refine callsD_of_wpS func31 rfl λL cs G=>?_;simp only[ntmps31,List.size_toArray,List.length_cons,List.length_nil,Nat.reduceAdd,Nat.reduceSub,Array.replicate_succ,Array.replicate_zero,List.push_toArray,List.append_toArray,List.nil_append,List.cons_append];apply wpS_seq;apply wpS_region;simp[wpOpsS,go_sem,recoverD,G,Exit.thenS,qd5];refine wpS_of_wp ?_;have F:∀w:World,(Instr.typeAssert (.iface 88 (.agg #[.int .i64 a,.int .i64 b])) 20 88 true).run prog w=.ok (.tuple #[.agg #[.int .i64 a,.int .i64 b],.bool true]) w:=λw=>by kernel_rfl
 go_wp2;have g:w.heap.size≠p/\w.heap.size≠q:=⟨by have r:p<w.heap.size:=block_lt_of_cell c;omega,by have r:q<w.heap.size:=block_lt_of_cell d;omega⟩
 have l:(w.alloc (.cells #[.int .i64 a,.int .i64 b] 88)).cell? ⟨p,0,none⟩=some (.int .i64 x):=(World.cell?_alloc_some w _ _ (by rw[c];rfl)).trans c;have m:(w.alloc (.cells #[.int .i64 a,.int .i64 b] 88)).cell? ⟨q,0,none⟩=some (.int .i64 y):=(World.cell?_alloc_some w _ _ (by rw[d];rfl)).trans d;have f:Below w.heap.size w (w.alloc (.cells #[.int .i64 a,.int .i64 b] 88)):=bwA;have z:(w.alloc (.cells #[.int .i64 a,.int .i64 b] 88)).frozen? ⟨p,0,none⟩=false:=(f.frozen (p:=⟨p,0,none⟩) (block_lt_of_cell c)).trans n;have A:(w.alloc (.cells #[.int .i64 a,.int .i64 b] 88)).frozen? ⟨q,0,none⟩=false:=(f.frozen (p:=⟨q,0,none⟩) (block_lt_of_cell d)).trans o;have t:(w.alloc (.cells #[.int .i64 a,.int .i64 b] 88)).cell? ⟨w.heap.size,0,none⟩=some (.int .i64 a):=qaa (qac _ _) 0;have u:(w.alloc (.cells #[.int .i64 a,.int .i64 b] 88)).cell? ⟨w.heap.size,1,none⟩=some (.int .i64 b):=qaa (qac _ _) 1;have j:Hid (Below w.heap.size w (w.alloc (.cells #[.int .i64 a,.int .i64 b] 88))):=f;have D:=g.1;have E:=g.2;have s:q≠p:=λe=>h e.symm;clear c d n o f g;generalize w.alloc (.cells #[.int .i64 a,.int .i64 b] 88)=V at *
 go_region
 have H:((V.setCell ⟨p,0,none⟩ (.int .i64 a)).setCell ⟨q,0,none⟩ (.int .i64 b)).drew.cell? ⟨p,0,none⟩=some (.int .i64 a):=by
  show((V.setCell ⟨p,0,none⟩ (.int .i64 a)).setCell ⟨q,0,none⟩ (.int .i64 b)).cell? ⟨p,0,none⟩=_;rw[World.cell?_of_block (w:=V.setCell ⟨p,0,none⟩ (.int .i64 a)) (heap_setCell_other _ _ _ _ (by simpa using h))];exact World.cell?_setCell_same' _ _ _ (by rw[l];rfl)
 have I:((V.setCell ⟨p,0,none⟩ (.int .i64 a)).setCell ⟨q,0,none⟩ (.int .i64 b)).drew.cell? ⟨q,0,none⟩=some (.int .i64 b):=by
  show((V.setCell ⟨p,0,none⟩ (.int .i64 a)).setCell ⟨q,0,none⟩ (.int .i64 b)).cell? ⟨q,0,none⟩=_;refine World.cell?_setCell_same' _ _ _ ?_;rw[World.cell?_of_block (w:=V) (heap_setCell_other _ _ _ _ (by simpa using s)),m];rfl
 have J:∀B,B<=p->B<=q->B<=w.heap.size->Below B w ((V.setCell ⟨p,0,none⟩ (.int .i64 a)).setCell ⟨q,0,none⟩ (.int .i64 b)).drew:=λB r M C =>
  (j.out.mono C).trans ⟨rfl,rfl,rfl,by simp[World.setCell,World.drew],λk N=>(heap_setCell_other _ _ _ _ (by simp;omega)).trans (heap_setCell_other V _ _ _ (by simp;omega))⟩
 generalize((V.setCell ⟨p,0,none⟩ (.int .i64 a)).setCell ⟨q,0,none⟩ (.int .i64 b)).drew=X at *;clear l m t u z A j F D E s h;exact⟨rfl,_,rfl,_,results_none rfl _ _ _,rfl,rfl,H,I,J⟩
def qya{α:Type}(val:α->Value)(r:Except (Int×Int) α):Value:=match r with
 |.ok z=>.tuple #[val z,.int .i64 0,.int .i64 0]
 |.error (en,pl)=>.tuple #[.int .i64 0,.int .i64 en,.int .i64 pl]
theorem qm2{α:Type}(val:α->Value)(W:World)(f:Nat)(u:Array Value)(r:Except (Int×Int) α)(G:f=14)(s:Calls prog f u ((W.alloc (.cells #[.int .i64 0] 29)).alloc (.cells #[.int .i64 0] 3)) (qnJ ((W.alloc (.cells #[.int .i64 0] 29)).alloc (.cells #[.int .i64 0] 3)) val r)):Calls prog 13 #[.func (.func f) #[] u] W λe B=>e=.returned (qya val r)/\Below W.heap.size W B:=by
 subst G;have N:∀(v:Fn) (first t:Array Value) (w:World),(Instr.makeFunc v first t).run prog w=.ok (.func v first t) w:=λ_ _ _ _=>rfl;have p:Below W.heap.size W ((W.alloc (.cells #[.int .i64 0] 29)).alloc (.cells #[.int .i64 0] 3)):=(bwA).alloc (by simp) _;have x:=Boxed.new W 29 (.int .i64 0);have o:=Boxed.new (W.alloc (.cells #[.int .i64 0] 29)) 3 (.int .i64 0);have y:=x.alloc (.cells #[.int .i64 0] 3);rw[World.size_alloc]at o;have d:Hid (Below W.heap.size W ((W.alloc (.cells #[.int .i64 0] 29)).alloc (.cells #[.int .i64 0] 3))):=p;have g:Hid (Boxed ((W.alloc (.cells #[.int .i64 0] 29)).alloc (.cells #[.int .i64 0] 3)) W.heap.size 29 (.int .i64 0)):=y;have h:Hid (Boxed ((W.alloc (.cells #[.int .i64 0] 29)).alloc (.cells #[.int .i64 0] 3)) (W.heap.size+1) 3 (.int .i64 0)):=o;clear p x o y
 go_enter_defers func13,ntmps13
 go_wp2_with fail
 refine s.mono ?_;clear s;rcases r with⟨D,H⟩|z
 ·rintro e a ⟨b,hF⟩;obtain rfl:=hF;have q1:Boxed a W.heap.size 29 (.int .i64 0):=(b.block _ g.out.lt).trans g.out;have c:Boxed a (W.heap.size+1) 3 (.int .i64 0):=(b.block _ h.out.lt).trans h.out;have i:Below W.heap.size W a:=d.out.trans (b.mono d.out.size);have l:Hid (Boxed a W.heap.size 29 (.int .i64 0)):=q1;have m:Hid (Boxed a (W.heap.size+1) 3 (.int .i64 0)):=c;have j:Hid (Below W.heap.size W a):=i;clear q1 c i b d g h;go_wp2;refine leaves_cons (f:=31) (args:=#[.pointer (some ⟨W.heap.size,0,none⟩),.pointer (some ⟨W.heap.size+1,0,none⟩)]) (by simp) (by simp[go_sem]) ?_;refine(qmr W.heap.size (W.heap.size+1) D H 0 0 a l.out.cell m.out.cell l.out.frozen m.out.frozen (by omega)).mono ?_;rintro e K A ⟨rfl,rfl,q,c2,C⟩;have n:Below W.heap.size W A:=j.out.trans (C _ (Nat.le_refl _) (by omega) j.out.size);simp[Leaves,settle,results,results13,go_sem,q,c2,qya,n]
 rintro e a ⟨b,rfl⟩;have q1:Boxed a W.heap.size 29 (.int .i64 0):=(b.block _ g.out.lt).trans g.out;have c:Boxed a (W.heap.size+1) 3 (.int .i64 0):=(b.block _ h.out.lt).trans h.out;have i:Below W.heap.size W a:=d.out.trans (b.mono d.out.size);have l:Hid (Boxed a W.heap.size 29 (.int .i64 0)):=q1;have m:Hid (Boxed a (W.heap.size+1) 3 (.int .i64 0)):=c;have j:Hid (Below W.heap.size W a):=i;have q:=q1.cell;have f1:=q1.frozen;have c2:=c.cell;have L:=c.frozen;clear q1 c i b d g h;go_wp2;have E:=grownBy_setCell' a W.heap.size (.int .i64 0);have F:=grownBy_setCell' (a.setCell ⟨W.heap.size,0,none⟩ (.int .i64 0)) (W.heap.size+1) (.int .i64 0);have I:=((l.out.set (.int .i64 0)).kept F (by intro e;injection e with e;omega)).cell;have J:=(Boxed.set (.int .i64 0) (m.out.kept E (by intro e;injection e with e;omega))).cell;have n:Below W.heap.size W ((a.setCell ⟨W.heap.size,0,none⟩ (.int .i64 0)).setCell ⟨W.heap.size+1,0,none⟩ (.int .i64 0)) :=
  j.out.trans ⟨rfl,rfl,rfl,by simp[World.setCell],λk M=>(heap_setCell_other _ _ _ _ (by simp;omega)).trans (heap_setCell_other a _ _ _ (by simp;omega))⟩
 generalize(a.setCell ⟨W.heap.size,0,none⟩ (.int .i64 0)).setCell ⟨W.heap.size+1,0,none⟩ (.int .i64 0)=V at *;refine leaves_cons (f:=31) (args:=#[.pointer (some ⟨W.heap.size,0,none⟩),.pointer (some ⟨W.heap.size+1,0,none⟩)]) (by simp) (by simp[go_sem]) ?_;refine(qmj ⟨W.heap.size,0,none⟩ ⟨W.heap.size+1,0,none⟩ V).mono ?_;rintro e K A ⟨rfl,rfl,rfl⟩;simp[Leaves,settle,results,results13,go_sem,I,J,qya,n]

theorem qnO(k:Nat)(V:World)(b:Int)(t:TypeId)(y:Value)(d:DataW Unit)(f:List UInt8)(p:qai k V (λj=>j<V.heap.size) (.iface t y) d)(r:¬(b=1/\qdu k d=true))(l:∀U,Below V.heap.size V U->Calls prog 69 #[.int .i64 b,.iface t y] U λe c=>∃a,e=.returned a/\Own c U.heap.size a f/\Below U.heap.size U c):Calls prog 51 #[.int .i64 b,.iface t y] V λe c=>∃a,e=.returned (.tuple #[a,.int .i64 0])/\Own c V.heap.size a f/\Below V.heap.size V c:=by
 cases m:(b==1)
 ·exact qpw V b t y f m (l V bwR)
 obtain rfl:b=1:=by simpa using m
 have q:qdu k d=false:=by cases s:qdu k d with|false=>rfl|true=>exact absurd ⟨rfl,s⟩ r
 have i:=qjc k V (λj=>j<V.heap.size) (.iface t y) d (λ_ h=>h) p;rw[q]at i;refine qou V t y f i (λU g=>(l U g).mono ?_);rintro e u ⟨a,rfl,n,o⟩;exact⟨a,rfl,Own.mono n g.size,o.mono g.size⟩
theorem qgY(k:Nat)(V:World)(t:TypeId)(y:Value)(a:DataW Unit)(d:qai k V (λj=>j<V.heap.size) (.iface t y) a)(f:qdu k a=true):Calls prog 51 #[.int .i64 1,.iface t y] V λe c=>e=.returned (.tuple #[.slice none 0 0,.int .i64 13])/\Below V.heap.size V c:=by
 have b:=qjc k V (λj=>j<V.heap.size) (.iface t y) a (λ_ h=>h) d;rw[f]at b;exact qow V t y b

end
section
open Go.RowKit Go.Lib
def qci{α:Type}(T:α->List UInt8):List α->List UInt8
 |[]=>[]
 |d::ds=>T d++ds.flatMap λe=>44::T e
theorem qiw{α:Type}(T:α->List UInt8)(l:List α)(d:α)(b:l[0]?=some d):qci T (l.take 1)=T d:=by
 cases l with
 |nil=>simp at b
 |cons a l=>simp at b;subst b;simp[qci]
theorem qjN{α:Type}(T:α->List UInt8)(l:List α)(k:Nat)(c:0<k)(d:α)(b:l[k]?=some d):qci T (l.take (k+1))=(qci T (l.take k)++[44])++T d:=by
 cases l with
 |nil=>simp at b
 |cons a l =>
  cases k with
  |zero=>omega
  |succ k =>
   rw[List.getElem?_cons_succ]at b;rw[List.take_succ_cons,List.take_succ_cons];unfold qci;rw[List.take_add_one,b];simp
theorem qfY{α:Type}(T:α->List UInt8)(l:List α)(k:Nat):(qci T (l.take k)).length<=(qci T l).length:=by
 cases l with
 |nil=>simp
 |cons a l =>
  cases k with
  |zero=>simp[qci]
  |succ k =>
   rw[List.take_succ_cons];unfold qci;rw[List.length_append,List.length_append];have b:(l.flatMap λe=>44::T e).length=((l.take k).flatMap λe=>44::T e).length+((l.drop k).flatMap λe=>44::T e).length:=by
    rw[<-List.length_append,<-List.flatMap_append,List.take_append_drop]
   omega
def qe2(W:World)(base:Nat)(x:Value)(ys:List UInt8):Prop:=∀(V:World) (v:Value) (bs:List UInt8),Below base W V->Own V base v bs->bs.length+ys.length<=999999999->Calls prog 85 #[v,x] V λe W'=>∃v',e=.returned v'/\Own W' base v' (bs++ys)/\Below base V W'

theorem qtE(T:DataW Unit->List UInt8)(W:World)(f:Nat)(v:Value)(q:Option Addr)(u:Nat)(F:Nat->Prop)(hF:∀k,F k->k<f)(bs:List UInt8)(b:List (DataW Unit))(E:List Value)(hl:bs.length+(qci T b).length+2<=999999999)(hn:b.length<=999999999)(o:qb7 W 82 1 F (.slice q b.length u) b.length E)(am:∀(i:Nat) (x:Value) (d:DataW Unit),E[i]?=some x->b[i]?=some d->qe2 W f x (T d))(al:∀(i:Nat) (x:Value),E[i]?=some x->∃ar y,x=.iface ar y)(h:Own W f v bs):Calls prog 105 #[v,.slice q b.length u] W λe W'=>∃K,e=.returned K/\Own W' f K (((bs++[91])++qci T b)++[93])/\Below f W W':=by
 obtain⟨n,X,Z,a,c⟩:=info_parts Tryz.infoU8;obtain⟨av,a2,aw,rfl⟩:=h.2.2;have C:=qab h;have HU:=qab o;have HI:=qab am;have HF:=qab al;go_enter func105,ntmps105
 go_wp2_with(first
  |(at_builtin;refine wpList_append_own _ rfl _ _ 35 rfl f 5 n (.int .u8 0) 1 1 underlying35 X Z a c rfl (by decide) _ _ _ rfl (C.out.1.alloc _) ⟨W.heap.size,0,none⟩ 1 1 [.int .u8 91] rfl rfl (qag _ _ _) (λac o=>by simp at o;subst o;rfl) (by unfold maxLen;omega) (by omega) (by simp;have:=C.out.2.1;omega) ?_;intro K w2 r I aa;obtain⟨ai,ah,rfl⟩:=ownsRow_succ r;have z:=qab (qa3 ((Below.refl _ _).alloc C.out.2.1 _) (C.out.1.alloc _) I (by simp;have:=C.out.2.1;omega));have af:Hid (Own w2 f (.slice (some ⟨ai,0,none⟩) _ ah) (bs++[91])):=⟨qbR r rfl,Nat.le_trans C.out.2.1 z.out.size,_,_,_,rfl⟩))
 go_loopg[0,12] b.length (λg y au wr=>∃(k:Nat) (O:Option Addr) (t P:Nat),y=.slice O t P/\au=.int .i64 k/\Hid (k+g=b.length)/\Hid (Own wr f (.slice O t P) ((bs++[91])++qci T (b.take k)))/\Hid (Below f W wr))
 case atStart=>exact⟨0,_,_,_,rfl,rfl,by show _=_;omega,by simpa[qci]using af,z⟩
 case round =>
  obtain⟨k,O,t,P,rfl,rfl,J,l,A⟩:=hrel;have ap:((bs++[91])++qci T (b.take k)).length<=999999998:=by
   have:=qfY T b k;simp only[List.length_append,List.length_cons,List.length_nil];omega
  obtain⟨m,B⟩:∃m,Hid ((bs++[91])++qci T (b.take k)=m):=⟨_,show _=_ from rfl⟩
  rw[B.out]at l ap
  cases gk with
  |zero =>
   have aq:¬(k:Int)<b.length:=by have:=J.out;omega
   have s:Hid (b.take k=b):=by show _=_;exact List.take_of_length_le (by have:=J.out;omega)
   go_wp2_with(first
    |(at_builtin;refine wpList_append_own _ rfl _ _ 35 rfl f 5 n (.int .u8 0) 1 1 underlying35 X Z a c rfl (by decide) _ _ _ rfl (l.out.1.alloc _) ⟨wr.heap.size,0,none⟩ 1 1 [.int .u8 93] rfl rfl (qag _ _ _) (λac o=>by simp at o;subst o;rfl) (by unfold maxLen;omega) (by omega) (by simp;have:=l.out.2.1;omega) ?_;intro K D r I aa;obtain⟨S,R,rfl⟩:=ownsRow_succ r;have p:=qab (qa3 ((Below.refl _ _).alloc l.out.2.1 _) (l.out.1.alloc _) I (by simp;have:=l.out.2.1;omega));have H:Hid (Own D f (.slice (some ⟨S,0,none⟩) _ R) (m++[93])):=⟨qbR r rfl,Nat.le_trans l.out.2.1 p.out.size,_,_,_,rfl⟩))
   go_ret;have he:m++[93]=bs++91::(qci T b++[93]):=by
    rw[<-B.out,s.out];simp
   have w:=H.out;rw[he]at w;exact⟨_,rfl,w,A.out.trans p.out⟩
  |succ g =>
   have ao:k<b.length:=by have:=J.out;omega
   have aq:(k:Int)<b.length:=by omega
   have N:=HU.out.same (V':=wr) (G:=F) (λ_ h=>h) (λab hj=>A.out.block ab (hF ab hj));obtain⟨q0,rfl⟩:∃q0,q=some ⟨q0,0,none⟩:=by
    rcases N.2 with⟨_,e⟩|⟨g,ax,m,e,_⟩
    ·omega
    injection e with e1 e2 e3;exact⟨g,e1⟩
   have a1:E.length=b.length:=by have:=N.1;omega
   obtain⟨x,Y⟩:∃x,E[k]?=some x:=⟨E[k],List.getElem?_eq_getElem (by omega)⟩
   obtain⟨d,V⟩:∃d,b[k]?=some d:=⟨b[k],List.getElem?_eq_getElem ao⟩
   obtain⟨tx,yx,rfl⟩:=HF.out k x Y;have hc:wr.cell? ⟨q0,k,none⟩=some (.iface tx yx):=by
    have:=N.cell k _ Y;have e:(⟨q0,0,none⟩:Addr).add k=⟨q0,k,none⟩:=by by_cases h:k=0<;>simp[Addr.add,h]
    rwa[e]at this
   have U:=qfY T b (k+1);have ae:=HI.out k _ d Y V;have j:=qab ae;have ay:(wr.alloc (.cells #[.int .u8 44] 5)).cell? ⟨q0,k,none⟩=some (.iface tx yx):=(World.cell?_alloc_some wr _ _ (by rw[hc];rfl)).trans hc;by_cases an:k=0
   ·subst an;have s:=qab (qiw T b d V);have M:Hid (m.length+(T d).length<=999999999):=by
     show _<=_;rw[<-B.out];rw[s.out]at U;simp only[List.length_append,List.length_cons,List.length_nil,List.take_zero,qci];omega
    have Q:=j.out wr _ _ A.out l.out M.out;have HK:Hid (0+(g+1)=b.length):=J
    go_wp2_with(first
     |(go_at_call 85;refine Q.mono ?_;rintro e D ⟨v4,rfl,w,aj⟩;obtain⟨o4,b4,a4,n4,c4,rfl⟩:=w;have H:Hid (Own D f (.slice a4 n4 c4) (m++T d)):=⟨o4,b4,_,_,_,rfl⟩;have p:=qab (A.out.trans aj)))
    go_roundg g
    case measure=>omega
    case rel=>exact⟨1,a4,n4,c4,rfl,by go_num,by show _=_;have:=HK.out;omega,by show Own _ _ _ _;rw[s.out];have w:=H.out;rw[<-B.out]at w;simpa[qci]using w,p⟩
   have az:decide ((0:Int)<(k:Int))=true:=by simp;omega
   have a0:(0:Int)<(k:Int):=by omega
   have s:=qab (qjN T b k (by omega) d V);have M:Hid ((m++[44]).length+(T d).length<=999999999):=by
    show _<=_;rw[<-B.out];rw[s.out]at U;simp only[List.length_append,List.length_cons,List.length_nil]at U ⊢;omega
   go_wp2_with(first
    |(at_builtin;refine wpList_append_own _ rfl _ _ 35 rfl f 5 n (.int .u8 0) 1 1 underlying35 X Z a c rfl (by decide) _ _ _ rfl (l.out.1.alloc _) ⟨wr.heap.size,0,none⟩ 1 1 [.int .u8 44] rfl rfl (qag _ _ _) (λac o=>by simp at o;subst o;rfl) (by unfold maxLen;omega) (by omega) (by simp;have:=l.out.2.1;omega) ?_;intro K D r I aa;obtain⟨S,R,rfl⟩:=ownsRow_succ r;have p:=qab (qa3 ((Below.refl _ _).alloc l.out.2.1 _) (l.out.1.alloc _) I (by simp;have:=l.out.2.1;omega));have H:Hid (Own D f (.slice (some ⟨S,0,none⟩) _ R) (m++[44])):=⟨qbR r rfl,Nat.le_trans l.out.2.1 p.out.size,_,_,_,rfl⟩;have Q:=j.out D _ _ (A.out.trans p.out) H.out M.out)
    |(go_at_call 85;refine Q.mono ?_;rintro e w5 ⟨v5,rfl,L,ak⟩;obtain⟨o5,b5,a5,n5,c5,rfl⟩:=L;have ag:Hid (Own w5 f (.slice a5 n5 c5) ((m++[44])++T d)):=⟨o5,b5,_,_,_,rfl⟩;have ad:=qab ((A.out.trans p.out).trans ak)))
   go_roundg g
   case measure=>omega
   case rel=>exact⟨k+1,a5,n5,c5,rfl,by go_num,by show _=_;have:=J.out;omega,by show Own _ _ _ _;rw[s.out];have L:=ag.out;rw[<-B.out]at L;simpa only[List.append_assoc]using L,ad⟩

end
end Go.Proofs.YtpifimohecagoaaGreatDoor
