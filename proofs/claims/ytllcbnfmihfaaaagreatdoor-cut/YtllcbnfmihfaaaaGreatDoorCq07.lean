import Derived.Lib.ValidLaws
import Derived.DeepKeys5
import Derived.Maps.Keyed
import Derived.Test.YtllcbnfmihfaaaaGreatDoorCq00
set_option maxRecDepth 100000
set_option maxHeartbeats 8000000
namespace Go.Proofs.YtllcbnfmihfaaaaGreatDoor
open Go.Proofs.Tryz
variable {P:Program}{ops:Array Oper}{Q:Exit→Act→World→Prop}{md:Region.Mode}{fuel n st x:Nat}{listed:Array Bool}{a:Act}{w w':World}{o oi:Oper}{S:World→Prop}{X Y:Nat→Nat}
section
open Go.RowKit
def qd4 (c:Int):Int×Int×Int :=
 if c<128 then (0,0,1) else if 194≤c∧c≤223 then (128,191,2) else if c=224 then (160,191,3) else if c=237 then (128,159,3)
 else if 225≤c∧c≤239 then (128,191,3) else if c=240 then (144,191,4) else if 241≤c∧c≤243 then (128,191,4) else if c=244 then (128,143,4) else (0,0,0)
theorem qgb (c:Int)(w:World):Calls prog 112 #[.int .u8 c] w fun e w'=>e=.returned (.tuple #[.int .u8 (qd4 c).1,.int .u8 (qd4 c).2.1,.int .i64 (qd4 c).2.2])∧w'=w:=by
 go_enter func112,ntmps112;go_wp2
 all_goals go_ret3
 all_goals refine⟨?_,rfl⟩
 all_goals simp only[beq_iff_eq,beq_eq_false_iff_ne] at *
 all_goals unfold qd4
 all_goals (repeat (first|rw[if_pos (by omega)]|rw[if_neg (by omega)]))
 all_goals rfl
def qeu (s:ByteArray):Int:=if s.toList==[100,114,111,112] then 1 else if s.toList==[109,97,115,107] then 2 else if s.toList==[116,97,103] then 3 else 0
theorem qe7 (s:ByteArray)(w:World):Calls prog 179 #[.string s] w fun e w'=>e=.returned (.int .i64 (qeu s))∧w'=w:=by
 go_enter func179,ntmps179;go_wp2
 all_goals go_ret
 all_goals refine⟨?_,rfl⟩
 all_goals unfold qeu
 all_goals (repeat (first|rw[if_pos (by assumption)]|rw[if_neg (by rw[Bool.not_eq_true];assumption)]))
 all_goals rfl
theorem qcw (s:ByteArray)(w:World):Calls prog 187 #[.string s] w fun e w'=>e=.returned (.tuple #[.int .i64 (qeu s),.bool (qeu s != 0)])∧w'=w:=by
 go_enter func187,ntmps187;go_wp2
 all_goals go_ret2
 all_goals refine⟨?_,rfl⟩
 all_goals unfold qeu
 all_goals (repeat (first|rw[if_pos (by assumption)]|rw[if_neg (by rw[Bool.not_eq_true];assumption)]))
 all_goals rfl
def qoC (l:List UInt8):Int:=match l with
 |[b]=>if 48≤b.toNat∧b.toNat≤57 then (b.toNat:Int)-48 else 0
 |_=>0
def qh5 (l:List UInt8)(n:Int):Bool:=match l with
 |[b]=>decide (48≤b.toNat∧b.toNat≤57)&&decide ((b.toNat:Int)-48<n)
 |_=>false
theorem qmh {s:ByteArray}(h:s.size=1):s.data.toList=[s[0]]:=by
 obtain⟨⟨l⟩⟩:=s
 match l,h with
 |[b],_=>rfl
theorem qpN {l:List UInt8}(n:Int)(h:l.length≠1):qoC l=0∧qh5 l n=false:=by
 match l,h with
 |[],_=>exact⟨rfl,rfl⟩
 |_::_::_,_=>exact⟨rfl,rfl⟩
theorem qcK (s:ByteArray)(n:Int)(w:World):Calls prog 186 #[.string s,.int .i64 n] w fun e w'=>e=.returned (.tuple #[.int .i64 (qoC s.data.toList),.bool (qh5 s.data.toList n)])∧w'=w:=by
 by_cases h1:s.size=1
 ·have h0:(s.size:Int)=1:=by omega
  have HL:=qaa (qmh h1);by_cases h2:(s[0].toNat:Int)<48
  ·have HI:Hid (qoC [s[0]]=0∧qh5 [s[0]] n=false):=⟨if_neg (by omega),by simp only[qh5];rw[decide_eq_false (by omega)];rfl⟩
   go_enter func186,ntmps186;go_wp2
   all_goals go_ret2
   all_goals exact⟨by rw[HL.out,HI.out.1,HI.out.2];rfl,rfl⟩
  have h2':(48:Int)≤s[0].toNat:=by omega
  by_cases h3:(57:Int)<s[0].toNat
  ·have HI:Hid (qoC [s[0]]=0∧qh5 [s[0]] n=false):=⟨if_neg (by omega),by simp only[qh5];rw[decide_eq_false (by omega)];rfl⟩
   go_enter func186,ntmps186;go_wp2
   all_goals go_ret2
   all_goals exact⟨by rw[HL.out,HI.out.1,HI.out.2];rfl,rfl⟩
  have h3':(s[0].toNat:Int)≤57:=by omega
  have HI:Hid (qoC [s[0]]=(s[0].toNat:Int)-48∧qh5 [s[0]] n=decide ((s[0].toNat:Int)-48<n)):=⟨if_pos (by omega),by simp only[qh5];rw[decide_eq_true (by omega)];rfl⟩
  go_enter func186,ntmps186;go_wp2
  all_goals go_ret2
  all_goals exact⟨by rw[HL.out,HI.out.1,HI.out.2];rfl,rfl⟩
 have:(s.size:Int)≠1:=by omega
 have HI:=qaa (qpN n (by rw[Array.length_toList];exact h1));go_enter func186,ntmps186;go_wp2
 all_goals go_ret2
 all_goals exact⟨by rw[HI.out.1,HI.out.2];rfl,rfl⟩
def plA (P:Nat→Nat):Array Value:=((List.range 16).map fun i=>Value.int .u16 (P i)).toArray
theorem qbR (P:Nat→Nat):(plA P).size=16:=by simp[plA]
theorem qcR (P:Nat→Nat)(r:Nat)(hr:r<16):(plA P)[r]? = some (.int .u16 (P r)):=by simp[plA,hr]
theorem qwH (a:Nat):BitVec.ofInt 16 (a:Int)=BitVec.ofNat 16 a:=BitVec.ofInt_natCast ..
theorem qqL (a b:Nat)(ha:a<65536)(hb:b<65536):bits .and .u16 (a:Int) (b:Int)=((a &&& b:Nat):Int):=by
 have h:(BitVec.ofNat 16 a &&& BitVec.ofNat 16 b).toNat=a &&& b:=by
  rw[BitVec.toNat_and,BitVec.toNat_ofNat,BitVec.toNat_ofNat,Nat.mod_eq_of_lt (by omega),Nat.mod_eq_of_lt (by omega)]
 show IntKind.u16.wrap ((BitVec.ofInt 16 (a:Int) &&& BitVec.ofInt 16 (b:Int)).toNat:Int)=_;have hl:a &&& b<2^16:=Nat.and_lt_two_pow _ (by omega);rw[qwH,qwH,h];unfold IntKind.wrap;simp[IntKind.bits,IntKind.signed];omega
theorem qxk (a b:Nat)(ha:a<65536)(hb:b<65536):bits .or .u16 (a:Int) (b:Int)=((a ||| b:Nat):Int):=by
 have h:(BitVec.ofNat 16 a ||| BitVec.ofNat 16 b).toNat=a ||| b:=by
  rw[BitVec.toNat_or,BitVec.toNat_ofNat,BitVec.toNat_ofNat,Nat.mod_eq_of_lt (by omega),Nat.mod_eq_of_lt (by omega)]
 show IntKind.u16.wrap ((BitVec.ofInt 16 (a:Int) ||| BitVec.ofInt 16 (b:Int)).toNat:Int)=_;have hl:a ||| b<2^16:=Nat.or_lt_two_pow (by omega) (by omega);rw[qwH,qwH,h];unfold IntKind.wrap;simp[IntKind.bits,IntKind.signed];omega
theorem w16 (x:Nat)(h:x<65536):IntKind.u16.wrap (x:Int)=(x:Int):=by
 unfold IntKind.wrap;simp[IntKind.bits,IntKind.signed];omega
theorem qwQ (x k:Nat)(hx:x<65536):(bits .and .u16 ((x:Int) / 2^k) 1==1)=x.testBit k:=by
 have e:((x:Int) / 2^k)=((x / 2^k:Nat):Int):=by simp
 have hl:x / 2^k<65536:=Nat.lt_of_le_of_lt (Nat.div_le_self _ _) hx;have:=qqL (x / 2^k) 1 hl (by omega);rw[e,show(1:Int)=((1:Nat):Int) from rfl,this,Nat.testBit,Nat.shiftRight_eq_div_pow,Nat.and_comm 1];cases h:(x / 2^k &&& 1 != 0)
 ·simp at h;simp[h]
 have h2:x / 2^k &&& 1=1:=by
  rw[Nat.and_one_is_mod] at h ⊢;simp at h;omega
 rw[h2];rfl
theorem qxh (W:World)(P:Nat→Nat)(r k:Nat)(hr:r<16)(hk:k<16)(hP:P r<65536):Calls prog 188 #[.agg (plA P),.int .i64 r,.int .i64 k] W fun e W'=>e=.returned (.bool ((P r).testBit k))∧Below W.heap.size W W':=by
 have hat:=qcR P r hr;have hb:=qwQ (P r) k hP;go_enter func188,ntmps188;go_wp2;go_ret;exact⟨rfl,bwA⟩
theorem qik (P:Nat→Nat)(r:Nat)(x:Nat):(plA P).setIfInBounds r (.int .u16 x)=plA (fun i=>if i=r then x else P i):=by
 apply Array.ext
 ·simp[plA]
 intro i h1 h2;simp[plA] at h1;rw[Array.getElem_setIfInBounds (by simp[plA];exact h1)];by_cases h:r=i
 ·subst h;simp[plA]
 have h':¬i=r:=fun e=>h e.symm;simp[plA,h,h']
theorem rdA (i:Nat)(hi:ops[i]? = some o)(hr:Region.ready md ops listed=[i])(h:(∀K':Act→World→Prop,(∀a w,wpAny P md ops Q fuel (listed.setIfInBounds i true) a w→K' a w)→if Region.wanted o (yielded ops a.tmps)=true then Oper.wp P o a w K' Q else K' (a.put o.dst undef) w)):wpAny P md ops Q (fuel+1) listed a w:=wpAny_ready hr (by simp) (AllReady.cons hi h AllReady.nil)
theorem tkA (i dst:Nat)(v:Value)(hi:ops[i]? = some oi)(hk:(Region.noSelect ops&&Region.free md ops listed i&&(Region.ready md ops listed).contains i&&oi.dst==some dst&&Region.wanted oi (yielded ops a.tmps))=true)(hQ:∀c a w,Q (.panic c) (a.put (some dst) v) w→Q (.panic c) a w)(hy:∀Z,(execOp a.eval oi).run P Z=.ok (.value v) Z)(h:wpAny P md ops Q fuel (listed.setIfInBounds i true) (a.put (some dst) v) w):wpAny P md ops Q (fuel+1) listed a w:=by
 simp only[Bool.and_eq_true] at hk;have hd:oi.dst=some dst:=by simpa using hk.1.2
 rw[←hd] at hQ h;exact wpAny_take hi hk.1.1.1.1 hk.1.1.1.2 hk.1.1.2 hQ (.inl ⟨hk.2,hy⟩) h
theorem qdf (W:World)(g o:Nat)(x r k:Nat)(hr:r<16)(hk:k<16)(hP:x<65536)(hg:W.cell? ⟨g,o+r,none⟩=some (.int .u16 x))(hf:W.frozen? ⟨g,o+r,none⟩=false):Calls prog 137 #[.pointer (some ⟨g,o,none⟩),.int .i64 r,.int .i64 k] W fun e W'=>e=.returned (.tuple #[])∧W'=W.drew.setCell ⟨g,o+r,none⟩ (.int .u16 ((x ||| 2^k:Nat):Int)):=by
 have hri:(r:Int)<16:=by omega
 have h2k:(2^k:Nat)<65536:=by
  have:(2^k:Nat)≤2^15:=Nat.pow_le_pow_right (by decide) (by omega);omega
 have hw:IntKind.u16.wrap (2^k)=2^k:=by
  have:=w16 (2^k) h2k;simpa using this
 have ho:bits .or .u16 (x:Int) (2^k)=((x ||| 2^k:Nat):Int):=by
  have:=qxk x (2^k) hP h2k;rwa [show(((2^k:Nat):Int))=2^k by simp] at this
 go_enter func137,ntmps137;go_wp2;refine wp_region_any (by kernel_rfl) ?_;change wpAny _ _ _ _ _ _ _ (World.drew W);refine tkA 0 6 (.pointer (some ⟨g,o,none⟩)) rfl (by kernel_rfl) (fun _ _ _ h=>h) (fun _=>by kernel_rfl) ?_;refine tkA 1 7 (.int .i64 r) rfl (by kernel_rfl) (fun _ _ _ h=>h) (fun _=>by kernel_rfl) ?_;refine tkA 2 8 (.pointer (some ⟨g,o,none⟩)) rfl (by kernel_rfl) (fun _ _ _ h=>h) (fun _=>by kernel_rfl) ?_;refine tkA 3 9 (.pointer (some ⟨g,o+r,none⟩)) rfl (by kernel_rfl) (fun _ _ _ h=>h) (fun _ => ?y3) ?_
 case y3=>go_simp
 refine tkA 5 11 (.int .i64 k) rfl (by kernel_rfl) (fun _ _ _ h=>h) (fun _=>by kernel_rfl) ?_;refine tkA 6 12 (.int .u16 ((2^k:Nat):Int)) rfl (by kernel_rfl) (fun _ _ _ h=>h) (fun _ => ?y6) ?_
 case y6=>go_simp
 refine tkA 8 14 (.pointer (some ⟨g,o,none⟩)) rfl (by kernel_rfl) (fun _ _ _ h=>h) (fun _=>by kernel_rfl) ?_;refine rdA 4 rfl (by kernel_rfl) (fun K hK => ?_);go_simp;refine hK _ _ ?_;refine tkA 7 13 (.int .u16 ((x ||| 2^k:Nat):Int)) rfl (by kernel_rfl) (fun _ _ _ h=>h) (fun _ => ?y7) ?_
 case y7=>go_simp
 refine tkA 9 15 (.pointer (some ⟨g,o+r,none⟩)) rfl (by kernel_rfl) (fun _ _ _ h=>h) (fun _ => ?y9) ?_
 case y9=>go_simp
 refine rdA 10 rfl (by kernel_rfl) (fun K hK => ?_);go_simp;refine hK _ _ ?_;refine wpAny_done (by kernel_rfl) ?_ _;go_simp;go_wp2;go_end0;exact⟨rfl,rfl⟩
structure qks (w:World)(a:Option Addr)(ss:List (Nat×List UInt8)):Prop where
 at_:∀i (h:i<ss.length),∃b off,a=some ⟨b,off,none⟩∧b<w.heap.size∧w.cell? ⟨b,off+i*2,none⟩=some (.int .i64 ss[i].1)∧w.cell? ⟨b,off+i*2+1,none⟩=some (.string ⟨ss[i].2.toArray⟩)
theorem qks.below {a:Option Addr}{ss:List (Nat×List UInt8)}(h:qks w a ss)(hb:Below w.heap.size w w'):qks w' a ss :=
 ⟨fun i hi=>by
  obtain⟨b,off,ha,hlt,h1,h2⟩:=h.at_ i hi;exact⟨b,off,ha,Nat.lt_of_lt_of_le hlt hb.size,(hb.cell (p:=⟨b,_,none⟩) hlt).trans h1,(hb.cell (p:=⟨b,_,none⟩) hlt).trans h2⟩⟩
structure qdW (w:World)(a:Option Addr)(rs:List (List (Nat×List UInt8)×Int×Int)):Prop where
 at_:∀i (h:i<rs.length),∃b off pa pc,a=some ⟨b,off,none⟩∧b<w.heap.size∧w.cell? ⟨b,off+i*3,none⟩=some (.slice pa rs[i].1.length pc)∧w.cell? ⟨b,off+i*3+1,none⟩=some (.int .i64 rs[i].2.1)∧w.cell? ⟨b,off+i*3+2,none⟩=some (.int .i64 rs[i].2.2)∧qks w pa rs[i].1
theorem qdW.below {a:Option Addr}{rs:List (List (Nat×List UInt8)×Int×Int)}(h:qdW w a rs)(hb:Below w.heap.size w w'):qdW w' a rs :=
 ⟨fun i hi=>by
  obtain⟨b,off,pa,pc,ha,hlt,h1,h2,h3,h4⟩:=h.at_ i hi;exact⟨b,off,pa,pc,ha,Nat.lt_of_lt_of_le hlt hb.size,(hb.cell (p:=⟨b,_,none⟩) hlt).trans h1,(hb.cell (p:=⟨b,_,none⟩) hlt).trans h2,(hb.cell (p:=⟨b,_,none⟩) hlt).trans h3,h4.below hb⟩⟩
def jdg (dflt:Int):List (List (Nat×List UInt8)×Int×Int)→(Nat→Nat)→Nat→Int×Int
 |[],_,_=>(dflt,1)
 |x::rs,P,r=>if (P r).testBit x.1.length then x.2 else jdg dflt rs P (r+1)
theorem qbh (P:Nat→Nat):(prog.info? 164).map (·.size)=some (plA P).size:=by rw[qbR];kernel_rfl
structure qva (W:World)(P:Nat→Nat)(V:World):Prop where
 box:V.heap[W.heap.size]? = some (.cells (plA P) 164)
 below:Below W.heap.size W V
theorem qva.next {W V V':World}{P:Nat→Nat}(h:qva W P V)(hb:Below V.heap.size V V'):qva W P V' :=
 ⟨(hb.block _ (ltA h.box)).trans h.box,h.below.trans (hb.mono h.below.size)⟩
theorem quy (W:World)(P:Nat→Nat):qva W P (W.alloc (.cells (plA P) 164)):=⟨qac _ _,bwA⟩
theorem qoj (W:World)(A:Nat)(ra:Option Addr)(rc:Nat)(dflt:Int)(rs:List (List (Nat×List UInt8)×Int×Int))(P:Nat→Nat)(hP:∀r,P r<65536)(hn:rs.length≤16)(h8:∀i (h:i<rs.length),rs[i].1.length≤8)(hA:A<W.heap.size)(c0:W.cell? ⟨A,0,none⟩=some (.slice ra rs.length rc))(c1:W.cell? ⟨A,1,none⟩=some (.int .i64 dflt))(hr:qdW W ra rs):Calls prog 138 #[.pointer (some ⟨A,0,none⟩),.agg (plA P)] W fun e W'=>e=.returned (.tuple #[.int .i64 (jdg dflt rs P 0).1,.int .i64 (jdg dflt rs P 0).2])∧Below W.heap.size W W':=by
 have HR:=qaa hr;go_enter func138,ntmps138;go_wp2
 go_loopg [13] rs.length (fun g z wr=>∃k:Nat,z=.int .i64 k∧Hid (k+g=rs.length)∧Hid (qva W P wr)∧Hid (jdg dflt rs P 0=jdg dflt (rs.drop k) P k))
 case atStart=>exact⟨0,rfl,by show _=_;omega,quy _ _,rfl⟩
 case round =>
  obtain⟨k,rfl,hg,HB,HJ⟩:=hrel;have d1:=(HB.out.below.cell (p:=⟨A,_,none⟩) hA).trans c1
  cases gk with
  |zero =>
   have hlt:¬(k:Int)<(rs.length:Int):=by have:=hg.out;omega
   have HE:Hid (jdg dflt rs P 0=(dflt,1)):=by
    have h:=HJ.out;rw[List.drop_eq_nil_of_le (by have:=hg.out;omega)] at h;exact h
   go_wp2;refine bodyPost_ret (results_tmp2 results138 _ _ _) rfl ⟨?_,HB.out.below⟩;rw[HE.out];rfl
  |succ g =>
   have hkl:k<rs.length:=by have:=hg.out;omega
   have hlt:(k:Int)<(rs.length:Int):=by omega
   obtain⟨b,off,pa,pc,rfl,hb,e0,e1,e2,_⟩:=(HR.out.below HB.out.below).at_ k hkl;have hk8:=h8 k hkl;have cH:=fun V=>qxh V P k rs[k].1.length (by omega) (by omega) (hP k);have HS:Hid (jdg dflt (rs.drop k) P k=if (P k).testBit rs[k].1.length then rs[k].2 else jdg dflt (rs.drop (k+1)) P (k+1)):=by
    show _=_;rw[List.drop_eq_getElem_cons hkl,jdg]
   have HN:Hid (qva W P (wr.alloc (.cells #[.slice pa rs[k].1.length pc,.int .i64 rs[k].2.1,.int .i64 rs[k].2.2] 230))):=HB.out.next bwA
   have hsz:=ltA HB.out.box
   cases ht:(P k).testBit rs[k].1.length with
   |true =>
    rw[ht] at cH;have HE:Hid (jdg dflt rs P 0=rs[k].2):=by have h:=HJ.out;rw[HS.out,ht] at h;exact h
    go_wp2_with (first
     |(refine wpList_load_row rfl 164 (.tmp 3) rfl W.heap.size rfl _ _ _ _ HN.out.box underlying164 rfl (qbh P) ?_)
     |(go_at_call 188;refine(cH _).mono ?_;rintro e w2 ⟨rfl,hB2⟩;have HN2:=qaa (HN.out.next hB2);have r0:w2.cell? ⟨wr.heap.size,0,none⟩=some (.slice pa rs[k].1.length pc):=qab ((hB2.block _ (by simp)).trans (qac _ _)) 0;have r1:w2.cell? ⟨wr.heap.size,1,none⟩=some (.int .i64 rs[k].2.1):=qab ((hB2.block _ (by simp)).trans (qac _ _)) 1;have r2:w2.cell? ⟨wr.heap.size,2,none⟩=some (.int .i64 rs[k].2.2):=qab ((hB2.block _ (by simp)).trans (qac _ _)) 2))
    go_quiet (fail)
    go_wp2;refine bodyPost_ret (results_tmp2 results138 _ _ _) rfl ⟨?_,HN2.out.below.trans ⟨rfl,rfl,rfl,Nat.le_refl _,fun _ _=>rfl⟩⟩;rw[HE.out];rfl
   |false =>
    rw[ht] at cH;have HE:Hid (jdg dflt rs P 0=jdg dflt (rs.drop (k+1)) P (k+1)):=by have h:=HJ.out;rw[HS.out,ht] at h;exact h
    go_wp2_with (first
     |(refine wpList_load_row rfl 164 (.tmp 3) rfl W.heap.size rfl _ _ _ _ HN.out.box underlying164 rfl (qbh P) ?_)
     |(go_at_call 188;refine(cH _).mono ?_;rintro e w2 ⟨rfl,hB2⟩;have HN2:=qaa (HN.out.next hB2)))
    go_roundg g
    case measure=>omega
    case rel=>exact⟨k+1,by go_num,by show _=_;have:=hg.out;omega,HN2,HE⟩
theorem rdS (i:Nat)(hi:ops[i]? = some o)(hr:Region.ready md ops listed=[i])(h:∀K':Act→World→Prop,Shut (∀a w,S w→(S w→wpAnyH P md ops Q S fuel (listed.setIfInBounds i true) a w)→K' a w)→if Region.wanted o (yielded ops a.tmps)=true then Oper.wp P o a w K' Q else K' (a.put o.dst undef) w):wpAnyH P md ops Q S (fuel+1) listed a w :=
 wpAnyH_ready hr (by simp) (AllReadyH.cons hi h AllReadyH.nil)
theorem tkH (i dst:Nat)(v:Value)(hi:ops[i]? = some oi)(hk:(Region.noSelect ops&&Region.free md ops listed i&&(Region.ready md ops listed).contains i&&oi.dst==some dst&&Region.wanted oi (yielded ops a.tmps))=true)(hQ:∀c a w,Q (.panic c) (a.put (some dst) v) w→Q (.panic c) a w)(hy:∀Z,S Z→(execOp a.eval oi).run P Z=.ok (.value v) Z)(hS:S w)(h:wpAnyH P md ops Q S fuel (listed.setIfInBounds i true) (a.put (some dst) v) w):wpAnyH P md ops Q S (fuel+1) listed a w:=by
 simp only[Bool.and_eq_true] at hk;have hd:oi.dst=some dst:=by simpa using hk.1.2
 rw[←hd] at hQ h;exact wpAnyH_take hi hk.1.1.1.1 hk.1.1.1.2 hk.1.1.2 hQ (.inl ⟨hk.2,hy⟩) hS h
def w1 (st x:Nat):Nat:=x ||| ((x &&& st) <<< 1)
def wdB (st x:Nat):Nat→Bool
 |0=>x.testBit 0
 |k+1=>x.testBit (k+1)||(st.testBit k&&wdB st x k)
theorem qoQ (st x k:Nat):(w1 st x).testBit k=(x.testBit k||(decide (1≤k)&&(x.testBit (k-1)&&st.testBit (k-1)))):=by
 unfold w1;rw[Nat.testBit_or,Nat.testBit_shiftLeft,Nat.testBit_and]
theorem qwg (hs:st<256)(hx:x<512):w1 st x<512:=by
 have h1:x &&& st<2^8:=Nat.and_lt_two_pow _ (by omega);have h2:(x &&& st) <<< 1<2^9:=by rw[Nat.shiftLeft_eq];omega
 exact Nat.or_lt_two_pow (n:=9) (by omega) h2
theorem qwX (st x:Nat):x≤w1 st x:=Nat.left_le_or
structure Mid (P st:Nat→Nat)(n:Nat)(X:Nat→Nat):Prop where
 lo:∀r,r<n→∀k,(P r).testBit k=true→(X r).testBit k=true
 hi:∀r,r<n→∀k,(X r).testBit k=true→wdB (st r) (P r) k=true
 off:∀r,n≤r→X r=P r
 lt:∀r,X r<512
theorem qvP {k:Nat}(h:x.testBit k=true):wdB st x k=true:=by
 cases k with
 |zero=>exact h
 |succ k=>rw[wdB,h];rfl
theorem qv4 (P st:Nat→Nat)(n:Nat)(hP:∀r,P r<512):Mid P st n P:=⟨fun _ _ _ h=>h,fun _ _ _ h=>qvP h,fun _ _=>rfl,hP⟩
def wSt (st X:Nat→Nat)(n:Nat):Nat→Nat:=fun r=>if r<n then w1 (st r) (X r) else X r
theorem Mid.step {P st:Nat→Nat}(h:Mid P st n X)(hs:∀r,st r<256):Mid P st n (wSt st X n):=by
 refine⟨fun r hr k hk => ?_,fun r hr k hk => ?_,fun r hr => ?_,fun r => ?_⟩
 ·unfold wSt;rw[if_pos hr,qoQ,h.lo r hr k hk];rfl
 ·unfold wSt at hk;rw[if_pos hr,qoQ,Bool.or_eq_true] at hk;rcases hk with hk|hk
  ·exact h.hi r hr k hk
  simp only[Bool.and_eq_true,decide_eq_true_eq] at hk;obtain⟨k',rfl⟩:∃k',k=k'+1:=⟨k-1,by omega⟩
  rw[Nat.add_sub_cancel] at hk;rw[wdB,hk.2.2,h.hi r hr k' hk.2.1];simp
 ·unfold wSt;rw[if_neg (by omega)];exact h.off r hr
 unfold wSt;by_cases hr:r<n
 ·rw[if_pos hr];exact qwg (hs r) (h.lt r)
 rw[if_neg hr];exact h.lt r
theorem Mid.done {P st:Nat→Nat}(h:Mid P st n X)(he:∀r,r<n→w1 (st r) (X r)=X r):∀r,r<n→∀k,(X r).testBit k=wdB (st r) (P r) k:=by
 intro r hr k;have key:∀k,wdB (st r) (P r) k=true→(X r).testBit k=true:=by
  intro k
  induction k with
  |zero=>exact fun hk=>h.lo r hr 0 hk
  |succ k ih =>
   intro hk;rw[wdB,Bool.or_eq_true] at hk;rcases hk with hk|hk
   ·exact h.lo r hr _ hk
   rw[Bool.and_eq_true] at hk;have h2:(w1 (st r) (X r)).testBit (k+1)=(X r).testBit (k+1):=by rw[he r hr]
   rw[qoQ,Nat.add_sub_cancel,ih hk.2,hk.1] at h2;rw[←h2];simp
 cases hx:(X r).testBit k with
 |true=>exact(h.hi r hr k hx).symm
 |false =>
  cases hw:wdB (st r) (P r) k with
  |true=>rw[key k hw] at hx;cases hx
  |false=>rfl
def qlR (X:Nat→Nat):Nat→Nat
 |0=>0
 |n+1=>qlR X n+X n
theorem qi6 (h:∀r,X r<512):∀n,qlR X n≤n*512
 |0=>Nat.le_refl _
 |n+1=>by have:=qi6 h n;have:=h n;unfold qlR;omega
theorem qj6 (h:∀r,X r≤Y r):∀n,qlR X n≤qlR Y n
 |0=>Nat.le_refl _
 |n+1=>by have:=qj6 h n;have:=h n;unfold qlR;omega
theorem qoM (h:∀r,X r≤Y r):∀n r,r<n→X r<Y r→qlR X n<qlR Y n
 |0,_,hr,_=>absurd hr (by omega)
 |n+1,r,hr,hl=>by
  unfold qlR;by_cases e:r=n
  ·subst e;have:=qj6 h r;omega
  have:=qoM h n r (by omega) hl;have:=h n;omega
theorem qve (h:∀r,r<16→X r=Y r):plA X=plA Y:=by
 unfold plA;congr 1;apply List.map_congr_left;intro r hr;rw[h r (by simpa using hr)]
theorem qwe:laidOutB prog=true:=by kernel_rfl
theorem few:prog.types.size+2≤10000:=Nat.le_of_ble_eq_true (by kernel_rfl)
theorem qog:WideMaps.KeyLaw prog 164:=deep_law_gate qwe few (Nat.le_of_ble_eq_true (by kernel_rfl)) (by kernel_rfl) (by kernel_rfl)
theorem qsm:WideMaps.KeyLaw prog 320:=deep_law_gate qwe few (Nat.le_of_ble_eq_true (by kernel_rfl)) (by kernel_rfl) (by kernel_rfl)
theorem qx9 (x:Nat)(h:x<65536):(Lit.int .u16 (x:Int)).wf=true:=by
 have h1:IntKind.u16.min=0:=by kernel_rfl
 have h2:IntKind.u16.max=65535:=by kernel_rfl
 simp[Lit.wf,h1,h2];omega
theorem qlL {α β:Type}(f:α→Option β)(g:α→β):∀(l:List α),(∀x∈l,f x=some (g x))→l.mapM f=some (l.map g)
 |[],_=>rfl
 |x::l,h=>by
  rw[List.mapM_cons,h x (by simp),qlL f g l (fun y hy=>h y (by simp[hy]))];rfl
theorem qpJ (X:Nat→Nat)(hX:∀r,X r<65536):∃l,keyOf prog 164 (.agg (plA X))=some l:=by
 obtain⟨d,hd⟩:∃d,prog.types.size+1=d+2:=⟨prog.types.size-1,by have:1≤prog.types.size:=Nat.le_of_ble_eq_true (by kernel_rfl);omega⟩
 have h1:prog.keyType 164=true:=by kernel_rfl
 have h2:prog.cellsOf 164=16:=by kernel_rfl
 have h3:prog.cellsOf 162=1:=by kernel_rfl
 have hf:(Value.agg (plA X)).formed prog 164=true:=by
  simp only[Value.formed,underlying164];rw[qbR,h2];rfl
 have hl:prog.keyLits (d+2) 164 (plA X).toList=some ((List.range 16).map fun i=>[Lit.int .u16 (X i)]).flatten:=by
  have e:(plA X).toList.length=16:=by have:=qbR X;simpa using this
  unfold Program.keyLits;simp only[underlying164];rw[if_pos (by rw[e,h2]),h3];rw[qlL _ (fun i=>[Lit.int .u16 (X i)]) _ (fun i hi => ?_)]
  ·rfl
  have hi:i<16:=by simpa using hi
  have ec:((plA X).toList.drop (i*1)).take 1=[.int .u16 (X i)]:=by
   have h:=qcR X i hi;rw[Nat.mul_one];rw[←Array.getElem?_toList] at h;obtain⟨hlt,hv⟩:=List.getElem?_eq_some_iff.1 h;rw[List.drop_eq_getElem_cons hlt,hv];rfl
  rw[ec];unfold Program.keyLits;simp only[underlying162];rw[if_pos ⟨trivial,qx9 _ (hX i)⟩]
 refine⟨.string (keyBytes ((List.range 16).map fun i=>[Lit.int .u16 (X i)]).flatten),?_⟩;unfold keyOf;simp only[underlying164];have e:(Value.agg (plA X)).cells=plA X:=rfl;rw[h1,hf,hd,if_pos (by rfl),e,hl,Option.map_some]
theorem qpQ (h:plA X=plA Y):∀r,r<16→X r=Y r:=by
 intro r hr;have h1:=qcR X r hr;rw[h,qcR Y r hr] at h1;injection h1 with h1;injection h1 with _ h1;omega
def qug (X Y:Nat→Nat):Bool:=(List.range 16).all fun r=>X r==Y r
theorem qjs (h:qug X Y=true):∀r,r<16→X r=Y r:=by
 intro r hr;have:=List.all_eq_true.1 h r (by simpa using hr);simpa using this
theorem qpm (h:∀r,r<16→X r=Y r):qug X Y=true:=List.all_eq_true.2 fun r hr=>by simpa using h r (by simpa using hr)
theorem qvw (X Y:Nat→Nat)(hX:∀r,X r<65536)(hY:∀r,Y r<65536)(w:World):(Op.equalIn 10000 164 (.agg (plA X)) (.agg (plA Y))).run prog w=.ok (qug X Y) w:=by
 obtain⟨lx,hx⟩:=qpJ X hX;obtain⟨ly,hy⟩:=qpJ Y hY;obtain⟨b,hr,hb⟩:=run_equal_deep w (m:=prog.types.size+1) (by have:=few;omega) (k:=164) (by kernel_rfl) (by kernel_rfl) hx hy;have hr:(Op.equalIn 10000 164 (.agg (plA X)) (.agg (plA Y))).run prog w=.ok b w:=hr;have e:b=qug X Y:=by
  cases hd:qug X Y with
  |true =>
   refine hb.2 ?_;rw[qve (qjs hd),hy] at hx;exact(Option.some.inj hx).symm
  |false =>
   cases b with
   |false=>rfl
   |true =>
    have e:=hb.1 rfl;subst e;have h2:=qog.inj hx hy;rw[qpm (qpQ (Value.agg.inj h2))] at hd;cases hd
 rw[hr,e]
end
end Go.Proofs.YtllcbnfmihfaaaaGreatDoor
