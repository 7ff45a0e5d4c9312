import Derived.Maps.OwnSet
import Derived.Test.YtllcbnfmihfaaaaGreatDoorUq07
import Derived.Test.YtllcbnfmihfaaaaGreatDoorUq06
set_option maxRecDepth 100000
set_option maxHeartbeats 8000000
namespace Go.Proofs.YtllcbnfmihfaaaaGreatDoor
open Go.Proofs.Tryz
section
open Go.RowKit
def qdm (B:List Int)(k:Int):Bool:=B.any fun x=>x==k
theorem qkE (a:Option Addr)(cap:Nat)(B:List Int)(k:Int)(hB:B.length≤maxLen)(w:World)(hA:qdJ w a B):Calls prog 34 #[.slice a B.length cap,.int .i64 k] w fun e w'=>e=.returned (.bool (qdm B k))∧w'=w:=by
 unfold maxLen at hB
 have HA:Hid (qdJ w a B):=hA
 clear hA
 go_enter func34,ntmps34
 go_wp2
 go_loopg [5] B.length (fun g x wr=>∃i:Nat,Hid (i+g=B.length)∧x=.int .i64 i∧w=wr∧Hid (∀j (h:j<B.length),j<i→(B[j]==k)=false))
 case atStart=>exact⟨0,by show _=_;omega,rfl,rfl,fun j h hj=>by omega⟩
 case round =>
  obtain⟨i,hi,rfl,rfl,HL⟩:=hrel
  cases gk with
  |zero =>
   have hlt:¬(i:Int)<B.length:=by have:=hi.out;omega
   have HF:Hid (qdm B k=false):=by
    show _=_
    unfold qdm
    rw[List.any_eq_false]
    intro x hx
    obtain⟨j,hj,rfl⟩:=List.getElem_of_mem hx
    rw[HL.out j hj (by have:=hi.out;omega)]
    decide
   go_wp2
   go_ret
   exact⟨by rw[HF.out];rfl,rfl⟩
  |succ g =>
   have hlt:(i:Int)<B.length:=by have:=hi.out;omega
   obtain⟨b,off,rfl,hbl,hcs⟩:=HA.out.at_ i (by omega)
   have hc:=hcs i (by omega)
   have HM:Hid (B[i]∈B):=List.getElem_mem _
   have HE:Hid (∀x,x=B[i]→∀(h:i<B.length),(B[i]==k)=(x==k)):=fun x hx h=>by rw[hx]
   clear hcs
   obtain⟨x,hx⟩:∃x,x=B[i]:=⟨_,rfl⟩
   have HX:Hid (x=B[i]):=hx
   rw[←hx] at hc
   clear hx
   cases e:(x==k)
   ·have HQ:Hid ((x==k)=false):=e
    go_wp2
    go_roundg g
    case measure=>omega
    case rel =>
     refine⟨i+1,by show _=_;have:=hi.out;omega,by go_num,rfl,fun j h hj => ?_⟩
     by_cases e2:j=i
     ·subst e2;rw[HE.out x HX.out h];exact HQ.out
     ·exact HL.out j h (by omega)
   ·have HF:Hid (qdm B k=true):=by
     show _=_
     unfold qdm
     rw[List.any_eq_true]
     exact⟨B[i],HM.out,by rw[←HX.out];exact e⟩
    go_wp2
    go_ret
    exact⟨by rw[HF.out];rfl,rfl⟩
def qhG (l:List UInt8):Value:=.string ⟨l.toArray⟩
theorem qdo (W:World)(F:Nat→Prop)(v:Value)(ks:List (List UInt8))(s:List UInt8)(h:qd9 W 9 1 F v ks.length (ks.map qhG))(hk:ks.length≤200000000):Calls prog 210 #[v,.string ⟨s.toArray⟩] W fun e W'=>e=.returned (.bool (decide (s∈ks)))∧W'=W:=by
 obtain⟨R,HR⟩:∃R,Hid (decide (s∈ks)=R):=⟨_,show _=_ from rfl⟩
 rw[HR.out]
 obtain⟨a,cap,rfl,HC⟩:∃a cap,v=.slice a ks.length cap∧Hid (∀(j:Nat) (x:List UInt8),ks[j]? = some x→∃g,a=some ⟨g,0,none⟩∧W.cell? ⟨g,j,none⟩=some (qhG x)):=by
  obtain⟨h1,h2⟩:=h
  rcases h2 with ⟨rfl,h0⟩|⟨g,cap,cur,rfl,hf,hg,h3,h4,h5,h6⟩
  ·refine⟨none,0,by rw[h0],fun j x hx => ?_⟩
   have:=ltL hx
   omega
  ·refine⟨_,cap,rfl,fun j x hx=>⟨g,rfl,?_⟩⟩
   rw[qaa hg j]
   have hj:=ltL hx
   have h7:(cur.toList.take (ks.length*1))[j]? = some (qhG x):=by rw[h6,List.getElem?_map,hx];rfl
   rw[List.getElem?_take_of_lt (by omega)] at h7
   simpa using h7
 clear h
 go_enter func210,ntmps210
 go_wp2
 go_loopg [5] ks.length (fun g z wr=>wr=W∧∃k:Nat,z=.int .i64 k∧Hid (k+g=ks.length)∧Hid (decide (s∈ks.drop k)=R))
 case atStart=>exact⟨rfl,0,rfl,by show _=_;omega,HR⟩
 case round =>
  clear HR
  obtain⟨rfl,k,rfl,hg,HR⟩:=hrel
  have hr:=HR.out
  cases gk with
  |zero =>
   rw[List.drop_eq_nil_of_le (by have:=hg.out;omega)] at hr
   have HE:Hid (R=false):=by show _=_;rw[←hr];simp
   have hlt:¬(k:Int)<(ks.length:Int):=by have:=hg.out;omega
   clear hr HR hg HC
   go_wp2
   go_ret
   rw[HE.out]
   exact⟨rfl,rfl⟩
  |succ g =>
   have hkk:k<ks.length:=by have:=hg.out;omega
   have hlt:(k:Int)<(ks.length:Int):=by omega
   obtain⟨x,hx⟩:∃x,ks[k]? = some x:=⟨_,List.getElem?_eq_getElem hkk⟩
   obtain⟨gb,rfl,hcell⟩:=HC.out k x hx
   unfold qhG at hcell
   rw[List.drop_eq_getElem_cons hkk,(List.getElem?_eq_some_iff.1 hx).2] at hr
   by_cases he:x=s
   ·have HE:Hid (R=true):=by show _=_;rw[←hr,he];simp
    have hse:(x==s)=true:=by rw[he];exact beq_self_eq_true s
    clear hr HR hg HC hx he
    go_wp2
    go_ret
    rw[HE.out]
    exact⟨rfl,rfl⟩
   ·have HN:Hid (decide (s∈ks.drop (k+1))=R):=by
     show _=_
     rw[←hr]
     simp[List.mem_cons,Ne.symm he]
    have hse:(x==s)=false:=by simpa using he
    clear hr HR hx he
    go_wp2
    go_roundg g
    case measure=>omega
    case rel=>exact⟨rfl,k+1,by go_num,by show _=_;have:=hg.out;omega,HN⟩
def qaB (W:World)(m:Nat)(ks:List (List UInt8)):Prop:=∃D,W.ownsMap prog 9 (unitElem (H:=Unit)) m ks.length D∧∀l:List UInt8,Maps.has D (.string l)=decide (l∈ks)
theorem qaB.kept {W W':World}{m:Nat}{ks:List (List UInt8)}{row:Option Nat}(h:qaB W m ks)(hg:W.grownBy W' row)(hne:some m≠row):qaB W' m ks:=by
 obtain⟨D,h1,h2⟩:=h
 exact⟨D,h1.kept hg hne,h2⟩
theorem qfF (l:List UInt8)(hb:l.length≤1000000000):keyOf prog 9 (.string ⟨l.toArray⟩)=some (.string l):=by
 have hs:(⟨l.toArray⟩:ByteArray).size≤maxLen:=by
  show l.toArray.size≤maxLen
  rw[List.size_toArray]
  unfold maxLen
  omega
 simp[keyOf,mapKey,underlying9,hs]
theorem qeR (W:World)(m:Nat)(ks:List (List UInt8))(l:List UInt8)(h:qaB W m ks)(hl:l∈ks)(hb:l.length≤1000000000):Calls prog 318 #[.map (some m),.string ⟨l.toArray⟩] W fun e W'=>e=.returned (.bool false)∧Below W.heap.size W W':=by
 obtain⟨D,h1,h2⟩:=h
 have hz:(zeroValue 246).run prog W=.ok (.agg #[]) W:=by kernel_rfl
 obtain⟨v,ps,hrun,hv⟩:=h1.look_ok (Maps.string_keyed underlying9) underlying414 hz unitElem_mk (qfF l hb)
 obtain⟨rfl,_⟩:=unitElem_inv hv
 rw[h2 l,decide_eq_true hl] at hrun
 clear h1 h2 hv hz
 go_enter func318,ntmps318
 go_wp2
 go_ret
 exact⟨rfl,bwA⟩
theorem qi6 (W:World)(m:Nat)(ks:List (List UInt8))(l:List UInt8)(h:qaB W m ks)(hl:¬l∈ks)(hn:ks.length<1000000000)(hb:l.length≤1000000000):Calls prog 318 #[.map (some m),.string ⟨l.toArray⟩] W fun e W'=>e=.returned (.bool true)∧qaB W' m (l::ks)∧But m W W':=by
 obtain⟨D,h1,h2⟩:=h
 have hz:(zeroValue 246).run prog W=.ok (.agg #[]) W:=by kernel_rfl
 obtain⟨v,ps,hrun,hv⟩:=h1.look_ok (Maps.string_keyed underlying9) underlying414 hz unitElem_mk (qfF l hb)
 obtain⟨rfl,_⟩:=unitElem_inv hv
 rw[h2 l,decide_eq_false hl] at hrun
 obtain⟨w',hst,ho,hT⟩:=(h1.alloc (.cells #[] 246)).store (Maps.string_keyed underlying9) underlying414 (by unfold maxLen;omega) (qfF l hb) (val:=.agg #[]) (unitElem_mk (H:=Unit))
 have HF:Hid (qaB w' m (l::ks)∧But m W w'):=by
  refine⟨⟨_,ho,fun q => ?_⟩,?_⟩
  ·by_cases hq:q=l
   ·subst hq
    rw[Maps.has_put_same h1.isMap (Maps.string_keyed (P:=prog) underlying9 |>.key (qfF q hb))]
    simp
   ·rw[Maps.has_put_other (fun e=>hq (by injection e)),h2 q]
    simp[hq]
  ·have hg:=hT.grown
   exact⟨hg.os,hg.tape,hg.output,Nat.le_trans (by simp) hg.size,fun k hk hne=>(hg.block k (by simp;omega) (by simpa using hne)).trans (Below.heap_alloc _ _ _ hk)⟩
 clear h1 h2 hv hz ho hT
 go_enter func318,ntmps318
 go_wp2
 go_ret
 exact⟨rfl,HF.out.1,HF.out.2⟩
theorem qcv.of {W V:World}(h:qcv W)(hk:∀k,k<W.heap.size→k≤1→V.heap[k]? = W.heap[k]?):qcv V:=by
 have hc:∀(g off:Nat) (v:Value),g≤1→W.cell? ⟨g,off,none⟩=some v→V.cell? ⟨g,off,none⟩=some v:=fun g off v hg hv=>(World.cell?_of_block (w:=W) (hk g (block_lt_of_cell hv) hg)).trans hv
 refine⟨fun u hu=>hc _ _ _ (by decide) (h.cb u hu),fun u hu => ?_⟩
 obtain⟨h1,h2,h3⟩:=h.pk u hu
 exact⟨hc _ _ _ (by decide) h1,hc _ _ _ (by decide) h2,hc _ _ _ (by decide) h3⟩
theorem qcv.lt {W:World}(h:qcv W):1<W.heap.size:=block_lt_of_cell (h.pk 0 (by decide)).1
theorem qcv.below {W V:World}(h:qcv W)(hb:Below W.heap.size W V):qcv V:=h.of fun k hk _=>hb.block k hk
theorem qcv.but {W V:World}{b:Nat}(h:qcv W)(hb:But b W V)(hn:1<b):qcv V:=h.of fun k hk h1=>hb.block k hk (by omega)
theorem qeM (W:World)(ia:Option Addr)(bs:List UInt8)(cap:Nat)(d l:Int)(h:qaD W ia bs):Calls prog 65 #[.int .i64 2,.agg #[.int .i64 d,.int .i64 l],.slice ia bs.length cap] W fun e W' =>
   ∃b,e=.returned (.iface 201 (.agg #[.pointer (some ⟨b,0,none⟩),.func (.func 107) #[] #[]]))∧qad W' b ⟨ia,bs,cap,d,l,0,0⟩∧W.heap.size≤b∧Below W.heap.size W W':=by
 have HB:Hid (qaD W ia bs):=h
 clear h
 go_enter func65,ntmps65
 go_wp2
 go_ret
 have hb:Below W.heap.size W ((W.alloc (.cells #[.int .i64 d,.int .i64 l] 86)).alloc (.cells #[.slice ia bs.length cap,.int .i64 d,.int .i64 l,.int .i64 0,.int .i64 0] 196)):=(bwA).alloc (by simp) _
 have hr:=qab (W.alloc (.cells #[.int .i64 d,.int .i64 l] 86)) (.cells #[.slice ia bs.length cap,.int .i64 d,.int .i64 l,.int .i64 0,.int .i64 0] 196)
 rw[World.size_alloc] at hr
 exact⟨W.heap.size+1,rfl,qis HB.out hb (by omega) hr,by omega,hb⟩
theorem qeA (W:World)(ia:Option Addr)(bs:List UInt8)(cap:Nat)(d l:Int)(h:qaD W ia bs):Calls prog 65 #[.int .i64 3,.agg #[.int .i64 d,.int .i64 l],.slice ia bs.length cap] W fun e W' =>
   ∃b,e=.returned (.iface 201 (.agg #[.pointer (some ⟨b,0,none⟩),.func (.func 108) #[] #[]]))∧qad W' b ⟨ia,bs,cap,d,l,0,0⟩∧W.heap.size≤b∧Below W.heap.size W W':=by
 have HB:Hid (qaD W ia bs):=h
 clear h
 go_enter func65,ntmps65
 go_wp2
 go_ret
 have hb:Below W.heap.size W ((W.alloc (.cells #[.int .i64 d,.int .i64 l] 86)).alloc (.cells #[.slice ia bs.length cap,.int .i64 d,.int .i64 l,.int .i64 0,.int .i64 0] 196)):=(bwA).alloc (by simp) _
 have hr:=qab (W.alloc (.cells #[.int .i64 d,.int .i64 l] 86)) (.cells #[.slice ia bs.length cap,.int .i64 d,.int .i64 l,.int .i64 0,.int .i64 0] 196)
 rw[World.size_alloc] at hr
 exact⟨W.heap.size+1,rfl,qis HB.out hb (by omega) hr,by omega,hb⟩
end
end Go.Proofs.YtllcbnfmihfaaaaGreatDoor
