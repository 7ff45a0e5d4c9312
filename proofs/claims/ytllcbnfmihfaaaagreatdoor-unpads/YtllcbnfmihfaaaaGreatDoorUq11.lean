import Derived.Test.YtllcbnfmihfaaaaGreatDoorUq06
import Derived.Test.YtllcbnfmihfaaaaGreatDoorUq07
import Derived.Test.YtllcbnfmihfaaaaGreatDoorUq10
set_option maxRecDepth 100000
set_option maxHeartbeats 8000000
namespace Go.Proofs.YtllcbnfmihfaaaaGreatDoor
open Go.Proofs.Tryz
section
open Go.RowKit
theorem qbI {P:Program}(w:World)(base:Nat)(t ty e:TypeId)(i:TypeInfo)(z:Value)(size bytes:Nat)(ht:P.underlying t=some (.slice e))(hi:P.info? e=some i)(hz:i.zero=some z)(hsize:i.size=size)(hby:i.bytes=bytes)(v:Value)(n:Nat)(xs:List Value)(hown:w.ownsRow base e size v n xs)(a:Addr)(m c:Nat)(news:List Value)(hl:news.length=m*size)(hnews:∀j u,news[j]? = some u→w.cell? (a.add j)=some u)(h1:∀u∈news,u.oneCell'=true)(hm:0<m)(h63:n+m≤maxLen)(hbytes:(n+m)*bytes≤140737488355328){v':Value}{w':World}(hr:(Builtin.append_ #[t,t] ty #[v,.slice (some a) m c]).run P w=.ok v' w'):v'.ownBlock=v.ownBlock∨v'.ownBlock=some w.heap.size:=by
 subst hsize
 subst hby
 have hsmall:n+m≤9223372036854775807:=by simp only[maxLen] at h63;omega
 rcases hown.2 with ⟨rfl,rfl⟩|⟨g,cap,cur,rfl,hbg,hg,hnc,hcm,hcs,htake⟩
 ·have h2:=run_append_nil (P:=P) w t ty e i z ht hi hz a m c news hl hnews hm (by omega) (by have hb:=hbytes;simp only[Nat.zero_add] at hb;omega)
  rw[h2] at hr
  injection hr with e1 e2
  right
  rw[←e1]
  rfl
 ·by_cases hroom:n+m≤cap
  ·have hfit:n*i.size+news.length≤cur.size:=by rw[hl,hcs,←Nat.add_mul];exact Nat.mul_le_mul_right _ hroom
   have h2:=run_append_room (P:=P) w t ty e i ht hi g n cap cur hg a m c news hl hnews h1 hroom hfit
   rw[h2] at hr
   injection hr with e1 e2
   left
   rw[←e1]
   rfl
  ·have holds:∀j u,xs[j]? = some u→w.cell? ((⟨g,0,none⟩:Addr).add j)=some u:=hown.cells (g:=g) rfl
   have h2:=run_append_grow (P:=P) w t ty e i z ht hi hz ⟨g,0,none⟩ n cap xs hown.1 holds a m c news hl hnews (by omega) (by omega) (growslice_fits (by omega) hbytes)
   rw[h2] at hr
   injection hr with e1 e2
   right
   rw[←e1]
   rfl
theorem qag {P:Program}(w:World){ops:Array Oper}{rest:List Oper}{o:Oper}{a:Act}{Q:Exit→Act→World→Prop}(hgd:o.guard=none)(s x:Operand)(t:TypeId)(ho:o.op=.call {callee:=.builtin .append,args:=#[s,x],argTypes:=#[t,t]})(base:Nat)(e:TypeId)(i:TypeInfo)(z:Value)(size bytes:Nat)(ht:P.underlying t=some (.slice e))(hi:P.info? e=some i)(hz:i.zero=some z)(hsize:i.size=size)(hby:i.bytes=bytes)(hzs:z.cells.size=size)(hsz:0<size)(v:Value)(n:Nat)(xs:List Value)(hs:a.eval s=v)(hown:w.ownsRow base e size v n xs)(ad:Addr)(m c:Nat)(news:List Value)(hx:a.eval x=.slice (some ad) m c)(hl:news.length=m*size)(hnews:∀j u,news[j]? = some u→w.cell? (ad.add j)=some u)(h1:∀u∈news,u.oneCell'=true)(hm:0<m)(h63:n+m≤maxLen)(hbytes:(n+m)*bytes≤140737488355328)(hbase:base≤w.heap.size)(h:∀v' w',w'.ownsRow base e size v' (n+m) (xs++news)→w.grownBy w' v.ownBlock→(v'.ownBlock=v.ownBlock∨v'.ownBlock=some w.heap.size)→wpList P ops Q rest (a.put o.dst v') w'):wpList P ops Q (o::rest) a w:=by
 refine wpList_plain hgd fun K hK => ?_
 obtain⟨v',w',hr,h2,h3,_⟩:=run_append_own (P:=P) w base t o.type e i z size bytes ht hi hz hsize hby hzs hsz v n xs hown ad m c news hl hnews h1 h63 hbytes hbase
 have h4:=qbI (P:=P) w base t o.type e i z size bytes ht hi hz hsize hby v n xs hown ad m c news hl hnews h1 hm h63 hbytes hr
 unfold Oper.wp execOp
 simp only[ho,resolve,invoke,builtin,Sem.run_bind,Sem.run_pure,Result.andThen_ok,List.map_toArray,List.map_cons,List.map_nil,hs,hx,hr]
 exact hK _ _ (h v' w' h2 h3 h4)
end
section
open Go.RowKit Go.Lib
theorem qnS (W:World)(bs:List UInt8)(cs:List Value)(n:Nat)(hn:n=bs.length)(hm:n≤9)(hc:bs.map qaX=cs):Own (W.alloc (.cells cs.toArray 5)) W.heap.size (.slice (some ⟨W.heap.size,0,none⟩) n n) bs∧Below W.heap.size W (W.alloc (.cells cs.toArray 5)):=by
 subst hc
 subst hn
 refine⟨⟨⟨by simp,.inr ⟨W.heap.size,bs.length,(bs.map qaX).toArray,rfl,Nat.le_refl _,qab _ _,Nat.le_refl _,by unfold maxLen;omega,by simp,by simp[List.take_of_length_le]⟩⟩,by simp,_,_,_,rfl⟩,bwA⟩
theorem qbo (W:World)(r:Int)(cs:List Value)(n:Nat)(hn:n=cs.length)(hc:runeCells r=cs):Own (W.alloc (.cells cs.toArray 5)) W.heap.size (.slice (some ⟨W.heap.size,0,none⟩) n n) (qaF r)∧Below W.heap.size W (W.alloc (.cells cs.toArray 5)):=by
 have h4:=(encodeRuneZ_length r).2
 have h5:cs.length=(encodeRuneZ r).length:=by rw[←hc];unfold runeCells;rw[List.length_map]
 exact qnS W (qaF r) cs n (by unfold qaF;rw[List.length_map];omega) (by omega) (by rw[←qeY,hc])
theorem qhI (W:World)(n:Int)(h0:0≤n)(h1:n≤1114111)(hs:¬(55296≤n∧n≤57343)):Calls prog 246 #[.int .i64 n] W fun e W'=>∃v,e=.returned v∧Own W' W.heap.size v (qaF n)∧Below W.heap.size W W':=by
 by_cases a:n<128
 ·have hc:runeCells n=[.int .u8 n]:=by unfold runeCells;rw[encodeRuneZ_one h0 (by omega)];rfl
  have HO:Hid (Own (W.alloc (.cells #[.int .u8 n] 5)) W.heap.size (.slice (some ⟨W.heap.size,0,none⟩) 1 1) (qaF n)∧Below W.heap.size W (W.alloc (.cells #[.int .u8 n] 5))):=qbo W n _ 1 rfl hc
  clear hc hs
  go_enter func246,ntmps246
  go_wp2
  go_ret
  exact⟨_,rfl,HO.out.1,HO.out.2⟩
 ·by_cases b:n<2048
  ·have hc:runeCells n=[.int .u8 (192+n / 64),.int .u8 (128+n%64)]:=by unfold runeCells;rw[encodeRuneZ_two (by omega) (by omega)];rfl
   have HO:Hid (Own (W.alloc (.cells #[.int .u8 (192+n / 64),.int .u8 (128+n%64)] 5)) W.heap.size (.slice (some ⟨W.heap.size,0,none⟩) 2 2) (qaF n)∧Below W.heap.size W (W.alloc (.cells #[.int .u8 (192+n / 64),.int .u8 (128+n%64)] 5))):=qbo W n _ 2 rfl hc
   clear hc hs
   go_enter func246,ntmps246
   go_wp2
   go_ret
   exact⟨_,rfl,HO.out.1,HO.out.2⟩
  ·by_cases c:n<65536
   ·have hc:runeCells n=[.int .u8 (224+n / 4096),.int .u8 (128+n / 64%64),.int .u8 (128+n%64)]:=by unfold runeCells;rw[encodeRuneZ_three (by omega)];rfl
    have HO:Hid (Own (W.alloc (.cells #[.int .u8 (224+n / 4096),.int .u8 (128+n / 64%64),.int .u8 (128+n%64)] 5)) W.heap.size (.slice (some ⟨W.heap.size,0,none⟩) 3 3) (qaF n)∧Below W.heap.size W (W.alloc (.cells #[.int .u8 (224+n / 4096),.int .u8 (128+n / 64%64),.int .u8 (128+n%64)] 5))):=qbo W n _ 3 rfl hc
    clear hc hs
    go_enter func246,ntmps246
    go_wp2
    go_ret
    exact⟨_,rfl,HO.out.1,HO.out.2⟩
   ·have hc:runeCells n=[.int .u8 (240+n / 262144),.int .u8 (128+n / 4096%64),.int .u8 (128+n / 64%64),.int .u8 (128+n%64)]:=by unfold runeCells;rw[encodeRuneZ_four (by omega) (by omega)];rfl
    have HO:Hid (Own (W.alloc (.cells #[.int .u8 (240+n / 262144),.int .u8 (128+n / 4096%64),.int .u8 (128+n / 64%64),.int .u8 (128+n%64)] 5)) W.heap.size (.slice (some ⟨W.heap.size,0,none⟩) 4 4) (qaF n)∧Below W.heap.size W (W.alloc (.cells #[.int .u8 (240+n / 262144),.int .u8 (128+n / 4096%64),.int .u8 (128+n / 64%64),.int .u8 (128+n%64)] 5))):=qbo W n _ 4 rfl hc
    clear hc hs
    go_enter func246,ntmps246
    go_wp2
    go_ret
    exact⟨_,rfl,HO.out.1,HO.out.2⟩
end
end Go.Proofs.YtllcbnfmihfaaaaGreatDoor
