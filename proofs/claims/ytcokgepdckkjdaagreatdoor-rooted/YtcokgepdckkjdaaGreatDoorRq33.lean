import Derived.Test.YtcokgepdckkjdaaGreatDoorRq27
import Derived.Test.YtcokgepdckkjdaaGreatDoorRq32
set_option maxRecDepth 100000
set_option maxHeartbeats 8000000
namespace Go.Proofs.YtcokgepdckkjdaaGreatDoor
open Go.Proofs.Tryz
section
open Go.RowKit
def qfX (fm:Int):Nat:=if fm=1 then 32 else 0
theorem qmV (fm:Int)(W:World):Calls prog 95 #[.int .i64 fm] W fun e b=>e=.returned (.int .u8 (qfX fm))/\b=W:=by
 by_cases h:fm=1
 ·have c:(fm==1)=true:=by simpa using h
  have a:qfX fm=32:=by unfold qfX;rw[if_pos h]
  rw[a];go_enter func95,ntmps95;go_wp2;go_ret;exact⟨rfl,rfl⟩
 have c:(fm==1)=false:=by simpa using h
 have a:qfX fm=0:=by unfold qfX;rw[if_neg h]
 rw[a];go_enter func95,ntmps95;go_wp2;go_ret;exact⟨rfl,rfl⟩

end
section
open Go.RowKit Go.Lib
def qob (c:Rc)(k:Nat)(F:Nat->Prop)(r:Option (DataW Unit)×Rep)(M:Nat)(sts:List ((Nat->Nat)×Int×Int))(V:World)(e:Ending)(V':World):Prop :=
 ∃(v':Value) (sts':List ((Nat->Nat)×Int×Int)),e=.returned (.tuple #[v',.bool r.1.isSome])/\qcy c r.2 M sts' V'/\KpR V V'/\Pre sts sts'/\(r.1=none->v'=.nilIface)/\∀d',r.1=some d'->qai k V' (fun j=>F j\/(V.heap.size<=j/\j<V'.heap.size)) v' d'

end
end Go.Proofs.YtcokgepdckkjdaaGreatDoor
