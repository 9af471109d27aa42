import Derived.Test.YtenahlandohgaaaGreatDoorZDUp
import Derived.Test.YtenahlandohgaaaGreatDoorEBox
import Derived.Test.YtenahlandohgaaaGreatDoorZGBoxR
import Derived.Test.YtenahlandohgaaaGreatDoorRFiles
import Derived.Test.YtenahlandohgaaaGreatDoorZStepOpen
namespace Go.Proofs.YtenahlandohgaaaGreatDoor
set_option linter.unusedVariables false
set_option linter.unusedSimpArgs false
set_option maxRecDepth 100000
set_option maxHeartbeats 4000000
open Go.RowKit
attribute [local go_sem ↓] Go.wp_at_zero Go.wp_at_succ
def stepV (x:StepD):Value:=.agg #[.string (strA x.id),x.av,.string (strA x.text),.int .i64 x.left,.int .i64 x.full,.int .i64 x.kept,.int .i64 x.part,x.dv,.bool x.again]
theorem argN_mem (a:Int×List UInt8):∀ l:List (Int×List UInt8),a∈l→a.2.length≤argN l
 | [],h=>by cases h
 | b :: r,h=>by
  have e:argN (b :: r)=b.2.length+argN r:=by simp [argN]
  rcases List.mem_cons.1 h with rfl | h
  ·omega
  ·have:=argN_mem a r h;omega
theorem fileL_pos {id text:List UInt8} {n k:Nat} {a:Int×List UInt8} (h:fileL id text n a=.error k):k≠0:=by
 unfold fileL at h
 repeat' split at h
 all_goals cases h
 all_goals decide
theorem filesTo_pos {id text:List UInt8} {k:Nat}:∀ (r:List (Int×List UInt8)) (n:Nat),filesTo id text n r=.error k→k≠0
 | [],n,h=>by rw [filesTo] at h;cases h
 | a :: r,n,h=>by
  rw [filesTo] at h
  cases hf:fileL id text n a with
  | error e=>rw [hf] at h;injection h with h;subst h;exact fileL_pos hf
  | ok f=>
   rw [hf] at h
   dsimp only at h
   cases hr:filesTo id text (n+1) r with
   | error e=>rw [hr] at h;injection h with h;subst h;exact filesTo_pos r (n+1) hr
   | ok l'=>rw [hr] at h;cases h
theorem filesL_pos {id text:List UInt8} {acts:List (Int×List UInt8)} {k:Nat} (h:filesL id acts text=.error k):k≠0:=by
 unfold filesL at h
 split at h
 ·split at h
  ·cases h;decide
  ·exact filesTo_pos _ _ h
 ·cases h;decide
end Go.Proofs.YtenahlandohgaaaGreatDoor
