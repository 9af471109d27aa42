import Derived.Test.YtbiclelojbfnbaaGreatDoorZWTest
namespace Go.Proofs.YtbiclelojbfnbaaGreatDoor
set_option linter.unusedVariables false
set_option linter.unusedSimpArgs false
set_option maxRecDepth 100000
set_option maxHeartbeats 4000000
open Go.RowKit
theorem join_count:∀ xs:List (List UInt8),xs.length≤(joinL [44,32] xs).length+1
 | []=>by simp
 | [x]=>by simp
 | x :: y :: r=>by
  have:=join_count (y :: r)
  simp only [joinL,List.length_append,List.length_cons,List.length_nil] at this ⊢
  omega
end Go.Proofs.YtbiclelojbfnbaaGreatDoor
