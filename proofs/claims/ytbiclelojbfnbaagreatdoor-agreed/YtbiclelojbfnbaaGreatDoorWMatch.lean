import Derived.Deep.RegionHeld3
import Derived.Test.YtbiclelojbfnbaaGreatDoorZCAct
import Derived.Test.YtbiclelojbfnbaaGreatDoorZWTags
namespace Go.Proofs.YtbiclelojbfnbaaGreatDoor
set_option linter.unusedVariables false
set_option linter.unusedSimpArgs false
set_option maxRecDepth 100000
set_option maxHeartbeats 4000000
open Go.RowKit
theorem phrase_mem:∀ (ps:List (List UInt8)) (t p:List UInt8),p∈ps→p.length≤(ps.foldl phraseStep t).length
 | [],t,p,h=>by cases h
 | q :: r,t,p,h=>by
  rw [List.foldl_cons]
  rcases List.mem_cons.1 h with h | h
  ·subst h
   have h1:=phrase_grow r (phraseStep t p)
   have h2:p.length≤(phraseStep t p).length:=by unfold phraseStep;rw [List.length_append];omega
   omega
  ·exact phrase_mem r _ p h
theorem phraseL_mem {ps:List (List UInt8)} {p:List UInt8} (h:p∈ps):p.length≤(phraseL ps).length:=phrase_mem ps [] p h
end Go.Proofs.YtbiclelojbfnbaaGreatDoor
