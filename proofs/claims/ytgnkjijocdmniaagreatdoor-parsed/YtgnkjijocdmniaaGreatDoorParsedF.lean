import Derived.Test.YtgnkjijocdmniaaGreatDoorRows
import Derived.JoinedOf
import Derived.KernelRfl
namespace Go.Proofs.YtgnkjijocdmniaaGreatDoor
set_option linter.unusedVariables false
set_option linter.unusedSimpArgs false
set_option maxRecDepth 100000
set_option maxHeartbeats 4000000
theorem parsed_closed:joinedFacts Tryz.prog 3 Tryz.f3 Rows.parsedSpec Rows.parsedRow=true:=by
 unfold joinedFacts
 simp only [Bool.and_eq_true]
 repeat' apply And.intro
 all_goals as_aux_lemma=>kernel_rfl
theorem parsed_named:Tryz.prog.funcNamed Rows.parsedRow.func=some 3:=by kernel_rfl
end Go.Proofs.YtgnkjijocdmniaaGreatDoor
