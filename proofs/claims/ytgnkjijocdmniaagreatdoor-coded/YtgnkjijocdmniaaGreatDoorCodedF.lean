import Derived.Test.YtgnkjijocdmniaaGreatDoorRows
import Derived.JoinedOf
import Derived.KernelRfl
namespace Go.Proofs.YtgnkjijocdmniaaGreatDoor
set_option linter.unusedVariables false
set_option linter.unusedSimpArgs false
set_option maxRecDepth 100000
set_option maxHeartbeats 4000000
theorem S7:joinedFacts Tryz.prog 5 Tryz.f5 Rows.codedSpec Rows.codedRow=true:=by
 unfold joinedFacts;simp only[Bool.and_eq_true]
 repeat' apply And.intro
 all_goals as_aux_lemma=>kernel_rfl
theorem Fp:Tryz.prog.funcNamed Rows.codedRow.func=some 5:=by kernel_rfl
end Go.Proofs.YtgnkjijocdmniaaGreatDoor
