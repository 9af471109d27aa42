import Derived.Test.YtenahlandohgaaaGreatDoorRows
import Derived.JoinedOf
import Derived.KernelRfl
namespace Go.Proofs.YtenahlandohgaaaGreatDoor
set_option linter.unusedVariables false
set_option linter.unusedSimpArgs false
set_option maxRecDepth 100000
set_option maxHeartbeats 4000000
theorem delivered_closed:joinedFacts Tryz.prog 3 Tryz.f3 Rows.deliveredSpec Rows.deliveredRow=true:=by
 unfold joinedFacts
 simp only [Bool.and_eq_true]
 repeat' apply And.intro
 all_goals as_aux_lemma=>kernel_rfl
theorem delivered_named:Tryz.prog.funcNamed Rows.deliveredRow.func=some 3:=by kernel_rfl
end Go.Proofs.YtenahlandohgaaaGreatDoor
