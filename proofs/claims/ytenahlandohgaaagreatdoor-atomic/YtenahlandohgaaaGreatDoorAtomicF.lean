import Derived.Test.YtenahlandohgaaaGreatDoorRows
import Derived.JoinedOf
import Derived.KernelRfl
namespace Go.Proofs.YtenahlandohgaaaGreatDoor
set_option linter.unusedVariables false
set_option linter.unusedSimpArgs false
set_option maxRecDepth 100000
set_option maxHeartbeats 4000000
theorem atomic_closed:joinedFacts Tryz.prog 4 Tryz.f4 Rows.atomicSpec Rows.atomicRow=true:=by
 unfold joinedFacts
 simp only [Bool.and_eq_true]
 repeat' apply And.intro
 all_goals as_aux_lemma=>kernel_rfl
theorem atomic_named:Tryz.prog.funcNamed Rows.atomicRow.func=some 4:=by kernel_rfl
end Go.Proofs.YtenahlandohgaaaGreatDoor
