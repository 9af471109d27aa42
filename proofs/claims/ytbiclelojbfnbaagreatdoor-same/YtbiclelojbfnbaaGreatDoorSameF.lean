import Derived.Test.YtbiclelojbfnbaaGreatDoorRows
import Derived.JoinedOf
import Derived.KernelRfl
namespace Go.Proofs.YtbiclelojbfnbaaGreatDoor
set_option linter.unusedVariables false
set_option linter.unusedSimpArgs false
set_option maxRecDepth 100000
set_option maxHeartbeats 4000000
theorem QnE:joinedFacts Tryz.prog 12 Tryz.f12 Rows.sameSpec Rows.sameRow=true:=by
 unfold joinedFacts
 simp only [Bool.and_eq_true]
 repeat' apply And.intro
 all_goals as_aux_lemma=>kernel_rfl
theorem QjC:Tryz.prog.funcNamed Rows.sameRow.func=some 12:=by kernel_rfl
end Go.Proofs.YtbiclelojbfnbaaGreatDoor
