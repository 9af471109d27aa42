import Derived.Test.YtbiclelojbfnbabGreatDoorRows
import Derived.JoinedOf
import Derived.KernelRfl
namespace Go.Proofs.YtbiclelojbfnbabGreatDoor
set_option linter.unusedVariables false
set_option linter.unusedSimpArgs false
set_option maxRecDepth 100000
set_option maxHeartbeats 4000000
theorem QiA:joinedFacts Tryz.prog 3 Tryz.f3 Rows.globbedSpec Rows.globbedRow=true:=by
 unfold joinedFacts
 simp only [Bool.and_eq_true]
 repeat' apply And.intro
 all_goals as_aux_lemma=>kernel_rfl
theorem Qf5:Tryz.prog.funcNamed Rows.globbedRow.func=some 3:=by kernel_rfl
end Go.Proofs.YtbiclelojbfnbabGreatDoor
