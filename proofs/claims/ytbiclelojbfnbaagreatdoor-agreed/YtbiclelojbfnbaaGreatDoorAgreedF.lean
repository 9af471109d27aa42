import Derived.Test.YtbiclelojbfnbaaGreatDoorRows
import Derived.JoinedOf
import Derived.KernelRfl
namespace Go.Proofs.YtbiclelojbfnbaaGreatDoor
set_option linter.unusedVariables false
set_option linter.unusedSimpArgs false
set_option maxRecDepth 100000
set_option maxHeartbeats 4000000
theorem agreed_closed:joinedFacts Tryz.prog 14 Tryz.f14 Rows.agreedSpec Rows.agreedRow=true:=by
 unfold joinedFacts
 simp only [Bool.and_eq_true]
 repeat' apply And.intro
 all_goals as_aux_lemma=>kernel_rfl
theorem agreed_named:Tryz.prog.funcNamed Rows.agreedRow.func=some 14:=by kernel_rfl
end Go.Proofs.YtbiclelojbfnbaaGreatDoor
