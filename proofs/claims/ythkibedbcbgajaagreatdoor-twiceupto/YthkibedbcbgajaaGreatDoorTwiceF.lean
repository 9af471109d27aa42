import Derived.Test.YthkibedbcbgajaaGreatDoorRows
import Derived.JoinedOf
import Derived.KernelRfl
namespace Go.Proofs.YthkibedbcbgajaaGreatDoor
set_option linter.unusedVariables false
set_option linter.unusedSimpArgs false
set_option maxRecDepth 100000
set_option maxHeartbeats 4000000
theorem twiceUpto_closed:joinedFacts Tryz.prog 4 Tryz.f4 Rows.twiceSpec Rows.twiceUptoRow=true:=by
 unfold joinedFacts
 simp only [Bool.and_eq_true]
 repeat' apply And.intro
 all_goals as_aux_lemma=>kernel_rfl
theorem twiceUpto_named:Tryz.prog.funcNamed Rows.twiceUptoRow.func=some 4:=by kernel_rfl
end Go.Proofs.YthkibedbcbgajaaGreatDoor
