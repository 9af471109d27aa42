import Derived.Test.YthkibedbcbgajaaGreatDoorRows
import Derived.JoinedOf
import Derived.KernelRfl
namespace Go.Proofs.YthkibedbcbgajaaGreatDoor
set_option linter.unusedVariables false
set_option linter.unusedSimpArgs false
set_option maxRecDepth 100000
set_option maxHeartbeats 4000000
theorem QjC:joinedFacts Tryz.prog 5 Tryz.f5 Rows.throughSpec Rows.throughRow=true:=by
 unfold joinedFacts;simp only[Bool.and_eq_true]
 repeat' apply And.intro
 all_goals as_aux_lemma=>kernel_rfl
theorem Qgy:Tryz.prog.funcNamed Rows.throughRow.func=some 5:=by kernel_rfl
end Go.Proofs.YthkibedbcbgajaaGreatDoor
