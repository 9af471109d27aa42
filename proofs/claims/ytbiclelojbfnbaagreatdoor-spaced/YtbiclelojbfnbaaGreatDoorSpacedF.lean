import Derived.Test.YtbiclelojbfnbaaGreatDoorRows
import Derived.JoinedOf
import Derived.KernelRfl
namespace Go.Proofs.YtbiclelojbfnbaaGreatDoor

set_option maxRecDepth 100000 in
set_option maxHeartbeats 100000000 in
theorem spaced_closed : joinedFacts Tryz.prog 11 Tryz.f11 Rows.spacedSpec Rows.spacedRow = true := by
  unfold joinedFacts
  simp only [Bool.and_eq_true]
  repeat' apply And.intro
  all_goals as_aux_lemma => kernel_rfl
theorem spaced_named : Tryz.prog.funcNamed Rows.spacedRow.func = some 11 := by kernel_rfl

end Go.Proofs.YtbiclelojbfnbaaGreatDoor
