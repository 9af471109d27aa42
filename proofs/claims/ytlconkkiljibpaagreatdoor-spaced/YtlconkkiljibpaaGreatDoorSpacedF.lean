import Derived.Test.YtlconkkiljibpaaGreatDoorRows
import Derived.JoinedOf
import Derived.KernelRfl
namespace Go.Proofs.YtlconkkiljibpaaGreatDoor

set_option maxRecDepth 100000 in
set_option maxHeartbeats 100000000 in
theorem spaced_closed : joinedFacts Tryz.prog 9 Tryz.f9 Rows.spacedSpec Rows.spacedRow = true := by
  unfold joinedFacts
  simp only [Bool.and_eq_true]
  repeat' apply And.intro
  all_goals as_aux_lemma => kernel_rfl
theorem spaced_named : Tryz.prog.funcNamed Rows.spacedRow.func = some 9 := by kernel_rfl

end Go.Proofs.YtlconkkiljibpaaGreatDoor
