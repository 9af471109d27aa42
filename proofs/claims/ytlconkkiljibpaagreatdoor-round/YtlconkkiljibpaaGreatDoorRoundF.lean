import Derived.Test.YtlconkkiljibpaaGreatDoorRows
import Derived.JoinedOf
import Derived.KernelRfl
namespace Go.Proofs.YtlconkkiljibpaaGreatDoor

set_option maxRecDepth 100000 in
set_option maxHeartbeats 100000000 in
theorem round_closed : joinedFacts Tryz.prog 8 Tryz.f8 Rows.roundSpec Rows.roundRow = true := by
  unfold joinedFacts
  simp only [Bool.and_eq_true]
  repeat' apply And.intro
  all_goals as_aux_lemma => kernel_rfl
theorem round_named : Tryz.prog.funcNamed Rows.roundRow.func = some 8 := by kernel_rfl

end Go.Proofs.YtlconkkiljibpaaGreatDoor
