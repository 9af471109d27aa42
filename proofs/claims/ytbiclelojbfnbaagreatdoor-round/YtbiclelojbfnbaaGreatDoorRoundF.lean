import Derived.Test.YtbiclelojbfnbaaGreatDoorRows
import Derived.JoinedOf
import Derived.KernelRfl
namespace Go.Proofs.YtbiclelojbfnbaaGreatDoor

set_option maxRecDepth 100000 in
set_option maxHeartbeats 100000000 in
theorem round_closed : joinedFacts Tryz.prog 10 Tryz.f10 Rows.roundSpec Rows.roundRow = true := by
  unfold joinedFacts
  simp only [Bool.and_eq_true]
  repeat' apply And.intro
  all_goals as_aux_lemma => kernel_rfl
theorem round_named : Tryz.prog.funcNamed Rows.roundRow.func = some 10 := by kernel_rfl

end Go.Proofs.YtbiclelojbfnbaaGreatDoor
