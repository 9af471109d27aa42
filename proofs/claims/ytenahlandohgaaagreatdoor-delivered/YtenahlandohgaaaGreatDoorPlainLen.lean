import Derived.Test.YtenahlandohgaaaGreatDoorZPlainStore
namespace Go.Proofs.YtenahlandohgaaaGreatDoor
set_option linter.unusedVariables false
set_option linter.unusedSimpArgs false
set_option maxRecDepth 100000
set_option maxHeartbeats 4000000
theorem itoaL_len (n:Nat) (h:n≤2147483647):(itoaL n).length≤21:=by
 have:=Lib.itoa_length_le n (by omega) (by omega)
 rw [Lib.itoa_nonneg] at this
 exact this
end Go.Proofs.YtenahlandohgaaaGreatDoor
