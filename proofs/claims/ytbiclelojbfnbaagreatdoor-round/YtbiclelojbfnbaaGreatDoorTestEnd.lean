import Derived.Test.YtbiclelojbfnbaaGreatDoorTestAll
import Derived.Test.YtbiclelojbfnbaaGreatDoorPlainMu
namespace Go.Proofs.YtbiclelojbfnbaaGreatDoor
open Go.RowKit

theorem test_mu (t : ByteArray) (req : List (List UInt8)) (F n : Nat) : SubMu t.size (testL t.data.toList req F n) := fun s y h1 h2 e => by
  have := (test_dn n s ⟨by simpa using h1, h2⟩ y e).2
  rw [bal] at this
  omega
theorem cmd_mu (t : ByteArray) (req : List (List UInt8)) (F n : Nat) : SubMu t.size (cmdL t.data.toList req F n) := fun s y h1 h2 e => by
  have := (cmd_dn n s ⟨by simpa using h1, h2⟩ y e).2
  rw [bal] at this
  omega

/-- WHAT 'test' DOES, at a depth of 7 - n, in whatever world behind one that has the maps and what is required. -/
theorem test_ok (req : List (List UInt8)) (b F : Nat) (t : ByteArray) (rv : Value) (mc mt pr pt pf : Nat) (hF : 2 * t.size + 1 < F) (n : Nat) (hn : n ≤ 7) (w : World) (ht : TMap w b mt pr pt pf) (hr : ReqV w b rv req) :
    SubOk 252 w b t rv mc mt (7 - (n : Int)) (testL t.data.toList req F n) (TestV n) :=
  test_any req b F t rv mc mt pr pt pf hF (test_mu t req F) n hn w ht hr

end Go.Proofs.YtbiclelojbfnbaaGreatDoor
