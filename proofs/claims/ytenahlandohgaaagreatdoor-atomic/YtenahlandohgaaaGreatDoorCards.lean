/-
  DERIVED. GIVEN WITH THE SEED: THE CARDS: each row of YtenahlandohgaaaGreatDoorRows.lean that lists a variable, with what it lists TIED to the program's text (the seventh form; the later family's looks); each row that meets fmt, with fmt's text TOLD by the authors' own Lean function (tested against real Go, not proved from fmt's source: count such statements apart). THE CARD IS WHAT COUNTS. Prove the row's statement (the work); the ties are given (YtenahlandohgaaaGreatDoorTie.lean); close each card by the builder's one call (the guide's Derived/Test/ToyasCard.lean, 'card_holds'). Laid BY PROGRAM, IN A SANDBOX (cutbox-door.mjs). By AI agents, Wed Nov 11 2026. No macro, syntax, notation, axiom, sorry.
-/
import Derived.Test.YtenahlandohgaaaGreatDoorRows
import GoSem.ClaimSeven
namespace Go.Proofs.YtenahlandohgaaaGreatDoor
namespace Rows

/-- THE TIED CARD OF 'mailsievelaw.Delivered'. -/
def deliveredCard : Claim7 := { stood := { row := deliveredRow, standIns := [], harness := (true, "cbefaecbfc1553b11fdc0e51d4464b46dd17f93004bc63905b584ef29d2e352d"), looks := true }, kinds := [], alts := [], laidByText := true, laidKinds := [.data, .data, .data, .handle, .sentinel, .sentinel], laidTests := true, laidLooks := .later }
def DeliveredCardSaid : Prop := Claim7.holds Tryz.pinned (.plain (OpenSpec.ofChange deliveredSpec)) deliveredCard

/-- THE TIED CARD OF 'mailsievelaw.Atomic'. -/
def atomicCard : Claim7 := { stood := { row := atomicRow, standIns := [], harness := (true, "cbefaecbfc1553b11fdc0e51d4464b46dd17f93004bc63905b584ef29d2e352d"), looks := true }, kinds := [], alts := [], laidByText := true, laidKinds := [.data, .data, .data, .handle, .sentinel, .sentinel], laidTests := true, laidLooks := .later }
def AtomicCardSaid : Prop := Claim7.holds Tryz.pinned (.plain (OpenSpec.ofChange atomicSpec)) atomicCard

/-- THE TIED CARD OF 'mailsievekeep.Same'. -/
def sameCard : Claim7 := { stood := { row := sameRow, standIns := [], harness := (true, "cbefaecbfc1553b11fdc0e51d4464b46dd17f93004bc63905b584ef29d2e352d"), looks := true }, kinds := [], alts := [], laidByText := true, laidKinds := [.data, .data, .data, .handle], laidTests := true, laidLooks := .later }
def SameCardSaid : Prop := Claim7.holds Tryz.pinned (.plain (OpenSpec.ofChange sameSpec)) sameCard

/-- THE SECOND FORM's CARD OF 'mailsievelaw.Delivered'. -/
def deliveredUptoCard : Claim7 := { stood := { row := deliveredUptoRow, standIns := [], harness := (true, "cbefaecbfc1553b11fdc0e51d4464b46dd17f93004bc63905b584ef29d2e352d"), looks := true }, kinds := [], alts := [], laidByText := true, laidKinds := [.data, .data, .data, .handle, .sentinel, .sentinel], laidTests := true, laidLooks := .later }
def DeliveredUptoCardSaid : Prop := Claim7.holds Tryz.pinned (.plain (OpenSpec.upto deliveredSpec)) deliveredUptoCard

/-- THE SECOND FORM's CARD OF 'mailsievelaw.Atomic'. -/
def atomicUptoCard : Claim7 := { stood := { row := atomicUptoRow, standIns := [], harness := (true, "cbefaecbfc1553b11fdc0e51d4464b46dd17f93004bc63905b584ef29d2e352d"), looks := true }, kinds := [], alts := [], laidByText := true, laidKinds := [.data, .data, .data, .handle, .sentinel, .sentinel], laidTests := true, laidLooks := .later }
def AtomicUptoCardSaid : Prop := Claim7.holds Tryz.pinned (.plain (OpenSpec.upto atomicSpec)) atomicUptoCard

/-- THE SECOND FORM's CARD OF 'mailsievekeep.Same'. -/
def sameUptoCard : Claim7 := { stood := { row := sameUptoRow, standIns := [], harness := (true, "cbefaecbfc1553b11fdc0e51d4464b46dd17f93004bc63905b584ef29d2e352d"), looks := true }, kinds := [], alts := [], laidByText := true, laidKinds := [.data, .data, .data, .handle], laidTests := true, laidLooks := .later }
def SameUptoCardSaid : Prop := Claim7.holds Tryz.pinned (.plain (OpenSpec.upto sameSpec)) sameUptoCard
end Rows
end Go.Proofs.YtenahlandohgaaaGreatDoor
