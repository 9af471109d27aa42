/-
  DERIVED. GIVEN WITH THE SEED: THE CARDS: each row of YtbiclelojbfnbaaGreatDoorRows.lean that lists a variable, with what it lists TIED to the program's text (the seventh form; the later family's looks); each row that meets fmt, with fmt's text TOLD by the authors' own Lean function (tested against real Go, not proved from fmt's source: count such statements apart). THE CARD IS WHAT COUNTS. Prove the row's statement (the work); the ties are given (YtbiclelojbfnbaaGreatDoorTie.lean); close each card by the builder's one call (the guide's Derived/Test/ToyasCard.lean, 'card_holds'). Laid BY PROGRAM, IN A SANDBOX (cutbox-door.mjs). By AI agents, Wed Nov 11 2026. No macro, syntax, notation, axiom, sorry.
-/
import Derived.Test.YtbiclelojbfnbaaGreatDoorRows
import GoSem.ClaimSeven
namespace Go.Proofs.YtbiclelojbfnbaaGreatDoor
namespace Rows

/-- THE TIED CARD OF 'mailsievelaw.Parsed'. -/
def parsedCard : Claim7 := { stood := { row := parsedRow, standIns := [], harness := (true, "9ceb2eaf1a16ec9e22eeaf2f53cd7e632e19e15a0eaf49145f9bde2ade0bd6a0"), looks := true }, kinds := [], alts := [], laidByText := true, laidKinds := [.data, .data, .data, .handle], laidTests := true, laidLooks := .later }
def ParsedCardSaid : Prop := Claim7.holds Tryz.pinned (.plain (OpenSpec.ofChange parsedSpec)) parsedCard

/-- THE TIED CARD OF 'mailsievelaw.Ran'. -/
def ranCard : Claim7 := { stood := { row := ranRow, standIns := [], harness := (true, "9ceb2eaf1a16ec9e22eeaf2f53cd7e632e19e15a0eaf49145f9bde2ade0bd6a0"), looks := true }, kinds := [], alts := [], laidByText := true, laidKinds := [.data, .data, .data, .handle], laidTests := true, laidLooks := .later }
def RanCardSaid : Prop := Claim7.holds Tryz.pinned (.plain (OpenSpec.ofChange ranSpec)) ranCard

/-- THE TIED CARD OF 'mailsievelaw.Coded'. -/
def codedCard : Claim7 := { stood := { row := codedRow, standIns := [], harness := (true, "9ceb2eaf1a16ec9e22eeaf2f53cd7e632e19e15a0eaf49145f9bde2ade0bd6a0"), looks := true }, kinds := [], alts := [], laidByText := true, laidKinds := [.data, .data, .data, .handle], laidTests := true, laidLooks := .later }
def CodedCardSaid : Prop := Claim7.holds Tryz.pinned (.plain (OpenSpec.ofChange codedSpec)) codedCard

/-- THE TIED CARD OF 'mailsievelaw.Executed'. -/
def executedCard : Claim7 := { stood := { row := executedRow, standIns := [], harness := (true, "9ceb2eaf1a16ec9e22eeaf2f53cd7e632e19e15a0eaf49145f9bde2ade0bd6a0"), looks := true }, kinds := [], alts := [], laidByText := true, laidKinds := [.data, .data, .data, .handle], laidTests := true, laidLooks := .later }
def ExecutedCardSaid : Prop := Claim7.holds Tryz.pinned (.plain (OpenSpec.ofChange executedSpec)) executedCard

/-- THE TIED CARD OF 'mailsievelaw.Delivered'. -/
def deliveredCard : Claim7 := { stood := { row := deliveredRow, standIns := [], harness := (true, "9ceb2eaf1a16ec9e22eeaf2f53cd7e632e19e15a0eaf49145f9bde2ade0bd6a0"), looks := true }, kinds := [], alts := [], laidByText := true, laidKinds := [.data, .data, .data, .handle, .sentinel, .sentinel], laidTests := true, laidLooks := .later }
def DeliveredCardSaid : Prop := Claim7.holds Tryz.pinned (.plain (OpenSpec.ofChange deliveredSpec)) deliveredCard

/-- THE TIED CARD OF 'mailsievelaw.Atomic'. -/
def atomicCard : Claim7 := { stood := { row := atomicRow, standIns := [], harness := (true, "9ceb2eaf1a16ec9e22eeaf2f53cd7e632e19e15a0eaf49145f9bde2ade0bd6a0"), looks := true }, kinds := [], alts := [], laidByText := true, laidKinds := [.data, .data, .data, .handle, .sentinel, .sentinel], laidTests := true, laidLooks := .later }
def AtomicCardSaid : Prop := Claim7.holds Tryz.pinned (.plain (OpenSpec.ofChange atomicSpec)) atomicCard

/-- THE TIED CARD OF 'mailsievelaw.All'. -/
def allCard : Claim7 := { stood := { row := allRow, standIns := [], harness := (true, "9ceb2eaf1a16ec9e22eeaf2f53cd7e632e19e15a0eaf49145f9bde2ade0bd6a0"), looks := true }, kinds := [], alts := [], laidByText := true, laidKinds := [.data, .data, .data, .handle], laidTests := true, laidLooks := .later }
def AllCardSaid : Prop := Claim7.holds Tryz.pinned (.plain (OpenSpec.ofChange allSpec)) allCard

/-- THE TIED CARD OF 'mailsievekeep.Round'. -/
def roundCard : Claim7 := { stood := { row := roundRow, standIns := [], harness := (true, "9ceb2eaf1a16ec9e22eeaf2f53cd7e632e19e15a0eaf49145f9bde2ade0bd6a0"), looks := true }, kinds := [], alts := [], laidByText := true, laidKinds := [.data, .data, .data, .handle], laidTests := true, laidLooks := .later }
def RoundCardSaid : Prop := Claim7.holds Tryz.pinned (.plain (OpenSpec.ofChange roundSpec)) roundCard

/-- THE TIED CARD OF 'mailsievekeep.Spaced'. -/
def spacedCard : Claim7 := { stood := { row := spacedRow, standIns := [], harness := (true, "9ceb2eaf1a16ec9e22eeaf2f53cd7e632e19e15a0eaf49145f9bde2ade0bd6a0"), looks := true }, kinds := [], alts := [], laidByText := true, laidKinds := [.data, .data, .data, .handle], laidTests := true, laidLooks := .later }
def SpacedCardSaid : Prop := Claim7.holds Tryz.pinned (.plain (OpenSpec.ofChange spacedSpec)) spacedCard

/-- THE TIED CARD OF 'mailsievekeep.Same'. -/
def sameCard : Claim7 := { stood := { row := sameRow, standIns := [], harness := (true, "9ceb2eaf1a16ec9e22eeaf2f53cd7e632e19e15a0eaf49145f9bde2ade0bd6a0"), looks := true }, kinds := [], alts := [], laidByText := true, laidKinds := [.data, .data, .data, .handle], laidTests := true, laidLooks := .later }
def SameCardSaid : Prop := Claim7.holds Tryz.pinned (.plain (OpenSpec.ofChange sameSpec)) sameCard

/-- THE TIED CARD OF 'mailsievekeep.Turned'. -/
def turnedCard : Claim7 := { stood := { row := turnedRow, standIns := [], harness := (true, "9ceb2eaf1a16ec9e22eeaf2f53cd7e632e19e15a0eaf49145f9bde2ade0bd6a0"), looks := true }, kinds := [], alts := [], laidByText := true, laidKinds := [.data, .data, .data, .handle], laidTests := true, laidLooks := .later }
def TurnedCardSaid : Prop := Claim7.holds Tryz.pinned (.plain (OpenSpec.ofChange turnedSpec)) turnedCard

/-- THE TIED CARD OF 'mailsievekeep.Agreed'. -/
def agreedCard : Claim7 := { stood := { row := agreedRow, standIns := [], harness := (true, "9ceb2eaf1a16ec9e22eeaf2f53cd7e632e19e15a0eaf49145f9bde2ade0bd6a0"), looks := true }, kinds := [], alts := [], laidByText := true, laidKinds := [.data, .data, .data, .handle], laidTests := true, laidLooks := .later }
def AgreedCardSaid : Prop := Claim7.holds Tryz.pinned (.plain (OpenSpec.ofChange agreedSpec)) agreedCard

/-- THE SECOND FORM's CARD OF 'mailsievelaw.Parsed'. -/
def parsedUptoCard : Claim7 := { stood := { row := parsedUptoRow, standIns := [], harness := (true, "9ceb2eaf1a16ec9e22eeaf2f53cd7e632e19e15a0eaf49145f9bde2ade0bd6a0"), looks := true }, kinds := [], alts := [], laidByText := true, laidKinds := [.data, .data, .data, .handle], laidTests := true, laidLooks := .later }
def ParsedUptoCardSaid : Prop := Claim7.holds Tryz.pinned (.plain (OpenSpec.upto parsedSpec)) parsedUptoCard

/-- THE SECOND FORM's CARD OF 'mailsievelaw.Ran'. -/
def ranUptoCard : Claim7 := { stood := { row := ranUptoRow, standIns := [], harness := (true, "9ceb2eaf1a16ec9e22eeaf2f53cd7e632e19e15a0eaf49145f9bde2ade0bd6a0"), looks := true }, kinds := [], alts := [], laidByText := true, laidKinds := [.data, .data, .data, .handle], laidTests := true, laidLooks := .later }
def RanUptoCardSaid : Prop := Claim7.holds Tryz.pinned (.plain (OpenSpec.upto ranSpec)) ranUptoCard

/-- THE SECOND FORM's CARD OF 'mailsievelaw.Coded'. -/
def codedUptoCard : Claim7 := { stood := { row := codedUptoRow, standIns := [], harness := (true, "9ceb2eaf1a16ec9e22eeaf2f53cd7e632e19e15a0eaf49145f9bde2ade0bd6a0"), looks := true }, kinds := [], alts := [], laidByText := true, laidKinds := [.data, .data, .data, .handle], laidTests := true, laidLooks := .later }
def CodedUptoCardSaid : Prop := Claim7.holds Tryz.pinned (.plain (OpenSpec.upto codedSpec)) codedUptoCard

/-- THE SECOND FORM's CARD OF 'mailsievelaw.Executed'. -/
def executedUptoCard : Claim7 := { stood := { row := executedUptoRow, standIns := [], harness := (true, "9ceb2eaf1a16ec9e22eeaf2f53cd7e632e19e15a0eaf49145f9bde2ade0bd6a0"), looks := true }, kinds := [], alts := [], laidByText := true, laidKinds := [.data, .data, .data, .handle], laidTests := true, laidLooks := .later }
def ExecutedUptoCardSaid : Prop := Claim7.holds Tryz.pinned (.plain (OpenSpec.upto executedSpec)) executedUptoCard

/-- THE SECOND FORM's CARD OF 'mailsievelaw.Delivered'. -/
def deliveredUptoCard : Claim7 := { stood := { row := deliveredUptoRow, standIns := [], harness := (true, "9ceb2eaf1a16ec9e22eeaf2f53cd7e632e19e15a0eaf49145f9bde2ade0bd6a0"), looks := true }, kinds := [], alts := [], laidByText := true, laidKinds := [.data, .data, .data, .handle, .sentinel, .sentinel], laidTests := true, laidLooks := .later }
def DeliveredUptoCardSaid : Prop := Claim7.holds Tryz.pinned (.plain (OpenSpec.upto deliveredSpec)) deliveredUptoCard

/-- THE SECOND FORM's CARD OF 'mailsievelaw.Atomic'. -/
def atomicUptoCard : Claim7 := { stood := { row := atomicUptoRow, standIns := [], harness := (true, "9ceb2eaf1a16ec9e22eeaf2f53cd7e632e19e15a0eaf49145f9bde2ade0bd6a0"), looks := true }, kinds := [], alts := [], laidByText := true, laidKinds := [.data, .data, .data, .handle, .sentinel, .sentinel], laidTests := true, laidLooks := .later }
def AtomicUptoCardSaid : Prop := Claim7.holds Tryz.pinned (.plain (OpenSpec.upto atomicSpec)) atomicUptoCard

/-- THE SECOND FORM's CARD OF 'mailsievelaw.All'. -/
def allUptoCard : Claim7 := { stood := { row := allUptoRow, standIns := [], harness := (true, "9ceb2eaf1a16ec9e22eeaf2f53cd7e632e19e15a0eaf49145f9bde2ade0bd6a0"), looks := true }, kinds := [], alts := [], laidByText := true, laidKinds := [.data, .data, .data, .handle], laidTests := true, laidLooks := .later }
def AllUptoCardSaid : Prop := Claim7.holds Tryz.pinned (.plain (OpenSpec.upto allSpec)) allUptoCard

/-- THE SECOND FORM's CARD OF 'mailsievekeep.Round'. -/
def roundUptoCard : Claim7 := { stood := { row := roundUptoRow, standIns := [], harness := (true, "9ceb2eaf1a16ec9e22eeaf2f53cd7e632e19e15a0eaf49145f9bde2ade0bd6a0"), looks := true }, kinds := [], alts := [], laidByText := true, laidKinds := [.data, .data, .data, .handle], laidTests := true, laidLooks := .later }
def RoundUptoCardSaid : Prop := Claim7.holds Tryz.pinned (.plain (OpenSpec.upto roundSpec)) roundUptoCard

/-- THE SECOND FORM's CARD OF 'mailsievekeep.Spaced'. -/
def spacedUptoCard : Claim7 := { stood := { row := spacedUptoRow, standIns := [], harness := (true, "9ceb2eaf1a16ec9e22eeaf2f53cd7e632e19e15a0eaf49145f9bde2ade0bd6a0"), looks := true }, kinds := [], alts := [], laidByText := true, laidKinds := [.data, .data, .data, .handle], laidTests := true, laidLooks := .later }
def SpacedUptoCardSaid : Prop := Claim7.holds Tryz.pinned (.plain (OpenSpec.upto spacedSpec)) spacedUptoCard

/-- THE SECOND FORM's CARD OF 'mailsievekeep.Same'. -/
def sameUptoCard : Claim7 := { stood := { row := sameUptoRow, standIns := [], harness := (true, "9ceb2eaf1a16ec9e22eeaf2f53cd7e632e19e15a0eaf49145f9bde2ade0bd6a0"), looks := true }, kinds := [], alts := [], laidByText := true, laidKinds := [.data, .data, .data, .handle], laidTests := true, laidLooks := .later }
def SameUptoCardSaid : Prop := Claim7.holds Tryz.pinned (.plain (OpenSpec.upto sameSpec)) sameUptoCard

/-- THE SECOND FORM's CARD OF 'mailsievekeep.Turned'. -/
def turnedUptoCard : Claim7 := { stood := { row := turnedUptoRow, standIns := [], harness := (true, "9ceb2eaf1a16ec9e22eeaf2f53cd7e632e19e15a0eaf49145f9bde2ade0bd6a0"), looks := true }, kinds := [], alts := [], laidByText := true, laidKinds := [.data, .data, .data, .handle], laidTests := true, laidLooks := .later }
def TurnedUptoCardSaid : Prop := Claim7.holds Tryz.pinned (.plain (OpenSpec.upto turnedSpec)) turnedUptoCard

/-- THE SECOND FORM's CARD OF 'mailsievekeep.Agreed'. -/
def agreedUptoCard : Claim7 := { stood := { row := agreedUptoRow, standIns := [], harness := (true, "9ceb2eaf1a16ec9e22eeaf2f53cd7e632e19e15a0eaf49145f9bde2ade0bd6a0"), looks := true }, kinds := [], alts := [], laidByText := true, laidKinds := [.data, .data, .data, .handle], laidTests := true, laidLooks := .later }
def AgreedUptoCardSaid : Prop := Claim7.holds Tryz.pinned (.plain (OpenSpec.upto agreedSpec)) agreedUptoCard
end Rows
end Go.Proofs.YtbiclelojbfnbaaGreatDoor
