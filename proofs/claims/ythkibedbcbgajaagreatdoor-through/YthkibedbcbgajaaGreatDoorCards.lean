/-
  DERIVED. GIVEN WITH THE SEED: THE CARDS: each row of YthkibedbcbgajaaGreatDoorRows.lean that lists a variable, with what it lists TIED to the program's text (the seventh form; the later family's looks); each row that meets fmt, with fmt's text TOLD by the authors' own Lean function (tested against real Go, not proved from fmt's source: count such statements apart). THE CARD IS WHAT COUNTS. Prove the row's statement (the work); the ties are given (YthkibedbcbgajaaGreatDoorTie.lean); close each card by the builder's one call (the guide's Derived/Test/ToyasCard.lean, 'card_holds'). Laid BY PROGRAM, IN A SANDBOX (cutbox-door.mjs). By AI agents, Wed Nov 11 2026. No macro, syntax, notation, axiom, sorry.
-/
import Derived.Test.YthkibedbcbgajaaGreatDoorRows
import GoSem.ClaimSeven
namespace Go.Proofs.YthkibedbcbgajaaGreatDoor
namespace Rows

/-- THE TIED CARD OF 'mailsievekeep.Globbed'. -/
def globbedCard : Claim7 := { stood := { row := globbedRow, standIns := [], harness := (true, "451a72b5529391aa752af144814bfefe244a412250c476e7ee0a89e091554ba3"), looks := true }, kinds := [], alts := [], laidByText := true, laidKinds := [.data, .data, .data, .handle], laidTests := true, laidLooks := .later }
def GlobbedCardSaid : Prop := Claim7.holds Tryz.pinned (.plain (OpenSpec.ofChange globbedSpec)) globbedCard

/-- THE TIED CARD OF 'mailsievekeep.Twice'. -/
def twiceCard : Claim7 := { stood := { row := twiceRow, standIns := [], harness := (true, "451a72b5529391aa752af144814bfefe244a412250c476e7ee0a89e091554ba3"), looks := true }, kinds := [], alts := [], laidByText := true, laidKinds := [.data, .data, .data, .handle, .sentinel, .sentinel], laidTests := true, laidLooks := .later }
def TwiceCardSaid : Prop := Claim7.holds Tryz.pinned (.plain (OpenSpec.ofChange twiceSpec)) twiceCard

/-- THE TIED CARD OF 'mailsievekeep.Through'. -/
def throughCard : Claim7 := { stood := { row := throughRow, standIns := [], harness := (true, "451a72b5529391aa752af144814bfefe244a412250c476e7ee0a89e091554ba3"), looks := true }, kinds := [], alts := [], laidByText := true, laidKinds := [.data, .data, .data, .handle, .sentinel, .sentinel], laidTests := true, laidLooks := .later }
def ThroughCardSaid : Prop := Claim7.holds Tryz.pinned (.plain (OpenSpec.ofChange throughSpec)) throughCard

/-- THE SECOND FORM's CARD OF 'mailsievekeep.Globbed'. -/
def globbedUptoCard : Claim7 := { stood := { row := globbedUptoRow, standIns := [], harness := (true, "451a72b5529391aa752af144814bfefe244a412250c476e7ee0a89e091554ba3"), looks := true }, kinds := [], alts := [], laidByText := true, laidKinds := [.data, .data, .data, .handle], laidTests := true, laidLooks := .later }
def GlobbedUptoCardSaid : Prop := Claim7.holds Tryz.pinned (.plain (OpenSpec.upto globbedSpec)) globbedUptoCard

/-- THE SECOND FORM's CARD OF 'mailsievekeep.Twice'. -/
def twiceUptoCard : Claim7 := { stood := { row := twiceUptoRow, standIns := [], harness := (true, "451a72b5529391aa752af144814bfefe244a412250c476e7ee0a89e091554ba3"), looks := true }, kinds := [], alts := [], laidByText := true, laidKinds := [.data, .data, .data, .handle, .sentinel, .sentinel], laidTests := true, laidLooks := .later }
def TwiceUptoCardSaid : Prop := Claim7.holds Tryz.pinned (.plain (OpenSpec.upto twiceSpec)) twiceUptoCard

/-- THE SECOND FORM's CARD OF 'mailsievekeep.Through'. -/
def throughUptoCard : Claim7 := { stood := { row := throughUptoRow, standIns := [], harness := (true, "451a72b5529391aa752af144814bfefe244a412250c476e7ee0a89e091554ba3"), looks := true }, kinds := [], alts := [], laidByText := true, laidKinds := [.data, .data, .data, .handle, .sentinel, .sentinel], laidTests := true, laidLooks := .later }
def ThroughUptoCardSaid : Prop := Claim7.holds Tryz.pinned (.plain (OpenSpec.upto throughSpec)) throughUptoCard
end Rows
end Go.Proofs.YthkibedbcbgajaaGreatDoor
