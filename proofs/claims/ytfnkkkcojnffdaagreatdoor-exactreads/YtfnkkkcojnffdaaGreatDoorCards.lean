/-
  DERIVED. GIVEN WITH THE SEED: THE CARDS: each row of YtfnkkkcojnffdaaGreatDoorRows.lean that lists a variable, with what it lists TIED to the program's text (the seventh form; the later family's looks); each row that meets fmt, with fmt's text TOLD by the authors' own Lean function (tested against real Go, not proved from fmt's source: count such statements apart). THE CARD IS WHAT COUNTS. Prove the row's statement (the work); the ties are given (YtfnkkkcojnffdaaGreatDoorTie.lean); close each card by the builder's one call (the guide's Derived/Test/ToyasCard.lean, 'card_holds'). Laid BY PROGRAM, IN A SANDBOX (cutbox-door.mjs). By AI agents, Wed Nov 11 2026. No macro, syntax, notation, axiom, sorry.
-/
import Derived.Test.YtfnkkkcojnffdaaGreatDoorRows
import GoSem.ClaimSeven
namespace Go.Proofs.YtfnkkkcojnffdaaGreatDoor
namespace Rows

/-- THE TIED CARD OF 'enclosurelaw.ExactReckons'. -/
def exactReckonsCard : Claim7 := { stood := { row := exactReckonsRow, standIns := [], harness := (true, "2a46541c50810abb18b949530e29974ee0b2bb7e48d765fe5fdf4117dc6e04e5"), looks := true }, kinds := [], alts := [], laidByText := true, laidKinds := [.data, .data, .data], laidTests := true, laidLooks := .later }
def ExactReckonsCardSaid : Prop := Claim7.holds Tryz.pinned (.plain (OpenSpec.ofChange exactReckonsSpec)) exactReckonsCard

/-- THE TIED CARD OF 'enclosurelaw.ExactReads'. -/
def exactReadsCard : Claim7 := { stood := { row := exactReadsRow, standIns := [], harness := (true, "2a46541c50810abb18b949530e29974ee0b2bb7e48d765fe5fdf4117dc6e04e5"), looks := true }, kinds := [], alts := [], laidByText := true, laidKinds := [.data, .data, .data, .sentinel, .sentinel], laidTests := true, laidLooks := .later }
def ExactReadsCardSaid : Prop := Claim7.holds Tryz.pinned (.plain (OpenSpec.ofChange exactReadsSpec)) exactReadsCard

/-- THE SECOND FORM's CARD OF 'enclosurelaw.ExactReckons'. -/
def exactReckonsUptoCard : Claim7 := { stood := { row := exactReckonsUptoRow, standIns := [], harness := (true, "2a46541c50810abb18b949530e29974ee0b2bb7e48d765fe5fdf4117dc6e04e5"), looks := true }, kinds := [], alts := [], laidByText := true, laidKinds := [.data, .data, .data], laidTests := true, laidLooks := .later }
def ExactReckonsUptoCardSaid : Prop := Claim7.holds Tryz.pinned (.plain (OpenSpec.upto exactReckonsSpec)) exactReckonsUptoCard

/-- THE SECOND FORM's CARD OF 'enclosurelaw.ExactReads'. -/
def exactReadsUptoCard : Claim7 := { stood := { row := exactReadsUptoRow, standIns := [], harness := (true, "2a46541c50810abb18b949530e29974ee0b2bb7e48d765fe5fdf4117dc6e04e5"), looks := true }, kinds := [], alts := [], laidByText := true, laidKinds := [.data, .data, .data, .sentinel, .sentinel], laidTests := true, laidLooks := .later }
def ExactReadsUptoCardSaid : Prop := Claim7.holds Tryz.pinned (.plain (OpenSpec.upto exactReadsSpec)) exactReadsUptoCard
end Rows
end Go.Proofs.YtfnkkkcojnffdaaGreatDoor
