/-
  DERIVED. GIVEN WITH THE SEED: THE CARDS: each row of YtohcneeihdkfgaaGreatDoorRows.lean that lists a variable, with what it lists TIED to the program's text (the seventh form; the later family's looks); each row that meets fmt, with fmt's text TOLD by the authors' own Lean function (tested against real Go, not proved from fmt's source: count such statements apart). THE CARD IS WHAT COUNTS. Prove the row's statement (the work); the ties are given (YtohcneeihdkfgaaGreatDoorTie.lean); close each card by the builder's one call (the guide's Derived/Test/ToyasCard.lean, 'card_holds'). Laid BY PROGRAM, IN A SANDBOX (cutbox-door.mjs). By AI agents, Wed Nov 11 2026. No macro, syntax, notation, axiom, sorry.
-/
import Derived.Test.YtohcneeihdkfgaaGreatDoorRows
import GoSem.ClaimSeven
namespace Go.Proofs.YtohcneeihdkfgaaGreatDoor
namespace Rows

/-- THE TIED CARD OF 'enclosurelaw.ExactReckons'. -/
def exactReckonsCard : Claim7 := { stood := { row := exactReckonsRow, standIns := [], harness := (true, "c107ef189a638c6f9bef231c31bb22fa0efb3f3d7cb59be401032a3bdbea1c9a"), looks := true }, kinds := [], alts := [], laidByText := true, laidKinds := [.data, .data, .data], laidTests := true, laidLooks := .later }
def ExactReckonsCardSaid : Prop := Claim7.holds Tryz.pinned (.plain (OpenSpec.ofChange exactReckonsSpec)) exactReckonsCard

/-- THE TIED CARD OF 'enclosurelaw.ExactReads'. -/
def exactReadsCard : Claim7 := { stood := { row := exactReadsRow, standIns := [], harness := (true, "c107ef189a638c6f9bef231c31bb22fa0efb3f3d7cb59be401032a3bdbea1c9a"), looks := true }, kinds := [], alts := [], laidByText := true, laidKinds := [.data, .data, .data, .sentinel, .sentinel], laidTests := true, laidLooks := .later }
def ExactReadsCardSaid : Prop := Claim7.holds Tryz.pinned (.plain (OpenSpec.ofChange exactReadsSpec)) exactReadsCard

/-- THE TIED CARD OF 'enclosurelaw.SpanReckons'. -/
def spanReckonsCard : Claim7 := { stood := { row := spanReckonsRow, standIns := [], harness := (true, "c107ef189a638c6f9bef231c31bb22fa0efb3f3d7cb59be401032a3bdbea1c9a"), looks := true }, kinds := [], alts := [], laidByText := true, laidKinds := [.data], laidTests := true, laidLooks := .later }
def SpanReckonsCardSaid : Prop := Claim7.holds Tryz.pinned (.plain (OpenSpec.ofChange spanReckonsSpec)) spanReckonsCard

/-- THE SECOND FORM's CARD OF 'enclosurelaw.ExactReckons'. -/
def exactReckonsUptoCard : Claim7 := { stood := { row := exactReckonsUptoRow, standIns := [], harness := (true, "c107ef189a638c6f9bef231c31bb22fa0efb3f3d7cb59be401032a3bdbea1c9a"), looks := true }, kinds := [], alts := [], laidByText := true, laidKinds := [.data, .data, .data], laidTests := true, laidLooks := .later }
def ExactReckonsUptoCardSaid : Prop := Claim7.holds Tryz.pinned (.plain (OpenSpec.upto exactReckonsSpec)) exactReckonsUptoCard

/-- THE SECOND FORM's CARD OF 'enclosurelaw.ExactReads'. -/
def exactReadsUptoCard : Claim7 := { stood := { row := exactReadsUptoRow, standIns := [], harness := (true, "c107ef189a638c6f9bef231c31bb22fa0efb3f3d7cb59be401032a3bdbea1c9a"), looks := true }, kinds := [], alts := [], laidByText := true, laidKinds := [.data, .data, .data, .sentinel, .sentinel], laidTests := true, laidLooks := .later }
def ExactReadsUptoCardSaid : Prop := Claim7.holds Tryz.pinned (.plain (OpenSpec.upto exactReadsSpec)) exactReadsUptoCard

/-- THE SECOND FORM's CARD OF 'enclosurelaw.SpanReckons'. -/
def spanReckonsUptoCard : Claim7 := { stood := { row := spanReckonsUptoRow, standIns := [], harness := (true, "c107ef189a638c6f9bef231c31bb22fa0efb3f3d7cb59be401032a3bdbea1c9a"), looks := true }, kinds := [], alts := [], laidByText := true, laidKinds := [.data], laidTests := true, laidLooks := .later }
def SpanReckonsUptoCardSaid : Prop := Claim7.holds Tryz.pinned (.plain (OpenSpec.upto spanReckonsSpec)) spanReckonsUptoCard
end Rows
end Go.Proofs.YtohcneeihdkfgaaGreatDoor
