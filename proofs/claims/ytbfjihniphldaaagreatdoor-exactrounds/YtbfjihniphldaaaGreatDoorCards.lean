/-
  DERIVED. GIVEN WITH THE SEED: THE CARDS: each row of YtbfjihniphldaaaGreatDoorRows.lean that lists a variable, with what it lists TIED to the program's text (the seventh form; the later family's looks); each row that meets fmt, with fmt's text TOLD by the authors' own Lean function (tested against real Go, not proved from fmt's source: count such statements apart). THE CARD IS WHAT COUNTS. Prove the row's statement (the work); the ties are given (YtbfjihniphldaaaGreatDoorTie.lean); close each card by the builder's one call (the guide's Derived/Test/ToyasCard.lean, 'card_holds'). Laid BY PROGRAM, IN A SANDBOX (cutbox-door.mjs). By AI agents, Wed Nov 11 2026. No macro, syntax, notation, axiom, sorry.
-/
import Derived.Test.YtbfjihniphldaaaGreatDoorRows
import GoSem.ClaimSeven
namespace Go.Proofs.YtbfjihniphldaaaGreatDoor
namespace Rows

/-- THE TIED CARD OF 'enclosurelaw.ExactRounds'. -/
def exactRoundsCard : Claim7 := { stood := { row := exactRoundsRow, standIns := [], harness := (true, "f127e7a18862c4548f6057af62051a182cef42268ca5c0763eb5dc4940502298"), looks := false }, kinds := [], alts := [], laidByText := true, laidKinds := [.data, .data, .data], laidTests := true, laidLooks := .later }
def ExactRoundsCardSaid : Prop := Claim7.holds Tryz.pinned (.plain (OpenSpec.ofChange exactRoundsSpec)) exactRoundsCard

/-- THE TIED CARD OF 'enclosurelaw.SpanReckons'. -/
def spanReckonsCard : Claim7 := { stood := { row := spanReckonsRow, standIns := [], harness := (true, "f127e7a18862c4548f6057af62051a182cef42268ca5c0763eb5dc4940502298"), looks := false }, kinds := [], alts := [], laidByText := true, laidKinds := [.data], laidTests := true, laidLooks := .later }
def SpanReckonsCardSaid : Prop := Claim7.holds Tryz.pinned (.plain (OpenSpec.ofChange spanReckonsSpec)) spanReckonsCard

/-- THE SECOND FORM's CARD OF 'enclosurelaw.ExactRounds'. -/
def exactRoundsUptoCard : Claim7 := { stood := { row := exactRoundsUptoRow, standIns := [], harness := (true, "f127e7a18862c4548f6057af62051a182cef42268ca5c0763eb5dc4940502298"), looks := false }, kinds := [], alts := [], laidByText := true, laidKinds := [.data, .data, .data], laidTests := true, laidLooks := .later }
def ExactRoundsUptoCardSaid : Prop := Claim7.holds Tryz.pinned (.plain (OpenSpec.upto exactRoundsSpec)) exactRoundsUptoCard

/-- THE SECOND FORM's CARD OF 'enclosurelaw.SpanReckons'. -/
def spanReckonsUptoCard : Claim7 := { stood := { row := spanReckonsUptoRow, standIns := [], harness := (true, "f127e7a18862c4548f6057af62051a182cef42268ca5c0763eb5dc4940502298"), looks := false }, kinds := [], alts := [], laidByText := true, laidKinds := [.data], laidTests := true, laidLooks := .later }
def SpanReckonsUptoCardSaid : Prop := Claim7.holds Tryz.pinned (.plain (OpenSpec.upto spanReckonsSpec)) spanReckonsUptoCard
end Rows
end Go.Proofs.YtbfjihniphldaaaGreatDoor
