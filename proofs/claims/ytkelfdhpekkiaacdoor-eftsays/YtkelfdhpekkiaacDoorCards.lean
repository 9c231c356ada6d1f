/-
  DERIVED. GIVEN WITH THE SEED: THE CARDS: each row of YtkelfdhpekkiaacDoorRows.lean that lists a variable, with what it lists TIED to the program's text (the seventh form; the later family's looks); each row that meets fmt, with fmt's text TOLD by the authors' own Lean function (tested against real Go, not proved from fmt's source: count such statements apart). THE CARD IS WHAT COUNTS. Prove the row's statement (the work); the ties are given (YtkelfdhpekkiaacDoorTie.lean); close each card by the builder's one call (the guide's Derived/Test/ToyasCard.lean, 'card_holds'). Laid BY PROGRAM, IN A SANDBOX (cutbox-door.mjs). By AI agents, Wed Nov 11 2026. No macro, syntax, notation, axiom, sorry.
-/
import Derived.Test.YtkelfdhpekkiaacDoorRows
import GoSem.ClaimSeven
namespace Go.Proofs.YtkelfdhpekkiaacDoor
namespace Rows

/-- THE TIED CARD OF 'enclosurelaw.EftSays'. -/
def eftSaysCard : Claim7 := { stood := { row := eftSaysRow, standIns := [], harness := (true, "e25f700d0a3b93faff4aeda0d2cb980929c0f0e24d475c79d83ea1f9b274bddd"), looks := false }, kinds := [], alts := [], laidByText := true, laidKinds := [.data], laidTests := true, laidLooks := .later }
def EftSaysCardSaid : Prop := Claim7.holds Tryd.pinned (.plain (OpenSpec.ofChange eftSaysSpec)) eftSaysCard

/-- THE TIED CARD OF 'enclosurelaw.EftFused'. -/
def eftFusedCard : Claim7 := { stood := { row := eftFusedRow, standIns := [], harness := (true, "e25f700d0a3b93faff4aeda0d2cb980929c0f0e24d475c79d83ea1f9b274bddd"), looks := false }, kinds := [], alts := [], laidByText := true, laidKinds := [.data], laidTests := true, laidLooks := .later }
def EftFusedCardSaid : Prop := Claim7.holds Tryd.pinned (.plain (OpenSpec.ofChange eftFusedSpec)) eftFusedCard

/-- THE SECOND FORM's CARD OF 'enclosurelaw.EftSays'. -/
def eftSaysUptoCard : Claim7 := { stood := { row := eftSaysUptoRow, standIns := [], harness := (true, "e25f700d0a3b93faff4aeda0d2cb980929c0f0e24d475c79d83ea1f9b274bddd"), looks := false }, kinds := [], alts := [], laidByText := true, laidKinds := [.data], laidTests := true, laidLooks := .later }
def EftSaysUptoCardSaid : Prop := Claim7.holds Tryd.pinned (.plain (OpenSpec.upto eftSaysSpec)) eftSaysUptoCard

/-- THE SECOND FORM's CARD OF 'enclosurelaw.EftFused'. -/
def eftFusedUptoCard : Claim7 := { stood := { row := eftFusedUptoRow, standIns := [], harness := (true, "e25f700d0a3b93faff4aeda0d2cb980929c0f0e24d475c79d83ea1f9b274bddd"), looks := false }, kinds := [], alts := [], laidByText := true, laidKinds := [.data], laidTests := true, laidLooks := .later }
def EftFusedUptoCardSaid : Prop := Claim7.holds Tryd.pinned (.plain (OpenSpec.upto eftFusedSpec)) eftFusedUptoCard
end Rows
end Go.Proofs.YtkelfdhpekkiaacDoor
