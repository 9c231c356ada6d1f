/-
  DERIVED. GIVEN WITH THE SEED: THE CARDS: each row of YtahfkkkfpcdjaabGreatDoorRows.lean that lists a variable, with what it lists TIED to the program's text (the seventh form; the later family's looks); each row that meets fmt, with fmt's text TOLD by the authors' own Lean function (tested against real Go, not proved from fmt's source: count such statements apart). THE CARD IS WHAT COUNTS. Prove the row's statement (the work); the ties are given (YtahfkkkfpcdjaabGreatDoorTie.lean); close each card by the builder's one call (the guide's Derived/Test/ToyasCard.lean, 'card_holds'). Laid BY PROGRAM, IN A SANDBOX (cutbox-door.mjs). By AI agents, Wed Nov 11 2026. No macro, syntax, notation, axiom, sorry.
-/
import Derived.Test.YtahfkkkfpcdjaabGreatDoorRows
import GoSem.ClaimSeven
namespace Go.Proofs.YtahfkkkfpcdjaabGreatDoor
namespace Rows

/-- THE TIED CARD OF 'enclosurelaw.ExactReads'. -/
def exactReadsCard : Claim7 := { stood := { row := exactReadsRow, standIns := [], harness := (true, "3ec2b6f9b5370ab7f63427482b26d6fb29dd192f61c8f1a8645ea3a656a4e1aa"), looks := true }, kinds := [], alts := [], laidByText := true, laidKinds := [.data, .data, .data, .sentinel, .sentinel], laidTests := true, laidLooks := .later }
def ExactReadsCardSaid : Prop := Claim7.holds Tryz.pinned (.plain (OpenSpec.ofChange exactReadsSpec)) exactReadsCard

/-- THE TIED CARD OF 'enclosurelaw.ExactRounds'. -/
def exactRoundsCard : Claim7 := { stood := { row := exactRoundsRow, standIns := [], harness := (true, "3ec2b6f9b5370ab7f63427482b26d6fb29dd192f61c8f1a8645ea3a656a4e1aa"), looks := true }, kinds := [], alts := [], laidByText := true, laidKinds := [.data, .data, .data], laidTests := true, laidLooks := .later }
def ExactRoundsCardSaid : Prop := Claim7.holds Tryz.pinned (.plain (OpenSpec.ofChange exactRoundsSpec)) exactRoundsCard

/-- THE TIED CARD OF 'enclosurelaw.ExactNear'. -/
def exactNearCard : Claim7 := { stood := { row := exactNearRow, standIns := [], harness := (true, "3ec2b6f9b5370ab7f63427482b26d6fb29dd192f61c8f1a8645ea3a656a4e1aa"), looks := true }, kinds := [], alts := [], laidByText := true, laidKinds := [.data, .data, .data], laidTests := true, laidLooks := .later }
def ExactNearCardSaid : Prop := Claim7.holds Tryz.pinned (.plain (OpenSpec.ofChange exactNearSpec)) exactNearCard

/-- THE TIED CARD OF 'enclosurelaw.DecWrites'. -/
def decWritesCard : Claim7 := { stood := { row := decWritesRow, standIns := [], harness := (true, "3ec2b6f9b5370ab7f63427482b26d6fb29dd192f61c8f1a8645ea3a656a4e1aa"), looks := true }, kinds := [], alts := [], laidByText := true, laidKinds := [.data, .data, .data, .data, .sentinel, .sentinel, .pinned], laidTests := true, laidLooks := .later }
def DecWritesCardSaid : Prop := Claim7.holds Tryz.pinned (.plain (OpenSpec.ofChange decWritesSpec)) decWritesCard

/-- THE TIED CARD OF 'enclosurelaw.DecReads'. -/
def decReadsCard : Claim7 := { stood := { row := decReadsRow, standIns := [], harness := (true, "3ec2b6f9b5370ab7f63427482b26d6fb29dd192f61c8f1a8645ea3a656a4e1aa"), looks := true }, kinds := [], alts := [], laidByText := true, laidKinds := [.data, .data, .widerDeep, .widerDeep, .data, .data, .data, .data, .data, .data, .sentinel, .sentinel, .pinned, .pinned, .pinned], laidTests := true, laidLooks := .later }
def DecReadsCardSaid : Prop := Claim7.holds Tryz.pinned (.plain (OpenSpec.ofChange decReadsSpec)) decReadsCard

/-- THE TIED CARD OF 'enclosurelaw.DecBack'. -/
def decBackCard : Claim7 := { stood := { row := decBackRow, standIns := [], harness := (true, "3ec2b6f9b5370ab7f63427482b26d6fb29dd192f61c8f1a8645ea3a656a4e1aa"), looks := true }, kinds := [], alts := [], laidByText := true, laidKinds := [.data, .data, .data, .data, .sentinel, .sentinel, .pinned], laidTests := true, laidLooks := .later }
def DecBackCardSaid : Prop := Claim7.holds Tryz.pinned (.plain (OpenSpec.ofChange decBackSpec)) decBackCard

/-- THE SECOND FORM's CARD OF 'enclosurelaw.ExactReads'. -/
def exactReadsUptoCard : Claim7 := { stood := { row := exactReadsUptoRow, standIns := [], harness := (true, "3ec2b6f9b5370ab7f63427482b26d6fb29dd192f61c8f1a8645ea3a656a4e1aa"), looks := true }, kinds := [], alts := [], laidByText := true, laidKinds := [.data, .data, .data, .sentinel, .sentinel], laidTests := true, laidLooks := .later }
def ExactReadsUptoCardSaid : Prop := Claim7.holds Tryz.pinned (.plain (OpenSpec.upto exactReadsSpec)) exactReadsUptoCard

/-- THE SECOND FORM's CARD OF 'enclosurelaw.ExactRounds'. -/
def exactRoundsUptoCard : Claim7 := { stood := { row := exactRoundsUptoRow, standIns := [], harness := (true, "3ec2b6f9b5370ab7f63427482b26d6fb29dd192f61c8f1a8645ea3a656a4e1aa"), looks := true }, kinds := [], alts := [], laidByText := true, laidKinds := [.data, .data, .data], laidTests := true, laidLooks := .later }
def ExactRoundsUptoCardSaid : Prop := Claim7.holds Tryz.pinned (.plain (OpenSpec.upto exactRoundsSpec)) exactRoundsUptoCard

/-- THE SECOND FORM's CARD OF 'enclosurelaw.ExactNear'. -/
def exactNearUptoCard : Claim7 := { stood := { row := exactNearUptoRow, standIns := [], harness := (true, "3ec2b6f9b5370ab7f63427482b26d6fb29dd192f61c8f1a8645ea3a656a4e1aa"), looks := true }, kinds := [], alts := [], laidByText := true, laidKinds := [.data, .data, .data], laidTests := true, laidLooks := .later }
def ExactNearUptoCardSaid : Prop := Claim7.holds Tryz.pinned (.plain (OpenSpec.upto exactNearSpec)) exactNearUptoCard

/-- THE SECOND FORM's CARD OF 'enclosurelaw.DecWrites'. -/
def decWritesUptoCard : Claim7 := { stood := { row := decWritesUptoRow, standIns := [], harness := (true, "3ec2b6f9b5370ab7f63427482b26d6fb29dd192f61c8f1a8645ea3a656a4e1aa"), looks := true }, kinds := [], alts := [], laidByText := true, laidKinds := [.data, .data, .data, .data, .sentinel, .sentinel, .pinned], laidTests := true, laidLooks := .later }
def DecWritesUptoCardSaid : Prop := Claim7.holds Tryz.pinned (.plain (OpenSpec.upto decWritesSpec)) decWritesUptoCard

/-- THE SECOND FORM's CARD OF 'enclosurelaw.DecReads'. -/
def decReadsUptoCard : Claim7 := { stood := { row := decReadsUptoRow, standIns := [], harness := (true, "3ec2b6f9b5370ab7f63427482b26d6fb29dd192f61c8f1a8645ea3a656a4e1aa"), looks := true }, kinds := [], alts := [], laidByText := true, laidKinds := [.data, .data, .widerDeep, .widerDeep, .data, .data, .data, .data, .data, .data, .sentinel, .sentinel, .pinned, .pinned, .pinned], laidTests := true, laidLooks := .later }
def DecReadsUptoCardSaid : Prop := Claim7.holds Tryz.pinned (.plain (OpenSpec.upto decReadsSpec)) decReadsUptoCard

/-- THE SECOND FORM's CARD OF 'enclosurelaw.DecBack'. -/
def decBackUptoCard : Claim7 := { stood := { row := decBackUptoRow, standIns := [], harness := (true, "3ec2b6f9b5370ab7f63427482b26d6fb29dd192f61c8f1a8645ea3a656a4e1aa"), looks := true }, kinds := [], alts := [], laidByText := true, laidKinds := [.data, .data, .data, .data, .sentinel, .sentinel, .pinned], laidTests := true, laidLooks := .later }
def DecBackUptoCardSaid : Prop := Claim7.holds Tryz.pinned (.plain (OpenSpec.upto decBackSpec)) decBackUptoCard
end Rows
end Go.Proofs.YtahfkkkfpcdjaabGreatDoor
