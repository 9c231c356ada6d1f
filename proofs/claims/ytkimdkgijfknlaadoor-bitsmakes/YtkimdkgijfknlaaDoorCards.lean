/-
  DERIVED. GIVEN WITH THE SEED: THE CARDS: each row of YtkimdkgijfknlaaDoorRows.lean that lists a variable, with what it lists TIED to the program's text (the seventh form; the later family's looks); each row that meets fmt, with fmt's text TOLD by the authors' own Lean function (tested against real Go, not proved from fmt's source: count such statements apart). THE CARD IS WHAT COUNTS. Prove the row's statement (the work); the ties are given (YtkimdkgijfknlaaDoorTie.lean); close each card by the builder's one call (the guide's Derived/Test/ToyasCard.lean, 'card_holds'). Laid BY PROGRAM, IN A SANDBOX (cutbox-door.mjs). By AI agents, Wed Nov 11 2026. No macro, syntax, notation, axiom, sorry.
-/
import Derived.Test.YtkimdkgijfknlaaDoorRows
import GoSem.ClaimSeven
namespace Go.Proofs.YtkimdkgijfknlaaDoor
namespace Rows

/-- THE TIED CARD OF 'enclosurelaw.BitsParts'. -/
def bitsPartsCard : Claim7 := { stood := { row := bitsPartsRow, standIns := [], harness := (true, "9c7f7798f71882d293601c5190ed250276b5c32bfd79e53d37f820203fd80e0a"), looks := false }, kinds := [], alts := [], laidByText := true, laidKinds := [.data], laidTests := true, laidLooks := .later }
def BitsPartsCardSaid : Prop := Claim7.holds Tryd.pinned (.plain (OpenSpec.ofChange bitsPartsSpec)) bitsPartsCard

/-- THE TIED CARD OF 'enclosurelaw.BitsMakes'. -/
def bitsMakesCard : Claim7 := { stood := { row := bitsMakesRow, standIns := [], harness := (true, "9c7f7798f71882d293601c5190ed250276b5c32bfd79e53d37f820203fd80e0a"), looks := false }, kinds := [], alts := [], laidByText := true, laidKinds := [.data], laidTests := true, laidLooks := .later }
def BitsMakesCardSaid : Prop := Claim7.holds Tryd.pinned (.plain (OpenSpec.ofChange bitsMakesSpec)) bitsMakesCard

/-- THE TIED CARD OF 'enclosurelaw.BitsNeighbours'. -/
def bitsNeighboursCard : Claim7 := { stood := { row := bitsNeighboursRow, standIns := [], harness := (true, "9c7f7798f71882d293601c5190ed250276b5c32bfd79e53d37f820203fd80e0a"), looks := false }, kinds := [], alts := [], laidByText := true, laidKinds := [.data], laidTests := true, laidLooks := .later }
def BitsNeighboursCardSaid : Prop := Claim7.holds Tryd.pinned (.plain (OpenSpec.ofChange bitsNeighboursSpec)) bitsNeighboursCard

/-- THE SECOND FORM's CARD OF 'enclosurelaw.BitsParts'. -/
def bitsPartsUptoCard : Claim7 := { stood := { row := bitsPartsUptoRow, standIns := [], harness := (true, "9c7f7798f71882d293601c5190ed250276b5c32bfd79e53d37f820203fd80e0a"), looks := false }, kinds := [], alts := [], laidByText := true, laidKinds := [.data], laidTests := true, laidLooks := .later }
def BitsPartsUptoCardSaid : Prop := Claim7.holds Tryd.pinned (.plain (OpenSpec.upto bitsPartsSpec)) bitsPartsUptoCard

/-- THE SECOND FORM's CARD OF 'enclosurelaw.BitsMakes'. -/
def bitsMakesUptoCard : Claim7 := { stood := { row := bitsMakesUptoRow, standIns := [], harness := (true, "9c7f7798f71882d293601c5190ed250276b5c32bfd79e53d37f820203fd80e0a"), looks := false }, kinds := [], alts := [], laidByText := true, laidKinds := [.data], laidTests := true, laidLooks := .later }
def BitsMakesUptoCardSaid : Prop := Claim7.holds Tryd.pinned (.plain (OpenSpec.upto bitsMakesSpec)) bitsMakesUptoCard

/-- THE SECOND FORM's CARD OF 'enclosurelaw.BitsNeighbours'. -/
def bitsNeighboursUptoCard : Claim7 := { stood := { row := bitsNeighboursUptoRow, standIns := [], harness := (true, "9c7f7798f71882d293601c5190ed250276b5c32bfd79e53d37f820203fd80e0a"), looks := false }, kinds := [], alts := [], laidByText := true, laidKinds := [.data], laidTests := true, laidLooks := .later }
def BitsNeighboursUptoCardSaid : Prop := Claim7.holds Tryd.pinned (.plain (OpenSpec.upto bitsNeighboursSpec)) bitsNeighboursUptoCard
end Rows
end Go.Proofs.YtkimdkgijfknlaaDoor
