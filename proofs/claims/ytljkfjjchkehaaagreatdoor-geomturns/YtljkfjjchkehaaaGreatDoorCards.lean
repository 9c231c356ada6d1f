/-
  DERIVED. GIVEN WITH THE SEED: THE CARDS: each row of YtljkfjjchkehaaaGreatDoorRows.lean that lists a variable, with what it lists TIED to the program's text (the seventh form; the later family's looks); each row that meets fmt, with fmt's text TOLD by the authors' own Lean function (tested against real Go, not proved from fmt's source: count such statements apart). THE CARD IS WHAT COUNTS. Prove the row's statement (the work); the ties are given (YtljkfjjchkehaaaGreatDoorTie.lean); close each card by the builder's one call (the guide's Derived/Test/ToyasCard.lean, 'card_holds'). Laid BY PROGRAM, IN A SANDBOX (cutbox-door.mjs). By AI agents, Wed Nov 11 2026. No macro, syntax, notation, axiom, sorry.
-/
import Derived.Test.YtljkfjjchkehaaaGreatDoorRows
import GoSem.ClaimSeven
namespace Go.Proofs.YtljkfjjchkehaaaGreatDoor
namespace Rows

/-- THE TIED CARD OF 'enclosurelaw.ExpanTells'. -/
def expanTellsCard : Claim7 := { stood := { row := expanTellsRow, standIns := [], harness := (true, "01e6a0a61c94c98b66e6ebae5047ddecef301d91d700c63fca41a95586bfc9d8"), looks := false }, kinds := [], alts := [], laidByText := true, laidKinds := [.data], laidTests := true, laidLooks := .later }
def ExpanTellsCardSaid : Prop := Claim7.holds Tryz.pinned (.plain (OpenSpec.ofChange expanTellsSpec)) expanTellsCard

/-- THE TIED CARD OF 'enclosurelaw.ExpanPairs'. -/
def expanPairsCard : Claim7 := { stood := { row := expanPairsRow, standIns := [], harness := (true, "01e6a0a61c94c98b66e6ebae5047ddecef301d91d700c63fca41a95586bfc9d8"), looks := false }, kinds := [], alts := [], laidByText := true, laidKinds := [.data], laidTests := true, laidLooks := .later }
def ExpanPairsCardSaid : Prop := Claim7.holds Tryz.pinned (.plain (OpenSpec.ofChange expanPairsSpec)) expanPairsCard

/-- THE TIED CARD OF 'enclosurelaw.GeomTurns'. -/
def geomTurnsCard : Claim7 := { stood := { row := geomTurnsRow, standIns := [], harness := (true, "01e6a0a61c94c98b66e6ebae5047ddecef301d91d700c63fca41a95586bfc9d8"), looks := false }, kinds := [], alts := [], laidByText := true, laidKinds := [.data], laidTests := true, laidLooks := .later }
def GeomTurnsCardSaid : Prop := Claim7.holds Tryz.pinned (.plain (OpenSpec.ofChange geomTurnsSpec)) geomTurnsCard

/-- THE TIED CARD OF 'enclosurelaw.GeomFast'. -/
def geomFastCard : Claim7 := { stood := { row := geomFastRow, standIns := [], harness := (true, "01e6a0a61c94c98b66e6ebae5047ddecef301d91d700c63fca41a95586bfc9d8"), looks := false }, kinds := [], alts := [], laidByText := true, laidKinds := [.data], laidTests := true, laidLooks := .later }
def GeomFastCardSaid : Prop := Claim7.holds Tryz.pinned (.plain (OpenSpec.ofChange geomFastSpec)) geomFastCard

/-- THE SECOND FORM's CARD OF 'enclosurelaw.ExpanTells'. -/
def expanTellsUptoCard : Claim7 := { stood := { row := expanTellsUptoRow, standIns := [], harness := (true, "01e6a0a61c94c98b66e6ebae5047ddecef301d91d700c63fca41a95586bfc9d8"), looks := false }, kinds := [], alts := [], laidByText := true, laidKinds := [.data], laidTests := true, laidLooks := .later }
def ExpanTellsUptoCardSaid : Prop := Claim7.holds Tryz.pinned (.plain (OpenSpec.upto expanTellsSpec)) expanTellsUptoCard

/-- THE SECOND FORM's CARD OF 'enclosurelaw.ExpanPairs'. -/
def expanPairsUptoCard : Claim7 := { stood := { row := expanPairsUptoRow, standIns := [], harness := (true, "01e6a0a61c94c98b66e6ebae5047ddecef301d91d700c63fca41a95586bfc9d8"), looks := false }, kinds := [], alts := [], laidByText := true, laidKinds := [.data], laidTests := true, laidLooks := .later }
def ExpanPairsUptoCardSaid : Prop := Claim7.holds Tryz.pinned (.plain (OpenSpec.upto expanPairsSpec)) expanPairsUptoCard

/-- THE SECOND FORM's CARD OF 'enclosurelaw.GeomTurns'. -/
def geomTurnsUptoCard : Claim7 := { stood := { row := geomTurnsUptoRow, standIns := [], harness := (true, "01e6a0a61c94c98b66e6ebae5047ddecef301d91d700c63fca41a95586bfc9d8"), looks := false }, kinds := [], alts := [], laidByText := true, laidKinds := [.data], laidTests := true, laidLooks := .later }
def GeomTurnsUptoCardSaid : Prop := Claim7.holds Tryz.pinned (.plain (OpenSpec.upto geomTurnsSpec)) geomTurnsUptoCard

/-- THE SECOND FORM's CARD OF 'enclosurelaw.GeomFast'. -/
def geomFastUptoCard : Claim7 := { stood := { row := geomFastUptoRow, standIns := [], harness := (true, "01e6a0a61c94c98b66e6ebae5047ddecef301d91d700c63fca41a95586bfc9d8"), looks := false }, kinds := [], alts := [], laidByText := true, laidKinds := [.data], laidTests := true, laidLooks := .later }
def GeomFastUptoCardSaid : Prop := Claim7.holds Tryz.pinned (.plain (OpenSpec.upto geomFastSpec)) geomFastUptoCard
end Rows
end Go.Proofs.YtljkfjjchkehaaaGreatDoor
