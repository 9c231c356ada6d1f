/-
  DERIVED. GIVEN WITH THE SEED: THE CARDS: each row of YtdidnnbpdcanlaaGreatDoorRows.lean that lists a variable, with what it lists TIED to the program's text (the seventh form; the later family's looks); each row that meets fmt, with fmt's text TOLD by the authors' own Lean function (tested against real Go, not proved from fmt's source: count such statements apart). THE CARD IS WHAT COUNTS. Prove the row's statement (the work); the ties are given (YtdidnnbpdcanlaaGreatDoorTie.lean); close each card by the builder's one call (the guide's Derived/Test/ToyasCard.lean, 'card_holds'). Laid BY PROGRAM, IN A SANDBOX (cutbox-door.mjs). By AI agents, Wed Nov 11 2026. No macro, syntax, notation, axiom, sorry.
-/
import Derived.Test.YtdidnnbpdcanlaaGreatDoorRows
import GoSem.ClaimSeven
namespace Go.Proofs.YtdidnnbpdcanlaaGreatDoor
namespace Rows

/-- THE TIED CARD OF 'enclosurelaw.GeomHulls'. -/
def geomHullsCard : Claim7 := { stood := { row := geomHullsRow, standIns := [], harness := (true, "d807ca4a1dea137b8b1eb8ac46a0609a636195a0feb27fa3e1bbf8cec165af1a"), looks := false }, kinds := [], alts := [], laidByText := true, laidKinds := [.data, .data], laidTests := true, laidLooks := .later }
def GeomHullsCardSaid : Prop := Claim7.holds Tryz.pinned (.plain (OpenSpec.ofChange geomHullsSpec)) geomHullsCard

/-- THE TIED CARD OF 'enclosurelaw.GeomWhere'. -/
def geomWhereCard : Claim7 := { stood := { row := geomWhereRow, standIns := [], harness := (true, "d807ca4a1dea137b8b1eb8ac46a0609a636195a0feb27fa3e1bbf8cec165af1a"), looks := false }, kinds := [], alts := [], laidByText := true, laidKinds := [.data, .data], laidTests := true, laidLooks := .later }
def GeomWhereCardSaid : Prop := Claim7.holds Tryz.pinned (.plain (OpenSpec.ofChange geomWhereSpec)) geomWhereCard

/-- THE SECOND FORM's CARD OF 'enclosurelaw.GeomHulls'. -/
def geomHullsUptoCard : Claim7 := { stood := { row := geomHullsUptoRow, standIns := [], harness := (true, "d807ca4a1dea137b8b1eb8ac46a0609a636195a0feb27fa3e1bbf8cec165af1a"), looks := false }, kinds := [], alts := [], laidByText := true, laidKinds := [.data, .data], laidTests := true, laidLooks := .later }
def GeomHullsUptoCardSaid : Prop := Claim7.holds Tryz.pinned (.plain (OpenSpec.upto geomHullsSpec)) geomHullsUptoCard

/-- THE SECOND FORM's CARD OF 'enclosurelaw.GeomWhere'. -/
def geomWhereUptoCard : Claim7 := { stood := { row := geomWhereUptoRow, standIns := [], harness := (true, "d807ca4a1dea137b8b1eb8ac46a0609a636195a0feb27fa3e1bbf8cec165af1a"), looks := false }, kinds := [], alts := [], laidByText := true, laidKinds := [.data, .data], laidTests := true, laidLooks := .later }
def GeomWhereUptoCardSaid : Prop := Claim7.holds Tryz.pinned (.plain (OpenSpec.upto geomWhereSpec)) geomWhereUptoCard
end Rows
end Go.Proofs.YtdidnnbpdcanlaaGreatDoor
