/-
  DERIVED. GIVEN WITH THE SEED: THE CARDS: each row of YtielcpkcfpbanacGreatDoorRows.lean that lists a variable, with what it lists TIED to the program's text (the seventh form; the later family's looks); each row that meets fmt, with fmt's text TOLD by the authors' own Lean function (tested against real Go, not proved from fmt's source: count such statements apart). THE CARD IS WHAT COUNTS. Prove the row's statement (the work); the ties are given (YtielcpkcfpbanacGreatDoorTie.lean); close each card by the builder's one call (the guide's Derived/Test/ToyasCard.lean, 'card_holds'). Laid BY PROGRAM, IN A SANDBOX (cutbox-door.mjs). By AI agents, Wed Nov 11 2026. No macro, syntax, notation, axiom, sorry.
-/
import Derived.Test.YtielcpkcfpbanacGreatDoorRows
import GoSem.ClaimSeven
namespace Go.Proofs.YtielcpkcfpbanacGreatDoor
namespace Rows

/-- THE TIED CARD OF 'enclosurelaw.ExpanTells'. -/
def expanTellsCard : Claim7 := { stood := { row := expanTellsRow, standIns := [], harness := (true, "71e053273d08f93c165e2c2888c25e8781d785ae4fff74184d4c3f32f1d52f6b"), looks := false }, kinds := [], alts := [], goes := true, laidByText := true, laidKinds := [.data], laidTests := true, laidLooks := .later }
def ExpanTellsCardSaid : Prop := Claim7.holds Tryz.pinned (.plain (OpenSpec.ofChange expanTellsSpec)) expanTellsCard

/-- THE TIED CARD OF 'enclosurelaw.ExpanSums'. -/
def expanSumsCard : Claim7 := { stood := { row := expanSumsRow, standIns := [], harness := (true, "71e053273d08f93c165e2c2888c25e8781d785ae4fff74184d4c3f32f1d52f6b"), looks := false }, kinds := [], alts := [], goes := true, laidByText := true, laidKinds := [.data], laidTests := true, laidLooks := .later }
def ExpanSumsCardSaid : Prop := Claim7.holds Tryz.pinned (.plain (OpenSpec.ofChange expanSumsSpec)) expanSumsCard

/-- THE TIED CARD OF 'enclosurelaw.ExpanPairs'. -/
def expanPairsCard : Claim7 := { stood := { row := expanPairsRow, standIns := [], harness := (true, "71e053273d08f93c165e2c2888c25e8781d785ae4fff74184d4c3f32f1d52f6b"), looks := false }, kinds := [], alts := [], goes := true, laidByText := true, laidKinds := [.data], laidTests := true, laidLooks := .later }
def ExpanPairsCardSaid : Prop := Claim7.holds Tryz.pinned (.plain (OpenSpec.ofChange expanPairsSpec)) expanPairsCard

/-- THE TIED CARD OF 'enclosurelaw.ExpanLaws'. -/
def expanLawsCard : Claim7 := { stood := { row := expanLawsRow, standIns := [], harness := (true, "71e053273d08f93c165e2c2888c25e8781d785ae4fff74184d4c3f32f1d52f6b"), looks := false }, kinds := [], alts := [], goes := true, laidByText := true, laidKinds := [.data], laidTests := true, laidLooks := .later }
def ExpanLawsCardSaid : Prop := Claim7.holds Tryz.pinned (.plain (OpenSpec.ofChange expanLawsSpec)) expanLawsCard

/-- THE SECOND FORM's CARD OF 'enclosurelaw.ExpanTells'. -/
def expanTellsUptoCard : Claim7 := { stood := { row := expanTellsUptoRow, standIns := [], harness := (true, "71e053273d08f93c165e2c2888c25e8781d785ae4fff74184d4c3f32f1d52f6b"), looks := false }, kinds := [], alts := [], goes := true, laidByText := true, laidKinds := [.data], laidTests := true, laidLooks := .later }
def ExpanTellsUptoCardSaid : Prop := Claim7.holds Tryz.pinned (.plain (OpenSpec.upto expanTellsSpec)) expanTellsUptoCard

/-- THE SECOND FORM's CARD OF 'enclosurelaw.ExpanSums'. -/
def expanSumsUptoCard : Claim7 := { stood := { row := expanSumsUptoRow, standIns := [], harness := (true, "71e053273d08f93c165e2c2888c25e8781d785ae4fff74184d4c3f32f1d52f6b"), looks := false }, kinds := [], alts := [], goes := true, laidByText := true, laidKinds := [.data], laidTests := true, laidLooks := .later }
def ExpanSumsUptoCardSaid : Prop := Claim7.holds Tryz.pinned (.plain (OpenSpec.upto expanSumsSpec)) expanSumsUptoCard

/-- THE SECOND FORM's CARD OF 'enclosurelaw.ExpanPairs'. -/
def expanPairsUptoCard : Claim7 := { stood := { row := expanPairsUptoRow, standIns := [], harness := (true, "71e053273d08f93c165e2c2888c25e8781d785ae4fff74184d4c3f32f1d52f6b"), looks := false }, kinds := [], alts := [], goes := true, laidByText := true, laidKinds := [.data], laidTests := true, laidLooks := .later }
def ExpanPairsUptoCardSaid : Prop := Claim7.holds Tryz.pinned (.plain (OpenSpec.upto expanPairsSpec)) expanPairsUptoCard

/-- THE SECOND FORM's CARD OF 'enclosurelaw.ExpanLaws'. -/
def expanLawsUptoCard : Claim7 := { stood := { row := expanLawsUptoRow, standIns := [], harness := (true, "71e053273d08f93c165e2c2888c25e8781d785ae4fff74184d4c3f32f1d52f6b"), looks := false }, kinds := [], alts := [], goes := true, laidByText := true, laidKinds := [.data], laidTests := true, laidLooks := .later }
def ExpanLawsUptoCardSaid : Prop := Claim7.holds Tryz.pinned (.plain (OpenSpec.upto expanLawsSpec)) expanLawsUptoCard
end Rows
end Go.Proofs.YtielcpkcfpbanacGreatDoor
