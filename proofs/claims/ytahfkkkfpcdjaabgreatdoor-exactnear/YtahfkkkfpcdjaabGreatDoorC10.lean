/- What is proved here: for the card on ExactNear: the row's closed facts. -/
import Derived.Test.YtahfkkkfpcdjaabGreatDoorCards
import Derived.Test.YtahfkkkfpcdjaabGreatDoorTie
import Derived.WalkKit
import Derived.ProofKit
import Derived.OpenShut
import Derived.WalkLawsBesides
import Derived.Deep.DeepHandedRow
import Derived.Lib.LaidTab
namespace Go.Proofs.YtahfkkkfpcdjaabGreatDoor.exactNear
open Go.ChangeShapes Go.WideShapes Go.ChangeAt Go.RowKit

set_option maxRecDepth 100000 in
theorem facts : joinedFacts Tryz.pinned.checked.prog 5 Tryz.f5 (OpenSpec.ofChange Rows.exactNearSpec).bare Rows.exactNearRow = true := by kernel_rfl
end Go.Proofs.YtahfkkkfpcdjaabGreatDoor.exactNear
