/- What is proved here: contracts of the reference's big numbers: Add of Int, over this seat's translation. -/
import Derived.Test.YtljkfjjchkehaaaGreatDoorQ17
import Derived.Test.YtljkfjjchkehaaaGreatDoorQ15
namespace Go.Proofs.YtljkfjjchkehaaaGreatDoor
open Go.ChangeShapes Go.WideShapes Go.ChangeAt Go.RowKit
open BN
end Go.Proofs.YtljkfjjchkehaaaGreatDoor
