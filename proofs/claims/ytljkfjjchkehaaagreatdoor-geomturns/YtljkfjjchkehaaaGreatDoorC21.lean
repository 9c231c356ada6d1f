/- What is proved here: contracts of the reference's big numbers: near, over this seat's translation. -/
import Derived.Test.YtljkfjjchkehaaaGreatDoorC20
import Derived.OwnWalk
namespace Go.Proofs.YtljkfjjchkehaaaGreatDoor
open Go.ChangeShapes Go.WideShapes Go.ChangeAt Go.RowKit
open BN
end Go.Proofs.YtljkfjjchkehaaaGreatDoor
