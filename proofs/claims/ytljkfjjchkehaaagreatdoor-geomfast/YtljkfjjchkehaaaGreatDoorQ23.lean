/- What is proved here: contracts of the reference's ratios: SetFrac, over this seat's translation. -/
import Derived.Test.YtljkfjjchkehaaaGreatDoorQ22
namespace Go.Proofs.YtljkfjjchkehaaaGreatDoor
open Go.ChangeShapes Go.WideShapes Go.ChangeAt Go.RowKit
open BN
end Go.Proofs.YtljkfjjchkehaaaGreatDoor
