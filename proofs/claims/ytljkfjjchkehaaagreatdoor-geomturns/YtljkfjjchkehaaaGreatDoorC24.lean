/- What is proved here: contracts of the reference's ratios: norm, of a lower part below 0, over this seat's translation (the walk is M24's, behind the two signs). -/
import Derived.Test.YtljkfjjchkehaaaGreatDoorC22
import Derived.Test.YtljkfjjchkehaaaGreatDoorC16
namespace Go.Proofs.YtljkfjjchkehaaaGreatDoor
open Go.ChangeShapes Go.WideShapes Go.ChangeAt Go.RowKit
open BN
end Go.Proofs.YtljkfjjchkehaaaGreatDoor
