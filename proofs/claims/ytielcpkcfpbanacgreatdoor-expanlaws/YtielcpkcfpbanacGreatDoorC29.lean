/- What is proved here: contracts of the reference: powers of two as ratios, over this seat's translation. -/
import Derived.Test.YtielcpkcfpbanacGreatDoorC28
namespace Go.Proofs.YtielcpkcfpbanacGreatDoor
open Go.ChangeShapes Go.WideShapes Go.ChangeAt Go.RowKit
open BN

end Go.Proofs.YtielcpkcfpbanacGreatDoor
