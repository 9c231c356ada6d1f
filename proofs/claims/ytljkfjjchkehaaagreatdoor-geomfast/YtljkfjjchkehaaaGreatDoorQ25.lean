/- What is proved here: contracts of the reference: powers of two as ratios, over this seat's translation.
What is proved here: contracts of the reference's ratios: Add of Rat, over this seat's translation.
What is proved here: contracts of the reference's ratios: Sub of Rat, over this seat's translation. -/
import Derived.Test.YtljkfjjchkehaaaGreatDoorQ24
import Derived.Test.YtljkfjjchkehaaaGreatDoorQ16
import Derived.Test.YtljkfjjchkehaaaGreatDoorQ20
namespace Go.Proofs.YtljkfjjchkehaaaGreatDoor
open Go.ChangeShapes Go.WideShapes Go.ChangeAt Go.RowKit
open BN
end Go.Proofs.YtljkfjjchkehaaaGreatDoor
