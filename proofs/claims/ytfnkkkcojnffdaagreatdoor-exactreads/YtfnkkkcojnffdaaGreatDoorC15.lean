/- What is proved here: contracts of the reference's big numbers: Add of Int, over this seat's translation. -/
import Derived.Test.YtfnkkkcojnffdaaGreatDoorC13
import Derived.Test.YtfnkkkcojnffdaaGreatDoorC5
namespace Go.Proofs.YtfnkkkcojnffdaaGreatDoor
open Go.ChangeShapes Go.WideShapes Go.ChangeAt Go.RowKit
open BN
theorem gU {n:Bool} {a:Nat} {s:Int} (h:sg n a=s):a=s.natAbs:=by rw[← h];unfold sg;split<;>omega
end Go.Proofs.YtfnkkkcojnffdaaGreatDoor
