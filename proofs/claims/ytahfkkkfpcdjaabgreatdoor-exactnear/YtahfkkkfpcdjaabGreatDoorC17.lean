/- What is proved here: contracts of the reference's big numbers: Add of Int, over this seat's translation. -/
import Derived.Test.YtahfkkkfpcdjaabGreatDoorC11
import Derived.Test.YtahfkkkfpcdjaabGreatDoorC12
namespace Go.Proofs.YtahfkkkfpcdjaabGreatDoor
open Go.ChangeShapes Go.WideShapes Go.ChangeAt Go.RowKit
open BN
theorem sg_abs {n : Bool} {a : Nat} {s : Int} (h : sg n a = s) : a = s.natAbs := by rw [← h]; unfold sg; split <;> omega

end Go.Proofs.YtahfkkkfpcdjaabGreatDoor
