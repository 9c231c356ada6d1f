/- What is proved here: contracts of the reference's ratios: SetFrac, over this seat's translation. -/
import Derived.Test.YtahfkkkfpcdjaabGreatDoorC21
namespace Go.Proofs.YtahfkkkfpcdjaabGreatDoor
open Go.ChangeShapes Go.WideShapes Go.ChangeAt Go.RowKit
open BN

theorem sg_tdiv (n : Bool) (a g : Nat) : sg n (a / g) = Int.tdiv (sg n a) g := by
  unfold sg
  cases n <;> simp [Int.neg_tdiv]

end Go.Proofs.YtahfkkkfpcdjaabGreatDoor
