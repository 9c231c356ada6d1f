/- What is proved here: contracts of the reference's ratios: SetFrac, over this seat's translation. -/
import Derived.Test.YtfnkkkcojnffdaaGreatDoorC35
namespace Go.Proofs.YtfnkkkcojnffdaaGreatDoor
open Go.ChangeShapes Go.WideShapes Go.ChangeAt Go.RowKit
open BN
theorem q0O (n:Bool) (a g:Nat):sg n (a/g)=Int.tdiv (sg n a) g:=by
 unfold sg;cases n<;>simp [Int.neg_tdiv]
end Go.Proofs.YtfnkkkcojnffdaaGreatDoor
