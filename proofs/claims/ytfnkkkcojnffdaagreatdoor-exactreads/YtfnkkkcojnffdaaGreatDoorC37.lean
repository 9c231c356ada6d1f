/- What is proved here: contracts of the reference's ratios: Mul of Rat, over this seat's translation. -/
import Derived.Test.YtfnkkkcojnffdaaGreatDoorC36
import Derived.Test.YtfnkkkcojnffdaaGreatDoorC6
namespace Go.Proofs.YtfnkkkcojnffdaaGreatDoor
open Go.ChangeShapes Go.WideShapes Go.ChangeAt Go.RowKit
open BN
theorem NormTo.after {w C:World} {b:Nat} {sa:Int} {A:Nat} {e:Ending} {B:World} (g:G w C) (h:NormTo C b sa A e B):NormTo w b sa A e B:=
 ⟨h.1,(GX.of g).trans h.2.1,h.2.2⟩
end Go.Proofs.YtfnkkkcojnffdaaGreatDoor
