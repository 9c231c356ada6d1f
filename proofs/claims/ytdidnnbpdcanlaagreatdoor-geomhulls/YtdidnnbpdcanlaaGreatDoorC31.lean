/- What is proved here: contracts of the reference's ratios: Mul of Rat, over this seat's translation. -/
import Derived.Test.YtdidnnbpdcanlaaGreatDoorC30
import Derived.Test.YtdidnnbpdcanlaaGreatDoorC18
namespace Go.Proofs.YtdidnnbpdcanlaaGreatDoor
open Go.ChangeShapes Go.WideShapes Go.ChangeAt Go.RowKit
open BN
theorem NormTo.after {w w1:World} {b:Nat} {sa:Int} {sb:Nat} {e:Ending} {w':World} (g:G w w1) (h:NormTo w1 b sa sb e w'):NormTo w b sa sb e w':=
 ⟨h.1,(GX.of g).trans h.2.1,h.2.2⟩
end Go.Proofs.YtdidnnbpdcanlaaGreatDoor
