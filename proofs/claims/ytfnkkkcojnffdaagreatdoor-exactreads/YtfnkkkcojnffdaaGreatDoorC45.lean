/- What is proved here: contracts of the law on fractions: what both sides reckon, and its text, over this seat's translation. -/
import Derived.Test.YtfnkkkcojnffdaaGreatDoorC42
import Derived.Test.YtfnkkkcojnffdaaGreatDoorC40
import Derived.Laws.IdiomCopy
import Derived.Test.YtfnkkkcojnffdaaGreatDoorC27
import Derived.Test.YtfnkkkcojnffdaaGreatDoorC27
import Derived.Test.YtfnkkkcojnffdaaGreatDoorC31
import Derived.Test.YtfnkkkcojnffdaaGreatDoorC32
import Derived.Test.YtfnkkkcojnffdaaGreatDoorC38
import Derived.Test.YtfnkkkcojnffdaaGreatDoorC27
import Derived.Test.YtfnkkkcojnffdaaGreatDoorC40
import Derived.Test.YtfnkkkcojnffdaaGreatDoorC38
import Derived.Test.YtfnkkkcojnffdaaGreatDoorC6
import Derived.Test.YtfnkkkcojnffdaaGreatDoorC40
import Derived.Test.YtfnkkkcojnffdaaGreatDoorC40
import Derived.Test.YtfnkkkcojnffdaaGreatDoorC41
import Derived.OwnWalk
import Derived.Test.YtfnkkkcojnffdaaGreatDoorC40
import Derived.Test.YtfnkkkcojnffdaaGreatDoorC41
import Derived.Test.YtfnkkkcojnffdaaGreatDoorC41
import Derived.Test.YtfnkkkcojnffdaaGreatDoorC41
import Derived.Test.YtfnkkkcojnffdaaGreatDoorC40
import Derived.Test.YtfnkkkcojnffdaaGreatDoorC6
import Derived.Test.YtfnkkkcojnffdaaGreatDoorC40
import Derived.Test.YtfnkkkcojnffdaaGreatDoorC17
import Derived.Test.YtfnkkkcojnffdaaGreatDoorC3
import Derived.Test.YtfnkkkcojnffdaaGreatDoorC2
import GoSem.Extern.MathDim
import Derived.Test.YtfnkkkcojnffdaaGreatDoorC40
import Derived.Test.YtfnkkkcojnffdaaGreatDoorC41
import Derived.Test.YtfnkkkcojnffdaaGreatDoorC40
import Derived.Test.YtfnkkkcojnffdaaGreatDoorC40
import Derived.Test.YtfnkkkcojnffdaaGreatDoorC41
namespace Go.Proofs.YtfnkkkcojnffdaaGreatDoor.EN
open Go.ChangeShapes Go.WideShapes Go.ChangeAt Go.RowKit
/-- Two fractions on both sides. -/
def LawSt (w:World) (v:Value) (p:Nat) (x:Rat):Prop:=QIs w v x∧p<w.heap.size∧RIs w p x
theorem LawSt.G {w A:World} {v:Value} {p:Nat} {x:Rat} (h:LawSt w v p x) (g:G w A):LawSt A v p x:=⟨h.1.G g,G.lt g h.2.1,h.2.2.G h.2.1 g⟩
end Go.Proofs.YtfnkkkcojnffdaaGreatDoor.EN
