/- What is proved here: a point as an argument of a law, opened and shut, over this seat's translation. -/
import Derived.Test.YtdidnnbpdcanlaaGreatDoorC40
import Derived.Test.YtdidnnbpdcanlaaGreatDoorC47
import Derived.Test.YtdidnnbpdcanlaaGreatDoorC35
import Derived.Test.YtdidnnbpdcanlaaGreatDoorC46
import Derived.WalkKit
import Derived.ProofKit
import Derived.OpenShut
import Derived.WalkLawsBesides
import Derived.Deep.DeepHandedRow
namespace Go.Proofs.YtdidnnbpdcanlaaGreatDoor.EN
open Go.ChangeShapes Go.WideShapes Go.ChangeAt Go.RowKit
section
variable {H:Type} {enc:TypeId×Value→H} {W:World} {base:Nat} {sp:Nat→Bool} {held:Bool}
theorem cellsPoint:Tryz.prog.cellsOf 32=2:=by kernel_rfl
theorem q7V:Tryz.prog.cellsOf 30=1:=by kernel_rfl
theorem float_at {n:Nat} {c:Value} {y:DataW H×List MemPlace} (h:DataW.trod enc Tryz.prog W base sp held n 30 [c]=some y):∃ b,c= .float .f64 b∧y=(.lit (.float .f64 b),[])∧(Lit.float .f64 b).wf=true:=by
 cases n with
 |zero=>simp [DataW.trod] at h
 |succ n=>
  simp only[DataW.trod,Tryz.underlying30] at h
  split at h<;>simp_all
end
end Go.Proofs.YtdidnnbpdcanlaaGreatDoor.EN
