/- What is proved here: what one call ends in, weakened, for this seat's program. -/
import Derived.Calls
import Derived.Test.YtfnkkkcojnffdaaGreatDoorProg
namespace Go.Proofs.YtfnkkkcojnffdaaGreatDoor
theorem dS {f:FuncId} {args:Array Value} {w:World} {R A:Ending→World→Prop} (h:Calls Tryz.prog f args w R) (C:∀ e B,R e B→A e B):Calls Tryz.prog f args w A:=Calls.mono h C
end Go.Proofs.YtfnkkkcojnffdaaGreatDoor
