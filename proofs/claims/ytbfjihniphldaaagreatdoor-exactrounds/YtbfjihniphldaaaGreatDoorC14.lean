/- What is proved here: what one call ends in, weakened, for this seat's program. -/
import Derived.Calls
import Derived.Test.YtbfjihniphldaaaGreatDoorProg
namespace Go.Proofs.YtbfjihniphldaaaGreatDoor
theorem q00 {f:FuncId} {args:Array Value} {w:World} {R R':Ending→World→Prop} (h:Calls Tryz.prog f args w R) (hr:∀ e w',R e w'→R' e w'):Calls Tryz.prog f args w R':=Calls.mono h hr
end Go.Proofs.YtbfjihniphldaaaGreatDoor
