/- What is proved here: nothing: the library's laid contracts reach none of this seat's functions. -/
import Derived.Test.YtkelfdhpekkiaacDoorProg
namespace Go.Proofs.YtkelfdhpekkiaacDoor
end Go.Proofs.YtkelfdhpekkiaacDoor
