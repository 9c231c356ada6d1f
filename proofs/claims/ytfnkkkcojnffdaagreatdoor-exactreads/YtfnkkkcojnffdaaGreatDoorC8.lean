/- What is proved here: nothing new: closed facts by the kernel, under a short name. -/
import Derived.KernelRfl
namespace Go.Proofs.YtfnkkkcojnffdaaGreatDoor
theorem dV {P:Prop} (h:P:=by kernel_rfl):P:=h
end Go.Proofs.YtfnkkkcojnffdaaGreatDoor
