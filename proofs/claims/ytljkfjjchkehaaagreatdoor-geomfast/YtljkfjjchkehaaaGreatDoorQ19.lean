/- What is proved here: contracts of the reference's big numbers: Mul, Lsh, Abs, SetInt64 of Int, over this seat's translation. -/
import Derived.Test.YtljkfjjchkehaaaGreatDoorQ18
import Derived.Test.YtljkfjjchkehaaaGreatDoorQ16
namespace Go.Proofs.YtljkfjjchkehaaaGreatDoor
open Go.ChangeShapes Go.WideShapes Go.ChangeAt Go.RowKit
open BN
theorem q8m (w:World) (t:TypeId):IntIs (w.alloc (.cells #[.bool false,.slice none 0 0] t)) w.heap.size 0 0:=by
 refine⟨false,.slice none 0 0,0,⟨?_,?_,World.frozen?_alloc_at _ _ _ _ rfl,World.frozen?_alloc_at _ _ _ _ rfl⟩,q1f _ _ _,rfl,fun h=>by cases h⟩
 ·rw[World.cell?_alloc_at _ _ _ _ rfl];rfl
 ·rw[World.cell?_alloc_at _ _ _ _ rfl];rfl
end Go.Proofs.YtljkfjjchkehaaaGreatDoor
