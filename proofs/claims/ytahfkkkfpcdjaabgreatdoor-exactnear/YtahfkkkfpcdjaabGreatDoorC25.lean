/- What is proved here: contracts of the reference: powers of two as ratios, over this seat's translation. -/
import Derived.Test.YtahfkkkfpcdjaabGreatDoorC24
namespace Go.Proofs.YtahfkkkfpcdjaabGreatDoor
open Go.ChangeShapes Go.WideShapes Go.ChangeAt Go.RowKit
open BN

/-- A call hands back a new Rat; nothing that was there has turned. -/
def RetR (w : World) (sa : Int) (sb : Nat) (e : Ending) (w' : World) : Prop := ∃ p, e = .returned (.pointer (some ⟨p, 0, none⟩)) ∧ G w w' ∧ w.heap.size ≤ p ∧ p < w'.heap.size ∧ RatIs w' p sa (sb : Int)
theorem NormTo.ret {w0 w : World} {b : Nat} {sa : Int} {sb : Nat} {e : Ending} {w' : World} (g : G w0 w) (hb : w0.heap.size ≤ b) (hs : b < w.heap.size) (h : NormTo w b sa sb e w') : RetR w0 sa sb e w' :=
  ⟨b, h.1, GX.fresh g h.2.1 hb, hb, Nat.lt_of_lt_of_le hs h.2.1.size, h.2.2⟩

end Go.Proofs.YtahfkkkfpcdjaabGreatDoor
