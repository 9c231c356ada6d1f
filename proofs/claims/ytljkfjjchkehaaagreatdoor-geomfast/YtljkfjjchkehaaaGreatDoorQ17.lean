/- What is proved here: contracts of the reference's big numbers: the methods of Int that set it, over this seat's translation. -/
import Derived.Test.YtljkfjjchkehaaaGreatDoorQ4
import Derived.Deep.RegionHeld3
namespace Go.Proofs.YtljkfjjchkehaaaGreatDoor
open Go.ChangeShapes Go.WideShapes Go.ChangeAt Go.RowKit
open BN
theorem IntIs.G {w w':World} {b o:Nat} {s:Int} (h:IntIs w b o s) (hb:b<w.heap.size) (g:G w w'):IntIs w' b o s:=by
 obtain⟨n,v,a,⟨c1,c2,f1,f2⟩,hv,h1,h2⟩:=h
 exact⟨n,v,a,⟨g.cell hb c1,g.cell hb c2,g.frozen hb f1,g.frozen hb f2⟩,hv.G g,h1,h2⟩
/-- What a method that sets the Int at b, o leaves behind. -/
def SetTo (w:World) (b o:Nat) (s:Int) (e:Ending) (w':World):Prop:=e= .returned (.pointer (some ⟨b,o,none⟩))∧GX b w w'∧Kept b o w w'∧IntIs w' b o s
theorem SetTo.after {w w1:World} {b o:Nat} {s:Int} {e:Ending} {w':World} (hb:b<w.heap.size) (g:G w w1) (h:SetTo w1 b o s e w'):SetTo w b o s e w':=by
 obtain⟨h1,h2,⟨h3,h3'⟩,h4⟩:=h
 refine⟨h1,(GX.of g).trans h2,⟨fun i hi hi2=>(h3 i hi hi2).trans (World.cell?_of_block (g.block b hb)),fun i=>(h3' i).trans (World.frozen?_of_block (g.block b hb))⟩,h4⟩
end Go.Proofs.YtljkfjjchkehaaaGreatDoor
