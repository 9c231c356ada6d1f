/- What is proved here: contracts of the reference's big numbers: the methods of Int that set it, over this seat's translation. -/
import Derived.Test.YtfnkkkcojnffdaaGreatDoorC1
import Derived.Test.YtfnkkkcojnffdaaGreatDoorC3
import Derived.Test.YtfnkkkcojnffdaaGreatDoorC10
import Derived.Deep.RegionHeld3
namespace Go.Proofs.YtfnkkkcojnffdaaGreatDoor
open Go.ChangeShapes Go.WideShapes Go.ChangeAt Go.RowKit
open BN
theorem IntIs.G {w A:World} {b o:Nat} {s:Int} (h:IntIs w b o s) (hb:b<w.heap.size) (g:G w A):IntIs A b o s:=by
 obtain⟨n,v,a,⟨c1,B,f1,f2⟩,hv,h1,h2⟩:=h;exact⟨n,v,a,⟨g.cell hb c1,g.cell hb B,g.frozen hb f1,g.frozen hb f2⟩,hv.G g,h1,h2⟩
/-- What a method that sets the Int at b, o leaves behind. -/
def SetTo (w:World) (b o:Nat) (s:Int) (e:Ending) (A:World):Prop:=e= .returned (.pointer (some ⟨b,o,none⟩))∧GX b w A∧Kept b o w A∧IntIs A b o s
theorem SetTo.after {w D:World} {b o:Nat} {s:Int} {e:Ending} {C:World} (hb:b<w.heap.size) (g:G w D) (h:SetTo D b o s e C):SetTo w b o s e C:=by
 obtain⟨h1,h2,⟨h3,A⟩,E⟩:=h;refine⟨h1,(GX.of g).trans h2,⟨fun i hi B=>(h3 i hi B).trans (World.cell?_of_block (g.block b hb)),fun i=>(A i).trans (World.frozen?_of_block (g.block b hb))⟩,E⟩
/-- The same, the answer told apart. -/
theorem gf {P:Program} {f:FuncId} {args:Array Value} {w0 w:World} {b o:Nat} {s:Int} (hb:b<w0.heap.size) (g:G w0 w)
  (h:Calls P f args w fun e A=>e= .returned (.pointer (some ⟨b,o,none⟩))∧GX b w A∧Kept b o w A∧IntIs A b o s):
  Calls P f args w fun e A=>e= .returned (.pointer (some ⟨b,o,none⟩))∧SetTo w0 b o s (.returned (.pointer (some ⟨b,o,none⟩))) A:=by
 refine h.mono ?_;rintro e A ⟨rfl,h1,h2,h3⟩;exact⟨rfl,SetTo.after hb g ⟨rfl,h1,h2,h3⟩⟩
theorem q1g (w:World) (b o bx F:Nat) (I sx:Int) (K:Nat) (N:K≤1000000) (S:sx.natAbs<2^(32*K)) (hb:b<w.heap.size) (A:bx<w.heap.size) (E:IntIs w b o I) (R:IntIs w bx F sx):
  Calls Tryz.prog 74 #[.pointer (some ⟨b,o,none⟩),.pointer (some ⟨bx,F,none⟩)] w (SetTo w b o sx):=by
 obtain⟨n,v,a,⟨c1,M,f1,f2⟩,hv,h1,h2⟩:=R;have U:a=sx.natAbs:=by rw[← h1];unfold sg;split<;>omega
 have J:Hid (∀ D,G w D→_):=fun D g=>kK D v a K N (hv.G g) dT;have L:=hi9 E;clear E;go_enter Tryz.func74,Tryz.ntmps74;go_wp2_with fail
 go_region_with
  (first|(go_at_call 124;refine Calls.mono (P:=Tryz.prog) (J.out _ ((af w).drew)) ?_;rintro e D ⟨W,rfl,B,O⟩;have d1:=(aa ((af w).drew) B).cell A c1;have d2:=(aa ((af w).drew) B).cell A M)|(go_at_call 113;refine Calls.mono (P:=Tryz.prog) (gf (w0:=w) hb (aa ((af w).drew) kV) (gI _ b o n I _ a (IntIs.G L.out hb (aa ((af w).drew) kV)) kV)) ?_;rintro e X ⟨rfl,C⟩))
 all_goals
  rw[h1] at C;go_wp2_with fail;go_ret;exact C
end Go.Proofs.YtfnkkkcojnffdaaGreatDoor
