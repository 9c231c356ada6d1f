/- What is proved here: contracts of the reference's big numbers: the methods of Int that set it, over this seat's translation. -/
import Derived.Test.YtohcneeihdkfgaaGreatDoorQ1
import Derived.Test.YtohcneeihdkfgaaGreatDoorQ3
import Derived.Test.YtohcneeihdkfgaaGreatDoorQ8
import Derived.Test.YtohcneeihdkfgaaGreatDoorQ15
import Derived.Deep.RegionHeld3
namespace Go.Proofs.YtohcneeihdkfgaaGreatDoor
open Go.ChangeShapes Go.WideShapes Go.ChangeAt Go.RowKit
open BN
theorem IntIs.G {w A:World} {b o:Nat} {s:Int} (h:IntIs w b o s) (hb:b<w.heap.size) (g:G w A):IntIs A b o s:=by
 obtain⟨n,v,a,⟨c1,B,f1,f2⟩,hv,h1,h2⟩:=h;exact⟨n,v,a,⟨g.cell hb c1,g.cell hb B,g.frozen hb f1,g.frozen hb f2⟩,hv.G g,h1,h2⟩
theorem df:type_of% @IntIs.G:= @IntIs.G
/-- What a method that sets the Int at b, o leaves behind. -/
def SetTo (w:World) (b o:Nat) (s:Int) (e:Ending) (A:World):Prop:=e= .returned (.pointer (some ⟨b,o,none⟩))∧GX b w A∧Kept b o w A∧IntIs A b o s
theorem SetTo.after {w C:World} {b o:Nat} {s:Int} {e:Ending} {B:World} (hb:b<w.heap.size) (g:G w C) (h:SetTo C b o s e B):SetTo w b o s e B:=by
 obtain⟨h1,h2,⟨h3,A⟩,D⟩:=h;refine⟨h1,(GX.of g).trans h2,⟨fun i hi hi2=>(h3 i hi hi2).trans (World.cell?_of_block (g.block b hb)),fun i=>(A i).trans (World.frozen?_of_block (g.block b hb))⟩,D⟩
/-- The same, the answer told apart. -/
theorem gy {P:Program} {f:FuncId} {args:Array Value} {w0 w:World} {b o:Nat} {s:Int} (hb:b<w0.heap.size) (g:G w0 w)
  (h:Calls P f args w fun e A=>e= .returned (.pointer (some ⟨b,o,none⟩))∧GX b w A∧Kept b o w A∧IntIs A b o s):
  Calls P f args w fun e A=>e= .returned (.pointer (some ⟨b,o,none⟩))∧SetTo w0 b o s (.returned (.pointer (some ⟨b,o,none⟩))) A:=by
 refine h.mono ?_;rintro e A ⟨rfl,h1,h2,h3⟩;exact⟨rfl,SetTo.after hb g ⟨rfl,h1,h2,h3⟩⟩
theorem lZ (w:World) (b o x:Nat) (D:Int) (I:x<2^64) (hb:b<w.heap.size) (C:IntIs w b o D):
  Calls Tryz.prog 186 #[.pointer (some ⟨b,o,none⟩),.int .u64 (x:Int)] w (SetTo w b o x):=by
 have E:=hi9 (kU w x I);have F:=hi9 C;clear C;go_enter Tryz.func186,Tryz.ntmps186;go_wp2_with fail;refine eW E.out ?_;rintro e K ⟨J,rfl,A,B⟩;go_wp2_with fail;refine eW (gO K b o false D J x (df F.out hb A) B) ?_;rintro e L ⟨rfl,h1,h2,h3⟩;go_wp2_with fail;go_ret;exact SetTo.after hb A ⟨rfl,h1,h2,h3⟩
theorem my (w:World) (b o bx F:Nat) (I sx:Int) (K:Nat) (N:K≤1000000) (S:sx.natAbs<2^(32*K)) (hb:b<w.heap.size) (A:bx<w.heap.size) (E:IntIs w b o I) (R:IntIs w bx F sx):
  Calls Tryz.prog 92 #[.pointer (some ⟨b,o,none⟩),.pointer (some ⟨bx,F,none⟩)] w (SetTo w b o sx):=by
 obtain⟨n,v,a,⟨c1,M,f1,f2⟩,hv,h1,h2⟩:=R;have U:a=sx.natAbs:=by rw[← h1];unfold sg;split<;>omega
 have J:Hid (∀ D,G w D→_):=fun D g=>qj D v a K N (hv.G g) eX;have L:=hi9 E;clear E;go_enter Tryz.func92,Tryz.ntmps92;go_wp2_with fail
 go_region_with
  (first|(go_at_call 169;refine eW (J.out _ ((ad w).drew)) ?_;rintro e D ⟨W,rfl,B,O⟩;have d1:=(ab ((ad w).drew) B).cell A c1;have d2:=(ab ((ad w).drew) B).cell A M)|(go_at_call 158;refine eW (gy (w0:=w) hb (ab ((ad w).drew) mB) (gO _ b o n I _ a (df L.out hb (ab ((ad w).drew) mB)) mB)) ?_;rintro e X ⟨rfl,C⟩))
 all_goals
  rw[h1] at C;go_wp2_with fail;go_ret;exact C
end Go.Proofs.YtohcneeihdkfgaaGreatDoor
