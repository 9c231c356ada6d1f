/- What is proved here: contracts of the reference's big numbers: the methods of Int that set it, over this seat's translation. -/
import Derived.Test.YtbfjihniphldaaaGreatDoorC14
import Derived.Test.YtbfjihniphldaaaGreatDoorC15
import Derived.Deep.RegionHeld3
namespace Go.Proofs.YtbfjihniphldaaaGreatDoor
open Go.ChangeShapes Go.WideShapes Go.ChangeAt Go.RowKit
open BN
theorem IntIs.G {w w':World} {b o:Nat} {s:Int} (h:IntIs w b o s) (hb:b<w.heap.size) (g:G w w'):IntIs w' b o s:=by
 obtain⟨n,v,a,⟨c1,c2,f1,f2⟩,hv,h1,h2⟩:=h;exact⟨n,v,a,⟨g.cell hb c1,g.cell hb c2,g.frozen hb f1,g.frozen hb f2⟩,hv.G g,h1,h2⟩
/-- What a method that sets the Int at b, o leaves behind. -/
def SetTo (w:World) (b o:Nat) (s:Int) (e:Ending) (w':World):Prop:=e= .returned (.pointer (some ⟨b,o,none⟩))∧GX b w w'∧Kept b o w w'∧IntIs w' b o s
theorem SetTo.after {w w1:World} {b o:Nat} {s:Int} {e:Ending} {w':World} (hb:b<w.heap.size) (g:G w w1) (h:SetTo w1 b o s e w'):SetTo w b o s e w':=by
 obtain⟨h1,h2,⟨h3,h3'⟩,h4⟩:=h;refine⟨h1,(GX.of g).trans h2,⟨fun i hi hi2=>(h3 i hi hi2).trans (World.cell?_of_block (g.block b hb)),fun i=>(h3' i).trans (World.frozen?_of_block (g.block b hb))⟩,h4⟩
/-- The same, the answer told apart. -/
theorem q0T {P:Program} {f:FuncId} {args:Array Value} {w0 w:World} {b o:Nat} {s:Int} (hb:b<w0.heap.size) (g:G w0 w)
  (h:Calls P f args w fun e w'=>e= .returned (.pointer (some ⟨b,o,none⟩))∧GX b w w'∧Kept b o w w'∧IntIs w' b o s):
  Calls P f args w fun e w'=>e= .returned (.pointer (some ⟨b,o,none⟩))∧SetTo w0 b o s (.returned (.pointer (some ⟨b,o,none⟩))) w':=by
 refine h.mono ?_;rintro e w' ⟨rfl,h1,h2,h3⟩;exact⟨rfl,SetTo.after hb g ⟨rfl,h1,h2,h3⟩⟩
theorem q3N (w:World) (b o x:Nat) (s0:Int) (hx:x<2^64) (hb:b<w.heap.size) (hz:IntIs w b o s0):
  Calls Tryz.prog 119 #[.pointer (some ⟨b,o,none⟩),.int .u64 (x:Int)] w (SetTo w b o x):=by
 have HW:Hid _:=q2T w x hx;have HZ:Hid _:=hz;clear hz;go_enter Tryz.func119,Tryz.ntmps119;go_wp2_with fail;refine q00 HW.out ?_;rintro e w1 ⟨v1,rfl,hg1,hn1⟩;go_wp2_with fail;refine q00 (q1g w1 b o false s0 v1 x (IntIs.G HZ.out hb hg1) hn1) ?_;rintro e w2 ⟨rfl,h1,h2,h3⟩;go_wp2_with fail;go_ret;exact SetTo.after hb hg1 ⟨rfl,h1,h2,h3⟩
theorem q5j (w:World) (b o bx ox:Nat) (s0 sx:Int) (K:Nat) (hK:K≤1000000) (hx2:sx.natAbs<2^(32*K)) (hb:b<w.heap.size) (hbx:bx<w.heap.size) (hz:IntIs w b o s0) (hx:IntIs w bx ox sx):
  Calls Tryz.prog 115 #[.pointer (some ⟨b,o,none⟩),.pointer (some ⟨bx,ox,none⟩)] w (SetTo w b o sx):=by
 obtain⟨n,v,a,⟨c1,c2,f1,f2⟩,hv,h1,h2⟩:=hx;have ha:a=sx.natAbs:=by rw[← h1];unfold sg;split<;>omega
 have HW:Hid (∀ w1,G w w1→_):=fun w1 g=>q67 w1 v a K hK (hv.G g) (by omega);have HZ:Hid _:=hz;clear hz;go_enter Tryz.func115,Tryz.ntmps115;go_wp2_with fail
 go_region_with
  (first|(go_at_call 171;refine q00 (HW.out _ ((G.refl w).drew)) ?_;rintro e w1 ⟨v1,rfl,hg1,hn1⟩;have d1:=(G.trans ((G.refl w).drew) hg1).cell hbx c1;have d2:=(G.trans ((G.refl w).drew) hg1).cell hbx c2)|(go_at_call 117;refine q00 (q0T (w0:=w) hb (G.trans ((G.refl w).drew) (by assumption)) (q1g _ b o n s0 _ a (IntIs.G HZ.out hb (G.trans ((G.refl w).drew) (by assumption))) (by assumption))) ?_;rintro e w2 ⟨rfl,hs2⟩))
 all_goals
  rw[h1] at hs2;go_wp2_with fail;go_ret;exact hs2
end Go.Proofs.YtbfjihniphldaaaGreatDoor
