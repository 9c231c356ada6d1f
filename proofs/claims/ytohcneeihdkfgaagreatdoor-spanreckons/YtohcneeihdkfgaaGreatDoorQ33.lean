/- What is proved here: contracts of the reference's ratios: Mul of Rat, over this seat's translation. -/
import Derived.Test.YtohcneeihdkfgaaGreatDoorQ1
import Derived.Test.YtohcneeihdkfgaaGreatDoorQ3
import Derived.Test.YtohcneeihdkfgaaGreatDoorQ32
import Derived.Test.YtohcneeihdkfgaaGreatDoorQ6
namespace Go.Proofs.YtohcneeihdkfgaaGreatDoor
open Go.ChangeShapes Go.WideShapes Go.ChangeAt Go.RowKit
open BN
theorem NormTo.after {w C:World} {b:Nat} {sa:Int} {A:Nat} {e:Ending} {B:World} (g:G w C) (h:NormTo C b sa A e B):NormTo w b sa A e B:=
 ⟨h.1,(GX.of g).trans h.2.1,h.2.2⟩
theorem q3I (w:World) (B bx O:Nat) (U W sx:Int) (K:Nat) (Y:K≤300000) (Z:1≤K) (C:sx.natAbs<2^(32*K)) (E:B<w.heap.size) (D:bx<w.heap.size)
  (S:RatIs w B U W) (R:IntIs w bx O sx):
  Calls Tryz.prog 259 #[.pointer (some ⟨B,0,none⟩),.pointer (some ⟨bx,O,none⟩)] w (NormTo w B sx 1):=by
 have h1:1<2^(32*K):=eg eX;have M:Hid (∀ A p,G w A→p<A.heap.size→IntIs A p 0 1→_):=fun A p g c hi=>gM A B bx O p 0 U W sx 1 K Y C h1 eX (de g E) (de g D) c (S.G E g) (R.G D g) hi;have L:Hid (Int.tdiv sx (Nat.gcd sx.natAbs 1:Nat)=sx∧1/Nat.gcd sx.natAbs 1=1):=by
  rw[dG];exact⟨Int.tdiv_one sx,rfl⟩
 rw[L.out.1,L.out.2] at M;clear S R h1 C L;go_enter Tryz.func259,Tryz.ntmps259;go_wp2_with fail;refine Calls.mono (P:=Tryz.prog) (gW w 1 eX) ?_;intro e A h;obtain⟨p,rfl,F,-,I,J⟩:=h;have X:=hi9 (M.out A p F I J);clear M I J;go_wp2_with fail;refine Calls.mono (P:=Tryz.prog) X.out ?_;intro e k d;have N:=NormTo.after F d;obtain⟨rfl,i,j⟩:=N;go_wp2_with fail;go_ret;exact⟨rfl,i,j⟩
end Go.Proofs.YtohcneeihdkfgaaGreatDoor
