/- What is proved here: contracts of the reference: Num, Denom of a ratio, its nearest whole number, over this seat's translation. -/
import Derived.Test.YtfnkkkcojnffdaaGreatDoorQ1
import Derived.Test.YtfnkkkcojnffdaaGreatDoorQ3
import Derived.Test.YtfnkkkcojnffdaaGreatDoorQ37
import Derived.Test.YtfnkkkcojnffdaaGreatDoorQ26
import Derived.OwnWalk
namespace Go.Proofs.YtfnkkkcojnffdaaGreatDoor
open Go.ChangeShapes Go.WideShapes Go.ChangeAt Go.RowKit
open BN
theorem q2r (w:World) (b:Nat):
  Calls Tryz.prog 27 #[.pointer (some ⟨b,0,none⟩)] w fun e A=>e= .returned (.pointer (some ⟨b,0,none⟩))∧G w A:=by
 go_enter Tryz.func27,Tryz.ntmps27;go_wp2_with fail;go_ret;exact⟨rfl,ag _⟩
theorem pM (w:World) (b:Nat) (sa:Int) (B K:Nat) (c:K≤100000) (L:B<2^(32*K)) (O:0<B) (hb:b<w.heap.size) (h:RatIs w b sa (B:Int)):
  Calls Tryz.prog 28 #[.pointer (some ⟨b,0,none⟩)] w (RetI w (B:Int)):=by
 have U:Hid (RatIs w b sa (B:Int)):=h;have Z:Hid ((B:Int)≠0):=by show (B:Int)≠0;omega
 have N:Hid ((B:Int).natAbs<2^(32*K)):=by show (B:Int).natAbs<2^(32*K);rw[ar];exact L
 clear h O L;go_enter Tryz.func28,Tryz.ntmps28;go_wp2_with fail;have F:=eu (ag w) 43;have D:=(ag w).alloc (.cells #[.bool false,.slice none 0 0] 43);obtain⟨I,M⟩:∃ I,I=w.heap.size:=⟨_,rfl⟩;rw[← M] at F ⊢;have R:w.heap.size≤I:=by omega
 clear M;generalize w.alloc (.cells #[.bool false,.slice none 0 0] 43)=Y at *;have J:Hid (NI w Y I 0):=F;clear F;refine Calls.mono (P:=Tryz.prog) (j0 Y b sa B Z.out (U.out.G hb D)) ?_;rintro e X ⟨rfl,E⟩;have C:=aa D E;have A:Hid (NI w X I 0):=J.out.G E;have S:=hi9 (jY X I 0 b 2 0 (B:Int) K eK N.out A.out.2.1 (dp C hb) A.out.2.2 (U.out.G hb C).2);clear D E J;go_wp2_with fail;refine Calls.mono (P:=Tryz.prog) S.out ?_;intro e d W;obtain⟨p,rfl,h3⟩:=SetTo.ret C R A.out.2.1 W;clear W S;go_wp2_with fail;go_ret;exact⟨p,rfl,h3⟩
end Go.Proofs.YtfnkkkcojnffdaaGreatDoor
