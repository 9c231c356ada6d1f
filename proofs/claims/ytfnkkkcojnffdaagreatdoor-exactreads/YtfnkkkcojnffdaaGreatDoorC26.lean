/- What is proved here: contracts of the reference's big numbers: Mul, Lsh, Abs, SetInt64 of Int, over this seat's translation. -/
import Derived.Test.YtfnkkkcojnffdaaGreatDoorC1
import Derived.Test.YtfnkkkcojnffdaaGreatDoorC3
import Derived.Test.YtfnkkkcojnffdaaGreatDoorC22
import Derived.Test.YtfnkkkcojnffdaaGreatDoorC15
import Derived.Test.YtfnkkkcojnffdaaGreatDoorC6
namespace Go.Proofs.YtfnkkkcojnffdaaGreatDoor
open Go.ChangeShapes Go.WideShapes Go.ChangeAt Go.RowKit
open BN
theorem qF (w:World) (b o:Nat) (x:Int) (J:Int) (O: -9223372036854775808≤x∧x≤9223372036854775807) (hb:b<w.heap.size) (M:IntIs w b o J):
  Calls Tryz.prog 103 #[.pointer (some ⟨b,o,none⟩),.int .i64 x] w (SetTo w b o x):=by
 obtain⟨R,S⟩:=O;have K:=hi9 (fM w x.natAbs dT);have L:=hi9 M;clear M;by_cases A:x<0
 ·have F:decide (x<0)=true:=by simpa using A
  have I:IntKind.u64.wrap x=x+18446744073709551616:=by rw[IntKind.wrap_u64];omega
  have N:IntKind.u64.wrap (-(x+18446744073709551616))=(x.natAbs:Int):=by rw[IntKind.wrap_u64];omega
  have E:Hid (sg true x.natAbs=x):=by show sg true x.natAbs=x;unfold sg;simp;omega
  generalize x.natAbs=a at *;clear A;go_enter Tryz.func103,Tryz.ntmps103;go_wp2_with fail;refine dS K.out ?_;rintro e W ⟨U,rfl,B,D⟩;go_wp2_with fail;refine dS (gf (w0:=w) hb B (gI _ b o _ J _ _ (IntIs.G L.out hb B) D)) ?_;rintro e X ⟨rfl,C⟩;rw[E.out] at C;go_wp2_with fail;go_ret;exact C
 ·have F:decide (x<0)=false:=by simpa using A
  have I:IntKind.u64.wrap x=(x.natAbs:Int):=by rw[IntKind.wrap_u64];omega
  have E:Hid (sg false x.natAbs=x):=by show sg false x.natAbs=x;unfold sg;simp;omega
  generalize x.natAbs=a at *;clear A;go_enter Tryz.func103,Tryz.ntmps103;go_wp2_with fail;refine dS K.out ?_;rintro e W ⟨U,rfl,B,D⟩;go_wp2_with fail;refine dS (gf (w0:=w) hb B (gI _ b o _ J _ _ (IntIs.G L.out hb B) D)) ?_;rintro e X ⟨rfl,C⟩;rw[E.out] at C;go_wp2_with fail;go_ret;exact C
theorem nD (w:World) (t:TypeId):IntIs (w.alloc (.cells #[.bool false,.slice none 0 0] t)) w.heap.size 0 0:=by
 refine⟨false,.slice none 0 0,0,⟨?_,?_,World.frozen?_alloc_at _ _ _ _ rfl,World.frozen?_alloc_at _ _ _ _ rfl⟩,fh _ _ _,rfl,fun h=>by cases h⟩
 ·rw[World.cell?_alloc_at _ _ _ _ rfl];rfl
 ·rw[World.cell?_alloc_at _ _ _ _ rfl];rfl
/-- A call hands back a new Int that holds s; nothing that was there has turned. -/
def RetI (w:World) (s:Int) (e:Ending) (A:World):Prop:=∃ p,e= .returned (.pointer (some ⟨p,0,none⟩))∧G w A∧w.heap.size≤p∧p<A.heap.size∧IntIs A p 0 s
/-- What a method leaves behind that sets a new Int. -/
theorem SetTo.ret {w0 w:World} {b:Nat} {s:Int} {e:Ending} {A:World} (g:G w0 w) (hb:w0.heap.size≤b) (C:b<w.heap.size) (h:SetTo w b 0 s e A):RetI w0 s e A:=by
 obtain⟨rfl,h2,-,B⟩:=h;exact⟨b,rfl,GX.fresh g h2 hb,hb,ad C h2.size,B⟩
theorem mH (w:World) (x:Int) (B: -9223372036854775808≤x∧x≤9223372036854775807):Calls Tryz.prog 44 #[.int .i64 x] w (RetI w x):=by
 have C:Hid (∀ A b,b<A.heap.size→IntIs A b 0 0→_):=fun A b h1 h2=>qF A b 0 x 0 B h1 h2;clear B;go_enter Tryz.func44,Tryz.ntmps44;go_wp2_with fail;refine dS (C.out _ w.heap.size eO (nD w _)) ?_;intro e A h;have h2:=SetTo.ret ((af w).alloc _) (ay _) eO h;obtain⟨p,rfl,h3⟩:=h2;go_wp2_with fail;go_ret;exact⟨p,rfl,h3⟩
end Go.Proofs.YtfnkkkcojnffdaaGreatDoor
