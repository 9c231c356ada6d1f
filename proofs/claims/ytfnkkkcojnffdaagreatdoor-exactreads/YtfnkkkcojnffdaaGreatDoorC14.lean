/- What is proved here: contracts of package bits, Split to Join, over this seat's translation. -/
import Derived.Test.YtfnkkkcojnffdaaGreatDoorC1
import Derived.Test.YtfnkkkcojnffdaaGreatDoorC8
import Derived.Test.YtfnkkkcojnffdaaGreatDoorC3
import Derived.Test.YtfnkkkcojnffdaaGreatDoorC3
namespace Go.Proofs.YtfnkkkcojnffdaaGreatDoor
open Go.ChangeShapes Go.WideShapes Go.ChangeAt Go.RowKit
attribute [local go_sem] eH ff
set_option maxRecDepth 100000 in
theorem fF (neg:Bool) (b:Nat) (w:World) (h:b<2^63):
  Calls Tryz.prog 197 #[.bool neg,.int .u64 b] w fun e C=>e= .returned (.float .f64 (if neg then b+2^63 else b))∧G w C:=by
 have F1:=hi9 (FT.or_sign b h);cases neg
 ·go_enter Tryz.func197,Tryz.ntmps197;go_wp2;go_ret;exact⟨by simp,af _⟩
 ·go_enter Tryz.func197,Tryz.ntmps197;go_wp2_with fail;refine(jm _).mono ?_;rintro e D ⟨rfl,A⟩;go_wp2_with fail;refine(q1P 11 52 _ dT).mono ?_;rintro e E ⟨rfl,B⟩;go_wp2;go_ret;exact⟨by rw[F1.out];rfl,aa A B⟩
set_option maxRecDepth 100000 in
theorem jC (B A E F:Nat) (w:World) (S:A<2^F) (h1:1≤E) (h2:E≤11) (h3:F≤52) (k:B<2^11):
  Calls Tryz.prog 138 #[.int .i64 B,.int .u64 A,.agg #[.int .i64 E,.int .i64 F]] w fun e i=>
   e= .returned (.tuple #[.int .u64 ((if B=0 then A else 2^F+A:Nat):Int),.int .i64 ((max B 1:Nat)-(2^(E-1)-1)-F)])∧G w i:=by
 have m:=fR (show E-1≤11 by omega);have o:=fR h3;have D:bits .or .u64 (A:Int) (2^F)=((2^F+A:Nat):Int):=by
  have Z:=eM h3;rw[FT.ipow,u64_or_nat A _ dT dT,dO,nat_join F (2^F) A eO S]
 have F1:=hi9 D;clear D;by_cases c:B=0
 ·subst c;go_enter Tryz.func138,Tryz.ntmps138;go_wp2_with fail;refine ee dV dV ?_;intro W hW;have J:=fT (w:=W) ⟨w.heap.size,0,none⟩ (.int .i64 E);have K:=fT (w:=W) ⟨w.heap.size,1,none⟩ (.int .i64 F);clear hW
  repeat (go_big_quiet_step ((go_at_call 185;exact gF (mA E F _ h1 h2))))
  refine wpQuiet_nil ?_;clear J K;intro j N;go_wp2
  go_ret2
  exact⟨by simp,aa ((af _).alloc _) N⟩
 ·have d:((B:Int)==0)=false:=by simp;omega
  have Y:((B:Int) != 0)=true:=by simp;omega
  have R:max B 1=B:=by omega
  rw[R];clear R;go_enter Tryz.func138,Tryz.ntmps138;go_wp2_with fail;refine(oI E F _ dT).mono ?_;rintro e j ⟨rfl,C⟩;have U:=C.cell (p:=⟨w.heap.size,0,none⟩) (v:= .int .i64 E) (by first|(simp;done)|(simp;omega)|omega) (by first|assumption|(simp [go_sem];done)|(simp [*,go_sem];done));have X:=C.cell (p:=⟨w.heap.size,1,none⟩) (v:= .int .i64 F) (by first|(simp;done)|(simp;omega)|omega) (by first|assumption|(simp [go_sem];done)|(simp [*,go_sem];done));have I:=C.size
  try simp at I
  go_wp2_with fail;refine ee dV dV ?_;intro W hW;have L:=fT (w:=W) ⟨w.heap.size,0,none⟩ (.int .i64 E);have M:=fT (w:=W) ⟨w.heap.size,1,none⟩ (.int .i64 F);clear hW
  repeat (go_big_quiet_step ((go_at_call 185;exact gF (mA E F _ h1 h2))))
  refine wpQuiet_nil ?_;clear L M;intro s O;go_wp2
  go_ret2
  exact⟨by simp [F1.out],aa (aa ((af _).alloc _) C) O⟩
end Go.Proofs.YtfnkkkcojnffdaaGreatDoor
