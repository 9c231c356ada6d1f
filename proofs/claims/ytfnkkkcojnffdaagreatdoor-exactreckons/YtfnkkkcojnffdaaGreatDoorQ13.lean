/- What is proved here: contracts of package bits, Split to Join, over this seat's translation. -/
import Derived.Test.YtfnkkkcojnffdaaGreatDoorQ1
import Derived.Test.YtfnkkkcojnffdaaGreatDoorQ8
import Derived.Test.YtfnkkkcojnffdaaGreatDoorQ3
import Derived.Test.YtfnkkkcojnffdaaGreatDoorQ3
namespace Go.Proofs.YtfnkkkcojnffdaaGreatDoor
open Go.ChangeShapes Go.WideShapes Go.ChangeAt Go.RowKit
attribute [local go_sem] fL gy
theorem q0L {a A:Bool} {b B c c':Int} (h1:a=A) (h2:b=B) (h3:c=c'):
  Ending.returned (.tuple #[.bool a,.int .i64 b,.int .u64 c])= .returned (.tuple #[.bool A,.int .i64 B,.int .u64 c']):=by rw[h1,h2,h3]
set_option maxRecDepth 100000 in
theorem s8 (b E F:Nat) (w:World) (J:b<2^64) (h1:E≤11) (h2:F≤52) (h3:1≤F):
  Calls Tryz.prog 183 #[.int .u64 b,.agg #[.int .i64 E,.int .i64 F]] w fun e R=>
   e= .returned (.tuple #[.bool (b/2^(E+F)%2==1),.int .i64 (b/2^F%2^E:Nat),.int .u64 (b%2^F:Nat)])∧G w R:=by
 have U:=gZ h1;have W:=gZ h2;have I:b/2^F<2^63:=by
  have:2^1≤2^F:=fU h3;rw[bh eK]
  calc b<2^64:=J
   _=2^63*2^1:=by rfl
   _≤2^63*2^F:=aA _ this
 have f1:=FT.and_mask b F J eK;have f2:=FT.and_mask_i64 (b/2^F) E I eK;have f3:=FT.and_bit b (E+F) J eK;have f4:wrap64 ((b:Int)/2^F)=((b/2^F:Nat):Int):=by
  rw[FT.ipow,← cW];generalize b/2^F=q at *;rw[IntWalk.wrap64_in _ eK]
 have F1:=hi9 f1;have F2:=hi9 f2;have F3:=hi9 f3;have L:=hi9 f4;clear f1 f2 f3 f4;go_enter Tryz.func183,Tryz.ntmps183;go_wp2_with fail;refine(mj E F _ eK).mono ?_;rintro e S ⟨rfl,A⟩;have C:=A.cell (p:=⟨w.heap.size,0,none⟩) (v:= .int .i64 E) fI (by simp [go_sem]);have D:=A.cell (p:=⟨w.heap.size,1,none⟩) (v:= .int .i64 F) fI (by simp [go_sem]);have O:w.heap.size+1≤S.heap.size:=by simpa using A.size
 go_wp2_with fail
 go_region_with (go_at_call 136;refine(iA E F _ h1).mono ?_;rintro e X ⟨rfl,B⟩;have N:=B.cell (p:=⟨w.heap.size,1,none⟩) (v:= .int .i64 F) (by simp;omega) (by simpa using D);have M:=B.cell (p:=⟨w.heap.size,0,none⟩) (v:= .int .i64 E) (by simp;omega) (by simpa using C))
 all_goals
  clear C D;go_wp2_with fail;refine(q0Y E F _ eK).mono ?_;rintro e Y ⟨rfl,K⟩;go_wp2
  go_ret3
  exact⟨q0L F3.out (by rw[L.out];exact F2.out) F1.out,aa (aa (aa ((ag _).alloc _) A).drew B) K⟩
set_option maxRecDepth 100000 in
theorem fO (neg:Bool) (b:Nat) (w:World) (h:b<2^63):
  Calls Tryz.prog 197 #[.bool neg,.int .u64 b] w fun e C=>e= .returned (.float .f64 (if neg then b+2^63 else b))∧G w C:=by
 have F1:=hi9 (FT.or_sign b h);cases neg
 ·go_enter Tryz.func197,Tryz.ntmps197;go_wp2;go_ret;exact⟨by simp,ag _⟩
 ·go_enter Tryz.func197,Tryz.ntmps197;go_wp2_with fail;refine(ij _).mono ?_;rintro e D ⟨rfl,A⟩;go_wp2_with fail;refine(q0Y 11 52 _ eK).mono ?_;rintro e E ⟨rfl,B⟩;go_wp2;go_ret;exact⟨by rw[F1.out];rfl,aa A B⟩
set_option maxRecDepth 100000 in
theorem ji (B A E F:Nat) (w:World) (S:A<2^F) (h1:1≤E) (h2:E≤11) (h3:F≤52) (k:B<2^11):
  Calls Tryz.prog 138 #[.int .i64 B,.int .u64 A,.agg #[.int .i64 E,.int .i64 F]] w fun e i=>
   e= .returned (.tuple #[.int .u64 ((if B=0 then A else 2^F+A:Nat):Int),.int .i64 ((max B 1:Nat)-(2^(E-1)-1)-F)])∧G w i:=by
 have m:=gZ (show E-1≤11 by omega);have o:=gZ h3;have D:bits .or .u64 (A:Int) (2^F)=((2^F+A:Nat):Int):=by
  have Z:=fU h3;rw[FT.ipow,u64_or_nat A _ eK eK,dL,nat_join F (2^F) A fI S]
 have F1:=hi9 D;clear D;by_cases c:B=0
 ·subst c;go_enter Tryz.func138,Tryz.ntmps138;go_wp2_with fail;refine eV eM eM ?_;intro W hW;have J:=ik (w:=W) ⟨w.heap.size,0,none⟩ (.int .i64 E);have K:=ik (w:=W) ⟨w.heap.size,1,none⟩ (.int .i64 F);clear hW
  repeat (go_big_quiet_step ((go_at_call 185;exact jg (oQ E F _ h1 h2))))
  refine wpQuiet_nil ?_;clear J K;intro j N;go_wp2
  go_ret2
  exact⟨by simp,aa ((ag _).alloc _) N⟩
 ·have d:((B:Int)==0)=false:=by simp;omega
  have Y:((B:Int) != 0)=true:=by simp;omega
  have R:max B 1=B:=by omega
  rw[R];clear R;go_enter Tryz.func138,Tryz.ntmps138;go_wp2_with fail;refine(mj E F _ eK).mono ?_;rintro e j ⟨rfl,C⟩;have U:=C.cell (p:=⟨w.heap.size,0,none⟩) (v:= .int .i64 E) (by first|(simp;done)|(simp;omega)|omega) (by first|assumption|(simp [go_sem];done)|(simp [*,go_sem];done));have X:=C.cell (p:=⟨w.heap.size,1,none⟩) (v:= .int .i64 F) (by first|(simp;done)|(simp;omega)|omega) (by first|assumption|(simp [go_sem];done)|(simp [*,go_sem];done));have I:=C.size
  try simp at I
  go_wp2_with fail;refine eV eM eM ?_;intro W hW;have L:=ik (w:=W) ⟨w.heap.size,0,none⟩ (.int .i64 E);have M:=ik (w:=W) ⟨w.heap.size,1,none⟩ (.int .i64 F);clear hW
  repeat (go_big_quiet_step ((go_at_call 185;exact jg (oQ E F _ h1 h2))))
  refine wpQuiet_nil ?_;clear L M;intro s O;go_wp2
  go_ret2
  exact⟨by simp [F1.out],aa (aa ((ag _).alloc _) C) O⟩
/-- The two fields of a word. -/
theorem mY (b ex E:Nat) (w:World) (L:b<2^64) (I:b/2^52%2^11=ex) (J:b%2^52=E):
  Calls Tryz.prog 135 #[.float .f64 b] w fun e F=>e= .returned (.tuple #[.bool (FT.neg b),.int .i64 ex,.int .u64 E])∧G w F:=by
 have key:∀ w,Calls Tryz.prog 183 #[.int .u64 b,.agg #[.int .i64 11,.int .i64 52]] w fun e F=>e= .returned (.tuple #[.bool (FT.neg b),.int .i64 ex,.int .u64 E])∧G w F:=by
  intro w;have:=s8 b 11 52 w L eK eK eK;rw[I,J] at this;exact this
 clear I J;have K:=hi9 key;clear key;go_enter Tryz.func135,Tryz.ntmps135;go_wp2_with fail;refine(ij _).mono ?_;rintro e M ⟨rfl,A⟩;have C:=A.size
 try simp at C
 go_wp2_with fail;refine(K.out _).mono ?_;rintro e N ⟨rfl,B⟩;have D:=B.size
 try simp at D
 go_wp2
 go_ret3
 exact⟨rfl,aa A B⟩
end Go.Proofs.YtfnkkkcojnffdaaGreatDoor
