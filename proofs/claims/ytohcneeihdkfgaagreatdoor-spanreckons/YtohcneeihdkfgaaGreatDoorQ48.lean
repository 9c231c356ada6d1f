/- What is proved here: the law on spans holds of all spans and powers, over this seat's translation. -/
import Derived.Test.YtohcneeihdkfgaaGreatDoorQ46
namespace Go.Proofs.YtohcneeihdkfgaaGreatDoor.EN
open Go.ChangeShapes Go.WideShapes Go.ChangeAt Go.RowKit
theorem q1w {x y m n:Nat} (h1:MaxF x y m) (h2:MaxF x y n):fz m=fz n:=by
 obtain⟨a,A,a2⟩:=h1;obtain⟨b,B,C⟩:=h2;have h3:fz n≤fz m:=by rcases b with rfl|rfl<;>assumption
 have D:fz m≤fz n:=by rcases a with rfl|rfl<;>assumption
 omega
theorem q1y {x y m n:Nat} (h1:MinF x y m) (h2:MinF x y n):fz m=fz n:=by
 obtain⟨a,A,a2⟩:=h1;obtain⟨b,B,C⟩:=h2;have h3:fz m≤fz n:=by rcases b with rfl|rfl<;>assumption
 have D:fz n≤fz m:=by rcases a with rfl|rfl<;>assumption
 omega
theorem qY {x y m:Nat} (A:fex x<2047) (B:fex y<2047) (h:MaxF x y m):fex m<2047:=by rcases h.1 with rfl|rfl<;>assumption
theorem qZ {x y m:Nat} (A:fex x<2047) (B:fex y<2047) (h:MinF x y m):fex m<2047:=by rcases h.1 with rfl|rfl<;>assumption
theorem spanReckons_c (w:World) (lo hi lo2 hi2:Nat) (n:Int) (L:Tab w) (E:lo<2^64) (D:hi<2^64) (C:lo2<2^64) (B:hi2<2^64):
  Calls Tryz.prog 5 #[.agg #[.float .f64 lo,.float .f64 hi],.agg #[.float .f64 lo2,.float .f64 hi2],.int .i64 n] w fun e w'=>e= .returned (.bool true)∧G w w':=by
 obtain⟨v1,v2,j,rp,rr⟩:=q0i lo hi E D;have S:Way w 45 49 #[.agg #[.float .f64 lo,.float .f64 hi],.agg #[.float .f64 lo2,.float .f64 hi2]] #[.int .i64 0,.agg #[.float .f64 lo,.float .f64 hi],.agg #[.float .f64 lo2,.float .f64 hi2]] _:=⟨fun A g=>q2b E D C B A (L.G g),fun A=>q45 E D C B A,fun A=>jT (pV _ _ _ _ _ _) A⟩;have U:Way w 46 49 #[.agg #[.float .f64 lo,.float .f64 hi],.agg #[.float .f64 lo2,.float .f64 hi2]] #[.int .i64 1,.agg #[.float .f64 lo,.float .f64 hi],.agg #[.float .f64 lo2,.float .f64 hi2]] _:=⟨fun A g=>q3P E D C B A (L.G g),fun A=>q5g E D C B A,fun A=>jT (pV _ _ _ _ _ _) A⟩;have W:Way w 47 49 #[.agg #[.float .f64 lo,.float .f64 hi],.agg #[.float .f64 lo2,.float .f64 hi2]] #[.int .i64 2,.agg #[.float .f64 lo,.float .f64 hi],.agg #[.float .f64 lo2,.float .f64 hi2]] _:=⟨fun A g=>r9 E D C B A (L.G g),fun A=>q4M E D C B A,fun A=>jT (pV _ _ _ _ _ _) A⟩;have X:Way w 48 49 #[.agg #[.float .f64 lo,.float .f64 hi],.agg #[.float .f64 lo2,.float .f64 hi2]] #[.int .i64 3,.agg #[.float .f64 lo,.float .f64 hi],.agg #[.float .f64 lo2,.float .f64 hi2]] _:=⟨fun A g=>ru E D C B A (L.G g),fun A=>q4U E D C B A,fun A=>jT (q35 _ _ _ _) A⟩;have Y:Way w 51 52 #[.agg #[.float .f64 lo,.float .f64 hi],.int .i64 n] #[.agg #[.float .f64 lo,.float .f64 hi],.int .i64 n] _:=⟨fun A g=>q0U A lo hi n (L.G g) E D,fun A=>q3r A lo hi n E D,fun A=>jT (q34 _ _ _) A⟩
 have Z:Way w 53 54 #[.agg #[.float .f64 lo,.float .f64 hi]] #[.agg #[.float .f64 lo,.float .f64 hi]] _:=⟨fun A g=>rp A (L.G g),fun A=>rr A,fun A=>jT j A⟩;have K:=fun A (g:G w A)=>q6J A (L.G g);have F:=fun A=>kS A lo hi E D;have I:=fun A=>gQ A lo hi E D;have J:=fun A=>gQ A lo2 hi2 C B;by_cases h1:spE lo hi=0
 ·by_cases h2:spE lo2 hi2=0
  ·have h:spE2 lo hi lo2 hi2=0:=by unfold spE2;rw[if_pos h1];exact h2
   obtain⟨f1,f2,-⟩:=fA E D h1;obtain⟨f3,f4,-⟩:=fA C B h2;obtain⟨m1,m2,M,N,c⟩:=q21 lo hi lo2 hi2 E D C B h;obtain⟨n1,O,i⟩:=q1u lo lo2 f1 f3;obtain⟨s,R,d⟩:=q1v hi hi2 f2 f4;have y:=qY f1 f3 M;have q2:=qZ f2 f4 N;have q3:=qY f1 f3 O;have q4:=qZ f2 f4 R;have m:=q1w M O;have o:=q1y N R;exact ln w lo hi lo2 hi2 n _ _ _ _ _ _ _ _ m1 m2 n1 s K F I J S U W X Y Z (Or.inr (Or.inr ⟨h1,h2,c,i,d,by rw[jY y q2,jY q3 q4,m,o],fun A=>kG A m1 m2 n1 s (pG y q3 m) (pG q2 q4 o)⟩))
  ·have h:spE2 lo hi lo2 hi2=spE lo2 hi2:=by unfold spE2;rw[if_pos h1]
   refine ln w lo hi lo2 hi2 n _ _ _ _ _ _ _ _ 0 0 0 0 K F I J S U W X Y Z (Or.inr (Or.inl ⟨h1,h2,fun A=> ?_⟩));have k:=nN A lo hi lo2 hi2 E D C B (by rw[h];exact h2);rw[h] at k;exact k
 ·have h:spE2 lo hi lo2 hi2=spE lo hi:=by unfold spE2;rw[if_neg h1]
  refine ln w lo hi lo2 hi2 n _ _ _ _ _ _ _ _ 0 0 0 0 K F I J S U W X Y Z (Or.inl ⟨h1,fun A=> ?_⟩);have k:=nN A lo hi lo2 hi2 E D C B (by rw[h];exact h1);rw[h] at k;exact k
end Go.Proofs.YtohcneeihdkfgaaGreatDoor.EN
