/- What is proved here: contracts of the law on fractions: what both sides reckon, and its text, over this seat's translation.
What is proved here: the law on fractions: square roots on both sides, over this seat's translation.
What is proved here: the law on fractions: a float on both sides, over this seat's translation. -/
import Derived.Test.YtfnkkkcojnffdaaGreatDoorQ1
import Derived.Test.YtfnkkkcojnffdaaGreatDoorQ3
import Derived.Test.YtfnkkkcojnffdaaGreatDoorQ41
import Derived.Test.YtfnkkkcojnffdaaGreatDoorQ44
import Derived.Test.YtfnkkkcojnffdaaGreatDoorQ39
import Derived.Test.YtfnkkkcojnffdaaGreatDoorQ32
import Derived.Test.YtfnkkkcojnffdaaGreatDoorQ32
import Derived.Test.YtfnkkkcojnffdaaGreatDoorQ39
import Derived.Test.YtfnkkkcojnffdaaGreatDoorQ39
import Derived.Test.YtfnkkkcojnffdaaGreatDoorQ39
import Derived.Test.YtfnkkkcojnffdaaGreatDoorQ40
import Derived.Test.YtfnkkkcojnffdaaGreatDoorQ42
import Derived.Test.YtfnkkkcojnffdaaGreatDoorQ39
import Derived.Test.YtfnkkkcojnffdaaGreatDoorQ43
import Derived.Test.YtfnkkkcojnffdaaGreatDoorQ43
import Derived.Test.YtfnkkkcojnffdaaGreatDoorQ40
import Derived.Test.YtfnkkkcojnffdaaGreatDoorQ39
import Derived.Test.YtfnkkkcojnffdaaGreatDoorQ30
import Derived.Test.YtfnkkkcojnffdaaGreatDoorQ6
import Derived.Test.YtfnkkkcojnffdaaGreatDoorQ39
import GoSem.Extern.MathDim
import Derived.Test.YtfnkkkcojnffdaaGreatDoorQ39
import Derived.Test.YtfnkkkcojnffdaaGreatDoorQ40
import Derived.Test.YtfnkkkcojnffdaaGreatDoorQ39
import Derived.Test.YtfnkkkcojnffdaaGreatDoorQ39
import Derived.Test.YtfnkkkcojnffdaaGreatDoorQ40
namespace Go.Proofs.YtfnkkkcojnffdaaGreatDoor.EN
open Go.ChangeShapes Go.WideShapes Go.ChangeAt Go.RowKit
/-- A text of a fraction. -/
def Txt (q:Rat) (e:Ending) (w A:World):Prop:=e= .returned (.string ⟨(qtx q).toArray⟩)∧G w A
theorem re_c (w:World) (b:Nat) (q:Rat) (K:Nat) (E:K≤400) (C:1≤K) (A:QB q K) (hb:b<w.heap.size) (h:RIs w b q):
  Calls Tryz.prog 8 #[.pointer (some ⟨b,0,none⟩)] w fun e D=>Txt q e w D:=by
 have B:=hi9 (q3m w b q (2*K) eK eK (qb32 A).1 (qb32 A).2 h hb);unfold Txt;generalize (⟨(qtx q).toArray⟩:ByteArray)=T at *;clear A h;go_enter Tryz.func8,Tryz.ntmps8;go_wp2_with fail;refine Calls.mono (P:=Tryz.prog) B.out ?_;rintro e F ⟨rfl,g1⟩;go_wp2_with fail;go_ret;exact⟨rfl,g1⟩
/-- A new ratio was set. -/
def NewR (W:World) (q:Rat) (e:Ending) (A:World):Prop:=e= .returned (.pointer (some ⟨W.heap.size,0,none⟩))∧G W A∧W.heap.size<A.heap.size∧RIs A W.heap.size q
theorem SetRat.newR {W:World} {t:TypeId} {q:Rat} {e:Ending} {A:World} (h:SetRat (W.alloc (.cells #[.bool false,.slice none 0 0,.bool false,.slice none 0 0] t)) W.heap.size q e A):NewR W q e A:=
 ⟨h.1,GX.fresh ((ag W).alloc _) h.2.1 (az _),ae (by simp only[World.alloc,Array.size_push];omega) h.2.1.size,h.2.2⟩
theorem iw (W:World) (o:Obj):W.heap.size<(W.alloc o).heap.size:=by simp only[World.alloc,Array.size_push];omega
theorem mU (W:World) (t:TypeId):Rec (W.alloc (.cells #[.bool false,.slice none 0 0,.bool false,.slice none 0 0] t)) W.heap.size [.bool false,.slice none 0 0,.bool false,.slice none 0 0]:=Rec.new W _ t
theorem q1Q (W:World) (p q:Nat) (x y:Rat) (K:Nat) (D:K≤40000) (J:QB x K) (L:QB y K) (B:p<W.heap.size) (C:q<W.heap.size) (E:RIs W p x) (F:RIs W q y):
  Calls Tryz.prog 14 #[.pointer (some ⟨W.heap.size,0,none⟩),.pointer (some ⟨p,0,none⟩),.pointer (some ⟨q,0,none⟩)] (W.alloc (.cells #[.bool false,.slice none 0 0,.bool false,.slice none 0 0] 45)) (NewR W (x+y)):=by
 have I:=iw W (.cells #[.bool false,.slice none 0 0,.bool false,.slice none 0 0] 45);have A:G W (W.alloc (.cells #[.bool false,.slice none 0 0,.bool false,.slice none 0 0] 45)):=(ag W).alloc _;exact(q2H _ W.heap.size p q 0 0 x y K D J L I (dp A B) (dp A C) (jX _ _) (E.G B A) (F.G C A)).mono fun _ _ h=>h.newR
theorem q1U (W:World) (p q:Nat) (x y:Rat) (K:Nat) (D:K≤40000) (J:QB x K) (L:QB y K) (B:p<W.heap.size) (C:q<W.heap.size) (E:RIs W p x) (F:RIs W q y):
  Calls Tryz.prog 16 #[.pointer (some ⟨W.heap.size,0,none⟩),.pointer (some ⟨p,0,none⟩),.pointer (some ⟨q,0,none⟩)] (W.alloc (.cells #[.bool false,.slice none 0 0,.bool false,.slice none 0 0] 45)) (NewR W (x-y)):=by
 have I:=iw W (.cells #[.bool false,.slice none 0 0,.bool false,.slice none 0 0] 45);have A:G W (W.alloc (.cells #[.bool false,.slice none 0 0,.bool false,.slice none 0 0] 45)):=(ag W).alloc _;exact(q3w _ W.heap.size p q 0 0 x y K D J L I (dp A B) (dp A C) (jX _ _) (E.G B A) (F.G C A)).mono fun _ _ h=>h.newR
theorem q1R (W:World) (p q:Nat) (x y:Rat) (K:Nat) (D:K≤40000) (J:QB x K) (L:QB y K) (B:p<W.heap.size) (C:q<W.heap.size) (E:RIs W p x) (F:RIs W q y):
  Calls Tryz.prog 18 #[.pointer (some ⟨W.heap.size,0,none⟩),.pointer (some ⟨p,0,none⟩),.pointer (some ⟨q,0,none⟩)] (W.alloc (.cells #[.bool false,.slice none 0 0,.bool false,.slice none 0 0] 45)) (NewR W (x*y)):=by
 have I:=iw W (.cells #[.bool false,.slice none 0 0,.bool false,.slice none 0 0] 45);have A:G W (W.alloc (.cells #[.bool false,.slice none 0 0,.bool false,.slice none 0 0] 45)):=(ag W).alloc _;exact(q0j _ W.heap.size p q 0 0 x y K D J L I (dp A B) (dp A C) (jX _ _) (E.G B A) (F.G C A)).mono fun _ _ h=>h.newR
theorem q1T (W:World) (p q:Nat) (x y:Rat) (K:Nat) (E:K≤40000) (L:QB x K) (M:QB y K) (D:y≠0) (B:p<W.heap.size) (C:q<W.heap.size) (F:RIs W p x) (I:RIs W q y):
  Calls Tryz.prog 31 #[.pointer (some ⟨W.heap.size,0,none⟩),.pointer (some ⟨p,0,none⟩),.pointer (some ⟨q,0,none⟩)] (W.alloc (.cells #[.bool false,.slice none 0 0,.bool false,.slice none 0 0] 45)) (NewR W (x/y)):=by
 have J:=iw W (.cells #[.bool false,.slice none 0 0,.bool false,.slice none 0 0] 45);have A:G W (W.alloc (.cells #[.bool false,.slice none 0 0,.bool false,.slice none 0 0] 45)):=(ag W).alloc _;exact(q3d _ W.heap.size p q x y K E L M D J (dp A B) (dp A C) (mU _ _) (F.G B A) (I.G C A)).mono fun _ _ h=>h.newR
theorem q1S (W:World) (p:Nat) (x:Rat) (K:Nat) (C:K≤40000) (E:QB x K) (B:p<W.heap.size) (D:RIs W p x):
  Calls Tryz.prog 20 #[.pointer (some ⟨W.heap.size,0,none⟩),.pointer (some ⟨p,0,none⟩)] (W.alloc (.cells #[.bool false,.slice none 0 0,.bool false,.slice none 0 0] 45)) (NewR W (-x)):=by
 have F:=iw W (.cells #[.bool false,.slice none 0 0,.bool false,.slice none 0 0] 45);have A:G W (W.alloc (.cells #[.bool false,.slice none 0 0,.bool false,.slice none 0 0] 45)):=(ag W).alloc _;exact(q3l _ W.heap.size p x _ rfl K C E (dp A B) (mU _ _) (D.G B A)).mono fun _ _ h=>h.newR
theorem q1P (W:World) (p:Nat) (x:Rat) (K:Nat) (C:K≤40000) (E:QB x K) (B:p<W.heap.size) (D:RIs W p x):
  Calls Tryz.prog 34 #[.pointer (some ⟨W.heap.size,0,none⟩),.pointer (some ⟨p,0,none⟩)] (W.alloc (.cells #[.bool false,.slice none 0 0,.bool false,.slice none 0 0] 45)) (NewR W (absQ x)):=by
 have F:=iw W (.cells #[.bool false,.slice none 0 0,.bool false,.slice none 0 0] 45);have A:G W (W.alloc (.cells #[.bool false,.slice none 0 0,.bool false,.slice none 0 0] 45)):=(ag W).alloc _;exact(q3e _ W.heap.size p x _ rfl K C E (dp A B) (mU _ _) (D.G B A)).mono fun _ _ h=>h.newR
/-- Two fractions on both sides. -/
def LawSt (w:World) (v:Value) (p:Nat) (x:Rat):Prop:=QIs w v x∧p<w.heap.size∧RIs w p x
theorem LawSt.G {w A:World} {v:Value} {p:Nat} {x:Rat} (h:LawSt w v p x) (g:G w A):LawSt A v p x:=⟨h.1.G g,dp g h.2.1,h.2.2.G h.2.1 g⟩
theorem q0Z {z:Int}:(z.sign<0)=(z<0):=propext (by
 rcases Int.lt_trichotomy z 0 with h|h|h
 ·rw[dI h];omega
 ·subst h;exact Iff.rfl
 ·rw[dz h];omega)
/-- The three ways of a square root. -/
def rz (X A B:Rat) (cs:Int) (ok:Bool):Prop:=(X.num<0∧A=0∧cs=3)∨(¬ X.num<0∧A=0∧cs=9∧ok=false)∨(¬ X.num<0∧A=B∧cs=0∧ok=true)
theorem q2c (X:Rat) (A:QB X 1):∃ (E D:Rat) (cs:Int) (ok:Bool),(∀ w v,QIs w v X→Calls Tryz.prog 32 #[v] w (gM w E cs))∧(∀ w b,b<w.heap.size→RIs w b (absQ X)→Calls Tryz.prog 33 #[.pointer (some ⟨b,0,none⟩)] w (q2n w D ok))∧QB D 1∧QB E 1∧rz X E D cs ok:=by
 obtain⟨r,r1,r2⟩:=qf X.num.natAbs;obtain⟨s,I,L⟩:=qf X.den;obtain⟨K,B⟩:=ld X;have C:(absQ X).num.natAbs=X.num.natAbs:=by rw[K,ar]
 have M:QB (absQ X) 1:=⟨by rw[C];exact A.1,by rw[B];exact A.2⟩;have F:0<s:=by
  have:=X.den_pos;rcases bo s with h|h
  ·subst h;omega
  ·exact h
 have N:r<2^(64*1):=aq (bk (dA r) r1) A.1;have O:s<2^(64*1):=aq (bk (dA s) I) A.2;have J:QB (mkRat r s) 1:=lE F rfl (by rw[ar];exact N) O;refine⟨_,mkRat r s,_,decide (r*r=X.num.natAbs∧s*s=X.den),fun w v h=>q14 w v X r s 1 eK eK h A r1 r2 I L,fun w b hb h=> ?_,J,?_,?_⟩
 ·have h2:=pD w b (absQ X) r s 1 eK eK hb h M (by rw[K];omega) (by rw[C];exact r1) (by rw[C];exact r2) (by rw[B];exact I) (by rw[B];exact L);rw[C,B] at h2;exact h2
 ·split
  ·exact mS eK
  ·split
   ·exact J
   ·exact mS eK
 ·unfold rz;by_cases h:X.num<0
  ·rw[if_pos h,if_pos h];exact Or.inl ⟨h,rfl,rfl⟩
  ·rw[if_neg h,if_neg h];by_cases h3:r*r=X.num.natAbs∧s*s=X.den
   ·rw[if_pos h3,if_pos h3];exact Or.inr (Or.inr ⟨h,rfl,rfl,decide_eq_true h3⟩)
   ·rw[if_neg h3,if_neg h3];exact Or.inr (Or.inl ⟨h,rfl,rfl,decide_eq_false h3⟩)
/-- The two ways of a float. -/
def q2m (V:Rat) (co:Int) (fin:Bool):Prop:=(fin=true∧co=0)∨(fin=false∧co=4∧V=0)
theorem q1V (x:Nat) (A:x<2^64):∃ (V:Rat) (co:Int) (fin:Bool),(∀ w,Tab w→Calls Tryz.prog 35 #[.float .f64 x] w (gM w V co))∧(∀ w,Calls Tryz.prog 36 #[.float .f64 x] w fun e C=>e= .returned (.bool fin)∧G w C)∧QB V 80∧q2m V co fin∧(fin=true→∀ w,Calls Tryz.prog 37 #[.float .f64 x] w (RetRat w V)):=by
 by_cases h:fex x<2047
 ·refine⟨FQ x,0,true,fun w B=>of_c w x B A h,fun w=> ?_,q3Q h,Or.inl ⟨rfl,rfl⟩,fun _ w=> ?_⟩
  ·have h1:=kN w x A;rw[decide_eq_true h] at h1;exact h1
  ·rw[q2q A h];exact q3g w x A h
 ·have h2:fex x=2047:=by
   have:fex x<2^11:=aX _ eK;omega
  refine⟨0,4,false,fun w B=>q0v w x A h2,fun w=> ?_,mS eK,Or.inr ⟨rfl,rfl,rfl⟩,fun h=>by cases h⟩;have h1:=kN w x A;rw[decide_eq_false h] at h1;exact h1
end Go.Proofs.YtfnkkkcojnffdaaGreatDoor.EN
