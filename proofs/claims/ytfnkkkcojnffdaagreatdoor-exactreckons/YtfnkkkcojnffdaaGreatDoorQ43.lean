/- What is proved here: the reference's root of a fraction that isn't below 0, over this seat's translation.
What is proved here: contracts of slices.MinFunc and MaxFunc of fractions, and of package ends' around, over this seat's translation.
What is proved here: contracts of package ends: around, corners, Mul, Quo, over this seat's translation.
What is proved here: contract of package ends: Pow, over this seat's translation.
What is proved here: what holds between the operations of package span's reckoned, over this seat's translation.
What is proved here: what holds between the operations of a region that stores a span of floats late; contracts of package span: Add, Sub, Mul, Quo, over this seat's translation. -/
import Derived.Test.YtfnkkkcojnffdaaGreatDoorQ37
import Derived.Test.YtfnkkkcojnffdaaGreatDoorQ40
import Derived.Test.YtfnkkkcojnffdaaGreatDoorQ40
import Derived.Test.YtfnkkkcojnffdaaGreatDoorQ39
import Derived.Test.YtfnkkkcojnffdaaGreatDoorQ15
import Derived.Test.YtfnkkkcojnffdaaGreatDoorQ39
import Derived.Test.YtfnkkkcojnffdaaGreatDoorQ39
import Derived.Test.YtfnkkkcojnffdaaGreatDoorQ38
import Derived.Test.YtfnkkkcojnffdaaGreatDoorQ38
import Derived.Test.YtfnkkkcojnffdaaGreatDoorQ38
import Derived.Test.YtfnkkkcojnffdaaGreatDoorQ37
import Derived.Test.YtfnkkkcojnffdaaGreatDoorQ6
import Derived.Test.YtfnkkkcojnffdaaGreatDoorQ42
import Derived.Test.YtfnkkkcojnffdaaGreatDoorQ40
import Derived.Test.YtfnkkkcojnffdaaGreatDoorQ39
import Derived.Test.YtfnkkkcojnffdaaGreatDoorQ30
import Derived.Test.YtfnkkkcojnffdaaGreatDoorQ1
import Derived.Test.YtfnkkkcojnffdaaGreatDoorQ31
import Derived.Test.YtfnkkkcojnffdaaGreatDoorQ31
namespace Go.Proofs.YtfnkkkcojnffdaaGreatDoor.EN
open Go.ChangeShapes Go.WideShapes Go.ChangeAt Go.RowKit
attribute [local go_sem] fL gy
/-- What the reference's root rests on. -/
structure RootSet (q:Rat) (E F H S N T:Nat) (s:Rat):Prop where
 e0:0<E
 f0:0<F
 h2:F=2*H
 w:Whole q.num.natAbs q.den E F S
 n:N=q.num.natAbs*(E*F*(E*F))/q.den
 r1:S*S≤N
 r2:N<(S+1)*(S+1)
 sr:s=mkRat (S:Int) (E*F)
 t1:T<2047*2^52
 at_:RootAt E q.num.natAbs q.den T
 z:q0N E q.num.natAbs q.den T=0↔S*S*q.den=q.num.natAbs*(E*E)*(F*F)∧FT.v T*F=S
 l:q0N E q.num.natAbs q.den T≠0→q0N E q.num.natAbs q.den T=if S<(FT.v T+FT.v (T+1))*H then 1 else if S=(FT.v T+FT.v (T+1))*H∧S*S*q.den=q.num.natAbs*(E*E)*(F*F) then 2 else 3
 x:E*F=2^1200
 tz:S=0→T=0
 tn:S≠0→T=tV s.num.natAbs s.den
end Go.Proofs.YtfnkkkcojnffdaaGreatDoor.EN
namespace Go.Proofs.YtfnkkkcojnffdaaGreatDoor.EN
open Go.ChangeShapes Go.WideShapes Go.ChangeAt Go.RowKit
/-- Block b begins with these fractions. -/
def QSl (w:World) (b:Nat) (l:List Rat):Prop:=b<w.heap.size∧∀ i,i<l.length→QAt w b (i*3) (l.getD i 0)
theorem QSl.G {w w':World} {b:Nat} {l:List Rat} (h:QSl w b l) (g:G w w'):QSl w' b l:=
 ⟨ae h.1 g.size,fun i hi=>(h.2 i hi).G h.1 g⟩
/-- A slice of fractions that fills a block. -/
def QSV (w:World) (v:Value) (n:Nat) (l:List Rat):Prop:=∃ A,v= .slice (some ⟨A,0,none⟩) n n∧QSl w A l
theorem QSV.G {w w':World} {v:Value} {n:Nat} {l:List Rat} (h:QSV w v n l) (g:G w w'):QSV w' v n l:=by
 obtain⟨A,e,h⟩:=h;exact⟨A,e,h.G g⟩
/-- A slice of two fractions that fills a block. -/
def QS2 (w:World) (v:Value) (p q:Rat):Prop:=∃ B t1 A F c1 a2 I C t2 a3 J D a4 K E,v= .slice (some ⟨B,0,none⟩) 2 2∧Rec w B [.bool t1,.slice A F c1,.slice a2 I C,.bool t2,.slice a3 J D,.slice a4 K E]∧
 QIs w (.agg #[.bool t1,.slice A F c1,.slice a2 I C]) p∧QIs w (.agg #[.bool t2,.slice a3 J D,.slice a4 K E]) q
theorem QS2.G {w w':World} {v:Value} {p q:Rat} (h:QS2 w v p q) (g:G w w'):QS2 w' v p q:=by
 obtain⟨B,t1,A,F,c1,a2,I,C,t2,a3,J,D,a4,K,E,e,h1,h2,h3⟩:=h;exact⟨B,t1,A,F,c1,a2,I,C,t2,a3,J,D,a4,K,E,e,h1.G g,h2.G g,h3.G g⟩
/-- A span of fractions and a code, as a pair. -/
def EST (w:World) (v:Value) (x y:Rat) (c:Int):Prop:=∃ u,v= .tuple #[u,.int .i64 c]∧ES w u x y
theorem EST.G {w w':World} {v:Value} {x y:Rat} {c:Int} (h:EST w v x y c) (g:G w w'):EST w' v x y c:=by
 obtain⟨u,e,h⟩:=h;exact⟨u,e,h.G g⟩
def q2D (w:World) (x y:Rat) (c:Int) (e:Ending) (w':World):Prop:=∃ v,e= .returned v∧G w w'∧EST w' v x y c
theorem RetESE.t {w:World} {x y:Rat} {c:Int} {e:Ending} {w':World} (h:RetESE w x y c e w'):q2D w x y c e w':=by
 obtain⟨v,e,g,h⟩:=h;exact⟨_,e,g,v,rfl,h⟩
def q2C:List Value:=[.bool false,.slice none 0 0,.slice none 0 0,.bool false,.slice none 0 0,.slice none 0 0]
/-- What is known of each operation's value. -/
def KT (D:Value) (lo hi C B:Nat) (a b c d x y:Rat) (A:Int):Nat→Value→World→Prop
 |0,v,_=>v=D|1,v,_=>v= .agg #[.float .f64 lo,.float .f64 hi]|2,v,w=>ES w v a b|3,v,_=>v= .agg #[.float .f64 C,.float .f64 B]|4,v,w=>ES w v c d
 |5,v,w=>EST w v x y A|6,v,w=>EST w v x y A|7,v,w=>ES w v x y|8,v,_=>v= .int .i64 A|11,v,_=>v= .int .i64 A|_,_,_=>True
theorem KT.last {D:Value} {lo hi B A:Nat} {a b c d x y:Rat} {C:Int} {j:Nat} {v:Value} {w w':World} (E:∀ v p q,ES w v p q→ES w' v p q) (h:KT D lo hi B A a b c d x y C j v w):KT D lo hi B A a b c d x y C j v w':=by
 revert h;unfold KT;split<;>(first|exact fun h=>h|exact E _ _ _|(rintro⟨u,e,h⟩;exact⟨u,e,E _ _ _ h⟩))
theorem KT.g {D:Value} {lo hi B A:Nat} {a b c d x y:Rat} {C:Int} {w w':World} (g:G w w'):∀ j u,KT D lo hi B A a b c d x y C j u w→KT D lo hi B A a b c d x y C j u w':=fun _ _ h=>h.last (fun _ _ _ k=>k.G g)
/-- Six cells written. -/
def put6 (w:World) (b:Nat) (u1 u2 u3 u4 u5 u6:Value):World:=(((((w.setCell ⟨b,0,none⟩ u1).setCell ⟨b,1,none⟩ u2).setCell ⟨b,2,none⟩ u3).setCell ⟨b,3,none⟩ u4).setCell ⟨b,4,none⟩ u5).setCell ⟨b,5,none⟩ u6
theorem KT.put {E:Value} {lo hi B A:Nat} {a b c d x y:Rat} {D:Int} {w:World} {C:Nat} {u1 u2 u3 u4 u5 u6:Value} (r:Rec w C q2C):∀ j u,KT E lo hi B A a b c d x y D j u w→KT E lo hi B A a b c d x y D j u (put6 w C u1 u2 u3 u4 u5 u6):=fun _ _ h=>
 h.last (fun v p q k=>by
  obtain⟨F,M,c1,a2,N,I,a3,O,J,a4,R,K,e,h1,h2⟩:=k;exact⟨F,M,c1,a2,N,I,a3,O,J,a4,R,K,e,QIs.set6 h1 r kP,QIs.set6 h2 r kP⟩)
/-- A block holds a span of fractions, cell by cell. -/
def Cells6 (w:World) (A:Nat) (v:Value):Prop:=∃ u1 u2 u3 u4 u5 u6,v= .agg #[u1,u2,u3,u4,u5,u6]∧Rec w A [u1,u2,u3,u4,u5,u6]
/-- What holds between the operations. -/
structure KI (T:Nat→Value→World→Prop) (w0:World) (L:Nat→Bool) (f:Nat→Value) (w:World):Prop where
 g:G w0 w
 held:∀ j,L j=true→T j (f j) w
 c10:L 10=true→L 7=true∧L 9=true
 blk:L 9=true→∃ bn,f 9= .pointer (some ⟨bn,0,none⟩)∧w0.heap.size≤bn∧((L 10=false∧Rec w bn q2C)∨(L 10=true∧Cells6 w bn (f 7)))
theorem Cells6.G {w w':World} {A:Nat} {v:Value} (h:Cells6 w A v) (g:G w w'):Cells6 w' A v:=by
 obtain⟨u1,u2,u3,u4,u5,u6,e,h⟩:=h;exact⟨u1,u2,u3,u4,u5,u6,e,h.G g⟩
section
variable {T:Nat→Value→World→Prop} {w0 w w':World} {L:Nat→Bool} {f:Nat→Value}
theorem KI.step (h:KI T w0 L f w) (i:Nat) (v:Value) (D:i≠9) (B:i≠10) (J:i=7→L 7=false) (g:G w w') (K:∀ j u,T j u w→T j u w') (hv:T i v w'):KI T w0 (upd L i true) (upd f i v) w' where
 g:=aa h.g g
 held:=jO h.held K hv
 c10:=fun k=>by
  rw[upd_ne _ _ (bK B)] at k;obtain⟨A,C⟩:=h.c10 k;constructor
  ·by_cases e:7=i
   ·rw[← e,upd_same]
   ·rw[upd_ne _ _ e];exact A
  ·rw[upd_ne _ _ (bK D)];exact C
 blk:=fun k=>by
  rw[upd_ne _ _ (bK D)] at k;obtain⟨I,e,hle,F⟩:=h.blk k;rw[upd_ne _ _ (bK D),upd_ne _ _ (bK B)];refine⟨I,e,hle,?_⟩;rcases F with ⟨A,C⟩|⟨A,C⟩
  ·exact Or.inl ⟨A,C.G g⟩
  ·refine Or.inr ⟨A,?_⟩;have E:7≠i:=fun e=>by
    have:=J e.symm;rw[(h.c10 A).1] at this;cases this
   rw[upd_ne _ _ E];exact C.G g
end
end Go.Proofs.YtfnkkkcojnffdaaGreatDoor.EN
namespace Go.Proofs.YtfnkkkcojnffdaaGreatDoor.EN
open Go.ChangeShapes Go.WideShapes Go.ChangeAt Go.RowKit
attribute [local go_sem] iK
/-- Two cells written. -/
def put2 (w:World) (b:Nat) (u1 u2:Value):World:=(w.setCell ⟨b,0,none⟩ u1).setCell ⟨b,1,none⟩ u2
/-- What holds between the operations of a region whose operation s stores two values into a block that is there. -/
structure SI (T:Nat→Value→World→Prop) (wE w1:World) (bz s:Nat) (z y:List Value) (L:Nat→Bool) (f:Nat→Value) (w:World):Prop where
 g:G wE w
 oth:∀ b l,Rec w1 b l→b≠bz→Rec w b l
 held:∀ j,L j=true→T j (f j) w
 blk:(L s=false∧Rec w bz z)∨(L s=true∧Rec w bz y)
section
variable {T:Nat→Value→World→Prop} {wE w1 w w':World} {bz s:Nat} {z y:List Value} {L:Nat→Bool} {f:Nat→Value}
theorem SI.step (h:SI T wE w1 bz s z y L f w) (i:Nat) (v:Value) (D:i≠s) (g:G w w') (C:∀ j u,T j u w→T j u w') (hv:T i v w'):SI T wE w1 bz s z y (upd L i true) (upd f i v) w' where
 g:=aa h.g g
 oth:=fun b l A B=>(h.oth b l A B).G g
 held:=jO h.held C hv
 blk:=by
  rw[upd_ne _ _ (bK D)];rcases h.blk with ⟨A,B⟩|⟨A,B⟩
  ·exact Or.inl ⟨A,B.G g⟩
  ·exact Or.inr ⟨A,B.G g⟩
theorem SI.wr {C z2 A B:Value} (h:SI T wE w1 bz s [C,z2] [A,B] L f w) (v:Value) (F:L s=false) (hle:wE.heap.size≤bz) (I:Rec w bz [C,z2]→∀ j u,T j u w→T j u (put2 w bz A B)) (hv:∀ v w,T s v w):SI T wE w1 bz s [C,z2] [A,B] (upd L s true) (upd f s v) (put2 w bz A B):=by
 have E:Rec w bz [C,z2]:=by
  rcases h.blk with ⟨-,k⟩|⟨k,-⟩
  ·exact k
  ·rw[F] at k;cases k
 exact⟨Rec.g2 h.g hle,fun b l J D=>((h.oth b l J D).oth (p:=⟨bz,0,none⟩) _ (bK D)).oth (p:=⟨bz,1,none⟩) _ (bK D),jO h.held (I E) (hv _ _),by rw[upd_same];exact Or.inr ⟨rfl,Rec.set2 E⟩⟩
end
end Go.Proofs.YtfnkkkcojnffdaaGreatDoor.EN
