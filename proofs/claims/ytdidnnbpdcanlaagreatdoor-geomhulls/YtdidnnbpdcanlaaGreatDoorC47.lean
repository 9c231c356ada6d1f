/- What is proved here: contracts of the reference: a row of Round4's, over this seat's translation.
What is proved here: contracts of the reference: Round4, over this seat's translation. -/
import Derived.Test.YtdidnnbpdcanlaaGreatDoorC41
import Derived.Test.YtdidnnbpdcanlaaGreatDoorC45
import Derived.Test.YtdidnnbpdcanlaaGreatDoorC33
import Derived.Test.YtdidnnbpdcanlaaGreatDoorC33
import Derived.Test.YtdidnnbpdcanlaaGreatDoorC33
import Derived.Test.YtdidnnbpdcanlaaGreatDoorC32
import Derived.Test.YtdidnnbpdcanlaaGreatDoorC18
namespace Go.Proofs.YtdidnnbpdcanlaaGreatDoor.EN
open Go.ChangeShapes Go.WideShapes Go.ChangeAt Go.RowKit
/-- A row of three fractions. -/
def Row3 (w:World) (v:Value) (x y n:Rat):Prop:=∃ a b c,v= .agg #[a,b,c]∧PR w a x∧PR w b y∧PR w c n
theorem Row3.G {w w':World} {v:Value} {x y n:Rat} (h:Row3 w v x y n) (g:G w w'):Row3 w' v x y n:=by
 obtain⟨a,b,c,e,h1,h2,h3⟩:=h
 exact⟨a,b,c,e,h1.G g,h2.G g,h3.G g⟩
/-- A value that is a pointer. -/
def isP (x:Value):Prop:=∃ a,x= .pointer a
theorem isP.of (a:Option Addr):isP (.pointer a):=⟨a,rfl⟩
theorem IntIs.other {w:World} {b o:Nat} {s:Int} {p:Addr} {u u':Value} (h:IntIs w b o s) (hp:w.cell? p=some u) (hu:isP u):IntIs (w.setCell p u') b o s:=by
 obtain⟨a,rfl⟩:=hu
 obtain⟨n,v,m,⟨c1,c2,c3,c4⟩,hn,h5,h6⟩:=h
 have hv:∀ a,v≠ .pointer a:=by
  obtain⟨l,hs,-⟩:=hn
  obtain⟨_,⟨-,a,c,rfl⟩|⟨_,_,_,rfl,-⟩⟩:=hs
  all_goals (intro a e;cases e)
 refine⟨n,v,m,⟨?_,?_,by rw[World.frozen?_setCell];exact c3,by rw[World.frozen?_setCell];exact c4⟩,Go.Proofs.YtdidnnbpdcanlaaGreatDoor.num_other hn hp (fun z e=>by cases e),h5,h6⟩
 ·rw[World.cell?_setCell_other _ _ _ _ (by intro e;rw[e,c1] at hp;cases hp)];exact c1
 ·rw[World.cell?_setCell_other _ _ _ _ (by intro e;rw[e,c2] at hp;exact hv _ (Option.some.inj hp))];exact c2
theorem PR.other {w:World} {v:Value} {q:Rat} {p:Addr} {u u':Value} (h:PR w v q) (hp:w.cell? p=some u) (hu:isP u):PR (w.setCell p u') v q:=by
 obtain⟨b,e,h1,h2⟩:=h
 exact⟨b,e,by simpa [World.setCell] using h1,IntIs.other h2.1 hp hu,IntIs.other h2.2 hp hu⟩
theorem qbD {x y:Rat} {K L:Nat} (hx:QB x K) (hy:QB y L):QB (x+y) (K+L+1):=by
 obtain⟨h1,h2⟩:=hx
 obtain⟨h3,h4⟩:=hy
 have e:x+y=mkRat (x.num*y.den+y.num*x.den) (x.den*y.den):=by
  have e1:=Rat.mkRat_self x
  have e2:=Rat.mkRat_self y
  have hx:=x.den_pos
  have hy:=y.den_pos
  generalize x.den=d at *
  generalize y.den=f at *
  generalize x.num=a at *
  generalize y.num=b at *
  rw[← e1,← e2]
  exact Rat.mkRat_add_mkRat _ _ (by omega) (by omega)
 have p1:(x.num*y.den).natAbs<2^(64*(K+L)):=by
  rw[Int.natAbs_mul,Nat.mul_add,Nat.pow_add]
  exact Nat.mul_lt_mul'' h1 h4
 have p2:(y.num*x.den).natAbs<2^(64*(K+L)):=by
  rw[Int.natAbs_mul,Nat.mul_comm,Nat.mul_add,Nat.pow_add]
  exact Nat.mul_lt_mul'' h2 h3
 have p3:x.den*y.den<2^(64*(K+L)):=by
  rw[Nat.mul_add,Nat.pow_add]
  exact Nat.mul_lt_mul'' h2 h4
 have p4:2^(64*(K+L))+2^(64*(K+L))≤2^(64*(K+L+1)):=by
  rw[← Nat.two_mul,← Nat.pow_succ']
  exact Nat.pow_le_pow_right (by omega) (by omega)
 have p5:=Int.natAbs_add_le (x.num*y.den) (y.num*x.den)
 exact q6r (Nat.mul_pos x.den_pos y.den_pos) e (by omega) (by omega)
end Go.Proofs.YtdidnnbpdcanlaaGreatDoor.EN
namespace Go.Proofs.YtdidnnbpdcanlaaGreatDoor
end Go.Proofs.YtdidnnbpdcanlaaGreatDoor
namespace Go.Proofs.YtdidnnbpdcanlaaGreatDoor.EN
open Go.ChangeShapes Go.WideShapes Go.ChangeAt Go.RowKit
/-- Nine fractions. -/
def Mat9 (w:World) (b:Nat) (q:Nat→Nat→Rat):Prop:=∃ p:Nat→Nat→Nat,Rec w b [.pointer (some ⟨p 0 0,0,none⟩),.pointer (some ⟨p 0 1,0,none⟩),.pointer (some ⟨p 0 2,0,none⟩),.pointer (some ⟨p 1 0,0,none⟩),.pointer (some ⟨p 1 1,0,none⟩),.pointer (some ⟨p 1 2,0,none⟩),.pointer (some ⟨p 2 0,0,none⟩),.pointer (some ⟨p 2 1,0,none⟩),.pointer (some ⟨p 2 2,0,none⟩)]∧∀ i j,PR w (.pointer (some ⟨p i j,0,none⟩)) (q i j)
theorem Mat9.G {w w':World} {b:Nat} {q:Nat→Nat→Rat} (h:Mat9 w b q) (g:G w w'):Mat9 w' b q:=by
 obtain⟨p,r,h⟩:=h
 exact⟨p,Rec.G r g,fun i j=>(h i j).G g⟩
def Nine (w:World) (v:Value) (q:Nat→Nat→Rat):Prop:=∃ p:Nat→Nat→Nat,v= .agg #[.pointer (some ⟨p 0 0,0,none⟩),.pointer (some ⟨p 0 1,0,none⟩),.pointer (some ⟨p 0 2,0,none⟩),.pointer (some ⟨p 1 0,0,none⟩),.pointer (some ⟨p 1 1,0,none⟩),.pointer (some ⟨p 1 2,0,none⟩),.pointer (some ⟨p 2 0,0,none⟩),.pointer (some ⟨p 2 1,0,none⟩),.pointer (some ⟨p 2 2,0,none⟩)]∧∀ i j,PR w (.pointer (some ⟨p i j,0,none⟩)) (q i j)
theorem Nine.G {w w':World} {v:Value} {q:Nat→Nat→Rat} (h:Nine w v q) (g:G w w'):Nine w' v q:=by
 obtain⟨p,e,h⟩:=h
 exact⟨p,e,fun i j=>(h i j).G g⟩
theorem PR.at {w:World} {v:Value} {q:Rat} (h:PR w v q):∃ p,v= .pointer (some ⟨p,0,none⟩)∧PR w (.pointer (some ⟨p,0,none⟩)) q:=by
 obtain⟨p,rfl,h1,h2⟩:=h
 exact⟨p,rfl,p,rfl,h1,h2⟩
end Go.Proofs.YtdidnnbpdcanlaaGreatDoor.EN
