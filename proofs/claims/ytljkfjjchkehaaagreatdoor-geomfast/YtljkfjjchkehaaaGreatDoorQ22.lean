/- What is proved here: contracts of the reference's ratios: norm (lowest terms), over this seat's translation. -/
import Derived.Test.YtljkfjjchkehaaaGreatDoorQ20
namespace Go.Proofs.YtljkfjjchkehaaaGreatDoor
open Go.ChangeShapes Go.WideShapes Go.ChangeAt Go.RowKit
open BN
/-- The Rat at block b, its cells told apart: sign and size of the upper part, size of the lower one. -/
structure RA (w:World) (b:Nat) (n:Bool) (va:Value) (A:Nat) (vb:Value) (B:Nat):Prop where
 a:q8g w b 0 n va
 na:Num w va A
 b:q8g w b 2 false vb
 nb:Num w vb B
theorem RA.grow {w w':World} {b:Nat} {n:Bool} {va vb:Value} {A B:Nat} (h:RA w b n va A vb B) (hb:b<w.heap.size) (g:G w w'):RA w' b n va A vb B:=by
 obtain⟨⟨c1,c2,f1,f2⟩,na,⟨c3,c4,f3,f4⟩,nb⟩:=h
 exact⟨⟨g.cell hb c1,g.cell hb c2,g.frozen hb f1,g.frozen hb f2⟩,na.G g,⟨g.cell hb c3,g.cell hb c4,g.frozen hb f3,g.frozen hb f4⟩,nb.G g⟩
theorem RA.is {w:World} {b:Nat} {n:Bool} {va vb:Value} {A B:Nat} (h:RA w b n va A vb B) (hA:n=true→A≠0):RatIs w b (sg n A) (B:Int):=
 ⟨⟨n,va,A,h.a,h.na,rfl,hA⟩,⟨false,vb,B,h.b,h.nb,rfl,fun h=>by cases h⟩⟩
/-- A slice of a number above 0, for the test whether it is 1. -/
theorem q1Y {w:World} {v:Value} {n:Nat} (h:Num w v n) (h0:0<n):∃ (b o j c d:Nat),v= .slice (some ⟨b,o,none⟩) j c∧b<w.heap.size∧w.cell? ⟨b,o,none⟩=some (.int .u32 (d:Nat))∧d<4294967296∧((j=1∧d=n)∨(j≠1∧n≠1)):=by
 obtain⟨l,hl,hc,rfl⟩:=h
 rcases Sl.cases hl with ⟨rfl,-⟩|⟨hne,b,o,c,rfl,-,hb,hr⟩
 ·simp [val] at h0
 ·have hr0:=hr 0 (List.length_pos_iff.2 hne)
  rw[Nat.add_zero] at hr0
  refine⟨b,o,l.length,c,_,rfl,hb,hr0,q02 hl.1 0,?_⟩
  by_cases h1:l.length=1
  ·refine Or.inl ⟨h1,?_⟩
   obtain⟨x,rfl⟩:=List.length_eq_one_iff.1 h1
   simp [val]
  ·refine Or.inr ⟨h1,fun h2=> ?_⟩
   have h3:=q0H hc hne
   have h4:2^32≤2^(32*(l.length-1)):=Nat.pow_le_pow_right (by omega) (by have:=List.length_pos_iff.2 hne;omega)
   omega
/-- What norm leaves behind. -/
def NormTo (w:World) (b:Nat) (sa:Int) (sb:Nat) (e:Ending) (w':World):Prop:=e= .returned (.pointer (some ⟨b,0,none⟩))∧GX b w w'∧RatIs w' b sa (sb:Int)
end Go.Proofs.YtljkfjjchkehaaaGreatDoor
