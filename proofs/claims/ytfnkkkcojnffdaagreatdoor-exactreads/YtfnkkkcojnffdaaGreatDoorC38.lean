/- What is proved here: contracts of the reference: powers of two as ratios, over this seat's translation.
What is proved here: contracts of the reference's ratios: den of any Rat, laid or new, over this seat's translation.
What is proved here: what holds between the operations of a region that makes new Ints and writes them, in whatever order it draws, over this seat's translation. -/
import Derived.Test.YtfnkkkcojnffdaaGreatDoorC1
import Derived.Test.YtfnkkkcojnffdaaGreatDoorC37
import Derived.Test.YtfnkkkcojnffdaaGreatDoorC6
namespace Go.Proofs.YtfnkkkcojnffdaaGreatDoor
open Go.ChangeShapes Go.WideShapes Go.ChangeAt Go.RowKit
open BN
/-- A call hands back a new Rat; nothing that was there has turned. -/
def RetR (w:World) (sa:Int) (A:Nat) (e:Ending) (w':World):Prop:=∃ p,e= .returned (.pointer (some ⟨p,0,none⟩))∧G w w'∧w.heap.size≤p∧p<w'.heap.size∧RatIs w' p sa (A:Int)
theorem NormTo.ret {w0 w:World} {b:Nat} {sa:Int} {A:Nat} {e:Ending} {w':World} (g:G w0 w) (hb:w0.heap.size≤b) (B:b<w.heap.size) (h:NormTo w b sa A e w'):RetR w0 sa A e w':=
 ⟨b,h.1,GX.fresh g h.2.1 hb,hb,ad B h.2.1.size,h.2.2⟩
/-- A Rat, laid or new (then it is 0). -/
def RatV (w:World) (b:Nat) (A:Int) (B:Nat):Prop:=RatIs w b A (B:Int)∨(A=0∧B=1∧RatIs w b 0 0)
theorem RatV.G {w w':World} {b:Nat} {A:Int} {B:Nat} (h:RatV w b A B) (hb:b<w.heap.size) (g:G w w'):RatV w' b A B:=by
 rcases h with h|⟨h1,h2,h⟩
 ·exact Or.inl (RatIs.G h hb g)
 ·exact Or.inr ⟨h1,h2,RatIs.G h hb g⟩
theorem RatV.num {w:World} {b:Nat} {A:Int} {B:Nat} (h:RatV w b A B):IntIs w b 0 A:=by
 rcases h with h|⟨h1,-,h⟩
 ·exact h.1
 ·rw[h1];exact h.1
/-- A lower part: in the Rat itself, or new. -/
def DI (w0 w:World) (p o:Nat) (s:Int):Prop:=(p<w0.heap.size∧IntIs w0 p o s)∨(o=0∧NI w0 w p s)
theorem DI.G {w0 w w':World} {p o:Nat} {s:Int} (h:DI w0 w p o s) (g:Go.Proofs.YtfnkkkcojnffdaaGreatDoor.G w w'):DI w0 w' p o s:=by
 rcases h with h|⟨h1,h2⟩
 ·exact Or.inl h
 ·exact Or.inr ⟨h1,h2.G g⟩
theorem DI.is {w0 w:World} {p o:Nat} {s:Int} (h:DI w0 w p o s) (g:Go.Proofs.YtfnkkkcojnffdaaGreatDoor.G w0 w):p<w.heap.size∧IntIs w p o s:=by
 rcases h with ⟨h1,h2⟩|⟨rfl,h2⟩
 ·exact⟨G.lt g h1,IntIs.G h2 h1 g⟩
 ·exact h2.2
theorem DI.keep {w0 w w':World} {p o:Nat} {s:Int} (h:DI w0 w p o s) (k:NI w0 w p s→NI w0 w' p s):DI w0 w' p o s:=by
 rcases h with h|⟨h1,h2⟩
 ·exact Or.inl h
 ·exact Or.inr ⟨h1,k h2⟩
/-- New Ints (ws: the operation that makes one, the one that writes it; V: what it is then), lower parts (ds, D), given values (fs, F), copies (ss: of which operation's value). -/
structure NV (ws:List (Nat×Nat)) (V:Nat→Int) (ds:List Nat) (D:Nat→Int) (fs:List Nat) (F:Nat→Value) (ss:List (Nat×Nat)) (w0:World) (L:Nat→Bool) (f:Nat→Value) (w:World):Prop where
 g:G w0 w
 int:∀ j k,(j,k)∈ws→L j=true→∃ p,f j= .pointer (some ⟨p,0,none⟩)∧NI w0 w p (if L k=true then V j else 0)
 den:∀ j,j∈ds→L j=true→∃ p o,f j= .pointer (some ⟨p,o,none⟩)∧DI w0 w p o (D j)
 fx:∀ j,j∈fs→L j=true→f j=F j
 sm:∀ j i,(j,i)∈ss→L j=true→L i=true∧f j=f i
 ord:∀ j k,(j,k)∈ws→L k=true→L j=true
 apart:∀ i j k p o q r,i≠j→(i,k)∈ws→(j∈ds∨∃ k,(j,k)∈ws)→L i=true→L j=true→f i= .pointer (some ⟨p,o,none⟩)→f j= .pointer (some ⟨q,r,none⟩)→p≠q
section
variable {ws:List (Nat×Nat)} {V:Nat→Int} {ds:List Nat} {D:Nat→Int} {fs:List Nat} {F:Nat→Value} {ss:List (Nat×Nat)} {w0 w w':World} {L:Nat→Bool} {f:Nat→Value}
theorem NV.first (g:G w0 w):NV ws V ds D fs F ss w0 (fun _=>false) f w:=
 ⟨g,(fun _ _ _ h=>by cases h),(fun _ _ h=>by cases h),(fun _ _ h=>by cases h),(fun _ _ _ h=>by cases h),(fun _ _ _ h=>by cases h),(fun _ _ _ _ _ _ _ _ _ _ h=>by cases h)⟩
theorem gK {p o q r:Nat} (h:Value.pointer (some ⟨p,o,none⟩)= .pointer (some ⟨q,r,none⟩)):p=q:=by injection h with h;injection h with h;injection h
theorem NV.lt (h:NV ws V ds D fs F ss w0 L f w) {j q r:Nat} (B:j∈ds∨∃ k,(j,k)∈ws) (E:L j=true) (e:f j= .pointer (some ⟨q,r,none⟩)):q<w.heap.size:=by
 rcases B with B|⟨k,B⟩
 ·obtain⟨p,o,A,C⟩:=h.den j B E;rw[e] at A;rw[gK A];exact(C.is h.g).1
 ·obtain⟨p,A,C⟩:=h.int j k B E;rw[e] at A;rw[gK A];exact C.2.1
theorem NV.step (h:NV ws V ds D fs F ss w0 L f w) (i:Nat) (v:Value) (R:L i=false) (g:G w w') (c:∀ q∈ws,q.2≠i)
  (h1:∀ k,(i,k)∈ws→∃ p,v= .pointer (some ⟨p,0,none⟩)∧NI w0 w' p 0∧w.heap.size≤p)
  (h2:i∈ds→∃ p o,v= .pointer (some ⟨p,o,none⟩)∧DI w0 w' p o (D i)∧(p<w0.heap.size∨w.heap.size≤p))
  (h3:i∈fs→v=F i) (m:∀ k,(i,k)∈ss→L k=true∧v=f k):NV ws V ds D fs F ss w0 (fun j=>if j=i then true else L j) (fun j=>if j=i then v else f j) w' where
 g:=aa h.g g
 int:=fun j k A C=>by
  have E:k≠i:=c _ A;rw[if_neg E];by_cases e:j=i
  ·subst e;rw[if_pos rfl];have J:L k=false:=by
    cases J:L k with
    |false=>rfl
    |true=>rw[h.ord _ _ A J] at R;cases R
   obtain⟨p,e,B,-⟩:=h1 k A;exact⟨p,e,by rw[J];exact B⟩
  ·rw[if_neg e] at C ⊢;obtain⟨p,e,B⟩:=h.int j k A C;exact⟨p,e,B.G g⟩
 den:=fun j A C=>by
  by_cases e:j=i
  ·subst e;rw[if_pos rfl];obtain⟨p,o,e,B,-⟩:=h2 A;exact⟨p,o,e,B⟩
  ·rw[if_neg e] at C ⊢;obtain⟨p,o,e,B⟩:=h.den j A C;exact⟨p,o,e,B.G g⟩
 fx:=fun j A C=>by
  by_cases e:j=i
  ·subst e;rw[if_pos rfl];exact h3 A
  ·rw[if_neg e] at C ⊢;exact h.fx j A C
 sm:=fun j k A C=>by
  by_cases e:j=i
  ·subst e;obtain⟨B,U⟩:=m k A;have E:k≠j:=fun e=>by rw[e,R] at B;cases B
   rw[if_pos rfl,if_neg E,if_neg E];exact⟨B,U⟩
  ·rw[if_neg e] at C ⊢;obtain⟨B,U⟩:=h.sm j k A C;have E:k≠i:=fun e=>by rw[e,R] at B;cases B
   rw[if_neg E,if_neg E];exact⟨B,U⟩
 ord:=fun j k A C=>by
  have E:k≠i:=c _ A;rw[if_neg E] at C;by_cases e:j=i
  ·rw[if_pos e]
  ·rw[if_neg e];exact h.ord j k A C
 apart:=fun a b k p o q r O S hb W X K I=>by
  by_cases Y:a=i
  ·subst Y;rw[if_pos rfl] at K;rw[if_neg (bk O)] at X I;obtain⟨p2,M,-,U⟩:=h1 k S;rw[K] at M;have:=gK M;have:=h.lt hb X I;omega
  ·rw[if_neg Y] at W K;by_cases M:b=i
   ·subst M;rw[if_pos rfl] at I;have hp:=h.lt (Or.inr ⟨k,S⟩) W K;obtain⟨p2,Z,s⟩:=h.int a k S W;rw[K] at Z;have e4:=gK Z;have e5:=s.1;rcases hb with hb|⟨y,hb⟩
    ·obtain⟨p5,o5,N,-,d⟩:=h2 hb;rw[I] at N;have:=gK N;omega
    ·obtain⟨p5,N,-,d⟩:=h1 y hb;rw[I] at N;have:=gK N;omega
   ·rw[if_neg M] at X I;exact h.apart a b k p o q r O S hb W X K I
theorem NV.raw (h:NV ws V ds D fs F ss w0 L f w) {j k:Nat} (B:(j,k)∈ws) (l:L j=true) (C:L k=false):∃ p,f j= .pointer (some ⟨p,0,none⟩)∧NI w0 w p 0:=by
 obtain⟨p,e,A⟩:=h.int j k B l;rw[C] at A;exact⟨p,e,A⟩
theorem NV.low (h:NV ws V ds D fs F ss w0 L f w) {j:Nat} (B:j∈ds) (l:L j=true) {x:Int} (C:D j=x):∃ p o,f j= .pointer (some ⟨p,o,none⟩)∧p<w.heap.size∧IntIs w p o x:=by
 obtain⟨p,o,e,A⟩:=h.den j B l;rw[C] at A;exact⟨p,o,e,A.is h.g⟩
/-- Operation k writes the Int of operation i. -/
theorem NV.wr (h:NV ws V ds D fs F ss w0 L f w) (k i:Nat) {p:Nat} {e:Ending} (c:(i,k)∈ws∧(∀ q∈ws,q.1≠k∧(q.2=k↔q.1=i))∧k∉ds∧i∉ds∧k∉fs∧∀ q∈ss,q.1=k→q.2=i) (Y:L k=false) (hi:L i=true) (M:f i= .pointer (some ⟨p,0,none⟩)) (s:Step w0 w p (V i) e w'):
  NV ws V ds D fs F ss w0 (fun j=>if j=k then true else L j) (fun j=>if j=k then .pointer (some ⟨p,0,none⟩) else f j) w' where
 g:=s.2.1
 int:=fun j m A B=>by
  have C:j≠k:=(c.2.1 _ A).1;rw[if_neg C] at B ⊢;by_cases I:j=i
  ·subst I;have J:m=k:=(c.2.1 _ A).2.2 rfl;rw[if_pos J,if_pos rfl];exact⟨p,M,s.2.2.1⟩
  ·have hm:m≠k:=fun J=>I ((c.2.1 _ A).2.1 J);rw[if_neg hm];obtain⟨q,K,U⟩:=h.int j m A B;exact⟨q,K,s.2.2.2.2 q _ (bk (h.apart i j k p 0 q 0 (bk I) c.1 (Or.inr ⟨m,A⟩) hi B M K)) U⟩
 den:=fun j A B=>by
  have C:j≠k:=fun e=>c.2.2.1 (e▸A);rw[if_neg C] at B ⊢;obtain⟨q,o,K,U⟩:=h.den j A B;refine⟨q,o,K,U.keep fun k4=> ?_⟩;have I:j≠i:=fun e=>c.2.2.2.1 (e▸A);exact s.2.2.2.2 q _ (bk (h.apart i j k p 0 q o (bk I) c.1 (Or.inl A) hi B M K)) k4
 fx:=fun j A B=>by
  have C:j≠k:=fun e=>c.2.2.2.2.1 (e▸A);rw[if_neg C] at B ⊢;exact h.fx j A B
 sm:=fun j m A B=>by
  by_cases I:j=k
  ·subst I;have J:m=i:=c.2.2.2.2.2 _ A rfl;subst J;have E:m≠j:=fun e=>by rw[e,Y] at hi;cases hi
   rw[if_neg E,if_pos rfl,if_neg E];exact⟨hi,M.symm⟩
  ·rw[if_neg I] at B ⊢;obtain⟨S,k2⟩:=h.sm j m A B;have E:m≠k:=fun e=>by rw[e,Y] at S;cases S
   rw[if_neg E,if_neg E];exact⟨S,k2⟩
 ord:=fun j m A B=>by
  have C:j≠k:=(c.2.1 _ A).1;rw[if_neg C];by_cases J:m=k
  ·rw[show j=i from(c.2.1 _ A).2.1 J];exact hi
  ·rw[if_neg J] at B;exact h.ord j m A B
 apart:=fun a b m p2 o q r N Z hb d y W X=>by
  have O:a≠k:=(c.2.1 _ Z).1;have R:b≠k:=by
   rcases hb with hb|⟨m2,hb⟩
   ·exact fun e=>c.2.2.1 (e▸hb)
   ·exact(c.2.1 _ hb).1
  rw[if_neg O] at d W;rw[if_neg R] at y X;exact h.apart a b m p2 o q r N Z hb d y W X
end
end Go.Proofs.YtfnkkkcojnffdaaGreatDoor
