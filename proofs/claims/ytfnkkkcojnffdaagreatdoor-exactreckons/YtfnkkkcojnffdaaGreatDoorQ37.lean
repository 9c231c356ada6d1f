/- What is proved here: contracts of the reference: powers of two as ratios, over this seat's translation.
What is proved here: contracts of the reference's ratios: den of any Rat, laid or new, over this seat's translation.
What is proved here: what holds between the operations of a region that makes new Ints and writes them, in whatever order it draws, over this seat's translation.
What is proved here: contracts of the reference's ratios: Add of Rat, of laid ones and of new ones, and Sub, over this seat's translation.
What is proved here: contracts of the reference's ratios: Mul of Rat, of laid ones and of new ones, over this seat's translation.
What is proved here: contracts of the reference's ratios: Cmp of Rat, of laid ones and of new ones, over this seat's translation.
What is proved here: contracts of the reference's big numbers: 'copy' of words, low, of, SetBit of an Int that isn't below 0, over this seat's translation.
What is proved here: contracts of the reference's big numbers: Quo, Sqrt of Int, over this seat's translation. -/
import Derived.Test.YtfnkkkcojnffdaaGreatDoorQ1
import Derived.Test.YtfnkkkcojnffdaaGreatDoorQ36
import Derived.Test.YtfnkkkcojnffdaaGreatDoorQ3
import Derived.Test.YtfnkkkcojnffdaaGreatDoorQ6
import Derived.Test.YtfnkkkcojnffdaaGreatDoorQ8
import Derived.Test.YtfnkkkcojnffdaaGreatDoorQ18
import Derived.Test.YtfnkkkcojnffdaaGreatDoorQ26
import Derived.Laws.IdiomCopy
namespace Go.Proofs.YtfnkkkcojnffdaaGreatDoor
open Go.ChangeShapes Go.WideShapes Go.ChangeAt Go.RowKit
open BN
/-- A call hands back a new Rat; nothing that was there has turned. -/
def RetR (w:World) (sa:Int) (A:Nat) (e:Ending) (w':World):Prop:=∃ p,e= .returned (.pointer (some ⟨p,0,none⟩))∧G w w'∧w.heap.size≤p∧p<w'.heap.size∧RatIs w' p sa (A:Int)
theorem NormTo.ret {w0 w:World} {b:Nat} {sa:Int} {A:Nat} {e:Ending} {w':World} (g:G w0 w) (hb:w0.heap.size≤b) (B:b<w.heap.size) (h:NormTo w b sa A e w'):RetR w0 sa A e w':=
 ⟨b,h.1,GX.fresh g h.2.1 hb,hb,ae B h.2.1.size,h.2.2⟩
/-- den: of a new Rat it is a new 1. -/
theorem q2K (w:World) (b:Nat) (J:Nat) (I:J=1) (h:RatIs w b 0 0):
  Calls Tryz.prog 55 #[.pointer (some ⟨b,0,none⟩)] w (RetI w (J:Int)):=by
 obtain⟨-,n,v,a,⟨c1,O,-,-⟩,⟨l,K,A,C⟩,h1,-⟩:=h;have S:=fP h1;obtain⟨p,c,rfl,-,-⟩:=fa K;have B:l.length=0:=by
  have R:val l=0:=by rw[C];omega
  rw[(fR A).1 R];rfl
 rw[B] at O;have E:Hid _:=gY w (J:Int) ⟨by omega,by omega⟩;rw[I] at E ⊢;clear K A C h1 S B;go_enter Tryz.func55,Tryz.ntmps55;go_wp2_with fail;refine Calls.mono (P:=Tryz.prog) E.out ?_;rintro e Y ⟨p,rfl,U,W,X,M⟩;have N:=hi9 M;clear M E;go_wp2_with fail;go_ret;exact⟨p,rfl,U,W,X,N.out⟩
/-- A Rat, laid or new (then it is 0). -/
def RatV (w:World) (b:Nat) (A:Int) (B:Nat):Prop:=RatIs w b A (B:Int)∨(A=0∧B=1∧RatIs w b 0 0)
theorem RatV.G {w w':World} {b:Nat} {A:Int} {B:Nat} (h:RatV w b A B) (hb:b<w.heap.size) (g:G w w'):RatV w' b A B:=by
 rcases h with h|⟨h1,h2,h⟩
 ·exact Or.inl (RatIs.G h hb g)
 ·exact Or.inr ⟨h1,h2,RatIs.G h hb g⟩
theorem RatV.num {w:World} {b:Nat} {A:Int} {B:Nat} (h:RatV w b A B):IntIs w b 0 A:=by
 rcases h with h|⟨h1,-,h⟩
 ·exact h.1
 ·rw[h1];exact h.1
/-- A lower part: in the Rat itself, or new. -/
def DI (w0 w:World) (p o:Nat) (s:Int):Prop:=(p<w0.heap.size∧IntIs w0 p o s)∨(o=0∧NI w0 w p s)
theorem DI.G {w0 w w':World} {p o:Nat} {s:Int} (h:DI w0 w p o s) (g:Go.Proofs.YtfnkkkcojnffdaaGreatDoor.G w w'):DI w0 w' p o s:=by
 rcases h with h|⟨h1,h2⟩
 ·exact Or.inl h
 ·exact Or.inr ⟨h1,h2.G g⟩
theorem DI.is {w0 w:World} {p o:Nat} {s:Int} (h:DI w0 w p o s) (g:Go.Proofs.YtfnkkkcojnffdaaGreatDoor.G w0 w):p<w.heap.size∧IntIs w p o s:=by
 rcases h with ⟨h1,h2⟩|⟨rfl,h2⟩
 ·exact⟨dp g h1,cD h2 h1 g⟩
 ·exact h2.2
theorem DI.keep {w0 w w':World} {p o:Nat} {s:Int} (h:DI w0 w p o s) (k:NI w0 w p s→NI w0 w' p s):DI w0 w' p o s:=by
 rcases h with h|⟨h1,h2⟩
 ·exact Or.inl h
 ·exact Or.inr ⟨h1,k h2⟩
theorem il (w0 w:World) (g:G w0 w) (b:Nat) (C:Int) (A:Nat) (E:0<A) (hb:b<w0.heap.size) (h:RatV w0 b C A):
  Calls Tryz.prog 55 #[.pointer (some ⟨b,0,none⟩)] w fun e w'=>∃ p o,e= .returned (.pointer (some ⟨p,o,none⟩))∧G w w'∧DI w0 w' p o (A:Int)∧(p<w0.heap.size∨w.heap.size≤p):=by
 rcases h with h|⟨-,h2,h⟩
 ·refine Calls.mono (P:=Tryz.prog) (j0 w b C A eK (h.G hb g)) ?_;rintro e w' ⟨rfl,g'⟩;exact⟨b,2,rfl,g',Or.inl ⟨hb,h.2⟩,Or.inl hb⟩
 ·refine Calls.mono (P:=Tryz.prog) (q2K w b A h2 (h.G hb g)) ?_;rintro e w' ⟨p,rfl,g',B,I,J⟩;exact⟨p,0,rfl,g',Or.inr ⟨rfl,bk g.size B,I,J⟩,Or.inr B⟩
/-- New Ints (ws: the operation that makes one, the one that writes it; V: what it is then), lower parts (ds, D), given values (fs, F), copies (ss: of which operation's value). -/
structure NV (ws:List (Nat×Nat)) (V:Nat→Int) (ds:List Nat) (D:Nat→Int) (fs:List Nat) (F:Nat→Value) (ss:List (Nat×Nat)) (w0:World) (L:Nat→Bool) (f:Nat→Value) (w:World):Prop where
 g:G w0 w
 int:∀ j k,(j,k)∈ws→L j=true→∃ p,f j= .pointer (some ⟨p,0,none⟩)∧NI w0 w p (if L k=true then V j else 0)
 den:∀ j,j∈ds→L j=true→∃ p o,f j= .pointer (some ⟨p,o,none⟩)∧DI w0 w p o (D j)
 fx:∀ j,j∈fs→L j=true→f j=F j
 sm:∀ j i,(j,i)∈ss→L j=true→L i=true∧f j=f i
 ord:∀ j k,(j,k)∈ws→L k=true→L j=true
 apart:∀ i j k p o q r,i≠j→(i,k)∈ws→(j∈ds∨∃ k,(j,k)∈ws)→L i=true→L j=true→f i= .pointer (some ⟨p,o,none⟩)→f j= .pointer (some ⟨q,r,none⟩)→p≠q
section
variable {ws:List (Nat×Nat)} {V:Nat→Int} {ds:List Nat} {D:Nat→Int} {fs:List Nat} {F:Nat→Value} {ss:List (Nat×Nat)} {w0 w w':World} {L:Nat→Bool} {f:Nat→Value}
theorem NV.first (g:G w0 w):NV ws V ds D fs F ss w0 (fun _=>false) f w:=
 ⟨g,(fun _ _ _ h=>by cases h),(fun _ _ h=>by cases h),(fun _ _ h=>by cases h),(fun _ _ _ h=>by cases h),(fun _ _ _ h=>by cases h),(fun _ _ _ _ _ _ _ _ _ _ h=>by cases h)⟩
theorem jr {p o q r:Nat} (h:Value.pointer (some ⟨p,o,none⟩)= .pointer (some ⟨q,r,none⟩)):p=q:=by injection h with h;injection h with h;injection h
theorem NV.lt (h:NV ws V ds D fs F ss w0 L f w) {j q r:Nat} (B:j∈ds∨∃ k,(j,k)∈ws) (E:L j=true) (e:f j= .pointer (some ⟨q,r,none⟩)):q<w.heap.size:=by
 rcases B with B|⟨k,B⟩
 ·obtain⟨p,o,A,C⟩:=h.den j B E;rw[e] at A;rw[jr A];exact(C.is h.g).1
 ·obtain⟨p,A,C⟩:=h.int j k B E;rw[e] at A;rw[jr A];exact C.2.1
theorem NV.step (h:NV ws V ds D fs F ss w0 L f w) (i:Nat) (v:Value) (R:L i=false) (g:G w w') (c:∀ q∈ws,q.2≠i)
  (h1:∀ k,(i,k)∈ws→∃ p,v= .pointer (some ⟨p,0,none⟩)∧NI w0 w' p 0∧w.heap.size≤p)
  (h2:i∈ds→∃ p o,v= .pointer (some ⟨p,o,none⟩)∧DI w0 w' p o (D i)∧(p<w0.heap.size∨w.heap.size≤p))
  (h3:i∈fs→v=F i) (m:∀ k,(i,k)∈ss→L k=true∧v=f k):NV ws V ds D fs F ss w0 (fun j=>if j=i then true else L j) (fun j=>if j=i then v else f j) w' where
 g:=aa h.g g
 int:=fun j k A C=>by
  have E:k≠i:=c _ A;rw[if_neg E];by_cases e:j=i
  ·subst e;rw[if_pos rfl];have J:L k=false:=by
    cases J:L k with
    |false=>rfl
    |true=>rw[h.ord _ _ A J] at R;cases R
   obtain⟨p,e,B,-⟩:=h1 k A;exact⟨p,e,by rw[J];exact B⟩
  ·rw[if_neg e] at C ⊢;obtain⟨p,e,B⟩:=h.int j k A C;exact⟨p,e,B.G g⟩
 den:=fun j A C=>by
  by_cases e:j=i
  ·subst e;rw[if_pos rfl];obtain⟨p,o,e,B,-⟩:=h2 A;exact⟨p,o,e,B⟩
  ·rw[if_neg e] at C ⊢;obtain⟨p,o,e,B⟩:=h.den j A C;exact⟨p,o,e,B.G g⟩
 fx:=fun j A C=>by
  by_cases e:j=i
  ·subst e;rw[if_pos rfl];exact h3 A
  ·rw[if_neg e] at C ⊢;exact h.fx j A C
 sm:=fun j k A C=>by
  by_cases e:j=i
  ·subst e;obtain⟨B,U⟩:=m k A;have E:k≠j:=fun e=>by rw[e,R] at B;cases B
   rw[if_pos rfl,if_neg E,if_neg E];exact⟨B,U⟩
  ·rw[if_neg e] at C ⊢;obtain⟨B,U⟩:=h.sm j k A C;have E:k≠i:=fun e=>by rw[e,R] at B;cases B
   rw[if_neg E,if_neg E];exact⟨B,U⟩
 ord:=fun j k A C=>by
  have E:k≠i:=c _ A;rw[if_neg E] at C;by_cases e:j=i
  ·rw[if_pos e]
  ·rw[if_neg e];exact h.ord j k A C
 apart:=fun a b k p o q r O S hb W X K I=>by
  by_cases Y:a=i
  ·subst Y;rw[if_pos rfl] at K;rw[if_neg (bK O)] at X I;obtain⟨p2,M,-,U⟩:=h1 k S;rw[K] at M;have:=jr M;have:=h.lt hb X I;omega
  ·rw[if_neg Y] at W K;by_cases M:b=i
   ·subst M;rw[if_pos rfl] at I;have hp:=h.lt (Or.inr ⟨k,S⟩) W K;obtain⟨p2,Z,s⟩:=h.int a k S W;rw[K] at Z;have e4:=jr Z;have e5:=s.1;rcases hb with hb|⟨y,hb⟩
    ·obtain⟨p5,o5,N,-,d⟩:=h2 hb;rw[I] at N;have:=jr N;omega
    ·obtain⟨p5,N,-,d⟩:=h1 y hb;rw[I] at N;have:=jr N;omega
   ·rw[if_neg M] at X I;exact h.apart a b k p o q r O S hb W X K I
theorem NV.raw (h:NV ws V ds D fs F ss w0 L f w) {j k:Nat} (B:(j,k)∈ws) (l:L j=true) (C:L k=false):∃ p,f j= .pointer (some ⟨p,0,none⟩)∧NI w0 w p 0:=by
 obtain⟨p,e,A⟩:=h.int j k B l;rw[C] at A;exact⟨p,e,A⟩
theorem NV.made (h:NV ws V ds D fs F ss w0 L f w) {j k:Nat} (A:(j,k)∈ws) (C:L k=true) {x:Int} (E:V j=x):∃ p,f j= .pointer (some ⟨p,0,none⟩)∧NI w0 w p x:=by
 obtain⟨p,e,B⟩:=h.int j k A (h.ord j k A C);rw[C,E] at B;exact⟨p,e,B⟩
theorem NV.low (h:NV ws V ds D fs F ss w0 L f w) {j:Nat} (B:j∈ds) (l:L j=true) {x:Int} (C:D j=x):∃ p o,f j= .pointer (some ⟨p,o,none⟩)∧p<w.heap.size∧IntIs w p o x:=by
 obtain⟨p,o,e,A⟩:=h.den j B l;rw[C] at A;exact⟨p,o,e,A.is h.g⟩
theorem NV.fix (h:NV ws V ds D fs F ss w0 L f w) (i:Nat) (c:(∀ q∈ws,q.1≠i∧q.2≠i)∧i∉ds∧∀ q∈ss,q.1≠i) (B:L i=false):NV ws V ds D fs F ss w0 (fun j=>if j=i then true else L j) (fun j=>if j=i then F i else f j) w:=
 h.step i _ B (ag _) (fun q C=>(c.1 q C).2) (fun _ A=>absurd rfl (c.1 _ A).1) (fun A=>absurd A c.2.1) (fun _=>rfl) (fun _ A=>absurd rfl (c.2.2 _ A))
theorem NV.fixg (h:NV ws V ds D fs F ss w0 L f w) (i:Nat) (c:(∀ q∈ws,q.1≠i∧q.2≠i)∧i∉ds∧∀ q∈ss,q.1≠i) (B:L i=false) (g:G w w'):NV ws V ds D fs F ss w0 (fun j=>if j=i then true else L j) (fun j=>if j=i then F i else f j) w':=
 h.step i _ B g (fun q C=>(c.1 q C).2) (fun _ A=>absurd rfl (c.1 _ A).1) (fun A=>absurd A c.2.1) (fun _=>rfl) (fun _ A=>absurd rfl (c.2.2 _ A))
theorem NV.nw (h:NV ws V ds D fs F ss w0 L f w) (i:Nat) (t:TypeId) (c:(∀ q∈ws,q.2≠i)∧i∉ds∧i∉fs∧∀ q∈ss,q.1≠i) (B:L i=false):
  NV ws V ds D fs F ss w0 (fun j=>if j=i then true else L j) (fun j=>if j=i then .pointer (some ⟨w.heap.size,0,none⟩) else f j) (w.alloc (.cells #[.bool false,.slice none 0 0] t)):=
 h.step i _ B ((ag _).alloc _) c.1 (fun _ _=>⟨_,rfl,eu h.g t,az _⟩) (fun A=>absurd A c.2.1) (fun A=>absurd A c.2.2.1) (fun _ A=>absurd rfl (c.2.2.2 _ A))
theorem NV.dn (h:NV ws V ds D fs F ss w0 L f w) (i:Nat) {p o:Nat} (c:(∀ q∈ws,q.1≠i∧q.2≠i)∧i∉fs∧∀ q∈ss,q.1≠i) (B:L i=false) (g:G w w') (E:DI w0 w' p o (D i)) (I:p<w0.heap.size∨w.heap.size≤p):
  NV ws V ds D fs F ss w0 (fun j=>if j=i then true else L j) (fun j=>if j=i then .pointer (some ⟨p,o,none⟩) else f j) w':=
 h.step i _ B g (fun q C=>(c.1 q C).2) (fun _ A=>absurd rfl (c.1 _ A).1) (fun _=>⟨p,o,rfl,E,I⟩) (fun A=>absurd A c.2.1) (fun _ A=>absurd rfl (c.2.2 _ A))
theorem NV.cp (h:NV ws V ds D fs F ss w0 L f w) (i k:Nat) (c:(∀ q∈ws,q.1≠i∧q.2≠i)∧i∉ds∧i∉fs∧∀ q∈ss,q.1=i→q.2=k) (B:L i=false) (A:L k=true):NV ws V ds D fs F ss w0 (fun j=>if j=i then true else L j) (fun j=>if j=i then f k else f j) w:=
 h.step i _ B (ag _) (fun q E=>(c.1 q E).2) (fun _ A=>absurd rfl (c.1 _ A).1) (fun A=>absurd A c.2.1) (fun A=>absurd A c.2.2.1) (fun m C=>by have e:m=k:=c.2.2.2 _ C rfl;rw[e];exact⟨A,rfl⟩)
/-- Operation k writes the Int of operation i. -/
theorem NV.wr (h:NV ws V ds D fs F ss w0 L f w) (k i:Nat) {p:Nat} {e:Ending} (c:(i,k)∈ws∧(∀ q∈ws,q.1≠k∧(q.2=k↔q.1=i))∧k∉ds∧i∉ds∧k∉fs∧∀ q∈ss,q.1=k→q.2=i) (Y:L k=false) (hi:L i=true) (M:f i= .pointer (some ⟨p,0,none⟩)) (s:Step w0 w p (V i) e w'):
  NV ws V ds D fs F ss w0 (fun j=>if j=k then true else L j) (fun j=>if j=k then .pointer (some ⟨p,0,none⟩) else f j) w' where
 g:=s.2.1
 int:=fun j m A B=>by
  have C:j≠k:=(c.2.1 _ A).1;rw[if_neg C] at B ⊢;by_cases I:j=i
  ·subst I;have J:m=k:=(c.2.1 _ A).2.2 rfl;rw[if_pos J,if_pos rfl];exact⟨p,M,s.2.2.1⟩
  ·have hm:m≠k:=fun J=>I ((c.2.1 _ A).2.1 J);rw[if_neg hm];obtain⟨q,K,U⟩:=h.int j m A B;exact⟨q,K,s.2.2.2.2 q _ (bK (h.apart i j k p 0 q 0 (bK I) c.1 (Or.inr ⟨m,A⟩) hi B M K)) U⟩
 den:=fun j A B=>by
  have C:j≠k:=fun e=>c.2.2.1 (e▸A);rw[if_neg C] at B ⊢;obtain⟨q,o,K,U⟩:=h.den j A B;refine⟨q,o,K,U.keep fun k4=> ?_⟩;have I:j≠i:=fun e=>c.2.2.2.1 (e▸A);exact s.2.2.2.2 q _ (bK (h.apart i j k p 0 q o (bK I) c.1 (Or.inl A) hi B M K)) k4
 fx:=fun j A B=>by
  have C:j≠k:=fun e=>c.2.2.2.2.1 (e▸A);rw[if_neg C] at B ⊢;exact h.fx j A B
 sm:=fun j m A B=>by
  by_cases I:j=k
  ·subst I;have J:m=i:=c.2.2.2.2.2 _ A rfl;subst J;have E:m≠j:=fun e=>by rw[e,Y] at hi;cases hi
   rw[if_neg E,if_pos rfl,if_neg E];exact⟨hi,M.symm⟩
  ·rw[if_neg I] at B ⊢;obtain⟨S,k2⟩:=h.sm j m A B;have E:m≠k:=fun e=>by rw[e,Y] at S;cases S
   rw[if_neg E,if_neg E];exact⟨S,k2⟩
 ord:=fun j m A B=>by
  have C:j≠k:=(c.2.1 _ A).1;rw[if_neg C];by_cases J:m=k
  ·rw[show j=i from(c.2.1 _ A).2.1 J];exact hi
  ·rw[if_neg J] at B;exact h.ord j m A B
 apart:=fun a b m p2 o q r N Z hb d y W X=>by
  have O:a≠k:=(c.2.1 _ Z).1;have R:b≠k:=by
   rcases hb with hb|⟨m2,hb⟩
   ·exact fun e=>c.2.2.1 (e▸hb)
   ·exact(c.2.1 _ hb).1
  rw[if_neg O] at d W;rw[if_neg R] at y X;exact h.apart a b m p2 o q r N Z hb d y W X
end
end Go.Proofs.YtfnkkkcojnffdaaGreatDoor
namespace Go.Proofs.YtfnkkkcojnffdaaGreatDoor
open Go.ChangeShapes Go.WideShapes Go.ChangeAt Go.RowKit
open BN
set_option maxRecDepth 20000 in
set_option maxHeartbeats 4000000 in
theorem nq (FR FI:Nat) (hF:(FR=14∧FI=53)∨(FR=16∧FI=57)) (S:Int) (w:World) (bz bx c:Nat) (s1 s2 m s:Int) (M N:Nat) (J:Nat) (C:J≤100000) (cm:m.natAbs<2^(32*J)) (cr:s.natAbs<2^(32*J)) (Y:M<2^(32*J)) (Z:N<2^(32*J)) (cn:0<M) (cs:0<N)
  (fr:bz<w.heap.size) (ao:bx<w.heap.size) (ap:c<w.heap.size) (hz:RatIs w bz s1 s2) (hx:RatV w bx m M) (hy:RatV w c s N) (fp:S.natAbs<2^(32*(2*J+1)))
  (B:∀ (W:World) (p q r:Nat),G w W→NI w W p 0→NI w W q (m*(N:Int))→NI w W r (s*(M:Int))→Calls Tryz.prog FI #[.pointer (some ⟨p,0,none⟩),.pointer (some ⟨q,0,none⟩),.pointer (some ⟨r,0,none⟩)] W (SetTo W p 0 S)):
  Calls Tryz.prog FR #[.pointer (some ⟨bz,0,none⟩),.pointer (some ⟨bx,0,none⟩),.pointer (some ⟨c,0,none⟩)] w (NormTo w bz (Int.tdiv S (Nat.gcd S.natAbs (M*N):Nat)) (M*N/Nat.gcd S.natAbs (M*N))):=by
 have cy:Hid (m.natAbs<2^(32*J)):=cm;have cz:Hid (s.natAbs<2^(32*J)):=cr;have bl:Hid ((M:Int).natAbs<2^(32*J)):=by show (M:Int).natAbs<2^(32*J);rw[ar];exact Y
 have bn:Hid ((N:Int).natAbs<2^(32*J)):=by show (N:Int).natAbs<2^(32*J);rw[ar];exact Z
 have gz:Hid (IntIs w bx 0 m):=hx.num;have ha:Hid (IntIs w c 0 s):=hy.num;have ed:Hid (RatV w bx m M):=hx;have em:Hid (RatV w c s N):=hy;have hd:Hid (RatIs w bz s1 s2):=hz;have bq:0<M:=cn;have bs:0<N:=cs;have an:32*(2*J)=32*J+32*J:=by omega
 have ga:(m*(N:Int)).natAbs<2^(32*(2*J)):=by
  rw[bG,ar,an,ah];exact bE cm Z
 have gd:(s*(M:Int)).natAbs<2^(32*(2*J)):=by
  rw[bG,ar,an,ah];exact bE cr Y
 have hf:M*N<2^(32*(2*J)):=by
  rw[an,ah];exact bE Y Z
 have hg:2^(32*(2*J))*2≤2^(32*(2*J+1)):=by rw[← bp];exact ai eK eK
 have hh:Hid ((m*(N:Int)).natAbs<2^(32*(2*J))):=ga;have hj:Hid ((s*(M:Int)).natAbs<2^(32*(2*J))):=gd;have gn:Hid (S.natAbs<2^(32*(2*J+1))):=fp;have HI:Hid (∀ (W:World) (p q r:Nat),_):=B;have gl:Hid (M*N<2^(32*(2*J+1))):=by show M*N<2^(32*(2*J+1));omega
 have gk:Hid (0<M*N):=bF cn cs;clear hx hy hz cm cr Y Z cn cs an ga gd hf hg fp B;rcases hF with ⟨rfl,rfl⟩|⟨rfl,rfl⟩
 all_goals
  first|go_enter Tryz.func14,Tryz.ntmps14|go_enter Tryz.func16,Tryz.ntmps16
  go_wp2_with fail;refine RV.region_inv 17 0 #[true,true,true,true,true,true,true,true,true,true,true,true,true,true,true,true,true] [some 8,some 9,some 10,some 11,some 12,some 13,some 14,some 15,some 16,some 17,some 18,some 19,some 20,some 21,some 22,some 23,some 7]
   (NV [(0,15),(1,7),(8,14)] (fun j=>match j with|0=>S|1=>m*(N:Int)|_=>s*(M:Int)) [6,13] (fun j=>match j with|6=>(N:Int)|_=>(M:Int)) [2,3,4,5,9,10,11,12] (fun j=>match j with|2=> .pointer (some ⟨bx,0,none⟩)|3=> .pointer (some ⟨bx,0,none⟩)|4=> .pointer (some ⟨bx,0,none⟩)|12=> .pointer (some ⟨bx,0,none⟩)|_=> .pointer (some ⟨c,0,none⟩)) [(7,1),(14,8),(15,0),(16,15)] w) eM eM rfl eM eM (fun f=>NV.first (ag _).drew) ?_
  intro A O;simp only[List.range,List.range.loop,dj,List.map_nil,fg,Act.put,aj,au,av] at O;refine⟨aO rfl ?_ (aO rfl ?_ (aO rfl ?_ (aO rfl ?_ (aO rfl ?_ (aO rfl ?_ (aO rfl ?_ (aO rfl ?_ (aO rfl ?_ (aO rfl ?_ (aO rfl ?_ (aO rfl ?_ (aO rfl ?_ (aO rfl ?_ (aO rfl ?_ (aO rfl ?_ (aO rfl ?_ RV.Ones.nil)))))))))))))))),?_⟩
  ·intro L f W B I E K C;rw[O f] at C ⊢;go_simp;exact C.out _ _ ⟨_,rfl,NV.nw B _ _ ff I⟩
  ·intro L f W B I E K C;rw[O f] at C ⊢;go_simp;exact C.out _ _ ⟨_,rfl,NV.nw B _ _ ff I⟩
  ·intro L f W B I E K C;rw[O f] at C ⊢;go_simp;exact C.out _ _ ⟨_,rfl,NV.fix B _ ff I⟩
  ·intro L f W B I E K C;rw[O f,show f 2= .pointer (some ⟨bx,0,none⟩) from B.fx 2 ff (E 2 eM)] at C ⊢;go_simp;exact C.out _ _ ⟨_,rfl,NV.fix B _ ff I⟩
  ·intro L f W B I E K C;rw[O f,show f 3= .pointer (some ⟨bx,0,none⟩) from B.fx 3 ff (E 3 eM)] at C ⊢;go_simp;exact C.out _ _ ⟨_,rfl,NV.fix B _ ff I⟩
  ·intro L f W B I E K C;rw[O f] at C ⊢;go_simp;exact C.out _ _ ⟨_,rfl,NV.fix B _ ff I⟩
  ·intro L f W B I E K C;rw[O f] at C ⊢;have e:f 5= .pointer (some ⟨c,0,none⟩):=B.fx 5 ff (E 5 eM);rw[e] at C ⊢;clear e E;go_simp;go_wp2_with (go_at_call 55;refine eJ (il w W B.g c s N bs ap em.out) ?_;rintro e w' ⟨p,o,rfl,g,U,k2⟩);exact C.out _ _ ⟨_,rfl,NV.dn B _ ff I g U k2⟩
  ·intro L f W B I E K C;rw[O f] at C ⊢;have l1:=E 1 eM;obtain⟨p,e1,U⟩:=B.raw (j:=1) (k:=7) ff l1 I;obtain⟨q,o,e6,k6,k7⟩:=B.low (j:=6) ff (E 6 eM) rfl;have e4:f 4= .pointer (some ⟨bx,0,none⟩):=B.fx 4 ff (E 4 eM);have cb:=e1;rw[e1,e4,e6] at C ⊢;have hM:=hi9 (gX W p 0 bx 0 q o 0 m N J eK cy.out bn.out U.2.1 (dp B.g ao) k6 U.2.2 (cD gz.out ao B.g) k7);clear E e1 e4 e6 k6 k7;go_simp;go_wp2_with (go_at_call 54;refine eJ hM.out ?_;intro e w' hx;have X:=cf B.g U hx;obtain rfl:=X.1);exact C.out _ _ ⟨_,rfl,NV.wr B 7 1 ff I l1 cb X⟩
  ·intro L f W B I E K C;rw[O f] at C ⊢;go_simp;exact C.out _ _ ⟨_,rfl,NV.nw B _ _ ff I⟩
  ·intro L f W B I E K C;rw[O f] at C ⊢;go_simp;exact C.out _ _ ⟨_,rfl,NV.fix B _ ff I⟩
  ·intro L f W B I E K C;rw[O f,show f 9= .pointer (some ⟨c,0,none⟩) from B.fx 9 ff (E 9 eM)] at C ⊢;go_simp;exact C.out _ _ ⟨_,rfl,NV.fix B _ ff I⟩
  ·intro L f W B I E K C;rw[O f,show f 10= .pointer (some ⟨c,0,none⟩) from B.fx 10 ff (E 10 eM)] at C ⊢;go_simp;exact C.out _ _ ⟨_,rfl,NV.fix B _ ff I⟩
  ·intro L f W B I E K C;rw[O f] at C ⊢;go_simp;exact C.out _ _ ⟨_,rfl,NV.fix B _ ff I⟩
  ·intro L f W B I E K C;rw[O f] at C ⊢;have e:f 12= .pointer (some ⟨bx,0,none⟩):=B.fx 12 ff (E 12 eM);rw[e] at C ⊢;clear e E;go_simp;go_wp2_with (go_at_call 55;refine eJ (il w W B.g bx m M bq ao ed.out) ?_;rintro e w' ⟨p,o,rfl,g,U,k2⟩);exact C.out _ _ ⟨_,rfl,NV.dn B _ ff I g U k2⟩
  ·intro L f W B I E K C;rw[O f] at C ⊢;have l1:=E 8 eM;obtain⟨p,e1,U⟩:=B.raw (j:=8) (k:=14) ff l1 I;obtain⟨q,o,e6,k6,k7⟩:=B.low (j:=13) ff (E 13 eM) rfl;have e4:f 11= .pointer (some ⟨c,0,none⟩):=B.fx 11 ff (E 11 eM);have cb:=e1;rw[e1,e4,e6] at C ⊢;have hM:=hi9 (gX W p 0 c 0 q o 0 s M J eK cz.out bl.out U.2.1 (dp B.g ap) k6 U.2.2 (cD ha.out ap B.g) k7);clear E e1 e4 e6 k6 k7;go_simp;go_wp2_with (go_at_call 54;refine eJ hM.out ?_;intro e w' hx;have X:=cf B.g U hx;obtain rfl:=X.1);exact C.out _ _ ⟨_,rfl,NV.wr B 14 8 ff I l1 cb X⟩
  ·intro L f W B I E K C;rw[O f] at C ⊢;have l7:=E 7 eM;have cx:=E 14 eM;have l0:=E 0 eM;obtain⟨p,e0,k0⟩:=B.raw (j:=0) (k:=15) ff l0 I;obtain⟨l1,e7⟩:=B.sm 7 1 ff l7;obtain⟨l8,en⟩:=B.sm 14 8 ff cx;obtain⟨q,e1,U⟩:=B.made (j:=1) (k:=7) ff l7 rfl;obtain⟨r,e8,k8⟩:=B.made (j:=8) (k:=14) ff cx rfl;have he:=e0;rw[e0,e7,e1,en,e8] at C ⊢;have hM:=hi9 (HI.out W p q r B.g k0 U k8);clear E e0 e7 e1 en e8 U k8 l1 l7 l8 cx;go_simp;go_wp2_with ((first|go_at_call 53|go_at_call 57);refine eJ hM.out ?_;intro e w' hx;have X:=cf B.g k0 hx;obtain rfl:=X.1);exact C.out _ _ ⟨_,rfl,NV.wr B 15 0 ff I l0 he X⟩
  ·intro L f W B I E K C;rw[O f] at C ⊢;have R:=E 15 eM;obtain⟨l0,y⟩:=B.sm 15 0 ff R;obtain⟨p,e0,k0⟩:=B.made (j:=0) (k:=15) ff R rfl;have ee:f 15= .pointer (some ⟨p,0,none⟩):=y.trans e0;have hc:=NV.cp B 16 15 ff I R;rw[ee] at C hc ⊢;clear E y e0 k0 ee l0 R;go_simp;exact C.out _ _ ⟨_,rfl,hc⟩
  intro f L i B hl;refine wpAny_done eM ?_ _;rw[O f];obtain⟨R,ep⟩:=B.sm 16 15 ff (hl 16 ff);obtain⟨l0,y⟩:=B.sm 15 0 ff R;obtain⟨p0,e0,k0⟩:=B.made (j:=0) (k:=15) ff R rfl;rw[ep,y,e0];have HS:NI w i p0 S:=k0;have hG:=B.g;clear O ep y e0 k0 l0 R hl B HI;have bv:Hid (NI w i p0 S):=HS;clear HS;go_wp2_with fail;have fv:=eu hG 43;have ci:=(ag i).alloc (.cells #[.bool false,.slice none 0 0] 43);have cc:=aa hG ci;have gg:=bv.out.G ci;have gf:p0≠i.heap.size:=by have:=bv.out.2.1;omega
  generalize i.heap.size=pd at *;generalize i.alloc (.cells #[.bool false,.slice none 0 0] 43)=v1 at *;have dr:Hid (NI w v1 pd 0):=fv;have ea:Hid (NI w v1 p0 S):=gg;clear fv ci gg hG bv;refine eJ (il w v1 cc bx m M bq ao ed.out) ?_;rintro e v2 ⟨pe,oe,rfl,bi,k2,-⟩;have dk:Hid (DI w v2 pe oe M):=k2;clear k2;have cd:=aa cc bi;have ds:Hid (NI w v2 pd 0):=dr.out.G bi;have eb:Hid (NI w v2 p0 S):=ea.out.G bi;clear cc bi dr ea;go_wp2_with fail;refine eJ (il w v2 cd c s N bs ap em.out) ?_;rintro e v3 ⟨pf,of,rfl,al,k3,-⟩;have dq:Hid (DI w v3 pf of N):=k3;have d:=aa cd al;have am:Hid (NI w v3 pd 0):=ds.out.G al;have ec:Hid (NI w v3 p0 S):=eb.out.G al;have dl:Hid (DI w v3 pe oe M):=dk.out.G al;clear cd al ds eb dk k3;have HM:=hi9 (gX v3 pd 0 pe oe pf of 0 M N J eK bl.out bn.out am.out.2.1 (dl.out.is d).1 (dq.out.is d).1 am.out.2.2 (dl.out.is d).2 (dq.out.is d).2);go_wp2_with fail;refine eJ HM.out ?_;intro e v4 X;obtain⟨rfl,ce,cl,-,fs⟩:=cf d am.out X;have ca:Hid (NI w v4 p0 S):=fs p0 _ gf ec.out;rw[show (M:Int)*N=((M*N:Nat):Int) from by push_cast;rfl] at cl;have bu:Hid (NI w v4 pd ((M*N:Nat):Int)):=cl;clear X fs cl HM am ec d gf;have HF:=hi9 (gN v4 bz p0 0 pd 0 s1 s2 S (M*N) (2*J+1) eK gn.out gl.out gk.out (dp ce fr) ca.out.2.1 bu.out.2.1 (hd.out.G fr ce) ca.out.2.2 bu.out.2.2);go_wp2_with fail;refine eJ HF.out ?_;intro e v5 X;obtain⟨rfl,U,k2⟩:=NormTo.after ce X;have gm:=hi9 k2;clear X k2 HF ca bu;go_wp2_with fail;go_ret;exact⟨rfl,U,gm.out⟩
theorem hup_ (A:Nat):2^(32*(2*A))*2≤2^(32*(2*A+1)):=by rw[← bp];exact ai eK eK
theorem iH {a:Int} {b A:Nat} (h1:a.natAbs<2^(32*A)) (h2:b<2^(32*A)):(a*(b:Int)).natAbs<2^(32*(2*A)):=by
 rw[bG,ar,show 32*(2*A)=32*A+32*A from by omega,ah];exact bE h1 h2
theorem q2F (w:World) (O bx R:Nat) (j k M N:Int) (C E:Nat) (I:Nat) (m:I≤100000) (J:M.natAbs<2^(32*I)) (K:N.natAbs<2^(32*I)) (A:C<2^(32*I)) (B:E<2^(32*I)) (Y:0<C) (Z:0<E)
  (X:O<w.heap.size) (S:bx<w.heap.size) (U:R<w.heap.size) (y:RatIs w O j k) (o:RatV w bx M C) (s:RatV w R N E):
  Calls Tryz.prog 14 #[.pointer (some ⟨O,0,none⟩),.pointer (some ⟨bx,0,none⟩),.pointer (some ⟨R,0,none⟩)] w (NormTo w O (Int.tdiv (M*(E:Int)+N*(C:Int)) (Nat.gcd (M*(E:Int)+N*(C:Int)).natAbs (C*E):Nat)) (C*E/Nat.gcd (M*(E:Int)+N*(C:Int)).natAbs (C*E))):=
 nq _ _ (Or.inl ⟨rfl,rfl⟩) _ w O bx R j k M N C E I m J K A B Y Z X S U y o s (by have:=Int.natAbs_add_le (M*(E:Int)) (N*(C:Int));have:=hup_ I;have:=iH J B;have:=iH K A;omega)
  fun W p q r _ c d i=>rA W p 0 q 0 r 0 0 _ _ (2*I) eK (iH J B) (iH K A) c.2.1 d.2.1 i.2.1 c.2.2 d.2.2 i.2.2
theorem q3v (w:World) (O bx R:Nat) (j k M N:Int) (C E:Nat) (I:Nat) (m:I≤100000) (J:M.natAbs<2^(32*I)) (K:N.natAbs<2^(32*I)) (A:C<2^(32*I)) (B:E<2^(32*I)) (Y:0<C) (Z:0<E)
  (X:O<w.heap.size) (S:bx<w.heap.size) (U:R<w.heap.size) (y:RatIs w O j k) (o:RatIs w bx M C) (s:RatIs w R N E):
  Calls Tryz.prog 16 #[.pointer (some ⟨O,0,none⟩),.pointer (some ⟨bx,0,none⟩),.pointer (some ⟨R,0,none⟩)] w (NormTo w O (Int.tdiv (M*(E:Int)-N*(C:Int)) (Nat.gcd (M*(E:Int)-N*(C:Int)).natAbs (C*E):Nat)) (C*E/Nat.gcd (M*(E:Int)-N*(C:Int)).natAbs (C*E))):=
 nq _ _ (Or.inr ⟨rfl,rfl⟩) _ w O bx R j k M N C E I m J K A B Y Z X S U y (Or.inl o) (Or.inl s) (by have:=Int.natAbs_sub_le (M*(E:Int)) (N*(C:Int));have:=hup_ I;have:=iH J B;have:=iH K A;omega)
  fun W p q r _ c d i=>q17 W p 0 q 0 r 0 0 _ _ (2*I) eK (iH J B) (iH K A) c.2.1 d.2.1 i.2.1 c.2.2 d.2.2 i.2.2
set_option maxRecDepth 20000 in
set_option maxHeartbeats 4000000 in
theorem q2V (w:World) (m bx X:Nat) (s1 s2 S U:Int) (M N:Nat) (J:Nat) (C:J≤100000) (am:S.natAbs<2^(32*J)) (ao:U.natAbs<2^(32*J)) (Z:M<2^(32*J)) (c:N<2^(32*J)) (an:0<M) (ap:0<N)
  (bv:m<w.heap.size) (y:bx<w.heap.size) (al:X<w.heap.size) (hz:RatIs w m s1 s2) (i:RatV w bx S M) (hy:RatV w X U N):
  Calls Tryz.prog 18 #[.pointer (some ⟨m,0,none⟩),.pointer (some ⟨bx,0,none⟩),.pointer (some ⟨X,0,none⟩)] w (NormTo w m (Int.tdiv (S*U) (Nat.gcd (S*U).natAbs (M*N):Nat)) (M*N/Nat.gcd (S*U).natAbs (M*N))):=by
 have bi:Hid (S.natAbs<2^(32*J)):=am;have bl:Hid (U.natAbs<2^(32*J)):=ao;have bn:Hid ((M:Int).natAbs<2^(32*J)):=by show (M:Int).natAbs<2^(32*J);rw[ar];exact Z
 have bq:Hid ((N:Int).natAbs<2^(32*J)):=by show (N:Int).natAbs<2^(32*J);rw[ar];exact c
 have cm:Hid (IntIs w bx 0 S):=i.num;have cr:Hid (IntIs w X 0 U):=hy.num;have cn:Hid (RatV w bx S M):=i;have cs:Hid (RatV w X U N):=hy;have cx:Hid (RatIs w m s1 s2):=hz;have ca:0<M:=an;have cb:0<N:=ap;have cl:Hid ((S*U).natAbs<2^(32*(2*J))):=by
  show (S*U).natAbs<2^(32*(2*J));rw[bG,show 32*(2*J)=32*J+32*J from by omega,ah];exact bE am ao
 have cd:Hid (M*N<2^(32*(2*J))):=by
  show M*N<2^(32*(2*J));rw[show 32*(2*J)=32*J+32*J from by omega,ah];exact bE Z c
 have cc:Hid (0<M*N):=bF an ap;have ce:Hid ((M:Int)*N=((M*N:Nat):Int)):=by show (M:Int)*N=((M*N:Nat):Int);push_cast;rfl
 clear i hy hz am ao Z c an ap;go_enter Tryz.func18,Tryz.ntmps18;go_wp2_with fail;refine RV.region_inv 15 2 #[true,true,true,true,true,true,true,true,true,true,true,true,true,true,true,false,false] [some 7,some 8,some 9,some 10,some 11,some 12,some 13,some 14,some 15,some 16,some 17,some 18,some 19,some 20,some 21]
  (NV [(1,8),(9,14)] (fun j=>match j with|1=>S*U|_=>((M*N:Nat):Int)) [11,13] (fun j=>match j with|11=>(M:Int)|_=>(N:Int)) [0,2,3,4,5,6,7,10,12] (fun j=>match j with|0=> .pointer (some ⟨m,0,none⟩)|2=> .pointer (some ⟨bx,0,none⟩)|3=> .pointer (some ⟨bx,0,none⟩)|4=> .pointer (some ⟨bx,0,none⟩)|10=> .pointer (some ⟨bx,0,none⟩)|_=> .pointer (some ⟨X,0,none⟩)) [(8,1),(14,9)] w) eM eM rfl eM eM (fun f=>NV.first (ag _).drew) ?_
 intro A O;simp only[List.range,List.range.loop,dj,List.map_nil,fg,Act.put,aj,au,av] at O;refine⟨aO rfl ?_ (aO rfl ?_ (aO rfl ?_ (aO rfl ?_ (aO rfl ?_ (aO rfl ?_ (aO rfl ?_ (aO rfl ?_ (aO rfl ?_ (aO rfl ?_ (aO rfl ?_ (aO rfl ?_ (aO rfl ?_ (aO rfl ?_ (aO rfl ?_ RV.Ones.nil)))))))))))))),?_⟩
 ·intro L f W B E I K C;rw[O f] at C ⊢;go_simp;exact C.out _ _ ⟨_,rfl,NV.fix B _ ff E⟩
 ·intro L f W B E I K C;rw[O f] at C ⊢;go_simp;exact C.out _ _ ⟨_,rfl,NV.nw B _ _ ff E⟩
 ·intro L f W B E I K C;rw[O f] at C ⊢;go_simp;exact C.out _ _ ⟨_,rfl,NV.fix B _ ff E⟩
 ·intro L f W B E I K C;rw[O f,show f 2= .pointer (some ⟨bx,0,none⟩) from B.fx 2 ff (I 2 eM)] at C ⊢;go_simp;exact C.out _ _ ⟨_,rfl,NV.fix B _ ff E⟩
 ·intro L f W B E I K C;rw[O f,show f 3= .pointer (some ⟨bx,0,none⟩) from B.fx 3 ff (I 3 eM)] at C ⊢;go_simp;exact C.out _ _ ⟨_,rfl,NV.fix B _ ff E⟩
 ·intro L f W B E I K C;rw[O f] at C ⊢;go_simp;exact C.out _ _ ⟨_,rfl,NV.fix B _ ff E⟩
 ·intro L f W B E I K C;rw[O f,show f 5= .pointer (some ⟨X,0,none⟩) from B.fx 5 ff (I 5 eM)] at C ⊢;go_simp;exact C.out _ _ ⟨_,rfl,NV.fix B _ ff E⟩
 ·intro L f W B E I K C;rw[O f,show f 6= .pointer (some ⟨X,0,none⟩) from B.fx 6 ff (I 6 eM)] at C ⊢;go_simp;exact C.out _ _ ⟨_,rfl,NV.fix B _ ff E⟩
 ·intro L f W B E I K C;rw[O f] at C ⊢;have l1:=I 1 eM;obtain⟨p,d,R⟩:=B.raw (j:=1) (k:=8) ff l1 E;have e4:f 4= .pointer (some ⟨bx,0,none⟩):=B.fx 4 ff (I 4 eM);have e7:f 7= .pointer (some ⟨X,0,none⟩):=B.fx 7 ff (I 7 eM);have s:=d;rw[d,e4,e7] at C ⊢;have hM:=hi9 (gX W p 0 bx 0 X 0 0 S U J eK bi.out bl.out R.2.1 (dp B.g y) (dp B.g al) R.2.2 (cD cm.out y B.g) (cD cr.out al B.g));clear I d e4 e7;go_simp;go_wp2_with (go_at_call 54;refine eJ hM.out ?_;intro e w' i;have hs:=cf B.g R i;obtain rfl:=hs.1);exact C.out _ _ ⟨_,rfl,NV.wr B 8 1 ff E l1 s hs⟩
 ·intro L f W B E I K C;rw[O f] at C ⊢;go_simp;exact C.out _ _ ⟨_,rfl,NV.nw B _ _ ff E⟩
 ·intro L f W B E I K C;rw[O f] at C ⊢;go_simp;exact C.out _ _ ⟨_,rfl,NV.fix B _ ff E⟩
 ·intro L f W B E I K C;rw[O f,show f 10= .pointer (some ⟨bx,0,none⟩) from B.fx 10 ff (I 10 eM)] at C ⊢;go_simp;go_wp2_with (go_at_call 55;refine eJ (il w W B.g bx S M ca y cn.out) ?_;rintro e w' ⟨p,o,rfl,g,R,k2⟩);exact C.out _ _ ⟨_,rfl,NV.dn B _ ff E g R k2⟩
 ·intro L f W B E I K C;rw[O f] at C ⊢;go_simp;exact C.out _ _ ⟨_,rfl,NV.fix B _ ff E⟩
 ·intro L f W B E I K C;rw[O f,show f 12= .pointer (some ⟨X,0,none⟩) from B.fx 12 ff (I 12 eM)] at C ⊢;go_simp;go_wp2_with (go_at_call 55;refine eJ (il w W B.g X U N cb al cs.out) ?_;rintro e w' ⟨p,o,rfl,g,R,k2⟩);exact C.out _ _ ⟨_,rfl,NV.dn B _ ff E g R k2⟩
 ·intro L f W B E I K C;rw[O f] at C ⊢;have l1:=I 9 eM;obtain⟨p,d,R⟩:=B.raw (j:=9) (k:=14) ff l1 E;obtain⟨q,o,e6,k6,k7⟩:=B.low (j:=11) ff (I 11 eM) rfl;obtain⟨q2,o2,e8,k8,k9⟩:=B.low (j:=13) ff (I 13 eM) rfl;have s:=d;rw[d,e6,e8] at C ⊢;have hM:=hi9 (ce.out▸gX W p 0 q o q2 o2 0 M N J eK bn.out bq.out R.2.1 k6 k8 R.2.2 k7 k9);clear I d e6 e8 k6 k7 k8 k9;go_simp;go_wp2_with (go_at_call 54;refine eJ hM.out ?_;intro e w' i;have hs:=cf B.g R i;obtain rfl:=hs.1);exact C.out _ _ ⟨_,rfl,NV.wr B 14 9 ff E l1 s hs⟩
 intro f L cy B hl;obtain⟨l1,e8⟩:=B.sm 8 1 ff (hl 8 ff);obtain⟨l9,bu⟩:=B.sm 14 9 ff (hl 14 ff);obtain⟨pn,d,R⟩:=B.made (j:=1) (k:=8) ff (hl 8 ff) rfl;obtain⟨pd,e9,k9⟩:=B.made (j:=9) (k:=14) ff (hl 14 ff) rfl;rw[O f,e8,d,bu,e9,show f 0= .pointer (some ⟨m,0,none⟩) from B.fx 0 ff (hl 0 ff)];have Y:=B.g;have bs:=hi9 (gN cy m pn 0 pd 0 s1 s2 (S*U) (M*N) (2*J) eK cl.out cd.out cc.out (dp Y bv) R.2.1 k9.2.1 (cx.out.G bv Y) R.2.2 k9.2.2);clear O e8 d bu e9 R k9 l1 l9 hl B;refine wpAny_ready (rs:=[15]) eM fI ?_;refine AllReady.cons rfl (fun K C=> ?_) AllReady.nil;go_simp;have HK:=hid C;clear C;go_wp2_with (go_at_call 43;refine eJ bs.out ?_;intro e cz i;obtain⟨rfl,R,k2⟩:=NormTo.after Y i);have ci:=hi9 k2;refine HK.out _ _ ?_;clear i k2 HK K bs;refine wpAny_ready (rs:=[16]) eM fI ?_;refine AllReady.cons rfl (fun K C=> ?_) AllReady.nil;go_simp;refine C _ _ ?_;clear C K;refine wpAny_done eM ?_ _;go_wp2_with fail;go_ret;exact⟨rfl,R,ci.out⟩
set_option maxRecDepth 20000 in
set_option maxHeartbeats 4000000 in
theorem q2I (w:World) (bx d:Nat) (U X:Int) (E N:Nat) (O:Nat) (C:O≤100000) (bv:U.natAbs<2^(32*O)) (ca:X.natAbs<2^(32*O)) (al:E<2^(32*O)) (am:N<2^(32*O)) (bz:0<E) (cn:0<N)
  (Z:bx<w.heap.size) (c:d<w.heap.size) (hx:RatV w bx U E) (hy:RatV w d X N):
  Calls Tryz.prog 24 #[.pointer (some ⟨bx,0,none⟩),.pointer (some ⟨d,0,none⟩)] w fun e w'=>e= .returned (.int .i64 (cmpI (U*(N:Int)) (X*(E:Int))))∧G w w':=by
 have cb:Hid (U.natAbs<2^(32*O)):=bv;have cc:Hid (X.natAbs<2^(32*O)):=ca;have ce:Hid ((E:Int).natAbs<2^(32*O)):=by show (E:Int).natAbs<2^(32*O);rw[ar];exact al
 have ci:Hid ((N:Int).natAbs<2^(32*O)):=by show (N:Int).natAbs<2^(32*O);rw[ar];exact am
 have dr:Hid (IntIs w bx 0 U):=hx.num;have ds:Hid (IntIs w d 0 X):=hy.num;have bq:Hid (RatV w bx U E):=hx;have bs:Hid (RatV w d X N):=hy;have bi:0<E:=bz;have bl:0<N:=cn;have bu:32*(2*O)=32*O+32*O:=by omega
 have cs:Hid ((U*(N:Int)).natAbs<2^(32*(2*O))):=by
  show (U*(N:Int)).natAbs<2^(32*(2*O));rw[bG,ar,bu,ah];exact bE bv am
 have cx:Hid ((X*(E:Int)).natAbs<2^(32*(2*O))):=by
  show (X*(E:Int)).natAbs<2^(32*(2*O));rw[bG,ar,bu,ah];exact bE ca al
 have bn:Hid (∀ m px ox py oy,px<m.heap.size→py<m.heap.size→IntIs m px ox (E:Int)→IntIs m py oy (N:Int)→_):=fun m px ox py oy h1 h2 h3 h4=>lh m px ox py oy (E:Int) (N:Int) O eK ce.out ci.out h1 h2 h3 h4;by_cases he:E=N
 ·subst he;have h1:cmpI (E:Int) (E:Int)=0:=by unfold cmpI;rw[if_neg eK,if_pos rfl]
  rw[h1] at bn;rw[rJ bz];have dq:Hid (∀ m,G w m→_):=fun m g=>lh m bx 0 d 0 U X O eK cb.out cc.out (dp g Z) (dp g c) (cD dr.out Z g) (cD ds.out c g);generalize cmpI U X=cv at *;clear hx hy bv ca al am bz cn h1 cs cx bu;go_enter Tryz.func24,Tryz.ntmps24;go_wp2_with fail;refine eJ (il w w (ag w) bx U E bi Z bq.out) ?_;rintro e m ⟨px,ox,rfl,s,kx,-⟩;have ao:Hid (DI w m px ox E):=kx;clear kx;go_wp2_with fail;refine eJ (il w m s d X E bl c bs.out) ?_;rintro e w2 ⟨py,oy,rfl,y,ky,-⟩;have an:Hid (DI w w2 py oy E):=ky;have S:Hid (DI w w2 px ox E):=ao.out.G y;have M:=aa s y;clear ky ao;clear s y;go_wp2_with fail;refine eJ (bn.out w2 px ox py oy (S.out.is M).1 (an.out.is M).1 (S.out.is M).2 (an.out.is M).2) ?_;rintro e w3 ⟨rfl,ap⟩;have R:=aa M ap;clear ap M;go_wp2_with fail;refine fN 6 (G w3) eM (by first|exact(ag _).drew|exact G.drew kg) ?_;intro eb;refine eL 0 (v:= ?_) rfl eM (fun _ _ _ h=>h) rfl ?_ ‹_› ?_;rotate_left
  ·exact kQ
  try simp only[aput,List.set]
  refine eL 1 (v:= ?_) rfl eM (fun _ _ _ h=>h) rfl ?_ ‹_› ?_;rotate_left
  ·exact kQ
  try simp only[aput,List.set]
  refine eL 2 (v:= ?_) rfl eM (fun _ _ _ h=>h) rfl ?_ ‹_› ?_;rotate_left
  ·exact kQ
  try simp only[aput,List.set]
  refine eL 3 (v:= ?_) rfl eM (fun _ _ _ h=>h) rfl ?_ ‹_› ?_;rotate_left
  ·exact kQ
  try simp only[aput,List.set]
  refine eL 4 (v:= ?_) rfl eM (fun _ _ _ h=>h) rfl ?_ ‹_› ?_;rotate_left
  ·exact kQ
  try simp only[aput,List.set]
  refine eL 5 (v:= ?_) rfl eM (fun _ _ _ h=>h) rfl ?_ ‹_› ?_;rotate_left
  ·exact kQ
  try simp only[aput,List.set]
  show fD _ _ _ _ _ _ _ _ _ w3.drew;generalize w3.drew=ed at *;have cl:=aa R eb;refine eN (i:=6) eM rfl ?_;intro K C;go_simp;go_wp2_with (go_at_call 70;refine eJ (dq.out ed cl) ?_;rintro e w4 ⟨rfl,ec⟩);refine C.out _ _ (Or.inl ff) ?_;have ea:=aa cl ec;clear C K;refine eN (i:=7) eM rfl ?_;intro K C;go_simp;refine C.out _ _ (Or.inl ff) ?_;clear C K;refine fh eM ?_ _;go_wp2_with fail;go_ret;exact⟨rfl,ea⟩
 ·have h1:(cmpI (E:Int) (N:Int)==0)=false:=by
   unfold cmpI;by_cases h:(E:Int)<N
   ·rw[if_pos h];rfl
   ·rw[if_neg h,if_neg eK];rfl
  have cy:=hi9 h1;generalize cmpI (E:Int) (N:Int)=cd at *;clear hx hy bv ca al am bz cn h1 he bu;have t1:=cy.out;go_enter Tryz.func24,Tryz.ntmps24;go_wp2_with fail;refine eJ (il w w (ag w) bx U E bi Z bq.out) ?_;rintro e m ⟨px,ox,rfl,s,kx,-⟩;have ao:Hid (DI w m px ox E):=kx;clear kx;go_wp2_with fail;refine eJ (il w m s d X N bl c bs.out) ?_;rintro e w2 ⟨py,oy,rfl,y,ky,-⟩;have an:Hid (DI w w2 py oy N):=ky;have S:Hid (DI w w2 px ox E):=ao.out.G y;have M:=aa s y;clear ky ao;clear s y;go_wp2_with fail;refine eJ (bn.out w2 px ox py oy (S.out.is M).1 (an.out.is M).1 (S.out.is M).2 (an.out.is M).2) ?_;rintro e w3 ⟨rfl,ap⟩;have R:=aa M ap;clear ap M bn S an;have cz:Hid (RatV w3 bx U E):=RatV.G bq.out Z R;have dk:Hid (RatV w3 d X N):=RatV.G bs.out c R;clear bq bs;go_wp2_with fail;clear t1 cy;refine RV.region_inv 16 0 #[true,true,true,true,true,true,true,true,true,true,true,true,true,true,true,true] [some 18,some 19,some 20,some 21,some 22,some 23,some 24,some 25,some 26,some 27,some 28,some 29,some 30,some 31,some 32,some 4]
   (NV [(0,6),(7,13)] (fun j=>match j with|0=>U*(N:Int)|_=>X*(E:Int)) [5,12] (fun j=>match j with|5=>(N:Int)|_=>(E:Int)) [1,2,3,4,8,9,10,11,14,15] (fun j=>match j with|1=> .pointer (some ⟨bx,0,none⟩)|2=> .pointer (some ⟨bx,0,none⟩)|3=> .pointer (some ⟨bx,0,none⟩)|11=> .pointer (some ⟨bx,0,none⟩)|14=> .int .i64 (cmpI (U*(N:Int)) (X*(E:Int)))|15=> .int .i64 (cmpI (U*(N:Int)) (X*(E:Int)))|_=> .pointer (some ⟨d,0,none⟩)) [(6,0),(13,7)] w3) eM eM rfl eM eM (fun f=>NV.first (ag _).drew) ?_
  intro A Y;simp only[List.range,List.range.loop,dj,List.map_nil,fg,Act.put,aj,au,av] at Y;refine⟨aO rfl ?_ (aO rfl ?_ (aO rfl ?_ (aO rfl ?_ (aO rfl ?_ (aO rfl ?_ (aO rfl ?_ (aO rfl ?_ (aO rfl ?_ (aO rfl ?_ (aO rfl ?_ (aO rfl ?_ (aO rfl ?_ (aO rfl ?_ (aO rfl ?_ (aO rfl ?_ RV.Ones.nil))))))))))))))),?_⟩
  ·intro L f W B J I K C;rw[Y f] at C ⊢;go_simp;exact C.out _ _ ⟨_,rfl,NV.nw B _ _ ff J⟩
  ·intro L f W B J I K C;rw[Y f] at C ⊢;go_simp;exact C.out _ _ ⟨_,rfl,NV.fix B _ ff J⟩
  ·intro L f W B J I K C;rw[Y f,show f 1= .pointer (some ⟨bx,0,none⟩) from B.fx 1 ff (I 1 eM)] at C ⊢;go_simp;exact C.out _ _ ⟨_,rfl,NV.fix B _ ff J⟩
  ·intro L f W B J I K C;rw[Y f,show f 2= .pointer (some ⟨bx,0,none⟩) from B.fx 2 ff (I 2 eM)] at C ⊢;go_simp;exact C.out _ _ ⟨_,rfl,NV.fix B _ ff J⟩
  ·intro L f W B J I K C;rw[Y f] at C ⊢;go_simp;exact C.out _ _ ⟨_,rfl,NV.fix B _ ff J⟩
  ·intro L f W B J I K C;rw[Y f,show f 4= .pointer (some ⟨d,0,none⟩) from B.fx 4 ff (I 4 eM)] at C ⊢;go_simp;go_wp2_with (go_at_call 55;refine eJ (il w3 W B.g d X N bl (dp R c) dk.out) ?_;rintro e w' ⟨p,o,rfl,g,k1,k2⟩);exact C.out _ _ ⟨_,rfl,NV.dn B _ ff J g k1 k2⟩
  ·intro L f W B J I K C;rw[Y f] at C ⊢;have l1:=I 0 eM;obtain⟨p,e1,k1⟩:=B.raw (j:=0) (k:=6) ff l1 J;obtain⟨q,o,e6,k6,k7⟩:=B.low (j:=5) ff (I 5 eM) rfl;have e4:f 3= .pointer (some ⟨bx,0,none⟩):=B.fx 3 ff (I 3 eM);have cm:=e1;rw[e1,e4,e6] at C ⊢;have hM:=hi9 (gX W p 0 bx 0 q o 0 U N O eK cb.out ci.out k1.2.1 (dp B.g (dp R Z)) k6 k1.2.2 (cD cz.out.num (dp R Z) B.g) k7);clear I e1 e4 e6 k6 k7;go_simp;go_wp2_with (go_at_call 54;refine eJ hM.out ?_;intro e w' hx;have hs:=cf B.g k1 hx;obtain rfl:=hs.1);exact C.out _ _ ⟨_,rfl,NV.wr B 6 0 ff J l1 cm hs⟩
  ·intro L f W B J I K C;rw[Y f] at C ⊢;go_simp;exact C.out _ _ ⟨_,rfl,NV.nw B _ _ ff J⟩
  ·intro L f W B J I K C;rw[Y f] at C ⊢;go_simp;exact C.out _ _ ⟨_,rfl,NV.fix B _ ff J⟩
  ·intro L f W B J I K C;rw[Y f,show f 8= .pointer (some ⟨d,0,none⟩) from B.fx 8 ff (I 8 eM)] at C ⊢;go_simp;exact C.out _ _ ⟨_,rfl,NV.fix B _ ff J⟩
  ·intro L f W B J I K C;rw[Y f,show f 9= .pointer (some ⟨d,0,none⟩) from B.fx 9 ff (I 9 eM)] at C ⊢;go_simp;exact C.out _ _ ⟨_,rfl,NV.fix B _ ff J⟩
  ·intro L f W B J I K C;rw[Y f] at C ⊢;go_simp;exact C.out _ _ ⟨_,rfl,NV.fix B _ ff J⟩
  ·intro L f W B J I K C;rw[Y f,show f 11= .pointer (some ⟨bx,0,none⟩) from B.fx 11 ff (I 11 eM)] at C ⊢;go_simp;go_wp2_with (go_at_call 55;refine eJ (il w3 W B.g bx U E bi (dp R Z) cz.out) ?_;rintro e w' ⟨p,o,rfl,g,k1,k2⟩);exact C.out _ _ ⟨_,rfl,NV.dn B _ ff J g k1 k2⟩
  ·intro L f W B J I K C;rw[Y f] at C ⊢;have l1:=I 7 eM;obtain⟨p,e1,k1⟩:=B.raw (j:=7) (k:=13) ff l1 J;obtain⟨q,o,e6,k6,k7⟩:=B.low (j:=12) ff (I 12 eM) rfl;have e4:f 10= .pointer (some ⟨d,0,none⟩):=B.fx 10 ff (I 10 eM);have cm:=e1;rw[e1,e4,e6] at C ⊢;have hM:=hi9 (gX W p 0 d 0 q o 0 X E O eK cc.out ce.out k1.2.1 (dp B.g (dp R c)) k6 k1.2.2 (cD dk.out.num (dp R c) B.g) k7);clear I e1 e4 e6 k6 k7;go_simp;go_wp2_with (go_at_call 54;refine eJ hM.out ?_;intro e w' hx;have hs:=cf B.g k1 hx;obtain rfl:=hs.1);exact C.out _ _ ⟨_,rfl,NV.wr B 13 7 ff J l1 cm hs⟩
  ·intro L f W B J I K C;rw[Y f] at C ⊢;have l6:=I 6 eM;have cr:=I 13 eM;obtain⟨l0,e6⟩:=B.sm 6 0 ff l6;obtain⟨l7,dl⟩:=B.sm 13 7 ff cr;obtain⟨q,e1,k1⟩:=B.made (j:=0) (k:=6) ff l6 rfl;obtain⟨r,e8,k8⟩:=B.made (j:=7) (k:=13) ff cr rfl;rw[e6,e1,dl,e8] at C ⊢;have hM:=hi9 (lh W q 0 r 0 _ _ (2*O) eK cs.out cx.out k1.2.1 k8.2.1 k1.2.2 k8.2.2);clear I e6 e1 dl e8 k1 k8 l0 l6 l7 cr;go_simp;go_wp2_with (go_at_call 70;refine eJ hM.out ?_;rintro e w' ⟨rfl,g⟩);exact C.out _ _ ⟨_,rfl,NV.fixg B _ ff J g⟩
  ·intro L f W B J I K C;rw[Y f,show f 14= .int .i64 (cmpI (U*(N:Int)) (X*(E:Int))) from B.fx 14 ff (I 14 eM)] at C ⊢;go_simp;exact C.out _ _ ⟨_,rfl,NV.fix B _ ff J⟩
  intro f L ee B hl;refine wpAny_done eM ?_ _;rw[Y f,show f 15= .int .i64 (cmpI (U*(N:Int)) (X*(E:Int))) from B.fx 15 ff (hl 15 ff)];have hG:=aa R B.g;clear Y hl B;go_wp2_with fail;go_ret;exact⟨rfl,hG⟩
/-- Words laid over a row of our own. -/
theorem qZ {w:World} {b:Nat}:∀ {m l:List Nat} {o:Nat},Own w b l→okw m→o+m.length≤l.length→
  Own (w.setCells b o (m.map fun d=> .int .u32 (d:Nat))) b (l.take o++(m++l.drop (o+m.length))):=by
 intro m
 induction m generalizing w with
 |nil=>intro l o h _ _;simpa [World.setCells] using h
 |cons d m I=>
  intro l o h E C;obtain⟨B,A⟩:=okw_cons.1 E;simp only[bw] at C;have h1:=Own.set h o d eK B;have h2:=I (l:=l.set o d) (o:=o+1) h1 A (by rw[ax];omega);rw[dj];simp only[World.setCells];have e:(l.set o d).take (o+1)++(m++(l.set o d).drop (o+1+m.length))=l.take o++(d::m++l.drop (o+(m.length+1))):=by
   rw[gO (by rw[ax];omega),fJ,eY eK,bU eK];simp [Nat.add_comm,Nat.add_left_comm]
  rw[bw,← e];exact h2
theorem pV {w0:World} {b:Nat} (hb:w0.heap.size≤b):∀ (cs:List Value) (w:World) (o:Nat),G w0 w→G w0 (w.setCells b o cs)
 |[],_,_,h=>h
 |v::cs,_,o,h=>pV hb cs _ _ (G.setCell h (p:=⟨b,o,none⟩) hb v)
theorem rj {w:World} {b o:Nat} {l:List Nat} (h:Row w b o l):∀ j v,(l.map fun d=>Value.int .u32 (d:Nat))[j]? =some v→w.cell? ((⟨b,o,none⟩:Addr).add j)=some v:=by
 intro j u B;rw[de] at B;obtain⟨d,A,rfl⟩:=bP.1 B;have:=h j (aV.1 A).1;rw[ad,A] at this;rw[show ((⟨b,o,none⟩:Addr).add j)=⟨b,o+j,none⟩ from Addr.add_lit ..];exact this
theorem qY (l:List Nat):∀ u∈(l.map fun d=>Value.int .u32 (d:Nat)),u.oneCell'=true:=by
 intro u hu;obtain⟨d,-,rfl⟩:=List.mem_map.1 hu;rfl
/-- 'copy' of a slice to the beginning of a row of our own that is newer than w0. -/
theorem oD {w0 w:World} {b n:Nat} {zs l:List Nat} {va:Value} (h:Own w b zs) (U:zs.length=n) (I:Sl w va l) (O:l.length≤n) (g:G w0 w) (hb:w0.heap.size≤b) (E:TypeId):
  ∃ w',(Builtin.copy_ #[41,41] E #[.slice (some ⟨b,0,none⟩) n n,va]).run Tryz.prog w= .ok (goInt l.length) w'∧Own w' b (l++zs.drop l.length)∧G w0 w':=by
 have B:=I.1;rcases Sl.cases I with ⟨rfl,a,c,rfl⟩|⟨R,K,S,c1,rfl,N,M,C⟩
 ·exact⟨w,run_copy_none w 41 41 E 149 _ _ _ _ _ _ Tryz.underlying41 eM fI,h,g⟩
 ·have J:=qZ (o:=0) h B eK;rw[List.take_zero,bW,aD] at J;have A:=run_copy_cells (P:=Tryz.prog) w 41 41 E 149 b 0 n n ⟨K,S,none⟩ l.length c1 (l.map fun d=> .int .u32 (d:Nat)) Tryz.underlying41 eM
   (by rw[cg];exact(bM O).symm) (rj C)
   (fun i hi=>by rw[cg] at hi;rw[aD,Own.cell h eK];rfl)
   (fun i hi=>by rw[cg] at hi;rw[aD];exact Own.frozen h eK) (qY l)
  rw[cg] at A;exact⟨_,A,J,pV hb _ _ _ g⟩
theorem mB (n:Nat):val (List.replicate n 0)=0:=by
 induction n with
 |zero=>rfl
 |succ n A=>rw[ei,val,A]
theorem q3K (w:World) (bx O n:Nat) (v:Value) (l:List Nat) (U:n≤1048576) (M:Sl w v l) (C:l.length≤n) (W:l5 w bx O false v) (J:bx<w.heap.size):
  Calls Tryz.prog 181 #[.pointer (some ⟨bx,O,none⟩),.int .i64 (n:Int)] w fun e w'=>∃ b cs,e= .returned (.slice (some ⟨b,0,none⟩) n n)∧G w w'∧w.heap.size≤b∧Own w' b cs∧cs.length=n∧cs=l++List.replicate (n-l.length) 0:=by
 obtain⟨c1,X,-,-⟩:=W;have S:=gp n eK;have B:G w (w.alloc (.cells (madeCells #[.int .u32 0] n) 149)):=(ag _).alloc _;obtain⟨Y,N,A,K⟩:=oD (n:=n) (va:=v) (fB w n 149) fI (M.G B) C B (az _) 3;rw[ej] at A;have R:=hi9 A;have d1:=K.cell J c1;have E:(l++List.replicate (n-l.length) 0).length=n:=by simp;omega
 have I:=hi9 E;clear A M C U E;generalize l++List.replicate (n-l.length) 0=cs at *;go_enter Tryz.func181,Tryz.ntmps181;go_wp2_with fail;go_ret;exact⟨w.heap.size,cs,rfl,K,az _,R.out,I.out,rfl⟩
theorem of_c (w:World) (b o p n:Nat) (M:Int) (cs:List Nat) (W:n+1≤1048576) (hb:b<w.heap.size) (K:IntIs w b o M) (A:Own w p cs) (B:cs.length=n+1) (E:cs.getD n 0<2^31):
  Calls Tryz.prog 182 #[.pointer (some ⟨b,o,none⟩),.slice (some ⟨p,0,none⟩) (n+1) (n+1)] w (SetTo w b o (val cs:Nat)):=by
 have N:=hi9 K;have O:=hi9 (fF A B eK);have S:(n:Int)≤1048575:=by omega
 have U:=Own.cell A (i:=n) (by rw[B];omega);have R:((cs.getD n 0:Nat):Int)/2147483648=0:=by omega
 generalize val cs=V at *;generalize cs.getD n 0=z at *;clear K A B E;go_enter Tryz.func182,Tryz.ntmps182;go_wp2_with fail;refine eJ O.out ?_;rintro e Y ⟨X,rfl,C,I⟩;go_wp2_with fail;refine eJ (fQ (w0:=w) hb C (gq _ b o _ M _ _ (cD N.out hb C) I)) ?_;rintro e Z ⟨rfl,J⟩;go_wp2_with fail;go_ret;exact J
theorem nr {cs:List Nat} {i q s:Nat} (A:okw cs) (hi:i=32*q+s) (C:s≤31) (B:q<cs.length):val cs/2^i%2=cs.getD q 0/2^s%2:=by
 have e:val cs/2^i=val (cs.drop q)/2^s:=by
  rw[gJ A q,bt,← ah,← hi]
 rw[e,fb B];show (cs.getD q 0+2^32*val (cs.drop (q+1)))/2^s%2=_;have h2:2^32*val (cs.drop (q+1))=2^s*(2*(2^(31-s)*val (cs.drop (q+1)))):=by
  rw[← ak 2,← dJ,← ak,← ah,show s+(31-s+1)=32 from by omega]
 rw[h2,cQ _ _ (af _),db]
theorem nW {cs:List Nat} {q y:Nat} (A:q<cs.length):val (cs.set q (cs.getD q 0+y))=val cs+2^(32*q)*y:=by
 rw[fq (l:=cs.set q (cs.getD q 0+y)) (k:=q) (by rw[ax];exact A),fq (l:=cs) A,fJ,eY A,bU eK];rw[aw,aw,aw];omega
theorem mw {x s:Nat} (C:x<2^32) (hb:x/2^s%2=0) (O:s≤31):bits .andNot .u32 (x:Int) (2^s%4294967296)=(x:Int)∧bits .or .u32 (x:Int) (bits .and .u64 1 1%4294967296*2^s%4294967296)=((x+2^s:Nat):Int)∧x+2^s<2^32:=by
 have R:2^s≤2^31:=ai eK O;have M:((2:Int)^s%4294967296)=((2^s:Nat):Int):=by
  rw[FT.ipow];generalize 2^s=p at *;omega
 have N:bits .and .u64 1 1%4294967296*2^s%4294967296=((2^s:Nat):Int):=by
  rw[show bits .and .u64 1 1=1 from by decide,FT.ipow];generalize 2^s=p at *;omega
 have I:=cu x (2^(s+1));have A:x%2^(s+1)=x%2^s:=by
  rw[bp,Nat.mod_mul,hb,bm,aS]
 have J:x%2^s<2^s:=aX _ (af s);have B:x|||2^s=x+2^s:=by
  have h1:x=2^(s+1)*(x/2^(s+1))|||x%2^s:=by
   rw[nat_join (s+1) _ _ (ez _ _) (by rw[bp];omega),← A];exact I.symm
  have h2:x|||2^s=2^(s+1)*(x/2^(s+1))|||(2^s|||x%2^s):=by
   rw[dL (2^s),← Nat.or_assoc,← h1]
  rw[h2,nat_join s (2^s) _ (Nat.mod_self _) J,nat_join (s+1) _ _ (ez _ _) (by rw[bp];omega),← A];omega
 refine⟨?_,?_,?_⟩
 ·rw[M,u32_andNot_nat x _ C eK]
  congr 1
  apply Nat.eq_of_testBit_eq;intro j;rw[Nat.testBit_and,show 4294967295-2^s=2^32-(2^s+1) from by omega,Nat.testBit_two_pow_sub_succ eK,Nat.testBit_two_pow];by_cases K:s=j
  ·subst K;rw[Nat.testBit_eq_decide_div_mod_eq,hb];simp
  ·by_cases E:j<32
   ·simp [K,E]
   ·rw[Nat.testBit_lt_two_pow (ae C (ai eK eK))];simp
 ·rw[N,u32_or_nat x _ C eK,B]
 ·rw[← B];exact Nat.or_lt_two_pow C eK
theorem q0S (w:World) (b bx ox i:Nat) (s0:Int) (a K:Nat) (hK:K≤500000) (hi:i≤10000000) (c:a<2^(32*K)) (O:a/2^i%2=0) (hb:b<w.heap.size) (ao:bx<w.heap.size)
  (hz:IntIs w b 0 s0) (hx:IntIs w bx ox (a:Int)):
  Calls Tryz.prog 134 #[.pointer (some ⟨b,0,none⟩),.pointer (some ⟨bx,ox,none⟩),.int .i64 (i:Int),.int .u64 1] w (SetTo w b 0 ((a+2^i:Nat):Int)):=by
 obtain⟨nn,v,a',m,hv,h1,h2⟩:=hx;have ha:=fP h1;rw[ar] at ha;subst ha;have hn:nn=false:=by
  cases nn
  ·rfl
  ·have:=h2 rfl;unfold sg at h1;simp at h1;omega
 subst hn;obtain⟨l,hl,o,X⟩:=hv;rw[← X] at c O ⊢;have bi:=eQ o c;obtain⟨pa,ca,rfl,bv,-⟩:=fa hl;generalize hj:l.length=j at *;obtain⟨n,y⟩:∃ n:Nat,n=max j (i/32+1):=⟨_,rfl⟩;have bz:(i:Int)/32=((i/32:Nat):Int):=by omega
 have cb:(i:Int)%32=((i%32:Nat):Int):=by omega
 have cm:IntKind.u64.wrap (i:Int)=i:=by rw[IntKind.wrap_u64];omega
 generalize hq:i/32=q at *;generalize am:i%32=s at *;have k:Hid _:=q3K w bx ox (n+1) _ l eK (by rw[← hj] at *;exact hl) eK m ao;obtain⟨c1,c2,-,-⟩:=m;have cc:(i:Int)≤10000000:=by omega
 have ci:(q:Int)≤312500:=by omega
 have cd:(j:Int)≤500000:=by omega
 have ce:(n:Int)≤500000:=by omega
 have cl:(q:Int)<n:=by omega
 have W:=hi9 (And.intro hq am);have HB:=hi9 O;have N:=hi9 hb;have HZ:=hi9 hz;clear hK c bi o hb hq am O hz h1 h2 X;by_cases ap:q+1≤j
 ·obtain rfl:n=j:=by omega
  have t0:(q:Int)+1≤n:=by omega
  clear y;go_enter Tryz.func134,Tryz.ntmps134;go_wp2_with fail;refine eJ k.out ?_;rintro e w1 ⟨p,cs,rfl,g1,hp,A,S,J⟩;have hc:=Own.cell A (i:=q) eK;have hf:=Own.frozen A (i:=q) eK;have C:=eO A.1 q;have M:val cs=val l:=by rw[J,val_append,mB,bm,aS]
  have R:cs.getD n 0=0:=by
   rw[J,ad,List.getElem?_append_right eK,eG];split<;>rfl
  have I:=nr A.1 (i:=i) (q:=q) (s:=s) (by have:=W.out;omega) (by have:=W.out;omega) eK;rw[M,HB.out] at I;have B:val (cs.set q (cs.getD q 0+2^s))=val l+2^i:=by rw[nW eK,M,show i=32*q+s from by have:=W.out;omega,ah]
  generalize bn:cs.getD q 0=x at *;obtain⟨bq,bs,d⟩:=mw (s:=s) C I.symm (by have:=W.out;omega);have Z:Hid _:=Own.set (Own.set A q x eK C) q (x+2^s) (by rw[ax];omega) d;have Y:Hid ((((cs.set q x).set q (x+2^s)).getD n 0<2^31∧((cs.set q x).set q (x+2^s)).length=n+1)∧val ((cs.set q x).set q (x+2^s))=val l+2^i):=by
   rw[List.set_set];refine⟨⟨?_,by rw[ax];exact S⟩,B⟩;rw[ad,aT eK,← ad,R];omega
  have bl:(x:Int)≤4294967295:=by omega
  have E:G w _:=G.setCell (G.setCell g1 (p:=⟨p,q,none⟩) hp (.int .u32 (x:Int))) (p:=⟨p,q,none⟩) hp (.int .u32 ((x+2^s:Nat):Int));generalize (cs.set q x).set q (x+2^s)=ds at *;clear A J B R M I;go_wp2_with fail;refine eJ (fQ (w0:=w) N.out E (of_c _ b 0 p n s0 ds eK (dp E N.out) (cD HZ.out N.out E) Z.out Y.out.1.2 Y.out.1.1)) ?_;rintro e w3 ⟨rfl,U⟩;rw[Y.out.2] at U;go_wp2_with fail;go_ret;exact U
 ·have al:n=q+1:=by omega
  have an:=hi9 al;have bu:j<n:=by omega
  clear al ap;have t1:(q:Int)+1=n:=by have:=an.out;omega
  have t0:(j:Int)<n:=by omega
  clear y;go_enter Tryz.func134,Tryz.ntmps134;go_wp2_with fail;refine eJ k.out ?_;rintro e w1 ⟨p,cs,rfl,g1,hp,A,S,J⟩;have hc:=Own.cell A (i:=q) eK;have hf:=Own.frozen A (i:=q) eK;have C:=eO A.1 q;have M:val cs=val l:=by rw[J,val_append,mB,bm,aS]
  have R:cs.getD n 0=0:=by
   rw[J,ad,List.getElem?_append_right eK,eG];split<;>rfl
  have I:=nr A.1 (i:=i) (q:=q) (s:=s) (by have:=W.out;omega) (by have:=W.out;omega) eK;rw[M,HB.out] at I;have B:val (cs.set q (cs.getD q 0+2^s))=val l+2^i:=by rw[nW eK,M,show i=32*q+s from by have:=W.out;omega,ah]
  generalize bn:cs.getD q 0=x at *;obtain⟨bq,bs,d⟩:=mw (s:=s) C I.symm (by have:=W.out;omega);have Z:Hid _:=Own.set (Own.set A q x eK C) q (x+2^s) (by rw[ax];omega) d;have Y:Hid ((((cs.set q x).set q (x+2^s)).getD n 0<2^31∧((cs.set q x).set q (x+2^s)).length=n+1)∧val ((cs.set q x).set q (x+2^s))=val l+2^i):=by
   rw[List.set_set];refine⟨⟨?_,by rw[ax];exact S⟩,B⟩;rw[ad,aT eK,← ad,R];omega
  have bl:(x:Int)≤4294967295:=by omega
  have E:G w _:=G.setCell (G.setCell g1 (p:=⟨p,q,none⟩) hp (.int .u32 (x:Int))) (p:=⟨p,q,none⟩) hp (.int .u32 ((x+2^s:Nat):Int));generalize (cs.set q x).set q (x+2^s)=ds at *;clear A J B R M I;go_wp2_with fail;refine eJ (fQ (w0:=w) N.out E (of_c _ b 0 p n s0 ds eK (dp E N.out) (cD HZ.out N.out E) Z.out Y.out.1.2 Y.out.1.1)) ?_;rintro e w3 ⟨rfl,U⟩;rw[Y.out.2] at U;go_wp2_with fail;go_ret;exact U
theorem rf {a r s:Nat} (h1:r*r≤a) (h2:a<(r+1)*(r+1)) (h3:s*s≤a) (B:a<(s+1)*(s+1)):r=s:=by
 have step:∀ {x y:Nat},x*x≤a→a<(y+1)*(y+1)→x≤y:=fun {x y} h k=>by
  rcases br y x with A|A
  ·have:=bN (Nat.succ_le_of_lt A) (Nat.succ_le_of_lt A);simp only[Nat.succ_eq_add_one] at this;omega
  ·exact A
 exact Nat.le_antisymm (step h1 B) (step h3 h2)
theorem q2b {a r p:Nat} (h2:a<(r+(p+p))*(r+(p+p))):a<(r+p+p)*(r+p+p):=by rw[cC];exact h2
theorem q0i {r k:Nat} (h:r%2^(k+1)=0):r%2^k=0∧(r+2^k)%2^k=0∧r/2^k%2=0:=by
 obtain⟨c,A⟩:=dQ h;rw[bp,ak] at A;subst A;refine⟨ez _ _,by rw[Nat.add_mod_right,ez],?_⟩;rw[bY _ (af _),ez]
theorem qk (w:World) (b o bx ox:Nat) (s0:Int) (a s K:Nat) (hK:K≤100000) (ep:1≤K) (S:a<2^(32*K)) (h1:s*s≤a) (h2:a<(s+1)*(s+1)) (hb:b<w.heap.size) (am:bx<w.heap.size)
  (hz:IntIs w b o s0) (hx:IntIs w bx ox (a:Int)):
  Calls Tryz.prog 78 #[.pointer (some ⟨b,o,none⟩),.pointer (some ⟨bx,ox,none⟩)] w (SetTo w b o (s:Int)):=by
 have en:=hx;obtain⟨nn,v,E,⟨c1,c2,-,-⟩,hv,k1,k2⟩:=en;have ha:=fP k1;rw[ar] at ha;subst ha;have hn:nn=false:=by
  cases nn
  ·rfl
  ·have:=k2 rfl;unfold sg at k1;simp at k1;omega
 subst hn;have B:=(ag w).alloc (.cells #[.bool false,.slice none 0 0] 43);have ca:=eu (ag w) 43;have d2:=B.cell am c2;have eb:blen E≤32*K:=blen_le_iff.2 S;have bl:=hi9 (ly (w.alloc (.cells #[.bool false,.slice none 0 0] 43)) v E K eK (hv.G B) S);have ci:E<2^blen E:=blen_le_iff.1 (az _);have HS:=hi9 (And.intro h1 h2);have HX:Hid (IntIs w bx ox (E:Int)):=hx;have HZ:Hid (IntIs w b o s0):=hz;have HA:=hi9 S;have ao:=hi9 am;have d:=hi9 hb;generalize hL:blen E=L at *;have cz:E<(0+2^((L+1)/2+1))*(0+2^((L+1)/2+1)):=by
  rw[aD,← ah];exact ae ci (ai eK eK)
 have ds:=hi9 cz;have hh:((L:Int)+1)/2=(((L+1)/2:Nat):Int):=by omega
 have fp:((L+1)/2:Nat)≤16*K+1:=by omega
 generalize (L+1)/2=M at *;have fr:(L:Int)≤3200000:=by omega
 have fs:(M:Int)≤3200000:=by omega
 clear cz ci h1 h2 k1 k2 hx hz S hb am hL eb hv;have bn:Hid (NI w (w.alloc (.cells #[.bool false,.slice none 0 0] 43)) w.heap.size 0):=ca;clear ca;go_enter Tryz.func78,Tryz.ntmps78;go_wp2_with fail;refine eJ bl.out ?_;rintro e w2 ⟨rfl,g2⟩;have bu:G w w2:=aa B g2;have i:Hid (NI w w2 w.heap.size 0):=bn.out.G g2;generalize w.heap.size=p0 at i ⊢;clear bn bl d2 B g2;go_wp2_with fail
 go_loopw [5,6] (fun vr vi wr=>∃ k p r:Nat,k≤M+1∧vi= .int .i64 ((k:Int)-1)∧vr= .pointer (some ⟨p,0,none⟩)∧NI w wr p (r:Int)∧r*r≤E∧E<(r+2^k)*(r+2^k)∧r%2^k=0∧G w wr) (fun _ vi _=>(intOf vi+1).toNat)
 case atStart=>exact⟨M+1,p0,0,az _,by go_num,rfl,i.out,bC _,ds.out,Nat.zero_mod _,bu⟩
 case round=>
  obtain⟨k,p,r,hk,rfl,rfl,cn,C,cr,cs,hG⟩:=hrel;have J:Hid (NI w wr p (r:Int)):=cn;have A:=hi9 (And.intro C (And.intro cr cs));clear cn C cr cs bu i hh;cases k with
  |zero=>
   obtain rfl:r=s:=rf A.out.1 A.out.2.1 HS.out.1 HS.out.2;go_wp2_with fail;refine eJ (fQ (w0:=w) d.out hG (jY _ b o p 0 s0 r K eK (by rw[ar];exact aq (bk (dA r) A.out.1) HA.out) (dp hG d.out) J.out.2.1 (cD HZ.out d.out hG) J.out.2.2)) ?_;rintro e c ⟨rfl,em⟩;go_wp2_with fail;go_ret;exact em
  |succ k=>
   rw[show (((k+1:Nat):Int)-1)=(k:Int) from by omega] at *;obtain⟨m1,m2,m3⟩:=q0i A.out.2.2;have ec:2^k≤2^(16*K+1):=ai eK eK;have ed:2^(32*(K+1))=2^(32*K)*4294967296:=by rw[aw,ah]
   have ee:2^(16*K+1)≤2^(32*K):=ai eK eK;have cy:r<2^(32*K):=aq (bk (dA r) A.out.1) HA.out;have Y:r+2^k<2^(32*(K+1)):=by omega
   have dq:(r+2^k)*(r+2^k)<2^(32*(2*K+2)):=by
    rw[show 32*(2*K+2)=32*(K+1)+32*(K+1) from by omega,ah];exact bE Y Y
   have ce:E<2^(32*(2*K+2)):=ae HA.out (ai eK eK);have N:E<(r+2^k+2^k)*(r+2^k+2^k):=q2b (by rw[← Nat.two_mul,← dJ];exact A.out.2.1);have HB:=hi9 (And.intro cy (And.intro Y (And.intro dq ce)));have HM:=hi9 (And.intro m3 (And.intro N (And.intro m1 m2)));have fv:(k:Int)≤3200000:=by omega
   clear m1 m2 m3 ec ed ee cy Y dq ce N;go_wp2_with fail;have X:=eu hG 43;have al:=(ag wr).alloc (.cells #[.bool false,.slice none 0 0] 43);have B:=aa hG al;have C:=J.out.G al;have dl:p≠wr.heap.size:=by have:=J.out.2.1;omega
   generalize wr.heap.size=Z at *;generalize wr.alloc (.cells #[.bool false,.slice none 0 0] 43)=w1 at *;refine eJ (q0S w1 Z p 0 k 0 r K eK eK HB.out.1 HM.out.1 X.2.1 C.2.1 X.2.2 C.2.2) ?_;intro e c hs;obtain⟨rfl,y,cd,-,cm⟩:=cf B X hs;have cb:=cm p _ dl C;have m:Hid (NI w c Z ((r+2^k:Nat):Int)):=cd;have j:Hid (NI w c p (r:Int)):=cb;clear hs cm cd cb X C al B dl J;go_wp2_with fail;have W:=eu y 43;have U:=(ag c).alloc (.cells #[.bool false,.slice none 0 0] 43);have bv:=aa y U;have I:=m.out.G U;have cc:=j.out.G U;have dk:Z≠c.heap.size:=by have:=m.out.2.1;omega
   have cx:p≠c.heap.size:=by have:=j.out.2.1;omega
   generalize c.heap.size=pm at *;generalize c.alloc (.cells #[.bool false,.slice none 0 0] 43)=w4 at *;refine eJ (gX w4 pm 0 Z 0 Z 0 0 _ _ (K+1) eK (by rw[ar];exact HB.out.2.1) (by rw[ar];exact HB.out.2.1) W.2.1 I.2.1 I.2.1 W.2.2 I.2.2 I.2.2) ?_;intro e w5 hs;obtain⟨rfl,O,R,-,an⟩:=cf bv W hs;have bs:Hid (NI w w5 Z ((r+2^k:Nat):Int)):=an Z _ dk I;have bq:Hid (NI w w5 p (r:Int)):=an p _ cx cc;rw[show ((r+2^k:Nat):Int)*((r+2^k:Nat):Int)=(((r+2^k)*(r+2^k):Nat):Int) from by push_cast;rfl] at R;have bi:Hid _:=lh w5 pm 0 bx ox _ _ (2*K+2) eK (by rw[ar];exact HB.out.2.2.1) (by rw[ar];exact HB.out.2.2.2) R.2.1 (dp O ao.out) R.2.2 (cD HX.out ao.out O);clear hs an R W U bv I cc dk cx m j y hG;have cl:cmpI (((r+2^k)*(r+2^k):Nat):Int) (E:Int)≤0↔(r+2^k)*(r+2^k)≤E:=by
    unfold cmpI;split
    ·constructor<;>intro _<;>omega
    ·split
     ·constructor<;>intro _<;>omega
     ·constructor<;>intro _<;>omega
   generalize cmpI (((r+2^k)*(r+2^k):Nat):Int) (E:Int)=cv at *;have ap:=hi9 cl;clear cl;go_wp2_with fail;refine eJ bi.out ?_;rintro e w6 ⟨rfl,g6⟩;have bz:=aa O g6;have ea:Hid (NI w w6 Z ((r+2^k:Nat):Int)):=bs.out.G g6;have dr:Hid (NI w w6 p (r:Int)):=bq.out.G g6;clear bi bs bq O g6;by_cases hc:cv≤0
   ·go_wp2_with fail
    go_roundw
    case rel=>exact⟨k,Z,r+2^k,by omega,by go_num,rfl,ea.out,ap.out.1 hc,HM.out.2.1,HM.out.2.2.2,bz⟩
    case measure=>simp only[intOf];omega
   ·go_wp2_with fail
    go_roundw
    case rel=>exact⟨k,p,r,by omega,by go_num,rfl,dr.out,A.out.1,Nat.lt_of_not_le (fun h=>by have:=ap.out.2 h;omega),HM.out.2.2.1,bz⟩
    case measure=>simp only[intOf];omega
end Go.Proofs.YtfnkkkcojnffdaaGreatDoor
