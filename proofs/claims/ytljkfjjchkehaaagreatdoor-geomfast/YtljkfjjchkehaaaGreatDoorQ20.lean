/- What is proved here: contracts of the reference's big numbers: Sign, BitLen, Cmp, Bit, QuoRem, Rsh of Int, over this seat's translation.
What is proved here: how two whole numbers compare (no program), over this seat's translation.
What is proved here: contracts of the reference's big numbers: QuoRem, Rsh, Uint64 of Int, what a writing method leaves standing, over this seat's translation.
What is proved here: contracts of the reference's big numbers: TrailingZeroBits of Int, new Ints step by step, over this seat's translation.
What is proved here: the reference's nearest number, its arithmetic (no program).
What is proved here: contracts of the reference's big numbers: Neg of Int, the smallest methods of Rat, over this seat's translation.
What is proved here: contracts of the reference's big numbers: Sub of Int, over this seat's translation.
What is proved here: contracts of the reference's ratios: Cmp of Rat, over this seat's translation. -/
import Derived.Test.YtljkfjjchkehaaaGreatDoorQ19
import Derived.Test.YtljkfjjchkehaaaGreatDoorQ8
import Derived.Test.YtljkfjjchkehaaaGreatDoorQ16
namespace Go.Proofs.YtljkfjjchkehaaaGreatDoor
open Go.ChangeShapes Go.WideShapes Go.ChangeAt Go.RowKit
open BN
theorem G.lt {w w':World} {b:Nat} (g:G w w') (h:b<w.heap.size):b<w'.heap.size:=Nat.lt_of_lt_of_le h g.size
end Go.Proofs.YtljkfjjchkehaaaGreatDoor
namespace Go.Proofs.YtljkfjjchkehaaaGreatDoor
end Go.Proofs.YtljkfjjchkehaaaGreatDoor
namespace Go.Proofs.YtljkfjjchkehaaaGreatDoor
open Go.ChangeShapes Go.WideShapes Go.ChangeAt Go.RowKit
open BN
/-- What a writing method leaves of a cell that it doesn't write. -/
theorem SetTo.cell {w w':World} {b o:Nat} {s:Int} {e:Ending} (h:SetTo w b o s e w') {p:Addr} {v:Value} (hp:p.block<w.heap.size) (hs:p.spot=none) (hv:w.cell? p=some v) (hne:p.block≠b∨(p.off≠o∧p.off≠o+1)):w'.cell? p=some v:=by
 obtain⟨-,h1,h2,-⟩:=h
 by_cases hb:p.block=b
 ·obtain⟨pb,po,ps⟩:=p
  simp only at hb hs hne
  subst hb hs
  have Ct:po≠o∧po≠o+1:=by rcases hne with hne|hne;exact absurd rfl hne;exact hne
  rw[h2.1 po Ct.1 Ct.2];exact hv
 ·rw[← hv];exact World.cell?_of_block (h1.block p.block hp (fun e=>hb (Option.some.inj e)))
theorem SetTo.frozen {w w':World} {b o:Nat} {s:Int} {e:Ending} (h:SetTo w b o s e w') {p:Addr} {v:Bool} (hp:p.block<w.heap.size) (hs:p.spot=none) (hv:w.frozen? p=v):w'.frozen? p=v:=by
 obtain⟨-,h1,h2,-⟩:=h
 by_cases hb:p.block=b
 ·obtain⟨pb,po,ps⟩:=p
  simp only at hb hs
  subst hb hs
  rw[h2.2 po];exact hv
 ·rw[← hv];exact World.frozen?_of_block (h1.block p.block hp (fun e=>hb (Option.some.inj e)))
theorem SetTo.size {w w':World} {b o:Nat} {s:Int} {e:Ending} (h:SetTo w b o s e w'):w.heap.size≤w'.heap.size:=h.2.1.size
theorem SetTo.is {w w':World} {b o:Nat} {s:Int} {e:Ending} (h:SetTo w b o s e w'):IntIs w' b o s:=h.2.2.2
theorem SetTo.num {w w':World} {b o:Nat} {s0 s:Int} {e:Ending} (hz:IntIs w b o s0) (h:SetTo w b o s e w') {v:Value} {n:Nat} (hn:Num w v n):Num w' v n:=by
 obtain⟨n0,v0,a0,⟨c1,c2,-,-⟩,hv0,-,-⟩:=hz
 obtain⟨l,⟨h1,h2⟩,h3⟩:=hn
 refine⟨l,⟨h1,?_⟩,h3⟩
 rcases h2 with h2|⟨b1,o1,c,e1,hc,hb,hr⟩
 ·exact Or.inl h2
 ·refine Or.inr ⟨b1,o1,c,e1,hc,Nat.lt_of_lt_of_le hb h.size,fun i hi=> ?_⟩
  have hci:=hr i hi
  refine h.cell (p:=⟨b1,o1+i,none⟩) hb rfl hci ?_
  by_cases hbb:b1=b
  ·refine Or.inr ⟨fun e2=> ?_,fun e2=> ?_⟩
   ·simp only at e2;subst hbb;rw[e2,c1] at hci;cases hci
   ·simp only at e2;subst hbb;rw[e2,c2] at hci;exact q6h hv0 _ _ (Option.some.inj hci)
  ·exact Or.inl hbb
/-- Another Int stands still. -/
theorem SetTo.keep {w w':World} {b o b2 o2:Nat} {s0 s s2:Int} {e:Ending} (hz:IntIs w b o s0) (h:SetTo w b o s e w') (hx:IntIs w b2 o2 s2) (hb2:b2<w.heap.size) (hne:b2≠b∨o2+2≤o∨o+2≤o2):IntIs w' b2 o2 s2:=by
 obtain⟨n,v,a,⟨c1,c2,f1,f2⟩,hv,h1,h2⟩:=hx
 refine⟨n,v,a,⟨h.cell hb2 rfl c1 ?_,h.cell hb2 rfl c2 ?_,h.frozen hb2 rfl f1,h.frozen hb2 rfl f2⟩,h.num hz hv,h1,h2⟩
 ·rcases hne with h|h
  ·exact Or.inl h
  ·exact Or.inr ⟨by simp only;omega,by simp only;omega⟩
 ·rcases hne with h|h
  ·exact Or.inl h
  ·exact Or.inr ⟨by simp only;omega,by simp only;omega⟩
/-- Behind it, nothing of an elder world has turned, where the block is newer. -/
theorem SetTo.fresh {w0 w w':World} {b o:Nat} {s:Int} {e:Ending} (g:G w0 w) (h:SetTo w b o s e w') (hb:w0.heap.size≤b):G w0 w':=GX.fresh g h.2.1 hb
/-- What QuoRem leaves behind. -/
def QR (w:World) (b o b3 o3:Nat) (sq sr:Int) (e:Ending) (w':World):Prop:=
 e= .returned (.tuple #[.pointer (some ⟨b,o,none⟩),.pointer (some ⟨b3,o3,none⟩)])∧∃ w2 e1 e2,SetTo w b o sq e1 w2∧SetTo w2 b3 o3 sr e2 w'
/-- A new Int, since w0. -/
def NI (w0 w:World) (p:Nat) (s:Int):Prop:=w0.heap.size≤p∧p<w.heap.size∧IntIs w p 0 s
theorem NI.G {w0 w w':World} {p:Nat} {s:Int} (h:NI w0 w p s) (g:G w w'):NI w0 w' p s:=⟨h.1,Nat.lt_of_lt_of_le h.2.1 g.size,h.2.2.G h.2.1 g⟩
theorem NI.new {w0 w:World} (g:Go.Proofs.YtljkfjjchkehaaaGreatDoor.G w0 w) (t:TypeId):NI w0 (w.alloc (.cells #[.bool false,.slice none 0 0] t)) w.heap.size 0:=⟨g.size,by simp,q8m w t⟩
/-- What a method that sets a new Int leaves behind. -/
def Step (w0 w:World) (p:Nat) (s:Int) (e:Ending) (w':World):Prop:=
 e= .returned (.pointer (some ⟨p,0,none⟩))∧G w0 w'∧NI w0 w' p s∧w.heap.size≤w'.heap.size∧∀ p2 s2,p2≠p→NI w0 w p2 s2→NI w0 w' p2 s2
theorem SetTo.step {w0 w:World} {p:Nat} {s0 s:Int} {e:Ending} {w':World} (g:G w0 w) (hz:NI w0 w p s0) (h:SetTo w p 0 s e w'):Step w0 w p s e w':=
 ⟨h.1,h.fresh g hz.1,⟨hz.1,Nat.lt_of_lt_of_le hz.2.1 h.size,h.is⟩,h.size,fun _ _ hne hx=>⟨hx.1,Nat.lt_of_lt_of_le hx.2.1 h.size,SetTo.keep hz.2.2 h hx.2.2 hx.2.1 (Or.inl hne)⟩⟩
theorem Step.to {w0 w:World} {p:Nat} {s:Int} {e:Ending} {w':World} (h:Step w0 w p s e w'):e= .returned (.pointer (some ⟨p,0,none⟩)):=h.1
end Go.Proofs.YtljkfjjchkehaaaGreatDoor
namespace Go.Proofs.YtljkfjjchkehaaaGreatDoor
open Go.RowKit
open BN
/-- N / D, rounded to the nearest whole number, of two as near to the even one. -/
def q0G (N D:Nat):Nat:=N/D+(if D<2*(N%D)∨(2*(N%D)=D∧N/D%2=1) then 1 else 0)
/-- A / B in units of 2^p. -/
def upP (A:Nat) (p:Int):Nat:=A*2^(-p).toNat
def loP (B:Nat) (p:Int):Nat:=B*2^p.toNat
def q7y (A B:Nat) (p:Int):Nat:=q0G (upP A p) (loP B p)
theorem q6f {N D T:Nat} (h:N<T*D):q0G N D≤T:=by
 unfold q0G
 have h1:N/D<T:=by
  rcases Nat.eq_zero_or_pos D with rfl|hD
  ·simp at h
  ·exact(Nat.div_lt_iff_lt_mul hD).2 h
 split<;>omega
end Go.Proofs.YtljkfjjchkehaaaGreatDoor
namespace Go.Proofs.YtljkfjjchkehaaaGreatDoor
open Go.ChangeShapes Go.WideShapes Go.ChangeAt Go.RowKit
open BN
/-- At block b lies a Rat: its two Ints (a lower one of 0 stands for 1). -/
def RatIs (w:World) (b:Nat) (sa sb:Int):Prop:=IntIs w b 0 sa∧IntIs w b 2 sb
theorem RatIs.G {w w':World} {b:Nat} {sa sb:Int} (h:RatIs w b sa sb) (hb:b<w.heap.size) (g:G w w'):RatIs w' b sa sb:=⟨h.1.G hb g,h.2.G hb g⟩
end Go.Proofs.YtljkfjjchkehaaaGreatDoor
