/- What is proved here: contracts of the reference's big numbers: Sign, BitLen, Cmp, Bit, QuoRem, Rsh of Int, over this seat's translation.
What is proved here: contracts of the reference's big numbers: QuoRem, Rsh, Uint64 of Int, what a writing method leaves standing, over this seat's translation.
What is proved here: contracts of the reference's big numbers: TrailingZeroBits of Int, new Ints step by step, over this seat's translation.
What is proved here: the reference's nearest number, its arithmetic (no program).
What is proved here: contracts of the reference's big numbers: Neg of Int, the smallest methods of Rat, over this seat's translation.
What is proved here: contracts of the reference's big numbers: DivMod, Div of Int by one above 0, over this seat's translation. -/
import Derived.Test.YtfnkkkcojnffdaaGreatDoorC1
import Derived.Test.YtfnkkkcojnffdaaGreatDoorC8
import Derived.Test.YtfnkkkcojnffdaaGreatDoorC3
import Derived.Test.YtfnkkkcojnffdaaGreatDoorC26
import Derived.Test.YtfnkkkcojnffdaaGreatDoorC25
import Derived.Test.YtfnkkkcojnffdaaGreatDoorC6
import Derived.Test.YtfnkkkcojnffdaaGreatDoorC15
import Derived.Test.YtfnkkkcojnffdaaGreatDoorC13
namespace Go.Proofs.YtfnkkkcojnffdaaGreatDoor
open Go.ChangeShapes Go.WideShapes Go.ChangeAt Go.RowKit
open BN
theorem nN (w:World) (b o:Nat) (s:Int) (F:IntIs w b o s):
  Calls Tryz.prog 68 #[.pointer (some ⟨b,o,none⟩)] w fun e I=>e= .returned (.int .i64 s.sign)∧G w I:=by
 obtain⟨n,v,a,⟨c1,J,-,-⟩,⟨l,E,D,hv⟩,h1,h2⟩:=F;obtain⟨p,c,rfl,-,-⟩:=ei E;have C:a=0↔l.length=0:=by rw[← hv,eX D,List.length_eq_zero_iff]
 generalize l.length=j at *;have B:s.sign=if j=0 then 0 else if n then -1 else 1:=by
  rw[← h1];unfold sg;by_cases A:j=0
  ·rw[if_pos A,C.2 A];simp
  ·rw[if_neg A];have K:a≠0:=fun h=>A (C.1 h);cases n
   ·simp;omega
   ·simp;omega
 rw[B];clear B E D hv h1 h2 C;by_cases A:j=0
 ·subst A;go_enter Tryz.func68,Tryz.ntmps68;go_wp2_with fail;go_ret;exact⟨rfl,af _⟩
 ·rw[if_neg A];have t0:((j:Int)==0)=false:=by simp;omega
  cases n
  all_goals
   go_enter Tryz.func68,Tryz.ntmps68;go_wp2_with fail;go_ret;exact⟨rfl,af _⟩
theorem G.lt {w A:World} {b:Nat} (g:G w A) (h:b<w.heap.size):b<A.heap.size:=ad h g.size
def cmpI (x y:Int):Int:=if x<y then -1 else if x=y then 0 else 1
theorem pt {n:Bool} {a b:Nat}:cmpI (sg n a) (sg n b)=if n then -(cmpV a b) else cmpV a b:=by
 unfold cmpI cmpV sg;cases n
 ·simp only[aE,if_false];by_cases h1:a<b
  ·rw[if_pos dT,if_pos h1]
  ·rw[if_neg dT,if_neg h1];by_cases h2:a=b
   ·rw[if_pos dT,if_pos h2]
   ·rw[if_neg dT,if_neg h2]
 ·simp only[if_true];by_cases h1:a<b
  ·rw[if_neg dT,if_neg dT,if_pos h1];rfl
  ·rw[if_neg h1];by_cases h2:a=b
   ·rw[if_neg dT,if_pos dT,if_pos h2];rfl
   ·rw[if_pos dT,if_neg h2]
theorem q1p (w:World) (bx M F R:Nat) (sx S:Int) (K:Nat) (X:K≤1000000) (s:sx.natAbs<2^(32*K)) (y:S.natAbs<2^(32*K)) (J:bx<w.heap.size) (d:F<w.heap.size)
  (hx:IntIs w bx M sx) (hy:IntIs w F R S):
  Calls Tryz.prog 70 #[.pointer (some ⟨bx,M,none⟩),.pointer (some ⟨F,R,none⟩)] w fun e w'=>e= .returned (.int .i64 (cmpI sx S))∧G w w':=by
 obtain⟨n,v,a,⟨c1,c2,-,-⟩,hv,h1,h3⟩:=hx;obtain⟨n',v',U,⟨c3,c4,-,-⟩,O,h2,h4⟩:=hy;have ha:=gU h1;have Z:=gU h2;have HW:Hid (∀ E,G w E→_):=fun E g=>gN E v v' a U K dT (hv.G g) (O.G g) dT dT;by_cases hn:n=n'
 ·subst hn;have Y:Hid (cmpI sx S=if n then -(cmpV a U) else cmpV a U):=by show cmpI sx S=_;rw[← h1,← h2];exact pt
  have bv: -1≤cmpV a U:=by unfold cmpV;split<;>(try split)<;>omega
  have bz:cmpV a U≤1:=by unfold cmpV;split<;>(try split)<;>omega
  have t0:(n==n)=true:=by simp
  generalize cmpV a U=cv at *;rw[Y.out];clear s y hv O h1 h2 ha Z h3 h4 Y;cases n
  all_goals
   go_enter Tryz.func70,Tryz.ntmps70;go_wp2_with fail;refine ee dV dV ?_;intro W hW;have j:=fT (w:=W) ⟨bx,M,none⟩ (.bool _);have k:=fT (w:=W) ⟨F,R,none⟩ (.bool _);clear hW
   repeat (go_big_quiet_step (fail))
   refine wpQuiet_nil ?_;clear j k;intro E D;have L:=D;have d1:=D.cell (p:=⟨bx,M,none⟩) J c1;have d2:=D.cell (p:=⟨bx,M+1,none⟩) J c2;have d3:=D.cell (p:=⟨F,R+1,none⟩) d c4;go_wp2_with fail;clear c1 c2 c3 c4 D;have c:bx<E.heap.size:=G.lt L J;have am:F<E.heap.size:=G.lt L d;have al:Hid (∀ w2,G E w2→_):=fun w2 g=>HW.out w2 (aa L g);refine fS 9 (G E) dV (by first|exact(af _).drew|exact G.drew kV) ?_;intro I;have C:Hid (∀ B,G E B→B.cell? ⟨bx,M+1,none⟩=some (v)∧B.cell? ⟨F,R+1,none⟩=some (v')):=fun B A=>⟨ge9 ⟨bx,M+1,none⟩ v A,ge9 ⟨F,R+1,none⟩ v' A⟩;refine dU 0 (v:= ?_) rfl dV (fun _ _ _ h=>h) rfl ?_ ‹_› ?_;rotate_left
   ·intro B A;obtain⟨ca,cb⟩:=C.out B A;exact ft
   try simp only[aput,List.set]
   refine dU 1 (v:= ?_) rfl dV (fun _ _ _ h=>h) rfl ?_ ‹_› ?_;rotate_left
   ·intro B A;obtain⟨cc,cd⟩:=C.out B A;exact ft
   try simp only[aput,List.set]
   refine dU 2 (v:= ?_) rfl dV (fun _ _ _ h=>h) rfl ?_ ‹_› ?_;rotate_left
   ·intro B A;obtain⟨ce,ci⟩:=C.out B A;exact ft
   try simp only[aput,List.set]
   refine dU 3 (v:= ?_) rfl dV (fun _ _ _ h=>h) rfl ?_ ‹_› ?_;rotate_left
   ·intro B A;obtain⟨cl,cn⟩:=C.out B A;exact ft
   try simp only[aput,List.set]
   refine dU 4 (v:= ?_) rfl dV (fun _ _ _ h=>h) rfl ?_ ‹_› ?_;rotate_left
   ·intro B A;obtain⟨an,ao⟩:=C.out B A;exact ft
   try simp only[aput,List.set]
   refine dU 5 (v:= ?_) rfl dV (fun _ _ _ h=>h) rfl ?_ ‹_› ?_;rotate_left
   ·intro B A;obtain⟨ap,bi⟩:=C.out B A;exact ft
   try simp only[aput,List.set]
   refine dU 6 (v:= ?_) rfl dV (fun _ _ _ h=>h) rfl ?_ ‹_› ?_;rotate_left
   ·intro B A;obtain⟨bl,bn⟩:=C.out B A;exact ft
   try simp only[aput,List.set]
   refine dU 7 (v:= ?_) rfl dV (fun _ _ _ h=>h) rfl ?_ ‹_› ?_;rotate_left
   ·intro B A;obtain⟨bq,bu⟩:=C.out B A;exact ft
   try simp only[aput,List.set]
   clear C;refine dY (i:=8) dV rfl ?_;intro K X;go_simp;go_wp2_with (go_at_call 125;refine Calls.mono (P:=Tryz.prog) (al.out _ I) ?_;rintro e w2 ⟨rfl,N⟩);refine X.out _ _ (Or.inr (aa I N)) ?_;clear X K;refine dY (i:=9) dV rfl ?_;intro K X;go_simp;refine X.out _ _ (Or.inl ey) ?_;clear X K;refine fa dV ?_ _;have e1:=(aa I N).cell c d1;go_wp2_with fail;go_ret;exact⟨rfl,aa L (aa I N)⟩
 ·have t0:(n==n')=false:=by simp [hn]
  obtain rfl:n'= !n:=by cases n<;>cases n'<;>simp_all
  have Y:Hid (cmpI sx S=if n then -1 else 1):=by
   show cmpI sx S=_;rw[← h1,← h2];unfold cmpI sg;cases n
   ·have:=h4 rfl;simp only[aE,if_false,dL,if_true];rw[if_neg dT,if_neg dT]
   ·have:=h3 rfl;simp only[cP,aE,if_false,if_true];rw[if_pos dT]
  rw[Y.out];clear s y hv O h1 h2 ha Z h3 h4 Y HW;cases n
  all_goals
   go_enter Tryz.func70,Tryz.ntmps70;go_wp2_with fail;refine ee dV dV ?_;intro W hW;have m:=fT (w:=W) ⟨bx,M,none⟩ (.bool _);have o:=fT (w:=W) ⟨F,R,none⟩ (.bool _);clear hW
   repeat (go_big_quiet_step (fail))
   refine wpQuiet_nil ?_;clear m o;intro E D;have d1:=D.cell (p:=⟨bx,M,none⟩) J c1;go_wp2_with fail;go_ret;exact⟨rfl,D⟩
/-- What a writing method leaves of a cell that it doesn't write. -/
theorem SetTo.cell {w E:World} {b o:Nat} {s:Int} {e:Ending} (h:SetTo w b o s e E) {p:Addr} {v:Value} (F:p.block<w.heap.size) (D:p.spot=none) (hv:w.cell? p=some v) (A:p.block≠b∨(p.off≠o∧p.off≠o+1)):E.cell? p=some v:=by
 obtain⟨-,h1,h2,-⟩:=h;by_cases hb:p.block=b
 ·obtain⟨I,C,J⟩:=p;simp only at hb D A;subst hb D;have B:C≠o∧C≠o+1:=by rcases A with A|A;exact absurd rfl A;exact A
  rw[h2.1 C B.1 B.2];exact hv
 ·rw[← hv];exact World.cell?_of_block (h1.block p.block F (fun e=>hb (bp e)))
theorem SetTo.frozen {w B:World} {b o:Nat} {s:Int} {e:Ending} (h:SetTo w b o s e B) {p:Addr} {v:Bool} (C:p.block<w.heap.size) (A:p.spot=none) (hv:w.frozen? p=v):B.frozen? p=v:=by
 obtain⟨-,h1,h2,-⟩:=h;by_cases hb:p.block=b
 ·obtain⟨E,D,F⟩:=p;simp only at hb A;subst hb A;rw[h2.2 D];exact hv
 ·rw[← hv];exact World.frozen?_of_block (h1.block p.block C (fun e=>hb (bp e)))
theorem SetTo.size {w A:World} {b o:Nat} {s:Int} {e:Ending} (h:SetTo w b o s e A):w.heap.size≤A.heap.size:=h.2.1.size
theorem SetTo.is {w A:World} {b o:Nat} {s:Int} {e:Ending} (h:SetTo w b o s e A):IntIs A b o s:=h.2.2.2
theorem SetTo.num {w I:World} {b o:Nat} {R s:Int} {e:Ending} (O:IntIs w b o R) (h:SetTo w b o s e I) {v:Value} {n:Nat} (M:Num w v n):Num I v n:=by
 obtain⟨n0,v0,a0,⟨c1,J,-,-⟩,E,-,-⟩:=O;obtain⟨l,⟨h1,h2⟩,h3⟩:=M;refine⟨l,⟨h1,?_⟩,h3⟩;rcases h2 with h2|⟨D,F,c,K,L,hb,N⟩
 ·exact Or.inl h2
 ·refine Or.inr ⟨D,F,c,K,L,ad hb h.size,fun i hi=> ?_⟩;have A:=N i hi;refine h.cell (p:=⟨D,F+i,none⟩) hb rfl A ?_;by_cases B:D=b
  ·refine Or.inr ⟨fun C=> ?_,fun C=> ?_⟩
   ·simp only at C;subst B;rw[C,c1] at A;cases A
   ·simp only at C;subst B;rw[C,J] at A;exact gj E _ _ (bp A)
  ·exact Or.inl B
/-- Another Int stands still. -/
theorem SetTo.keep {w F:World} {b o C D:Nat} {L s E:Int} {e:Ending} (K:IntIs w b o L) (h:SetTo w b o s e F) (J:IntIs w C D E) (A:C<w.heap.size) (B:C≠b∨D+2≤o∨o+2≤D):IntIs F C D E:=by
 obtain⟨n,v,a,⟨c1,I,f1,f2⟩,hv,h1,h2⟩:=J;refine⟨n,v,a,⟨h.cell A rfl c1 ?_,h.cell A rfl I ?_,h.frozen A rfl f1,h.frozen A rfl f2⟩,h.num K hv,h1,h2⟩
 ·rcases B with h|h
  ·exact Or.inl h
  ·exact Or.inr ⟨by simp only;omega,by simp only;omega⟩
 ·rcases B with h|h
  ·exact Or.inl h
  ·exact Or.inr ⟨by simp only;omega,by simp only;omega⟩
/-- Behind it, nothing of an elder world has turned, where the block is newer. -/
theorem SetTo.fresh {w0 w A:World} {b o:Nat} {s:Int} {e:Ending} (g:G w0 w) (h:SetTo w b o s e A) (hb:w0.heap.size≤b):G w0 A:=GX.fresh g h.2.1 hb
theorem gO {a k:Nat} (A:a≠0) (h:a%2^k=0):2^k≤a:=Nat.le_of_dvd dT (Nat.dvd_of_mod_eq_zero h)
/-- A new Int, since w0. -/
def NI (w0 w:World) (p:Nat) (s:Int):Prop:=w0.heap.size≤p∧p<w.heap.size∧IntIs w p 0 s
theorem NI.G {w0 w A:World} {p:Nat} {s:Int} (h:NI w0 w p s) (g:G w A):NI w0 A p s:=⟨h.1,ad h.2.1 g.size,h.2.2.G h.2.1 g⟩
theorem NI.new {w0 w:World} (g:Go.Proofs.YtfnkkkcojnffdaaGreatDoor.G w0 w) (t:TypeId):NI w0 (w.alloc (.cells #[.bool false,.slice none 0 0] t)) w.heap.size 0:=⟨g.size,by simp,nD w t⟩
/-- What a method that sets a new Int leaves behind. -/
def Step (w0 w:World) (p:Nat) (s:Int) (e:Ending) (A:World):Prop:=
 e= .returned (.pointer (some ⟨p,0,none⟩))∧G w0 A∧NI w0 A p s∧w.heap.size≤A.heap.size∧∀ B C,B≠p→NI w0 w B C→NI w0 A B C
theorem SetTo.step {w0 w:World} {p:Nat} {E s:Int} {e:Ending} {D:World} (g:G w0 w) (B:NI w0 w p E) (h:SetTo w p 0 s e D):Step w0 w p s e D:=
 ⟨h.1,h.fresh g B.1,⟨B.1,ad B.2.1 h.size,h.is⟩,h.size,fun _ _ C A=>⟨A.1,ad A.2.1 h.size,SetTo.keep B.2.2 h A.2.2 A.2.1 (Or.inl C)⟩⟩
theorem Step.to {w0 w:World} {p:Nat} {s:Int} {e:Ending} {A:World} (h:Step w0 w p s e A):e= .returned (.pointer (some ⟨p,0,none⟩)):=h.1
end Go.Proofs.YtfnkkkcojnffdaaGreatDoor
namespace Go.Proofs.YtfnkkkcojnffdaaGreatDoor
open Go.RowKit
open BN
/-- N / D, rounded to the nearest whole number, of two as near to the even one. -/
def fB (N D:Nat):Nat:=N/D+(if D<2*(N%D)∨(2*(N%D)=D∧N/D%2=1) then 1 else 0)
/-- A / B in units of 2^p. -/
def upP (A:Nat) (p:Int):Nat:=A*2^(-p).toNat
def loP (B:Nat) (p:Int):Nat:=B*2^p.toNat
def qe (A B:Nat) (p:Int):Nat:=fB (upP A p) (loP B p)
end Go.Proofs.YtfnkkkcojnffdaaGreatDoor
namespace Go.Proofs.YtfnkkkcojnffdaaGreatDoor
open Go.ChangeShapes Go.WideShapes Go.ChangeAt Go.RowKit
open BN
theorem q1N {n:Bool} {a:Nat}:sg (!n) a= -sg n a:=by unfold sg;cases n<;>simp
theorem qh (w:World) (b o bx I:Nat) (s sx:Int) (K:Nat) (D:K≤1000000) (M:sx.natAbs<2^(32*K)) (hb:b<w.heap.size) (al:bx<w.heap.size)
  (m:IntIs w b o s) (hx:IntIs w bx I sx):
  Calls Tryz.prog 66 #[.pointer (some ⟨b,o,none⟩),.pointer (some ⟨bx,I,none⟩)] w (SetTo w b o (-sx)):=by
 obtain⟨n,v,a,⟨c1,c2,-,-⟩,hv,h1,-⟩:=hx;have ha:=gU h1;have HW:Hid (∀ N,G w N→_):=fun N g=>kK N v a K D (hv.G g) dT;have HZ:=hi9 m;have y:Hid (sg (!n) a= -sx):=by show sg (!n) a= -sx;rw[q1N,h1]
 clear m M hv h1 ha;go_enter Tryz.func66,Tryz.ntmps66;go_wp2_with fail;refine fS 11 (G w) dV (by first|exact(af _).drew|exact G.drew kV) ?_;intro E;have C:Hid (∀ B,G w B→B.cell? ⟨bx,I,none⟩=some (.bool n)∧B.cell? ⟨bx,I+1,none⟩=some (v)):=fun B A=>⟨ge9 ⟨bx,I,none⟩ (.bool n) A,ge9 ⟨bx,I+1,none⟩ v A⟩;refine dU 0 (v:= ?_) rfl dV (fun _ _ _ h=>h) rfl ?_ ‹_› ?_;rotate_left
 ·intro B A;obtain⟨am,an⟩:=C.out B A;exact ft
 try simp only[aput,List.set]
 refine dU 1 (v:= ?_) rfl dV (fun _ _ _ h=>h) rfl ?_ ‹_› ?_;rotate_left
 ·intro B A;obtain⟨ao,ap⟩:=C.out B A;exact ft
 try simp only[aput,List.set]
 refine dU 2 (v:= ?_) rfl dV (fun _ _ _ h=>h) rfl ?_ ‹_› ?_;rotate_left
 ·intro B A;obtain⟨bi,bl⟩:=C.out B A;exact ft
 try simp only[aput,List.set]
 refine dU 3 (v:= ?_) rfl dV (fun _ _ _ h=>h) rfl ?_ ‹_› ?_;rotate_left
 ·intro B A;obtain⟨bn,bq⟩:=C.out B A;exact ft
 try simp only[aput,List.set]
 refine dU 4 (v:= ?_) rfl dV (fun _ _ _ h=>h) rfl ?_ ‹_› ?_;rotate_left
 ·intro B A;obtain⟨O,R⟩:=C.out B A;exact ft
 try simp only[aput,List.set]
 refine dU 5 (v:= ?_) rfl dV (fun _ _ _ h=>h) rfl ?_ ‹_› ?_;rotate_left
 ·intro B A;obtain⟨S,U⟩:=C.out B A;exact ft
 try simp only[aput,List.set]
 refine dU 6 (v:= ?_) rfl dV (fun _ _ _ h=>h) rfl ?_ ‹_› ?_;rotate_left
 ·intro B A;obtain⟨W,X⟩:=C.out B A;exact ft
 try simp only[aput,List.set]
 refine dU 7 (v:= ?_) rfl dV (fun _ _ _ h=>h) rfl ?_ ‹_› ?_;rotate_left
 ·intro B A;obtain⟨Y,Z⟩:=C.out B A;exact ft
 try simp only[aput,List.set]
 refine dU 8 (v:= ?_) rfl dV (fun _ _ _ h=>h) rfl ?_ ‹_› ?_;rotate_left
 ·intro B A;obtain⟨c,d⟩:=C.out B A;exact ft
 try simp only[aput,List.set]
 refine dU 9 (v:= ?_) rfl dV (fun _ _ _ h=>h) rfl ?_ ‹_› ?_;rotate_left
 ·intro B A;obtain⟨j,k⟩:=C.out B A;exact ft
 try simp only[aput,List.set]
 clear C;refine dY (i:=10) dV rfl ?_;intro K D;go_simp;go_wp2_with (go_at_call 124;refine Calls.mono (P:=Tryz.prog) (HW.out _ E) ?_;rintro e w2 ⟨v1,rfl,F,L⟩);refine D.out _ _ (Or.inr (aa E F)) ?_;clear D K;refine dY (i:=11) dV rfl ?_;intro K D;go_simp;go_wp2_with (go_at_call 113;refine Calls.mono (P:=Tryz.prog) (gf (w0:=w) hb (aa E F) (gI _ b o _ s _ _ (IntIs.G HZ.out hb (aa E F)) L)) ?_;rintro e w3 ⟨rfl,J⟩);refine D.out _ _ (Or.inl ey) ?_;clear D K;refine dY (i:=12) dV rfl ?_;intro K D;go_simp;refine D.out _ _ (Or.inl ey) ?_;clear D K;refine fa dV ?_ _;rw[y.out] at J;go_wp2_with fail;go_ret;exact J
/-- At block b lies a Rat: its two Ints (a lower one of 0 stands for 1). -/
def RatIs (w:World) (b:Nat) (sa A:Int):Prop:=IntIs w b 0 sa∧IntIs w b 2 A
theorem RatIs.G {w B:World} {b:Nat} {sa A:Int} (h:RatIs w b sa A) (hb:b<w.heap.size) (g:G w B):RatIs B b sa A:=⟨h.1.G hb g,h.2.G hb g⟩
/-- den: where the lower part is laid, it is handed back itself. -/
theorem q18 (w:World) (b:Nat) (sa F:Int) (D:F≠0) (h:RatIs w b sa F):
  Calls Tryz.prog 55 #[.pointer (some ⟨b,0,none⟩)] w fun e K=>e= .returned (.pointer (some ⟨b,2,none⟩))∧G w K:=by
 obtain⟨-,n,v,a,⟨c1,L,-,-⟩,⟨l,E,B,A⟩,h1,-⟩:=h;have J:=gU h1;obtain⟨p,c,rfl,-,-⟩:=ei E;have C:l.length≠0:=by
  intro I;rw[aC I] at A;have:a=0:=A.symm;omega
 have t0:((l.length:Int)==0)=false:=by simp;intro h;exact C (by rw[h];rfl)
 generalize l.length=j at *;clear E B A h1 J D;go_enter Tryz.func55,Tryz.ntmps55;go_wp2_with fail;go_ret;exact⟨rfl,af _⟩
/-- A call hands back a new Int among others. -/
def iD (w0:World) (A C:Nat) (s:Int) (e:Ending) (B:World):Prop:=e= .returned (.tuple #[.pointer (some ⟨A,0,none⟩),.pointer (some ⟨C,0,none⟩)])∧G w0 B∧NI w0 B A s
end Go.Proofs.YtfnkkkcojnffdaaGreatDoor
