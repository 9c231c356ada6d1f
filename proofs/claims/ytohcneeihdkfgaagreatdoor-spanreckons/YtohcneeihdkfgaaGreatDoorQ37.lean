/- What is proved here: how a fraction is cut to a float, its arithmetic (no program).
What is proved here: contracts of package exact: quotient, over this seat's translation.
What is proved here: contracts of package exact: rounding, over this seat's translation.
What is proved here: contracts of package exact: Float, over this seat's translation.
What is proved here: contracts of package exact: Of, over this seat's translation.
What is proved here: the float at or below a ratio, by its size; floats around a ratio, over this seat's translation.
What is proved here: the four floats around a ratio: what the law asks of them, over this seat's translation.
What is proved here: lowest terms and bounds of fractions (no program), over this seat's translation.
What is proved here: contracts of the reference's ratios: SetFrac of a new ratio, whatever sign the lower part has, over this seat's translation.
What is proved here: the law's own fraction of two whole numbers, over this seat's translation.
What is proved here: contracts of the reference's ratios: Quo of Rat (to a new one, by one of any sign but 0), over this seat's translation.
What is proved here: sums of floats in units of 2 to the power of -1074; how near the nearest float is, over this seat's translation (no program).
What is proved here: finite floats are ordered as their numbers; floats that are the same, over this seat's translation.
What is proved here: the list of a sum: what is taken off it, float by float (no program), over this seat's translation.
What is proved here: the reference's nearest float is package exact's (no program), over this seat's translation.
What is proved here: the numbers of the closed fact on sums told by several floats (no program), over this seat's translation.
What is proved here: slices of floats and of fractions in memory, over this seat's translation (no program).
What is proved here: contracts of package expan: read, over this seat's translation.
What is proved here: a slice of floats of our own that grows, over this seat's translation (no program).
What is proved here: sums of lists in which entries change places; bounds of sums (no program), over this seat's translation.
What is proved here: contracts of package geom: steps from point to point, over this seat's translation.
What is proved here: the reference's ratios told by core's fractions: a float's, sums, differences, products, over this seat's translation.
What is proved here: the reference's ratios told by core's fractions, new ones too: products, Cmp, over this seat's translation.
What is proved here: contracts of the reference: F, CheckList, over this seat's translation.
What is proved here: contracts of the reference: add, over this seat's translation.
What is proved here: contracts of package expan: Sum, Cmp, over this seat's translation.
What is proved here: contracts of package expan: the pair of a number, over this seat's translation.
What is proved here: contracts of package geom: finite, unfit, Turn, over this seat's translation.
What is proved here: contracts of package geom: norm, Circle, over this seat's translation.
What is proved here: contracts of package geom: Circle, over this seat's translation. -/
import Derived.Test.YtohcneeihdkfgaaGreatDoorQ1
import Derived.Test.YtohcneeihdkfgaaGreatDoorQ28
import Derived.Test.YtohcneeihdkfgaaGreatDoorQ36
import Derived.Test.YtohcneeihdkfgaaGreatDoorQ9
import Derived.Test.YtohcneeihdkfgaaGreatDoorQ3
import Derived.Test.YtohcneeihdkfgaaGreatDoorQ8
import Derived.Test.YtohcneeihdkfgaaGreatDoorQ10
import Derived.Test.YtohcneeihdkfgaaGreatDoorQ22
import Derived.Test.YtohcneeihdkfgaaGreatDoorQ22
import Derived.Test.YtohcneeihdkfgaaGreatDoorQ31
import Derived.Test.YtohcneeihdkfgaaGreatDoorQ32
import Derived.Test.YtohcneeihdkfgaaGreatDoorQ6
import Derived.Test.YtohcneeihdkfgaaGreatDoorQ34
import Derived.Laws.IdiomCopy
namespace Go.Proofs.YtohcneeihdkfgaaGreatDoor.EN
open Go.RowKit
/-- What is left behind a step: nothing, less than half of it, half, more. -/
def ja (R D:Nat):Nat:=if R=0 then 0 else if 2*R<D then 1 else if 2*R=D then 2 else 3
/-- The float at or below A / B (its place among the floats from 0 on), and what is left. -/
def tV (A B:Nat):Nat:=if 971<fM A B then 2047*2^52-1 else (fM A B+1074).toNat*2^52+upP A (fM A B)/loP B (fM A B)
def lV (A B:Nat):Nat:=if 971<fM A B then 3 else ja (upP A (fM A B)%loP B (fM A B)) (loP B (fM A B))
theorem lQ {N D C A:Nat} (E:0<D) (B:0<A) (h:N*A=C*D):N/D=C/A:=by
 rw[← cW N D B,h,aJ D A,cW _ _ E]
theorem mr {N D E A:Nat} (I:0<D) (C:0<A) (h:N*A=E*D):ja (N%D) D=ja (E%A) A:=by
 have L:=lQ I C h;have K:=cu N D;have J:=cu E A;rw[← L] at J;have key:N%D*A=E%A*D:=by
  have h1:(D*(N/D)+N%D)*A=(A*(N/D)+E%A)*D:=by rw[K,J];exact h
  rw[aL,aL,show D*(N/D)*A=A*(N/D)*D from by ac_rfl] at h1;exact Nat.add_left_cancel h1
 generalize N%D=R at *;generalize E%A=F at *;have M:R=0↔F=0:=by
  constructor
  ·rintro rfl;rw[bL] at key;exact(Nat.mul_eq_zero.1 key.symm).resolve_right eX
  ·rintro rfl;rw[bL] at key;exact(Nat.mul_eq_zero.1 key).resolve_right eX
 have O:2*R<D↔2*F<A:=by
  have B:2*R*A=2*F*D:=by rw[ar,key,ar]
  constructor
  ·intro h;have h2:2*R*A<D*A:=av h C;rw[B,aJ D A] at h2;exact bJ h2
  ·intro h;have h2:2*F*D<A*D:=av h I;rw[← B,aJ A D] at h2;exact bJ h2
 have S:2*R=D↔2*F=A:=by
  have B:2*R*A=2*F*D:=by rw[ar,key,ar]
  constructor
  ·intro h;rw[h,aJ D A] at B;exact(cC I B).symm
  ·intro h;rw[h,aJ A D] at B;exact cC C B
 unfold ja;simp only[M,O,S]
theorem mu (X D n:Nat) (F:0<D) (J:1≤n):ja (X%(D*2^n)) (D*2^n)=
  if X/D%2^n=0∧X%D=0 then 0 else if X/D%2^n<2^(n-1) then 1 else if X/D%2^n=2^(n-1)∧X%D=0 then 2 else 3:=by
 rw[eD];have I:=aW X F;generalize X%D=R at *;generalize X/D%2^n=b at *;have e:2^n=2*2^(n-1):=by
  obtain⟨k,rfl⟩:∃ k,n=k+1:=⟨n-1,by omega⟩;simp [Nat.pow_succ,Nat.mul_comm]
 rw[e];generalize 2^(n-1)=m at *;unfold ja;have B:D*(2*m)=2*(D*m):=by ac_rfl
 rw[B];have C:R+D*b=0↔b=0∧R=0:=by
  constructor
  ·intro h;have h1:D*b=0:=by omega
   exact⟨(Nat.mul_eq_zero.1 h1).resolve_left eX,by omega⟩
  ·rintro⟨rfl,rfl⟩;simp
 have h1:2*(R+D*b)<2*(D*m)↔b<m:=by
  constructor
  ·intro h;have h2:D*b<D*m:=by omega
   exact cS h2
  ·intro h;have h2:D*(b+1)≤D*m:=aB _ h;rw[aE,bV] at h2;omega
 have h2:2*(R+D*b)=2*(D*m)↔b=m∧R=0:=by
  constructor
  ·intro h;have h3:R+D*b=D*m:=by omega
   have E:b=m:=by
    rcases eN b m with A|A|A
    ·have:D*(b+1)≤D*m:=aB _ A;rw[aE,bV] at this;omega
    ·exact A
    ·have:D*(m+1)≤D*b:=aB _ A;rw[aE,bV] at this;omega
   subst E;exact⟨rfl,by omega⟩
  ·rintro⟨rfl,rfl⟩;omega
 simp only[C,h1,h2]
theorem pk (a:Nat):EN.blen a=Go.Proofs.YtohcneeihdkfgaaGreatDoor.blen a:=rfl
theorem iz {a:Nat} (h:a≠0):2^(EN.blen a-1)≤a∧a<2^EN.blen a∧1≤EN.blen a:=by
 unfold EN.blen;rw[if_neg h];exact⟨dm h,cK,by omega⟩
/-- The front of A / B: its first 62 or 63 digits in twos. -/
theorem lD {A B:Nat} {e:Int} (F:A≠0) (I:B≠0) (d:e=(EN.blen A:Int)-EN.blen B-62):
  2^61≤upP A e/loP B e∧upP A e/loP B e<2^63∧expo A B=e+EN.blen (upP A e/loP B e)-1:=by
 obtain⟨M,a2,a3⟩:=iz F;obtain⟨N,Z,c⟩:=iz I;have E:0<loP B e:=by unfold loP;exact aM eX (ae _)
 obtain⟨K,O⟩:∃ K:Nat,-(K:Int)≤e∧ -(K:Int)≤expo A B∧EN.blen B+200≤K:=⟨(-e).toNat+(-(expo A B)).toNat+EN.blen B+200,by omega,by omega,by omega⟩;obtain⟨C,D,R⟩:=O;have g1:2^61*B*2^e.toNat≤A*2^(-e).toNat:=by
  rw[jQ K C];have h1:2^61*B*2^((K:Int)+e).toNat≤2^61*2^EN.blen B*2^((K:Int)+e).toNat:=au _ (aB _ eX);have h2:2^(EN.blen A-1)*2^K≤A*2^K:=au _ M;rw[← ah,← ah,show 61+EN.blen B+((K:Int)+e).toNat=EN.blen A-1+K from by omega,ah] at h1;omega
 have g2:A*2^(-e).toNat<2^63*B*2^e.toNat:=by
  rw[jR K C];have h1:2^63*2^(EN.blen B-1)*2^((K:Int)+e).toNat≤2^63*B*2^((K:Int)+e).toNat:=au _ (aB _ N);have h2:A*2^K<2^EN.blen A*2^K:=av a2 (ae _);rw[← ah,← ah,show 63+(EN.blen B-1)+((K:Int)+e).toNat=EN.blen A+K from by omega,ah] at h1;omega
 have W:2^61≤upP A e/loP B e:=(aZ E).2 (by unfold upP loP;rw[← ar];exact g1);have X:upP A e/loP B e<2^63:=(aO E).2 (by unfold upP loP;rw[← ar];exact g2);refine⟨W,X,?_⟩;have J:upP A e/loP B e≠0:=by omega
 obtain⟨S,U,l3⟩:=iz J;have f1:2^(EN.blen (upP A e/loP B e)-1)*loP B e≤upP A e:=(aZ E).1 S;have f2:upP A e<2^EN.blen (upP A e/loP B e)*loP B e:=(aO E).1 U;generalize EN.blen (upP A e/loP B e)=L at *;unfold upP loP at f1 f2;rw[← ar,jQ K C] at f1;rw[← ar,jR K C] at f2;have i:=jz F I K D;have j:=lz F I K D;have y1:B*2^((K:Int)+expo A B).toNat<B*2^(L+((K:Int)+e).toNat):=by
  rw[ah,← ar,aJ B (2^L)];omega
 have Y:B*2^(L-1+((K:Int)+e).toNat)<B*2^((K:Int)+(expo A B+1)).toNat:=by
  rw[ah,← ar,aJ B (2^(L-1))];omega
 have k:=gG (cS y1);have z2:=gG (cS Y);omega
/-- Steps of 2^P, and steps of 2^e that are parted: P = e + n. -/
theorem oq {A B n:Nat} {e P:Int} (h:P=e+n):upP A P*(loP B e*2^n)=upP A e*loP B P:=by
 unfold upP loP;have C:2^(-P).toNat*(2^e.toNat*2^n)=2^(-e).toNat*2^P.toNat:=by
  rw[← ah,← ah,← ah];congr 1;omega
 have D:A*2^(-P).toNat*(B*2^e.toNat*2^n)=A*B*(2^(-P).toNat*(2^e.toNat*2^n)):=by ac_rfl
 have E:A*2^(-e).toNat*(B*2^P.toNat)=A*B*(2^(-e).toNat*2^P.toNat):=by ac_rfl
 rw[D,E,C]
end Go.Proofs.YtohcneeihdkfgaaGreatDoor.EN
namespace Go.Proofs.YtohcneeihdkfgaaGreatDoor.EN
open Go.ChangeShapes Go.WideShapes Go.ChangeAt Go.RowKit
def fj (A B:Nat):Int:=(EN.blen A:Int)-EN.blen B-62
theorem iZ {a K:Nat} (h:a<2^(64*K)):EN.blen a≤64*K:=by
 unfold EN.blen;split
 ·omega
 ·have:=(cT eX).2 h;omega
set_option maxRecDepth 10000 in
theorem q0c (w:World) (va vb:Value) (A B K:Nat) (hK:K≤15000) (bz:1≤K) (ha:Num w va A) (hb:Num w vb B) (E:A<2^(64*K)) (F:B<2^(64*K)) (hA:A≠0) (hB:B≠0):
  Calls Tryz.prog 142 #[va,vb] w fun r w'=>r= .returned (.agg #[.int .u64 ((upP A (fj A B)/loP B (fj A B):Nat):Int),.int .i64 (fj A B),.bool (decide (0<upP A (fj A B)%loP B (fj A B)))])∧G w w':=by
 obtain⟨q1,q2,-⟩:=lD hA hB (e:=fj A B) rfl;have lA:=iZ E;have lB:=iZ F;have U:Hid (∀ C,G w C→_):=fun C g=>kg C va A K eX (ha.G g) E;have W:Hid (∀ C,G w C→_):=fun C g=>kg C vb B K eX (hb.G g) F;have he:fj A B=(EN.blen A:Int)-EN.blen B-62:=rfl;have M:Hid (∀ C,G w C→Calls Tryz.prog 218 #[va,.int .i64 (-(fj A B))] C (fo C (upP A (fj A B)))):=fun C g=>ju C va A K (-(fj A B)) eX eX eX (ha.G g) E;have N:Hid (∀ C,G w C→Calls Tryz.prog 218 #[vb,.int .i64 (fj A B)] C (fo C (loP B (fj A B)))):=fun C g=>ju C vb B K (fj A B) eX eX eX (hb.G g) F;have hX:upP A (fj A B)<2^(64*(2*K+1)):=by
  unfold upP;have h1:2^(-(fj A B)).toNat≤2^(64*K+62):=ao eX eX;have h2:A*2^(-(fj A B)).toNat<2^(64*K)*2^(64*K+62):=aj (av E (ae _)) (aB _ h1);rw[← ah] at h2;exact aj h2 (ao eX eX)
 have hD:loP B (fj A B)<2^(64*(2*K+1)):=by
  unfold loP;have h1:2^(fj A B).toNat≤2^(64*K+62):=ao eX eX;have h2:B*2^(fj A B).toNat<2^(64*K)*2^(64*K+62):=aj (av F (ae _)) (aB _ h1);rw[← ah] at h2;exact aj h2 (ao eX eX)
 have Z:0<loP B (fj A B):=by unfold loP;exact aM eX (ae _)
 have bv: -10000000≤fj A B:=by omega
 have bw:fj A B≤10000000:=by omega
 have ca:(EN.blen A:Int)-EN.blen B-62=fj A B:=rfl;generalize fj A B=e at *;generalize upP A e=X at *;generalize loP B e=D at *;have S:Hid (∀ C L v2,Num C L X→Num C v2 D→_):=fun C L v2 h1 h2=>kn C L v2 X D (2*K+1) eX eX h1 h2 hX hD Z;generalize X/D=Q at *;generalize X%D=R at *;generalize EN.blen A=bA at *;generalize EN.blen B=bB at *;have bu:Q<18446744073709551616:=by omega
 have an:Q≠0:=by omega
 have ce:(bA:Int)≤960000:=by omega
 have ci:(bB:Int)≤960000:=by omega
 obtain⟨J,I⟩:∃ J,J=decide (0<R):=⟨_,rfl⟩;rw[← I];have am:Hid (J=decide (0<R)):=I;clear I;clear hX hD Z q1 q2 ha hb E F hA hB lA lB he;go_enter Tryz.func142,Tryz.ntmps142;go_wp2_with fail;obtain⟨w0,m,g0,cd,R0⟩:=ft w [.int .u64 0,.int .i64 0,.bool false] 221;rw[m];clear m;refine eW (U.out w0 g0) ?_;rintro o C ⟨rfl,g1⟩;go_wp2_with fail;refine eW (W.out C (ab g0 g1)) ?_;rintro o w2 ⟨rfl,g2⟩;have g12:=ab g1 g2;go_wp2_with fail;refine eW (M.out w2 (ab g0 g12)) ?_;intro o w3 c;obtain⟨L,rfl,g3,d⟩:=c;have Y:Hid (Num w3 L X):=d;have g13:=ab g12 g3;clear U W M d g1 g2 g12;go_wp2_with fail;refine eW (N.out w3 (ab g0 g13)) ?_;intro o w4 c;obtain⟨v2,rfl,g4,i⟩:=c;have O:=hi9 (S.out w4 L v2 (Y.out.G g4) i);have g14:=ab g13 g4;clear N S Y i g3 g13 g4;go_wp2_with fail;refine eW O.out ?_;intro o w5 c;obtain⟨v3,v4,rfl,g5,j,k⟩:=c;have g15:=ab g14 g5;clear O g14 g5;rcases iu j with ⟨h,-⟩|⟨-,-,nb,no,nc,rfl,cc,cb,ap⟩|⟨h,-⟩
 ·exact absurd h an
 ·obtain⟨pr,kr,cr,rfl,-,hk,-⟩:=jt k;clear j k;rw[← am.out] at hk;obtain⟨s,y,af,ag,ai,al⟩:=fL R0 (g15);go_wp2_with fail;have hT:Hid (Rec _ (w.heap.size) [.int .u64 (Q:Int),.int .i64 e,.bool J]):=eC (aw R0.out (g15));have g9:=Rec.h3 hT.out (ab g0 g15) eX;generalize (World.setCell (World.setCell (World.setCell w5 ⟨w.heap.size,0,none⟩ (.int .u64 (Q:Int))) ⟨w.heap.size,1,none⟩ (.int .i64 e)) ⟨w.heap.size,2,none⟩ (.bool J))=w9 at *;obtain⟨bi,bl,bm,bn,bq,bs⟩:=fL hT (((ad _)));refine bodyPost_ret (v:= .agg #[.int .u64 (Q:Int),.int .i64 e,.bool J]) (by simp [results,Tryz.results142,go_sem, *]) rfl ?_;exact⟨rfl,g9⟩
 ·omega
/-- What a fraction above 0 comes to: steps, their place, what is left. -/
theorem q5t (w:World) (A B:Nat) (hA:A≠0) (hB:B≠0) (ag:EN.blen A≤960000) (ai:EN.blen B≤960000):
  ∃ R:Nat,∃ P:Int,R<2^53∧ -1074≤P∧P≤971∧(P= -1074∨2^52≤R)∧tV A B=(P+1074).toNat*2^52+R∧lV A B<4∧
  Calls Tryz.prog 216 #[.agg #[.int .u64 ((upP A (fj A B)/loP B (fj A B):Nat):Int),.int .i64 (fj A B),.bool (decide (0<upP A (fj A B)%loP B (fj A B)))]] w fun r w'=>r= .returned (.tuple #[.int .u64 (R:Int),.int .i64 P,.int .i64 ((lV A B:Nat):Int)])∧G w w':=by
 obtain⟨q1,O,y⟩:=lD hA hB (e:=fj A B) rfl;have he:fj A B=(EN.blen A:Int)-EN.blen B-62:=rfl;have N:∀ n:Nat,∀ P:Int,P=fj A B+n→upP A P*(loP B (fj A B)*2^n)=upP A (fj A B)*loP B P:=fun n P h=>oq h;have F:0<loP B (fj A B):=by unfold loP;exact aM eX (ae _)
 have M:∀ P:Int,0<loP B P:=fun P=>by unfold loP;exact aM eX (ae _)
 have D:upP A (fj A B)/loP B (fj A B)≠0:=by omega
 obtain⟨o,s,l3⟩:=iz D;have hL:EN.blen (upP A (fj A B)/loP B (fj A B))≤63:=by
  have:2^(EN.blen (upP A (fj A B)/loP B (fj A B))-1)<2^63:=aD o O;have:=gG this;omega
 have af:62≤EN.blen (upP A (fj A B)/loP B (fj A B)):=by
  have:2^61<2^EN.blen (upP A (fj A B)/loP B (fj A B)):=aD q1 s;have:=gG this;omega
 have E:fM A B=max (fj A B+EN.blen (upP A (fj A B)/loP B (fj A B))-53) (-1074):=by
  unfold fM;rw[y];omega
 obtain⟨P,S⟩:∃ P,P=fM A B:=⟨_,rfl⟩;have L:tV A B=if 971<P then 2047*2^52-1 else (P+1074).toNat*2^52+upP A P/loP B P:=by unfold tV;rw[S]
 have J:lV A B=if 971<P then 3 else ja (upP A P%loP B P) (loP B P):=by unfold lV;rw[S]
 rw[← S] at E;have C:=M P;clear M;by_cases W:971<P
 ·rw[if_pos W] at L J;refine⟨9007199254740991,971,by omega,by omega,by omega,Or.inr eX,by rw[L];rfl,by omega,?_⟩;rw[J];exact ot w _ (fj A B) P _ D O eX eX E W
 ·rw[if_neg W] at L J;obtain⟨n,Y⟩:∃ n:Nat,P=fj A B+n∧9≤n:=⟨(P-fj A B).toNat,by omega,by omega⟩;obtain⟨Y,al⟩:=Y;have U:=N n P Y;have K:0<loP B (fj A B)*2^n:=aM F (ae n);have i:upP A P/loP B P=upP A (fj A B)/loP B (fj A B)/2^n:=by
   rw[lQ C K U,bR]
  have j:ja (upP A P%loP B P) (loP B P)=lv (upP A (fj A B)/loP B (fj A B)%2^n) (2^(n-1)) (decide (0<upP A (fj A B)%loP B (fj A B))):=by
   rw[mr C K U,mu _ _ n F eX];unfold lv;have e3:(decide (0<upP A (fj A B)%loP B (fj A B))=false)=(upP A (fj A B)%loP B (fj A B)=0):=by
    apply propext;rw[decide_eq_false_iff_not];omega
   simp only[e3]
  rw[i] at L;rw[j] at J;clear i j U N K F C y;generalize decide (0<upP A (fj A B)%loP B (fj A B))=d at *;generalize upP A (fj A B)/loP B (fj A B)=Q at *;generalize fj A B=e at *;have X:∀ b m:Nat,lv b m d<4:=fun b m=>by unfold lv;split;omega;split;omega;split<;>omega
  by_cases Z:63<P-e
  ·have hp:2^63≤2^(n-1):=gD eX;have am:2^n=2*2^(n-1):=by
    obtain⟨k,rfl⟩:∃ k,n=k+1:=⟨n-1,by omega⟩;simp [Nat.pow_succ,Nat.mul_comm]
   have e4:Q/2^n=0:=b9 eX;have e5:Q%2^n=Q:=bh eX;have e6:lV A B=1:=by
    rw[J,e5];unfold lv;rw[if_neg eX,if_pos eX]
   have I:P= -1074:=by omega
   refine⟨0,P,by omega,by omega,by omega,Or.inl I,by rw[L,e4],by omega,?_⟩;rw[e6];exact ou w Q e P d D O eX eX E eX Z
  ·obtain⟨k,hk⟩:∃ k,n=k+1:=⟨n-1,by omega⟩;have c:Q/2^n<2^53:=by
    rw[aO (ae n),← ah];exact aj s (gD eX)
   refine⟨Q/2^n,P,c,by omega,by omega,?_,L,by rw[J];exact X _ _,?_⟩
   ·by_cases I:P= -1074
    ·exact Or.inl I
    ·right;rw[aZ (ae n),← ah];exact bt (gD eX) o
   ·rw[J,hk];exact mU w Q k e P d D O eX eX E eX eX eX
attribute [local go_sem] gI
/-- Whether a number between two floats goes on to the one that is farther from 0. -/
def onw (m:Int) (neg A:Bool) (l:Nat):Bool:=if m=1 then l==3||(l==2&&A) else if m=2 then neg else if m=3 then !neg else false
def q44 (m:Int) (neg:Bool) (w:World) (e:Ending) (D:World):Prop:=∃ (F:Nat) (A:Array Value),e= .returned (.func (.func F) #[] A)∧G w D∧
 (∀ B,G D B→∀ (C:Bool) (l:Nat),l<4→Calls Tryz.prog F (#[.bool C,.int .i64 (l:Int)]++A) B fun e E=>e= .returned (.bool (onw m neg C l))∧G B E)∧
 (∀ args B,(callFunc F args).run Tryz.prog B= .ok (.enter F args) B)
theorem q2T (w:World) (A:Bool) (l:Nat) (C:l<4):Calls Tryz.prog 260 #[.bool A,.int .i64 (l:Int)] w fun e B=>e= .returned (.bool (l==3||(l==2&&A)))∧G w B:=by
 have h:l=0∨l=1∨l=2∨l=3:=by omega
 rcases h with rfl|rfl|rfl|rfl<;>cases A
 all_goals
  go_enter Tryz.func260,Tryz.ntmps260;go_wp2_with fail;go_ret;exact⟨rfl,ad _⟩
theorem q2w (w:World) (b l:Nat) (neg A:Bool) (C:w.cell? ⟨b,0,none⟩=some (.bool neg)):Calls Tryz.prog 261 #[.bool A,.int .i64 (l:Int),.pointer (some ⟨b,0,none⟩)] w fun e B=>e= .returned (.bool neg)∧G w B:=by
 go_enter Tryz.func261,Tryz.ntmps261;go_wp2_with fail;go_ret;exact⟨rfl,ad _⟩
theorem q6H (w:World) (b l:Nat) (neg A:Bool) (C:w.cell? ⟨b,0,none⟩=some (.bool neg)):Calls Tryz.prog 262 #[.bool A,.int .i64 (l:Int),.pointer (some ⟨b,0,none⟩)] w fun e B=>e= .returned (.bool (!neg))∧G w B:=by
 go_enter Tryz.func262,Tryz.ntmps262;go_wp2_with fail;go_ret;exact⟨rfl,ad _⟩
theorem q5U (w:World) (l:Nat) (A:Bool):Calls Tryz.prog 263 #[.bool A,.int .i64 (l:Int)] w fun e B=>e= .returned (.bool false)∧G w B:=by
 go_enter Tryz.func263,Tryz.ntmps263;go_wp2_with fail;go_ret;exact⟨rfl,ad _⟩
theorem q3B (w:World) (m:Int) (neg:Bool) (E:m=1∨m=2∨m=3∨m=4):
  Calls Tryz.prog 215 #[.int .i64 m,.bool neg] w (q44 m neg w):=by
 rcases E with rfl|rfl|rfl|rfl
 ·go_enter Tryz.func215,Tryz.ntmps215;go_wp2_with fail;go_ret;exact⟨260,#[],rfl,(ad _).alloc _,fun B _ A l C=>q2T B A l C,fun _ _=>by kernel_rfl⟩
 ·go_enter Tryz.func215,Tryz.ntmps215;go_wp2_with fail;go_ret;have D:(w.alloc (.cells #[.bool neg] 4)).cell? ⟨w.heap.size,0,none⟩=some (.bool neg):=by simp [go_sem]
  exact⟨261,#[.pointer (some ⟨w.heap.size,0,none⟩)],rfl,(ad _).alloc _,fun B g A l C=>q2w B w.heap.size l neg A (g.cell (p:=⟨w.heap.size,0,none⟩) fX D),fun _ _=>by kernel_rfl⟩
 ·go_enter Tryz.func215,Tryz.ntmps215;go_wp2_with fail;go_ret;have D:(w.alloc (.cells #[.bool neg] 4)).cell? ⟨w.heap.size,0,none⟩=some (.bool neg):=by simp [go_sem]
  exact⟨262,#[.pointer (some ⟨w.heap.size,0,none⟩)],rfl,(ad _).alloc _,fun B g A l C=>q6H B w.heap.size l neg A (g.cell (p:=⟨w.heap.size,0,none⟩) fX D),fun _ _=>by kernel_rfl⟩
 ·go_enter Tryz.func215,Tryz.ntmps215;go_wp2_with fail;go_ret;exact⟨263,#[],rfl,(ad _).alloc _,fun B _ A l C=>q5U B l A,fun _ _=>by kernel_rfl⟩
theorem qJ (F:Nat) (A:Array Value) (w:World):(binOp BinOp.eql 217 (.func (.func F) #[] A) .nilFunc).run Tryz.prog w= .ok (.bool false) w:=by kernel_rfl
/-- The float that so many steps at a place make. -/
theorem q02 {v:Nat} {P:Int} (hv:v≤2^53) (E: -1074≤P) (F:P≤971) (h:P= -1074∨2^52≤v):gz 11 52 v P=(P+1074).toNat*2^52+v:=by
 have hb:(P+1074).toNat≤2045:=by omega
 rcases Nat.lt_or_eq_of_le hv with h1|h1
 ·rw[kt h1 E h,ck];omega
 ·subst h1;have C:=q0B (A:=2^53*2^P.toNat) (B:=2^(-P).toNat) (mag:=2^53) (e:=P) (bK eX (by have:=ae P.toNat;omega)) (by have:=ae (-P).toNat;omega) eX eX (by ac_rfl);have D:=q0B (A:=2^53*2^P.toNat) (B:=2^(-P).toNat) (mag:=2^52) (e:=P+1) (bK eX (by have:=ae P.toNat;omega)) (by have:=ae (-P).toNat;omega) eX eX (by
   have:53+P.toNat+(-(P+1)).toNat=52+(-P).toNat+(P+1).toNat:=by omega
   rw[← ah,← ah,← ah,← ah,this])
  rw[C,← D,kt eX eX (Or.inr (aI _))];rw[show (P+1+1074).toNat=(P+1074).toNat+1 from by omega];generalize (P+1074).toNat=k at *;rw[ck]
  ·omega
  ·omega
set_option maxRecDepth 10000 in
set_option maxHeartbeats 1000000 in
theorem oS (w:World) (v:Value) (x:Rat) (m:Int) (FR:Nat) (fv:Value) (C:Nat) (P:Int) (l:Nat) (hm:m=1∨m=2∨m=3∨m=4) (hx:QIs w v x) (h0:x≠0)
  (dl:C<2^53) (cl: -1074≤P) (cr:P≤971) (ee:P= -1074∨2^52≤C) (hl:l<4)
  (HQ:∀ B v1 v2,G w B→Num B v1 x.num.natAbs→Num B v2 x.den→Calls Tryz.prog FR #[v1,v2] B fun e w2=>e= .returned fv∧G B w2)
  (HE:∀ args w,(callFunc FR args).run Tryz.prog w= .ok (.enter FR args) w)
  (HC:∀ B,Calls Tryz.prog 216 #[fv] B fun r w'=>r= .returned (.tuple #[.int .u64 (C:Int),.int .i64 P,.int .i64 (l:Int)])∧G B w'):
  Calls Tryz.prog 141 #[v,.int .i64 m,.func (.func FR) #[] #[]] w fun r w'=>r= .returned (.tuple #[.float .f64 (FT.wrd (decide (x.num<0)) ((P+1074).toNat*2^52+C+if l≠0∧onw m (decide (x.num<0)) (C%2==1) l=true then 1 else 0)),.int .i64 0])∧G w w':=by
 have cc:Hid (∀ B,G w B→_):=fun B g=>kd B v x (hx.G g);have HB:Hid (∀ B,G w B→_):=fun B g=>mh B v x (hx.G g);have hz:(x.num.sign==0)=false:=by rw[jI,decide_eq_false h0]
 obtain⟨a,k,c,a',k',c',rfl,y,fa⟩:=hx;obtain⟨s,hs⟩:∃ s,s=decide (x.num<0):=⟨_,rfl⟩;rw[← hs];rw[← hs] at cc HB;have HR:Hid (∀ B,_):=fun B=>q3B B m s hm;obtain⟨u,hu⟩:∃ u:Nat,u=if l≠0∧onw m s (C%2==1) l=true then 1 else 0:=⟨_,rfl⟩;rw[← hu];have gg:u≤1:=by rw[hu];split<;>omega
 have bu:gz 11 52 (C+u) P=(P+1074).toNat*2^52+C+u:=by
  rw[q02 eX cl cr eX];omega
 have D:Hid (∀ B,Calls Tryz.prog 217 #[.int .i64 ((C+u:Nat):Int),.int .i64 P] B fun r w'=>r= .returned (.float .f64 ((P+1074).toNat*2^52+C+u))∧G B w'):=fun B=>by
  have h:=q60 ((C+u:Nat):Int) P B eX eX eX eX;rw[if_neg eX,aA,show jw P=P from by unfold jw;omega,bu] at h;exact h
 have cz:(P+1074).toNat*2^52+C+u<2^63:=by
  have:(P+1074).toNat≤2045:=by omega
  omega
 have dq:FT.wrd false ((P+1074).toNat*2^52+C+u)=(P+1074).toNat*2^52+C+u:=rfl;obtain⟨fl,di⟩:∃ fl,fl=(P+1074).toNat*2^52+C+u:=⟨_,rfl⟩;rw[← di] at D cz dq ⊢;clear bu di;have R:=ku fl (by clear hu;omega);have bv:negV fl=FT.wrd true fl:=by
  have h1:FT.neg fl=false:=by unfold FT.neg;simp;clear hu;omega
  unfold negV;rw[if_neg (by rw[h1];simp)];rfl
 rw[bv] at R;clear bv;obtain⟨fn,j⟩:∃ fn,fn=FT.wrd true fl:=⟨_,rfl⟩;rw[← j] at R;have ca:Hid (Op.negFloat .f64 fl=fn):=R;have bz:Hid (Ending.returned (.tuple #[.float .f64 fn,.int .i64 0])= .returned (.tuple #[.float .f64 (FT.wrd true fl),.int .i64 0])):=by show Ending.returned (.tuple #[.float .f64 fn,.int .i64 0])= .returned (.tuple #[.float .f64 (FT.wrd true fl),.int .i64 0]);rw[j]
 have cb:Hid (∀ B v1 v2,G w B→Num B v1 x.num.natAbs→Num B v2 x.den→_):=HQ;have cd:Hid (∀ B,_):=HC;have ce:Hid (Num w (.slice a k c) x.num.natAbs):=y;have eb:Hid (∀ args w,(callFunc FR args).run Tryz.prog w= .ok (.enter FR args) w):=HE;have fr: -9223372036854775808≤P:=by omega
 have fs:P≤9223372036854775807:=by omega
 have fp:Hid (C<2^53):=dl;have ec:Hid (l<4):=hl;have HU:Hid (u=if l≠0∧onw m s (C%2==1) l=true then 1 else 0):=hu;have fh:(C:Int)<9007199254740992:=by omega
 have ga:(l:Int)<4:=by omega
 generalize x.num.sign=z at *;generalize x.num.natAbs=xn at *;obtain⟨d,hd⟩:∃ d,d=x.den:=⟨_,rfl⟩;rw[← hd] at HB cb;clear cz dq R j HQ HC HE y fa hs hd dl hl hu cl cr ee hm h0;go_enter Tryz.func141,Tryz.ntmps141;go_wp2_with fail;obtain⟨w0,ds,g0,gm,R0⟩:=ft w [.bool s,.slice a k c,.slice a' k' c'] 29;rw[ds];clear ds;refine eW (HR.out w0) ?_;intro e1 B hs;obtain⟨F,Z,rfl,g1,bs,bq⟩:=hs;have ea:Hid (∀ args w2,(callFunc F args).run Tryz.prog w2= .ok (.enter F args) w2):=bq;clear bq;have bw:Hid (∀ w2,G B w2→∀ (N:Bool) (l:Nat),l<4→Calls Tryz.prog F (#[.bool N,.int .i64 (l:Int)]++Z) w2 fun e w3=>e= .returned (.bool (onw m s N l))∧G w2 w3):=bs;have ci:=ab g0 g1;have S0:Hid (Rec _ _ _):=aw R0.out (g1);clear bs g0 g1 R0 HR;obtain⟨ai,al,am,an,ap,bi⟩:=fL S0 (ad _);have j:=qJ F Z B;go_wp2_with fail;clear j;refine eW (cc.out B ci) ?_;rintro e1 w2 ⟨rfl,g2⟩;have i:=ab ci g2;have T0:Hid (Rec _ _ _):=aw S0.out (g2);clear ai al am an ap bi S0 cc;go_wp2_with fail
 refine jU 15 0 [.is (.func (.func FR) #[] #[]),.is (.pointer (some ⟨w.heap.size,0,none⟩)),.is (.pointer (some ⟨w.heap.size,1,none⟩)),.is (.slice a k c),.is (.agg #[.bool s,.slice a k c,.slice a' k' c']),.any (fun v w'=>Num w' v (d)),.is (fv),.is (.tuple #[.int .u64 (C:Int),.int .i64 P,.int .i64 (l:Int)]),.is (.tuple #[.int .u64 (C:Int),.int .i64 P,.int .i64 (l:Int)]),.is (.int .u64 (C:Int)),.is (.int .i64 P),.is (.int .i64 (l:Int)),.is (.int .u64 (C:Int)),.is (.int .i64 P),.is (.int .i64 (l:Int))] [some 24,some 25,some 26,some 27,some 28,some 29,some 30,some 31,some 23,some 32,some 33,some 34,some 9,some 10,some 11] ?_;intro v5 A hA;simp only[fG,Act.put,aq,ay,az] at hA;subst hA;refine⟨?_,?_⟩
 ·skip
  refine aa rfl ?b0 (aa rfl ?b1 (aa rfl ?b2 (aa rfl ?b3 (aa rfl ?o1_4 (aa rfl ?b6 (aa rfl ?b7 (aa rfl ?b8 (aa rfl ?b4 (aa rfl ?b5 (aa rfl ?a1 (aa rfl ?a6 (aa rfl ?a7 (aa rfl ?a8 (aa rfl ?o1_14 (bN)))))))))))))))
  case b0|b1|b2|b4|b5|a1|a6|a7|a8|o1_14=>
   exact jX
  case b3|o1_4=>
   intro W hW hD K hK;clear hD;have ⟨em,ep,eu⟩:=rc39 T0 hW;go_simp;exact hK.out _ _ ⟨_,rfl,ad _,rfl⟩
  ·intro W hW hD K hK;have hc:=hi9 (HB.out W (ab i hW));exact gY
  ·intro W hW hD K hK;have h5:=gZ v5 5 hD;clear hD;have cs:=eb.out #[.slice a k c,v5] W;go_simp;go_wp2_with (refine eW (cb.out W (.slice a k c) v5 (ab i hW) (ce.out.G (ab i hW)) h5) ?_;intro e w9 hs;obtain⟨rfl,g9⟩:=hs);exact hK.out _ _ ⟨_,rfl,g9,rfl⟩
  ·intro W hW hD K hK;have hc:=hi9 (cd.out W);exact sj
 intro w3 g3 hH;clear hH;refine wpAny_done eZ ?_ _;have ag:=ab i g3;have g13:=ab g2 g3;have U0:Hid (Rec _ _ _):=aw T0.out (g3);clear T0 HB cb cd ce i g2 g3;by_cases Y:l=0
 ·have ez:((l:Int) != 0)=false:=by rw[Y];rfl
  have o:u=0:=by rw[HU.out,if_neg (by rintro⟨h,-⟩;exact h Y)]
  subst o;rw[aP] at D;have O:=ag;have dr:IntKind.i64.wrap (C:Int)=C:=by rw[IntKind.wrap_i64];omega
  clear HU bw Y g13 ag;obtain⟨S,U,X,E,I,J⟩:=fL U0 (ad _);clear E I J;go_wp2_with fail;refine eW (D.out _) ?_;rintro e9 w9 ⟨rfl,g9⟩;have L:=ab O g9;have X0:Hid (Rec _ _ _):=aw U0.out (g9);have M:=Rec.f3 X0.out;have y:=M.1;clear D O g9 M;cases s
  ·go_wp2_with fail
   go_ret2
   exact⟨rfl,L⟩
  ·have R:=ca.out;go_wp2_with fail
   go_ret2
   exact⟨bz.out,L⟩
 ·have ez:((l:Int) != 0)=true:=by simp;exact Y
  obtain⟨N,ho⟩:∃ N,N=(C%2==1):=⟨_,rfl⟩;have gd:((C:Int)%2==1)=N:=by rw[ho,Bool.eq_iff_iff];simp;omega
  have fb:(0:Int)≤C:=by omega
  have bl:=bw.out w3 g13 N l ec.out;rw[ho] at bl;have hu:u=if onw m s (C%2==1) l=true then 1 else 0:=by rw[HU.out];simp [Y]
  generalize onw m s (C%2==1) l=ob at *;rw[← ho] at bl;have bm:=hi9 bl;have af:Hid (u=if ob=true then 1 else 0):=hu;have cs:=ea.out (#[.bool N,.int .i64 (l:Int)]++Z) w3;clear HU bw Y g13 ho bl hu;obtain⟨S,U,X,E,I,J⟩:=fL U0 (ad _);clear E I J;go_wp2_with fail;refine eW bm.out ?_;rintro e8 w8 ⟨rfl,g8⟩;have O:=ab ag g8;have V0:Hid (Rec _ _ _):=aw U0.out (g8);clear cs bm U0 ag g8 S U X;have U0:Hid (Rec w8 w.heap.size [.bool s,.slice a k c,.slice a' k' c']):=V0.out;clear V0;cases ob
  ·have o:u=0:=af.out;subst o;rw[aP] at D;have dr:IntKind.i64.wrap (C:Int)=C:=by rw[IntKind.wrap_i64];omega
   clear af;go_wp2_with fail;refine eW (D.out _) ?_;rintro e9 w9 ⟨rfl,g9⟩;have L:=ab O g9;have X0:Hid (Rec _ _ _):=aw U0.out (g9);have M:=Rec.f3 X0.out;have y:=M.1;clear D O g9 M;cases s
   ·go_wp2_with fail
    go_ret2
    exact⟨rfl,L⟩
   ·have R:=ca.out;go_wp2_with fail
    go_ret2
    exact⟨bz.out,L⟩
  ·have o:u=1:=af.out;subst o;have dr:IntKind.i64.wrap ((C:Int)+1)=(C:Int)+1:=by rw[IntKind.wrap_i64];omega
   have bn:Hid (∀ B,Calls Tryz.prog 217 #[.int .i64 ((C:Int)+1),.int .i64 P] B fun r w'=>r= .returned (.float .f64 fl)∧G B w'):=fun B=>by
    have h:=D.out B;rw[show ((C+1:Nat):Int)=(C:Int)+1 from by omega] at h;exact h
   clear af D;have D:=bn;clear bn;go_wp2_with fail;refine eW (D.out _) ?_;rintro e9 w9 ⟨rfl,g9⟩;have L:=ab O g9;have X0:Hid (Rec _ _ _):=aw U0.out (g9);have M:=Rec.f3 X0.out;have y:=M.1;clear D O g9 M;cases s
   ·go_wp2_with fail
    go_ret2
    exact⟨rfl,L⟩
   ·have R:=ca.out;go_wp2_with fail
    go_ret2
    exact⟨bz.out,L⟩
end Go.Proofs.YtohcneeihdkfgaaGreatDoor.EN
namespace Go.Proofs.YtohcneeihdkfgaaGreatDoor.EN
open Go.ChangeShapes Go.WideShapes Go.ChangeAt Go.RowKit
/-- A fraction above 0 rounded: the float's place. -/
def rdV (m:Int) (neg:Bool) (A B:Nat):Nat:=tV A B+if lV A B≠0∧onw m neg (tV A B%2==1) (lV A B)=true then 1 else 0
set_option maxRecDepth 10000 in
theorem kF (w:World) (v:Value) (m:Int) (X:Nat) (U:m=1∨m=2∨m=3∨m=4) (W:QIs w v 0):
  Calls Tryz.prog 141 #[v,.int .i64 m,.func (.func X) #[] #[]] w fun r y=>r= .returned (.tuple #[.float .f64 0,.int .i64 0])∧G w y:=by
 have N:Hid (∀ A,G w A→_):=fun A g=>kd A v 0 (W.G g);have e:((0:Rat).num.sign==0)=true:=rfl;obtain⟨a,k,c,Z,o,c',rfl,-,-⟩:=W;have R:Hid (∀ A,_):=fun A=>q3B A m (decide ((0:Rat).num<0)) U;generalize decide ((0:Rat).num<0)=s at *;generalize (0:Rat).num.sign=z at *;clear U;go_enter Tryz.func141,Tryz.ntmps141;go_wp2_with fail;obtain⟨w0,D,g0,j,S⟩:=ft w [.bool s,.slice a k c,.slice Z o c'] 29;rw[D];clear D;refine eW (R.out w0) ?_;intro d A i;obtain⟨F,B,rfl,g1,-,-⟩:=i;have C:=ab g0 g1;have Y:Hid (Rec _ _ _):=aw S.out (g1);clear g0 g1 S R;obtain⟨E,I,J,K,L,M⟩:=fL Y (ad _);have O:=qJ F B A;go_wp2_with fail;clear O;refine eW (N.out A C) ?_;rintro d w2 ⟨rfl,g2⟩;go_wp2_with fail
 go_ret2
 exact⟨rfl,ab C g2⟩
theorem q4w (w:World) (v:Value) (x:Rat) (m:Int) (K:Nat) (i:K≤15000) (N:1≤K) (X:m=1∨m=2∨m=3∨m=4) (Y:QIs w v x) (M:x≠0) (hb:QB x K):
  Calls Tryz.prog 59 #[v,.int .i64 m] w fun r S=>r= .returned (.tuple #[.float .f64 (FT.wrd (decide (x.num<0)) (rdV m (decide (x.num<0)) x.num.natAbs x.den)),.int .i64 0])∧G w S:=by
 have J:x.num.natAbs≠0:=by
  intro h;exact M (cI.1 eX)
 have L:=x.den_nz;have lA:=iZ hb.1;have lB:=iZ hb.2;obtain⟨F,P,h1,h2,h3,D,I,h6,-⟩:=q5t w x.num.natAbs x.den J L eX eX;have A:(F%2==1)=(tV x.num.natAbs x.den%2==1):=by
  rw[I];have:((P+1074).toNat*2^52+F)%2=F%2:=by omega
  rw[this]
 have C:Hid (∀ B,G w B→Calls Tryz.prog 141 #[v,.int .i64 m,.func (.func 142) #[] #[]] B fun r S=>r= .returned (.tuple #[.float .f64 (FT.wrd (decide (x.num<0)) (rdV m (decide (x.num<0)) x.num.natAbs x.den)),.int .i64 0])∧G B S):=fun B g=>by
  have h:=oS B v x m 142 _ F P (lV x.num.natAbs x.den) X (Y.G g) M h1 h2 h3 D h6 (fun U v1 v2 _ k1 k2=>q0c U v1 v2 _ _ K i N k1 k2 hb.1 hb.2 J L) (fun _ _=>by kernel_rfl) (fun U=>by
   obtain⟨R,Z,j1,j2,j3,O,y,j6,j⟩:=q5t U x.num.natAbs x.den J L eX eX;have W:Z=P∧R=F:=by
    rw[I] at y;rcases D with D|D<;>rcases O with O|O<;>(constructor<;>omega)
   obtain⟨rfl,rfl⟩:=W;exact j)
  rw[A,← I] at h;exact h
 unfold rdV at C ⊢;generalize tV x.num.natAbs x.den+(if lV x.num.natAbs x.den≠0∧onw m (decide (x.num<0)) (tV x.num.natAbs x.den%2==1) (lV x.num.natAbs x.den)=true then 1 else 0)=r at *;clear M hb J L lA lB h1 h2 h3 D I h6 A X;generalize FT.wrd (decide (x.num<0)) r=fl at *;obtain⟨a,k,c,d,e,c',rfl,-,-⟩:=Y;generalize decide (x.num<0)=s at *;go_enter Tryz.func59,Tryz.ntmps59;go_wp2_with fail;obtain⟨w0,E,g0,o,R0⟩:=ft w [.bool s,.slice a k c,.slice d e c'] 29;rw[E];clear E;refine eW (C.out w0 g0) ?_;rintro W B ⟨rfl,g1⟩;go_wp2_with fail
 go_ret2
 exact⟨rfl,ab g0 g1⟩
theorem pK (w:World) (v:Value) (m:Int) (E:m=1∨m=2∨m=3∨m=4) (D:QIs w v 0):
  Calls Tryz.prog 59 #[v,.int .i64 m] w fun r K=>r= .returned (.tuple #[.float .f64 0,.int .i64 0])∧G w K:=by
 have C:Hid (∀ B,G w B→_):=fun B g=>kF B v m 142 E (D.G g);obtain⟨x,h⟩:∃ x:Rat,x=0:=⟨_,rfl⟩;rw[← h] at D;clear h E;obtain⟨a,k,c,F,J,c',rfl,-,-⟩:=D;generalize decide (x.num<0)=s at *;go_enter Tryz.func59,Tryz.ntmps59;go_wp2_with fail;obtain⟨w0,A,g0,I,L⟩:=ft w [.bool s,.slice a k c,.slice F J c'] 29;rw[A];clear A;refine eW (C.out w0 g0) ?_;rintro M B ⟨rfl,g1⟩;go_wp2_with fail
 go_ret2
 exact⟨rfl,ab g0 g1⟩
def fex (b:Nat):Nat:=b/2^52%2^11
def fmag (b:Nat):Nat:=if fex b=0 then b%2^52 else 2^52+b%2^52
/-- What a finite float is. -/
def FQ (b:Nat):Rat:=mkRat (frN (FT.neg b) (fmag b) (fex b)) (frD (fex b))
theorem q5w (w:World) (b:Nat) (m e:Int) (q:Rat) (c:∀ A,G w A→Calls Tryz.prog 98 #[.float .f64 b] A fun r w'=>r= .returned (.tuple #[.int .i64 m,.int .i64 e,.int .i64 0])∧G A w')
  (Z:∀ A,Calls Tryz.prog 99 #[.int .i64 m,.int .i64 e] A (RetQ A q)):
  Calls Tryz.prog 36 #[.float .f64 b] w (od w q 0):=by
 have M:Hid (∀ A,G w A→_):=c;have L:Hid (∀ A,_):=Z;clear c Z;go_enter Tryz.func36,Tryz.ntmps36;go_wp2_with fail;obtain⟨w0,R,g0,an,S⟩:=ft w [.bool false,.slice none 0 0,.slice none 0 0] 29;rw[R];clear R;refine Calls.mono (P:=Tryz.prog) (M.out w0 g0) ?_;rintro e1 A ⟨rfl,g1⟩;go_wp2_with fail;refine Calls.mono (P:=Tryz.prog) (L.out A) ?_;intro e1 Y hs;obtain⟨v,rfl,g2,hv⟩:=hs;clear M L;obtain⟨B,F,C,a9,I,D,rfl,N,O⟩:=hv;have U:Hid (Num Y (.slice B F C) (q).num.natAbs):=N;have W:Hid (Num Y (.slice a9 I D) (iw (q).den)):=O;obtain⟨t9,E⟩:∃ t,t=decide ((q).num<0):=⟨_,rfl⟩;rw[← E];have X:Hid (t9=decide ((q).num<0)):=E;clear N O E;obtain⟨y,af,ag,ai,al,am⟩:=fL S (((ab g1 g2)));have J:Num _ _ _:=fC (u1:= .bool t9) (u2:= .slice B F C) (u3:= .slice a9 I D) U.out (aw S.out (ab g1 g2)) trivial trivial trivial;have K:Num _ _ _:=fC (u1:= .bool t9) (u2:= .slice B F C) (u3:= .slice a9 I D) W.out (aw S.out (ab g1 g2)) trivial trivial trivial;go_wp2_with fail;have hT:Hid (Rec _ (w.heap.size) [.bool t9,.slice B F C,.slice a9 I D]):=eC (aw S.out (ab g1 g2));have g9:=Rec.h3 hT.out (ab g0 (ab g1 g2)) eX;generalize (World.setCell (World.setCell (World.setCell Y ⟨w.heap.size,0,none⟩ (.bool t9)) ⟨w.heap.size,1,none⟩ (.slice B F C)) ⟨w.heap.size,2,none⟩ (.slice a9 I D))=w9 at *;obtain⟨d,i,j,k,o,s⟩:=fL hT (((ad _)));refine bodyPost_ret (v:= .tuple #[.agg #[.bool t9,.slice B F C,.slice a9 I D],.int .i64 0]) (by simp [results,Tryz.results36,go_sem, *]) rfl ?_;exact⟨_,rfl,g9,B,F,C,a9,I,D,by rw[← X.out],J,K⟩
theorem q6N {s:Bool} {j k ex mag:Nat} (A:mag=(2*j+1)*2^k):mk2 (if s then -(2*(j:Int)+1) else 2*(j:Int)+1) ((max ex 1:Nat)-1075+k)=mkRat (frN s mag ex) (frD ex):=by
 unfold mk2 frN frD frS;rw[ev (by have:=ae (-(((max ex 1:Nat):Int)-1075+k)).toNat;omega) (by have:=ae (1075-max ex 1);omega)];have e:∀ X Y:Int,X*((2^k:Nat):Int)=Y→X*((2^(((max ex 1:Nat):Int)-1075+k).toNat:Nat):Int)*((2^(1075-max ex 1):Nat):Int)=Y*2^(max ex 1-1075)*((2^(-(((max ex 1:Nat):Int)-1075+k)).toNat:Nat):Int):=by
  intro X Y h;rw[← h,cX,cX,cX,FT.ipow,← aG,← aG,← aG,← ah,← ah,← ah]
  congr 3
  omega
 cases s
 ·simp only[ax,if_false];refine e _ _ ?_;rw[A];push_cast;rfl
 ·simp only[if_true];refine e _ _ ?_;rw[A];push_cast;rw[dO]
theorem of_c (w:World) (b:Nat) (I:Tab w) (F:b<2^64) (J:fex b<2047):
  Calls Tryz.prog 36 #[.float .f64 b] w (od w (FQ b) 0):=by
 have hex:b/2^52%2^11=fex b:=rfl;have K:b%2^52<2^52:=aW _ eX;have D:fmag b<2^53:=by unfold fmag;split<;>omega
 by_cases B:fmag b=0
 ·have h1:fex b=0:=by
   unfold fmag at B;split at B
   ·assumption
   ·omega
  have h2:b%2^52=0:=by unfold fmag at B;rwa[if_pos h1] at B
  have E:FQ b=mk2 0 0:=by
   unfold FQ mk2;rw[B];unfold frN frS;simp
  rw[E];exact q5w w b 0 0 _ (fun A _=>qk b A F (hex.trans h1) h2) (fun A=>oY A 0 0 eX eX eX eX (Or.inl rfl))
 ·obtain⟨j,k,C⟩:=lI (fmag b) eX;have L:2*j+1≤fmag b:=by
   rw[C];exact Nat.le_mul_of_pos_right _ (ae k)
  have M:k<53:=by
   have:2^k≤fmag b:=by rw[C];exact Nat.le_mul_of_pos_left _ eX
   exact(aV (by omega:1<2)).1 (aD this D)
  have E:FQ b=mk2 (if FT.neg b then -(2*(j:Int)+1) else 2*(j:Int)+1) ((max (fex b) 1:Nat)-1075+k):=(q6N C).symm;rw[E];refine q5w w b _ _ _ (fun A g=>q5o b (fex b) (b%2^52) (fmag b) j k A (I.G g) F rfl rfl J rfl C) (fun A=>oY A _ _ ?_ ?_ ?_ ?_ ?_)
  ·split<;>omega
  ·split<;>omega
  ·omega
  ·omega
  ·right;split<;>omega
theorem jE {p Q:Nat} (h:Q≤2^53) (h2:2^52≤Q∨p=0):FT.v (p*2^52+Q)=Q*2^p:=by
 by_cases h3:Q<2^52
 ·have B:p=0:=by omega
  subst B;rw[bL,aK,FT.v_sub h3,cf,bV]
 ·by_cases C:Q<2^53
  ·rw[show p*2^52+Q=(p+1)*2^52+(Q-2^52) from by omega,FT.v_nor' _ _ eX eX,eh,show 2^52+(Q-2^52)=Q from by omega]
  ·have A:Q=2^53:=by omega
   subst A;rw[show p*2^52+2^53=(p+2)*2^52+0 from by omega,FT.v_nor' _ _ eX eX,show p+2-1=p+1 from by omega,bH 2 p,aP,show (2:Nat)^53=2^52*2 from rfl]
   ac_rfl
theorem j0 {A B:Nat} (C:A≠0) (D:B≠0) {P:Int} (F:P=fM A B):
  upP A P<2^53*loP B P∧(P= -1074∨2^52*loP B P≤upP A P):=by
 have I:P=max (expo A B-52) (-1074):=F;have J:=lz C D ((-P).toNat+(-expo A B).toNat) eX;have K:=jz C D ((-P).toNat+(-expo A B).toNat) eX;generalize expo A B=x at *;unfold upP loP;constructor
 ·have h1:((((-P).toNat+(-x).toNat:Nat):Int)+(x+1)).toNat≤P.toNat+53+(-x).toNat:=by omega
  have h2:=aj J (aB B (ao (by omega:0<2) h1));rw[ah,ah 2 _ (-x).toNat,← ar,← ar] at h2;have h3:=bJ h2;rw[ah] at h3
  calc _<_:=h3
   _=_:=by ac_rfl
 ·by_cases E:P= -1074
  ·exact Or.inl E
  ·refine Or.inr ?_;have h1:P.toNat+52+(-x).toNat≤((((-P).toNat+(-x).toNat:Nat):Int)+x).toNat:=by omega
   have h2:=bt (aB B (ao (by omega:0<2) h1)) K;rw[ah 2 (-P).toNat,ah 2 _ (-x).toNat,← ar,← ar] at h2;have h3:=eI h2 (ae _);rw[ah] at h3
   calc _=_:=by ac_rfl
    _≤_:=h3
theorem q1t {R D:Nat} (h:ja R D=0):R=0:=by
 unfold ja at h;split at h
 ·assumption
 ·split at h
  ·omega
  ·split at h<;>omega
/-- Where a ratio lies among the floats. -/
theorem iO {A B:Nat} (N:A≠0) (I:B≠0):
  tV A B<2047*2^52∧FT.v (tV A B)*B≤A*2^1074∧(lV A B=0→FT.v (tV A B)*B=A*2^1074)∧(tV A B+1<2047*2^52→A*2^1074≤FT.v (tV A B+1)*B):=by
 obtain⟨P,E⟩:∃ P,P=fM A B:=⟨_,rfl⟩;have Y: -1074≤P:=by rw[E];unfold fM;omega
 unfold tV lV;rw[← E];by_cases C:971<P
 ·rw[if_pos C,if_pos C];refine⟨by omega,?_,fun h=>by omega,fun h=>by omega⟩;have d:=jz N I 1074 (by have:P=max (expo A B-52) (-1074):=E;omega);obtain⟨n,k⟩:∃ n:Nat,n=2045:=⟨_,rfl⟩;have c:53+n≤(((1074:Nat):Int)+expo A B).toNat:=by have:P=max (expo A B-52) (-1074):=E;omega
  have h1:FT.v (2047*2^52-1)≤2^(((1074:Nat):Int)+expo A B).toNat:=by
   rw[show 2047*2^52-1=2046*2^52+(2^52-1) from rfl,FT.v_nor' _ _ eX eX];refine bt ?_ (ao (by omega:0<2) c);rw[show 2046-1=n from by omega,ah];exact au _ eX
  refine bt (au B h1) ?_;rw[aJ];exact d
 ·rw[if_neg C,if_neg C];obtain⟨O,R⟩:=j0 N I E;have J:0<loP B P:=aM (cy I) (ae _);have F:upP A P/loP B P<2^53:=(aO J).2 O;have K:2^52≤upP A P/loP B P∨(P+1074).toNat=0:=by
   rcases R with h|h
   ·exact Or.inr eX
   ·exact Or.inl ((aZ J).2 h)
  have Z:=cu (upP A P) (loP B P);have j:=aW (upP A P) J;have hv:FT.v ((P+1074).toNat*2^52+upP A P/loP B P)=upP A P/loP B P*2^(P+1074).toNat:=jE (dc F) K;have M:FT.v ((P+1074).toNat*2^52+upP A P/loP B P+1)=(upP A P/loP B P+1)*2^(P+1074).toNat:=by
   rw[cM];exact jE F eX
  rw[hv,M];have D:∀ X:Nat,X*2^(P+1074).toNat*B=X*loP B P*2^(1074-(-P).toNat):=fun X=>by
   unfold loP;rw[show (P+1074).toNat=P.toNat+(1074-(-P).toNat) from by omega,ah]
   ac_rfl
  have L:A*2^1074=upP A P*2^(1074-(-P).toNat):=by
   unfold upP;rw[ar,← ah,show (-P).toNat+(1074-(-P).toNat)=1074 from by omega]
  rw[D,D,L];generalize 2^(1074-(-P).toNat)=S;have i:upP A P/loP B P*loP B P=loP B P*(upP A P/loP B P):=aJ _ _;refine⟨?_,au _ eX,fun h=> ?_,fun _=>au _ (by rw[aL,aT];omega)⟩
  ·have h3:(P+1074).toNat≤2045:=by omega
   generalize upP A P/loP B P=Q at *;generalize (P+1074).toNat=p at *;omega
  ·have U:=q1t h;rw[U] at Z;have W:upP A P/loP B P*loP B P=upP A P:=by omega
   rw[W]
/-- A finite float as a ratio. -/
theorem fq_v (s:Bool) {V:Nat} (h:V<2047*2^52):FQ (FT.wrd s V)=mkRat (if s then -(FT.v V:Int) else FT.v V) (2^1074)∧fex (FT.wrd s V)<2047:=by
 have A:fex (FT.wrd s V)=V/2^52:=by
  unfold fex FT.wrd;cases s<;>simp only[if_true,ax,if_false]<;>omega
 have B:FT.wrd s V%2^52=V%2^52:=by
  unfold FT.wrd;cases s<;>simp only[if_true,ax,if_false]<;>omega
 have C:FT.neg (FT.wrd s V)=s:=by
  unfold FT.neg FT.wrd;cases s
  ·simp only[ax,if_false,beq_eq_false_iff_ne,ne_eq];omega
  ·simp only[if_true,beq_iff_eq];omega
 refine⟨?_,by rw[A];omega⟩;have D:fmag (FT.wrd s V)*2^(max (V/2^52) 1-1)=FT.v V:=by
  unfold fmag;rw[A,B];by_cases h1:V<2^52
  ·rw[FT.v_sub h1,if_pos eX,show max (V/2^52) 1-1=0 from by omega,cf,bV];omega
  ·rw[FT.v_nor h1,if_neg eX,show max (V/2^52) 1=V/2^52 from by omega]
 unfold FQ;rw[A,C];rw[← D];clear D A B C;obtain⟨E,F⟩:∃ E:Nat,E=1074:=⟨_,rfl⟩;rw[← F];generalize fmag (FT.wrd s V)=m;generalize V/2^52=x;unfold frN frD frS;rw[ev (by have:=ae (1075-max x 1);omega) (by have:=ae E;omega)];have k:∀ z:Int,z*2^(max x 1-1075)*((2^E:Nat):Int)=z*((2^(max x 1-1):Nat):Int)*((2^(1075-max x 1):Nat):Int):=fun z=>by
  rw[cX,cX];refine congrArg (z*·) ?_;rw[FT.ipow,← aG,← aG,← ah,← ah,show max x 1-1075+E=max x 1-1+(1075-max x 1) from by omega]
 cases s
 ·simp only[ax,if_false];rw[aG];exact k (m:Int)
 ·simp only[if_true];rw[aG,← dO];exact k (-(m:Int))
theorem q5O {x q:Rat} {z:Int} {D:Nat} (B:0<D) (h:x=mkRat z D) (C:z*q.den≤q.num*D):(x.num*q.den-q.num*x.den).sign≤0:=by
 have h1:=mk_cross B h;have h2:(x.num*q.den-q.num*x.den)*(D:Int)≤0:=by
  have h3:(x.num*q.den-q.num*x.den)*(D:Int)=x.den*(z*q.den-q.num*D):=by
   rw[cO,dW,show x.num*(q.den:Int)*D=x.num*D*q.den from by ac_rfl,← h1]
   congr 1<;>ac_rfl
  rw[h3];exact Int.mul_nonpos_of_nonneg_of_nonpos eX eX
 have A:¬ 0<x.num*q.den-q.num*x.den:=fun h6=>by
  have:=Int.mul_pos h6 (show (0:Int)<D by omega);omega
 rcases cx (x.num*q.den-q.num*x.den) 0 with h6|h6|h6
 ·rw[dd h6];omega
 ·rw[h6];decide
 ·exact absurd h6 A
theorem q5N {x q:Rat} {z:Int} {D:Nat} (B:0<D) (h:x=mkRat z D) (C:q.num*D≤z*q.den):0≤(x.num*q.den-q.num*x.den).sign:=by
 have h1:=mk_cross B h;have h2:0≤(x.num*q.den-q.num*x.den)*(D:Int):=by
  have h3:(x.num*q.den-q.num*x.den)*(D:Int)=x.den*(z*q.den-q.num*D):=by
   rw[cO,dW,show x.num*(q.den:Int)*D=x.num*D*q.den from by ac_rfl,← h1]
   congr 1<;>ac_rfl
  rw[h3];exact dM eX eX
 have A:¬ x.num*q.den-q.num*x.den<0:=fun h6=>by
  have:=Int.mul_neg_of_neg_of_pos h6 (show (0:Int)<D by omega);omega
 rcases cx (x.num*q.den-q.num*x.den) 0 with h6|h6|h6
 ·exact absurd h6 A
 ·rw[h6];decide
 ·rw[bg h6];omega
theorem ki (s:Bool) {V:Nat} (h:V≤2047*2^52):FT.nan (FT.wrd s V)=false:=by
 unfold FT.nan;rw[FT.wrd_rung s V eX];exact decide_eq_false (by unfold FT.infR;omega)
/-- The place of a number's float that is rounded so. -/
theorem ry (m:Int) (s:Bool) {A B:Nat} (C:A≠0) (D:B≠0):rdV m s A B≤2047*2^52:=by
 have:=(iO C D).1;unfold rdV;split<;>omega
theorem q4V (m:Int) (s:Bool) (A B:Nat):rdV m s A B=tV A B∨(rdV m s A B=tV A B+1∧lV A B≠0):=by
 unfold rdV;split
 ·rename_i h;exact Or.inr ⟨rfl,h.1⟩
 ·exact Or.inl rfl
theorem mM (s:Bool) (A B:Nat):rdV 2 s A B=if lV A B≠0∧s=true then tV A B+1 else tV A B:=by
 unfold rdV onw;simp only[show ((2:Int)=1)=False from by simp,if_false,if_true];split<;>rfl
theorem q3p (s:Bool) (A B:Nat):rdV 3 s A B=if lV A B≠0∧s=false then tV A B+1 else tV A B:=by
 unfold rdV onw;simp only[show ((3:Int)=1)=False from by simp,show ((3:Int)=2)=False from by simp,if_false,if_true,eo];split<;>rfl
theorem q5B (s:Bool) (A B:Nat):rdV 4 s A B=tV A B:=by
 unfold rdV onw;simp only[show ((4:Int)=1)=False from by simp,show ((4:Int)=2)=False from by simp,show ((4:Int)=3)=False from by simp,if_false,ax,and_false,aP]
theorem q4n {q:Rat} (L:q≠0) (h:rdV 2 (decide (q.num<0)) q.num.natAbs q.den<2047*2^52):
  ((FQ (FT.wrd (decide (q.num<0)) (rdV 2 (decide (q.num<0)) q.num.natAbs q.den))).num*q.den-q.num*(FQ (FT.wrd (decide (q.num<0)) (rdV 2 (decide (q.num<0)) q.num.natAbs q.den))).den).sign≤0:=by
 have M:q.num.natAbs≠0:=fun h1=>L (cI.1 eX);obtain⟨t1,t2,t3,t4⟩:=iO M q.den_nz;obtain⟨n,I⟩:∃ n:Nat,n=1074:=⟨_,rfl⟩;obtain⟨E,B⟩:∃ E:Nat,E=2^n:=⟨_,rfl⟩;have C:0<E:=by rw[B];exact ae _
 have D:=(fq_v (decide (q.num<0)) h).1;rw[← I,← B] at D t2 t3 t4;refine q5O C D ?_;clear D B I;rw[mM] at h ⊢;by_cases J:q.num<0
 ·rw[decide_eq_true J] at h ⊢;rw[if_pos rfl];have k:∀ V:Nat,q.num.natAbs*E≤V*q.den→ -(V:Int)*q.den≤q.num*E:=fun V N=>by
   have h1:((q.num.natAbs*E:Nat):Int)≤((V*q.den:Nat):Int):=by omega
   rw[aG,aG,show ((q.num.natAbs:Nat):Int)= -q.num from by omega,dO] at h1;rw[dO];omega
  refine k _ ?_;split at h
  ·rename_i A
   rw[if_pos A];exact t4 h
  ·rename_i A
   rw[if_neg A];have F:lV q.num.natAbs q.den=0:=by
    by_cases K:lV q.num.natAbs q.den=0
    ·exact K
    ·exact absurd ⟨K,rfl⟩ A
   exact Nat.le_of_eq (t3 F).symm
 ·rw[decide_eq_false J];simp only[ax,and_false,if_false];have h1:((FT.v (tV q.num.natAbs q.den)*q.den:Nat):Int)≤((q.num.natAbs*E:Nat):Int):=by omega
  rw[aG,aG,show ((q.num.natAbs:Nat):Int)=q.num from by omega] at h1;exact h1
theorem q72 {q:Rat} (L:q≠0) (h:rdV 3 (decide (q.num<0)) q.num.natAbs q.den<2047*2^52):
  0≤((FQ (FT.wrd (decide (q.num<0)) (rdV 3 (decide (q.num<0)) q.num.natAbs q.den))).num*q.den-q.num*(FQ (FT.wrd (decide (q.num<0)) (rdV 3 (decide (q.num<0)) q.num.natAbs q.den))).den).sign:=by
 have M:q.num.natAbs≠0:=fun h1=>L (cI.1 eX);obtain⟨t1,t2,t3,t4⟩:=iO M q.den_nz;obtain⟨n,I⟩:∃ n:Nat,n=1074:=⟨_,rfl⟩;obtain⟨E,B⟩:∃ E:Nat,E=2^n:=⟨_,rfl⟩;have C:0<E:=by rw[B];exact ae _
 have D:=(fq_v (decide (q.num<0)) h).1;rw[← I,← B] at D t2 t3 t4;refine q5N C D ?_;clear D B I;rw[q3p] at h ⊢;by_cases J:q.num<0
 ·rw[decide_eq_true J];simp only[Bool.true_eq_false,and_false,if_false,if_true];have h1:((FT.v (tV q.num.natAbs q.den)*q.den:Nat):Int)≤((q.num.natAbs*E:Nat):Int):=by omega
  rw[aG,aG,show ((q.num.natAbs:Nat):Int)= -q.num from by omega,dO] at h1;rw[dO];omega
 ·rw[decide_eq_false J] at h ⊢;rw[if_neg (show ¬ (false=true) from by simp)];have k:∀ V:Nat,q.num.natAbs*E≤V*q.den→q.num*E≤(V:Int)*q.den:=fun V N=>by
   have h1:((q.num.natAbs*E:Nat):Int)≤((V*q.den:Nat):Int):=by omega
   rw[aG,aG,show ((q.num.natAbs:Nat):Int)=q.num from by omega] at h1;exact h1
  refine k _ ?_;split at h
  ·rename_i A
   rw[if_pos A];exact t4 h
  ·rename_i A
   rw[if_neg A];have F:lV q.num.natAbs q.den=0:=by
    by_cases K:lV q.num.natAbs q.den=0
    ·exact K
    ·exact absurd ⟨K,rfl⟩ A
   exact Nat.le_of_eq (t3 F).symm
end Go.Proofs.YtohcneeihdkfgaaGreatDoor.EN
namespace Go.Proofs.YtohcneeihdkfgaaGreatDoor
open Go.RowKit
/-- A ratio of whole numbers in lowest terms. -/
theorem qI {sa A:Int} (h:A≠0):((sa:Rat)/(A:Rat))=mkRat (if A<0 then -sa else sa) A.natAbs:=by
 rw[Rat.mkRat_eq_div];by_cases B:A<0
 ·rw[if_pos B];have e:((A.natAbs:Nat):Rat)= -((A:Int):Rat):=by
   have:((A.natAbs:Nat):Int)= -A:=by omega
   show (((A.natAbs:Nat):Int):Rat)=_;rw[this];rfl
  rw[e];rw[Rat.div_def,Rat.div_def];have E:((A:Int):Rat)≠0:=by intro C;have:=congrArg Rat.num C;exact h this
  have D:(-((A:Int):Rat))⁻¹ = -(((A:Int):Rat)⁻¹):=by
   refine Rat.inv_eq_of_mul_eq_one ?_;rw[Rat.neg_mul,Rat.mul_neg,Rat.neg_neg,Rat.mul_inv_cancel _ E]
  rw[D,Rat.mul_neg];show _= -((-(sa:Rat))*_);rw[Rat.neg_mul,Rat.neg_neg]
 ·rw[if_neg B];have e:((A.natAbs:Nat):Rat)=((A:Int):Rat):=by
   have:((A.natAbs:Nat):Int)=A:=by omega
   show (((A.natAbs:Nat):Int):Rat)=_;rw[this]
  rw[e]
theorem jO {z:Int} {d:Nat} (A:0<d) {q:Rat} (h:q=mkRat z d):q.num=Int.tdiv z (Nat.gcd z.natAbs d:Nat)∧q.den=d/Nat.gcd z.natAbs d:=by
 have F:0<Nat.gcd z.natAbs d:=cL _ A;obtain⟨a,J⟩:=bW z.natAbs d;have I:z=Int.tdiv z (Nat.gcd z.natAbs d:Nat)*((Nat.gcd z.natAbs d:Nat):Int):=by
  rw[Int.tdiv_mul_cancel (eK.2 (cj _ _))]
 have D:d/Nat.gcd z.natAbs d*Nat.gcd z.natAbs d=d:=Nat.div_mul_cancel (bW _ _);have C:0<d/Nat.gcd z.natAbs d:=ej (Nat.le_of_dvd A (bW _ _)) F;have B:(Int.tdiv z (Nat.gcd z.natAbs d:Nat)).natAbs=z.natAbs/Nat.gcd z.natAbs d:=by
  rw[Int.natAbs_tdiv,aA];rfl
 refine EN.rat_low C (by rw[B];exact Nat.gcd_div_gcd_div_gcd_of_pos_right A) ?_;have h1:=EN.mk_cross A h;have E:((Nat.gcd z.natAbs d:Nat):Int)≠0:=by omega
 refine Int.eq_of_mul_eq_mul_right E ?_;rw[show Int.tdiv z (Nat.gcd z.natAbs d:Nat)*(q.den:Int)*((Nat.gcd z.natAbs d:Nat):Int)=Int.tdiv z (Nat.gcd z.natAbs d:Nat)*((Nat.gcd z.natAbs d:Nat):Int)*q.den from by ac_rfl,← I,h1,cX,← aG,D]
end Go.Proofs.YtohcneeihdkfgaaGreatDoor
namespace Go.Proofs.YtohcneeihdkfgaaGreatDoor.EN
open Go.RowKit
theorem kD {q:Rat} {z:Int} {d K:Nat} (C:0<d) (h:q=mkRat z d) (h1:z.natAbs<2^(64*K)) (h2:d<2^(64*K)):QB q K:=by
 obtain⟨A,B⟩:=jO C h;refine⟨?_,?_⟩
 ·rw[A,Int.natAbs_tdiv,aA];exact aD (aX _ _) h1
 ·rw[B];exact aD (aX _ _) h2
theorem iU {x y:Rat} {K L:Nat} (A:QB x K) (B:QB y L):QB (x*y) (K+L):=by
 refine kD (z:=x.num*y.num) (d:=x.den*y.den) (aM x.den_pos y.den_pos) ?_ ?_ (gP A.2 B.2)
 ·rw[← Rat.mkRat_mul_mkRat,Rat.mkRat_self,Rat.mkRat_self]
 ·rw[cn];exact gP A.1 B.1
theorem q5A {b:Nat} (h:fex b<2047):QB (FQ b) 80:=by
 have B:fmag b<2^53:=by unfold fmag;split<;>omega
 obtain⟨K,A⟩:∃ K:Nat,K=80:=⟨_,rfl⟩;obtain⟨M,C⟩:∃ M:Nat,M=5000:=⟨_,rfl⟩;rw[← A];refine kD (pL _) rfl ?_ ?_
 ·rw[q0D];have h1:2^(max (fex b) 1-1075)≤2^M:=ao eX eX;have h2:2^53*2^M<2^(64*K):=by rw[← ah];exact bk eX eX
  exact aD (bF (dc B) h1) h2
 ·unfold frD;exact bk eX eX
end Go.Proofs.YtohcneeihdkfgaaGreatDoor.EN
namespace Go.Proofs.YtohcneeihdkfgaaGreatDoor
open Go.ChangeShapes Go.WideShapes Go.ChangeAt Go.RowKit
open BN
theorem Rec.f4 {w:World} {b:Nat} {x y z u:Value} (h:Rec w b [x,y,z,u]):w.cell? ⟨b,0,none⟩=some x∧w.cell? ⟨b,1,none⟩=some y∧w.cell? ⟨b,2,none⟩=some z∧w.cell? ⟨b,3,none⟩=some u∧w.frozen? ⟨b,0,none⟩=false∧w.frozen? ⟨b,1,none⟩=false∧w.frozen? ⟨b,2,none⟩=false∧w.frozen? ⟨b,3,none⟩=false:=
 ⟨h.cell 0,h.cell 1,h.cell 2,h.cell 3,h.frozen 0,h.frozen 1,h.frozen 2,h.frozen 3⟩
theorem oI {w:World} {v:Value} {n b:Nat} {x y z u u1 u2 u3 u4:Value} (h:Num w v n) (r:Rec w b [x,y,z,u]) (L:∀ c∈[x,y,z,u],∀ k i,c≠ .int k i):
  Num ((((w.setCell ⟨b,0,none⟩ u1).setCell ⟨b,1,none⟩ u2).setCell ⟨b,2,none⟩ u3).setCell ⟨b,3,none⟩ u4) v n:=by
 obtain⟨m,E,D,hv⟩:=h;refine⟨m,?_,D,hv⟩;rcases Sl.cases E with ⟨rfl,a,c,rfl⟩|⟨F,I,o,c,rfl,C,hb,K⟩
 ·exact⟨E.1,Or.inl ⟨rfl,a,c,rfl⟩⟩
 ·have A:I≠b:=by
   intro e;subst e;have J:=K 0 (cq.2 F);rw[r.cell] at J;exact L _ (da J) _ _ rfl
  refine⟨E.1,Or.inr ⟨I,o,c,rfl,C,by simpa [World.setCell] using hb,fun i hi=> ?_⟩⟩;rw[World.cell?_setCell_other _ _ _ _ (by intro e;injection e with B;exact A B.symm),World.cell?_setCell_other _ _ _ _ (by intro e;injection e with B;exact A B.symm),World.cell?_setCell_other _ _ _ _ (by intro e;injection e with B;exact A B.symm),World.cell?_setCell_other _ _ _ _ (by intro e;injection e with B;exact A B.symm)];exact K i hi
set_option maxRecDepth 10000 in
set_option maxHeartbeats 2000000 in
theorem kH (w:World) (C ba oa bb ob:Nat) (sa F:Int) (K:Nat) (hK:K≤300000) (o:sa.natAbs<2^(32*K)) (s:F.natAbs<2^(32*K)) (cd:F≠0) (cz:ba<w.heap.size) (di:bb<w.heap.size)
  (hz:Rec w C [.bool false,.slice none 0 0,.bool false,.slice none 0 0]) (ha:IntIs w ba oa sa) (hb:IntIs w bb ob F):
  Calls Tryz.prog 61 #[.pointer (some ⟨C,0,none⟩),.pointer (some ⟨ba,oa,none⟩),.pointer (some ⟨bb,ob,none⟩)] w (NormTo w C ((sa:Rat)/(F:Rat)).num ((sa:Rat)/(F:Rat)).den):=by
 have em:=hz.lt;have bq:Hid (∀ S p,G w S→NI w S p 0→_):=fun S p g h=>my S p 0 ba oa 0 sa K eX o h.2.1 (de g cz) h.2.2 (ha.G cz g);have bs:Hid (∀ S p,G w S→NI w S p 0→_):=fun S p g h=>my S p 0 bb ob 0 F K eX s h.2.1 (de g di) h.2.2 (hb.G di g);have HZ:Hid (Rec w C [.bool false,.slice none 0 0,.bool false,.slice none 0 0]):=hz;have an:Hid (sa.natAbs<2^(32*K)):=o;have ap:Hid (F.natAbs<2^(32*K)):=s;have d:Hid (F≠0):=cd;obtain⟨nb,vb,b',⟨-,c2,-,-⟩,fp,O,-⟩:=hb;obtain⟨m,hm,ep,ai⟩:=fp;obtain⟨pb,cb,rfl,-,-⟩:=fF hm;have dq:m.length≠0:=by
  intro h0;rw[aN h0] at ai;have:b'=0:=ai.symm;rw[this] at O;unfold sg at O;cases nb<;>simp at O<;>omega
 have fv:((m.length:Int)==0)=false:=by simp;intro h;exact dq (by rw[h];rfl)
 generalize m.length=j at *;clear hz ha hm ep ai O dq o s cd;go_enter Tryz.func61,Tryz.ntmps61;go_wp2_with fail;have L:=ei (ad w) 43;have J:=(ad w).alloc (.cells #[.bool false,.slice none 0 0] 43);refine Calls.mono (P:=Tryz.prog) (bq.out _ _ J L) ?_;intro e w3 hs;obtain⟨rfl,y,af,-,-⟩:=bj J L hs;clear hs L J c2;have he:C<w.heap.size:=em;generalize hk:w.heap.size=pn at *;go_wp2_with fail;have L:=ei y 43;have cr:=af.G ((ad w3).alloc (.cells #[.bool false,.slice none 0 0] 43));have J:=ab y ((ad w3).alloc (.cells #[.bool false,.slice none 0 0] 43));have fb:w3.heap.size≠pn:=by have:=af.2.1;omega
 refine Calls.mono (P:=Tryz.prog) (bs.out _ _ J L) ?_;intro e w4 hs;obtain⟨rfl,cl,ci,-,dl⟩:=bj J L hs;have cs:=dl pn sa fb.symm cr;clear hs L J dl cr af y bq bs;generalize w3.heap.size=pd at *;have hj:=ci.1;have gm:=cs.1;obtain⟨-,hd,n1,v1,a1,⟨c1,c2,-,-⟩,al,h1,bw⟩:=cs;obtain⟨-,gg,R,v2,a2,⟨c3,c4,-,-⟩,am,h2,ca⟩:=ci;have M:=aw HZ.out cl;have N:=Rec.f4 M;have z1:=N.1;have z2:=N.2.1;have z3:=N.2.2.1;have z4:=N.2.2.2.1;have f1:=N.2.2.2.2.1;have f2:=N.2.2.2.2.2.1;have f3:=N.2.2.2.2.2.2.1;have f4:=N.2.2.2.2.2.2.2;obtain⟨X,r1,t1,rfl⟩:=kz al;obtain⟨Y,r2,t2,rfl⟩:=kz am;simp only[aK] at c2 c4;have hh:¬ C=pn:=by omega
 have hg:¬ C=pd:=by omega
 have gd:¬ pn=C:=by omega
 have ga:¬ pd=C:=by omega
 have ag:∀ c∈[Value.bool false,.slice none 0 0,.bool false,.slice none 0 0],∀ k i,c≠ .int k i:=by
  intro c hc k i;simp at hc;rcases hc with rfl|rfl|rfl|rfl<;>(intro e;cases e)
 have bu:=hi9 (oI (u1:= .bool n1) (u2:= .slice X r1 t1) (u3:= .bool R) (u4:= .slice Y r2 t2) al M ag);have bv:=hi9 (oI (u1:= .bool n1) (u2:= .slice X r1 t1) (u3:= .bool R) (u4:= .slice Y r2 t2) am M ag);have bn:Hid (Rec ((((w4.setCell ⟨C,0,none⟩ (.bool n1)).setCell ⟨C,1,none⟩ (.slice X r1 t1)).setCell ⟨C,2,none⟩ (.bool R)).setCell ⟨C,3,none⟩ (.slice Y r2 t2)) C [.bool n1,.slice X r1 t1,.bool R,.slice Y r2 t2]):=(((M.set 0 _).set 1 _).set 2 _).set 3 _;have dr:Hid (GX C w ((((w4.setCell ⟨C,0,none⟩ (.bool n1)).setCell ⟨C,1,none⟩ (.slice X r1 t1)).setCell ⟨C,2,none⟩ (.bool R)).setCell ⟨C,3,none⟩ (.slice Y r2 t2))):=GX.set (GX.set (GX.set (GX.set (GX.of cl) _) _) _) _;have I:=Rec.f4 bn.out;have bi:Hid (IntIs ((((w4.setCell ⟨C,0,none⟩ (.bool n1)).setCell ⟨C,1,none⟩ (.slice X r1 t1)).setCell ⟨C,2,none⟩ (.bool R)).setCell ⟨C,3,none⟩ (.slice Y r2 t2)) C 0 sa):=⟨n1,_,a1,⟨I.1,I.2.1,I.2.2.2.2.1,I.2.2.2.2.2.1⟩,bu.out,h1,bw⟩;have bl:Hid (IntIs ((((w4.setCell ⟨C,0,none⟩ (.bool n1)).setCell ⟨C,1,none⟩ (.slice X r1 t1)).setCell ⟨C,2,none⟩ (.bool R)).setCell ⟨C,3,none⟩ (.slice Y r2 t2)) C 2 F):=⟨R,_,a2,⟨I.2.2.1,I.2.2.2.1,I.2.2.2.2.2.2.1,I.2.2.2.2.2.2.2⟩,bv.out,h2,ca⟩;have hq:=qI (sa:=sa) d.out;have E:=jO (by have:=d.out;omega) hq;have U:(if F<0 then -sa else sa).natAbs=sa.natAbs:=by split<;>omega
 rw[U] at E;obtain⟨P,hP⟩:∃ P,P=((sa:Rat)/(F:Rat)).num:=⟨_,rfl⟩;obtain⟨D,hD⟩:∃ D,D=((sa:Rat)/(F:Rat)).den:=⟨_,rfl⟩;rw[← hP,← hD] at E;have HN:Hid (∀ Z,C<Z.heap.size→IntIs Z C 0 sa→IntIs Z C 2 F→Calls Tryz.prog 147 #[.pointer (some ⟨C,0,none⟩)] Z (NormTo Z C P D)):=by
  intro Z k1 k2 k3;by_cases W:F<0
  ·have h:=q07 Z C sa F.natAbs K hK an.out ap.out eX k1 k2 (by rw[show -((F.natAbs:Nat):Int)=F from by omega];exact k3);rw[if_pos W] at E;rw[E.1,E.2];exact h
  ·obtain⟨n,va,A,ia,fr,ea,ez⟩:=k2;obtain⟨m2,vb,B,ib,fs,eb,fa⟩:=k3;have eu:m2=false:=by
    cases m2
    ·rfl
    ·have h1:=fa rfl;unfold sg at eb;simp at eb;omega
   subst eu;have ce:B=F.natAbs:=by unfold sg at eb;simp at eb;omega
   have cc:A=sa.natAbs:=gp ea;have h:=q2Z Z C n va vb A B K hK (by rw[cc];exact an.out) (by rw[ce];exact ap.out) (by have:=d.out;omega) ez k1 ⟨ia,fr,ib,fs⟩;rw[if_neg W] at E;rw[q0P,ea,cc,ce,← E.1,← E.2] at h;exact h
 have fh:C<((((w4.setCell ⟨C,0,none⟩ (.bool n1)).setCell ⟨C,1,none⟩ (.slice X r1 t1)).setCell ⟨C,2,none⟩ (.bool R)).setCell ⟨C,3,none⟩ (.slice Y r2 t2)).heap.size:=by
  have:C<w4.heap.size:=by omega
  simpa [World.setCell] using this
 have ee:=hi9 (HN.out _ fh bi.out bl.out);have bm:Hid (P=((sa:Rat)/(F:Rat)).num∧D=((sa:Rat)/(F:Rat)).den):=⟨hP,hD⟩;clear bw h1 h2 ca al am HZ M N I ag bu bv bn bi bl hq E U hP hD HN;go_wp2_with fail;refine Calls.mono (P:=Tryz.prog) ee.out ?_;intro e w6 hs;obtain⟨rfl,k1,k2⟩:=hs;have ec:Hid (RatIs w6 C P (D:Int)):=k2;have ds:Hid (GX C w w6):=GX.trans dr.out k1;clear k1 k2;go_wp2_with fail;go_ret;exact⟨rfl,ds.out,by rw[← bm.out.1,← bm.out.2];exact ec.out⟩
end Go.Proofs.YtohcneeihdkfgaaGreatDoor
namespace Go.Proofs.YtohcneeihdkfgaaGreatDoor.EN
open Go.ChangeShapes Go.WideShapes Go.ChangeAt Go.RowKit
/-- A new Int of the reference. -/
def NewI (w0 w:World) (v:Value) (s:Int):Prop:=∃ p,v= .pointer (some ⟨p,0,none⟩)∧w0.heap.size≤p∧p<w.heap.size∧IntIs w p 0 s
theorem NewI.G {w0 w A:World} {v:Value} {s:Int} (h:NewI w0 w v s) (g:G w A):NewI w0 A v s:=by
 obtain⟨p,e,h1,h2,h3⟩:=h;exact⟨p,e,h1,aj h2 g.size,h3.G h2 g⟩
end Go.Proofs.YtohcneeihdkfgaaGreatDoor.EN
namespace Go.Proofs.YtohcneeihdkfgaaGreatDoor
open Go.ChangeShapes Go.WideShapes Go.ChangeAt Go.RowKit
open BN
set_option maxHeartbeats 8000000 in
theorem q6g (w:World) (bz bx b2:Nat) (o ya:Int) (xb c:Nat) (k:Nat) (E:k≤100000) (dl:o.natAbs<2^(32*k)) (dq:ya.natAbs<2^(32*k)) (cb:xb<2^(32*k)) (cc:c<2^(32*k)) (fv:0<xb) (ga:0<c) (eu:ya≠0)
  (ap:bx<w.heap.size) (y:b2<w.heap.size) (hz:Rec w bz [.bool false,.slice none 0 0,.bool false,.slice none 0 0]) (hx:RatIs w bx o xb) (hy:RatIs w b2 ya c):
  Calls Tryz.prog 32 #[.pointer (some ⟨bz,0,none⟩),.pointer (some ⟨bx,0,none⟩),.pointer (some ⟨b2,0,none⟩)] w (NormTo w bz (((o*c:Int):Rat)/((xb*ya:Int):Rat)).num (((o*c:Int):Rat)/((xb*ya:Int):Rat)).den):=by
 have ce:Hid (o.natAbs<2^(32*k)):=dl;have ds:Hid (ya.natAbs<2^(32*k)):=dq;have ea:Hid ((xb:Int).natAbs<2^(32*k)):=by show (xb:Int).natAbs<2^(32*k);rw[aA];exact cb
 have ci:Hid ((c:Int).natAbs<2^(32*k)):=by show (c:Int).natAbs<2^(32*k);rw[aA];exact cc
 have ec:Hid (IntIs w bx 0 o):=hx.1;have fr:Hid (IntIs w b2 0 ya):=hy.1;have fp:Hid (IntIs w bx 2 xb):=hx.2;have em:Hid (IntIs w b2 2 c):=hy.2;have ee:Hid (RatIs w bx o xb):=hx;have cd:Hid (RatIs w b2 ya c):=hy;have fs:Hid (Rec w bz [.bool false,.slice none 0 0,.bool false,.slice none 0 0]):=hz;have ca:(xb:Int)≠0:=by omega
 have bn:(c:Int)≠0:=by omega
 have fh:Hid ((o*c).natAbs<2^(32*(2*k))):=by
  show (o*c).natAbs<2^(32*(2*k));rw[cn,aA,show 32*(2*k)=32*k+32*k from by omega,ah];exact bC dl cc
 have fa:Hid (((xb:Int)*ya).natAbs<2^(32*(2*k))):=by
  show ((xb:Int)*ya).natAbs<2^(32*(2*k));rw[cn,aA,show 32*(2*k)=32*k+32*k from by omega,ah];exact bC cb dq
 have ez:Hid ((xb:Int)*ya≠0):=Int.mul_ne_zero ca eu;clear hx hy hz dl dq cb cc fv ga eu;go_enter Tryz.func32,Tryz.ntmps32;go_wp2_with fail;refine gL 15 (G w) eZ (by first|exact(ad _).drew|exact G.drew mB) ?_;intro ep;refine eY 0 (v:= ?_) rfl eZ (fun _ _ _ h=>h) rfl ?_ ‹_› ?_;rotate_left
 ·exact mA
 try simp only[aput,List.set]
 refine eY 2 (v:= ?_) rfl eZ (fun _ _ _ h=>h) rfl ?_ ‹_› ?_;rotate_left
 ·exact mA
 try simp only[aput,List.set]
 refine eY 3 (v:= ?_) rfl eZ (fun _ _ _ h=>h) rfl ?_ ‹_› ?_;rotate_left
 ·exact mA
 try simp only[aput,List.set]
 refine eY 4 (v:= ?_) rfl eZ (fun _ _ _ h=>h) rfl ?_ ‹_› ?_;rotate_left
 ·exact mA
 try simp only[aput,List.set]
 refine eY 5 (v:= ?_) rfl eZ (fun _ _ _ h=>h) rfl ?_ ‹_› ?_;rotate_left
 ·exact mA
 try simp only[aput,List.set]
 refine eY 9 (v:= ?_) rfl eZ (fun _ _ _ h=>h) rfl ?_ ‹_› ?_;rotate_left
 ·exact mA
 try simp only[aput,List.set]
 refine eY 11 (v:= ?_) rfl eZ (fun _ _ _ h=>h) rfl ?_ ‹_› ?_;rotate_left
 ·exact mA
 try simp only[aput,List.set]
 refine eY 12 (v:= ?_) rfl eZ (fun _ _ _ h=>h) rfl ?_ ‹_› ?_;rotate_left
 ·exact mA
 try simp only[aput,List.set]
 refine eY 13 (v:= ?_) rfl eZ (fun _ _ _ h=>h) rfl ?_ ‹_› ?_;rotate_left
 ·exact mA
 try simp only[aput,List.set]
 show gE _ _ _ _ _ _ _ _ _ w.drew;have ag:=ep;generalize w.drew=w5 at *;clear ep;apply share;intro an;apply share;intro bm;apply share;intro bi;apply share;intro cs;apply share;intro cz;apply share;intro di;refine lN (i:=1) (j:=6) (l:=8) eZ rfl rfl rfl ?_ ?_ ?_
 ·skip
  intro K E;go_simp;refine E.out _ _ (Or.inr (ag.alloc _)) ?_;clear E K;have Z:=ei ag 43;have C:=(ad w5).alloc (.cells #[.bool false,.slice none 0 0] 43);have J:=ab ag C;generalize w5.heap.size=I at *;generalize w5.alloc (.cells #[.bool false,.slice none 0 0] 43)=w6 at *;have bs:Hid (NI w w6 I 0):=Z;clear Z C;refine gR (i:=6) (j:=8) eZ rfl rfl ?_ ?_
  ·skip
   intro K E;go_simp;go_wp2_with (go_at_call 73;refine eW (lx w6 b2 ya c bn (cd.out.G y J)) ?_;rintro e S ⟨rfl,W⟩);refine E.out _ _ (Or.inr (ab J W)) ?_;clear E K;have D:=ab J W;have N:Hid (NI w S I 0):=bs.out.G W;clear W J bs;refine fw (l':=#[true,true,true,true,true,true,true,false,false,true,false,true,true,true,false,false,false]) eZ ?_;revert N;revert D;revert I;revert S;exact cz.out
  ·skip
   intro K E;go_simp;refine E.out _ _ (Or.inr (J.alloc _)) ?_;clear E K;have Z:=ei J 43;have C:=(ad w6).alloc (.cells #[.bool false,.slice none 0 0] 43);have D:=ab J C;have m:=bs.out.G C;have F:w6.heap.size≠I:=by have:=bs.out.2.1;omega
   generalize w6.heap.size=L at *;generalize w6.alloc (.cells #[.bool false,.slice none 0 0] 43)=S at *;have X:Hid (NI w S L 0):=Z;have N:Hid (NI w S I 0):=m;have B:Hid (I≠L):=F.symm;have A:Hid (L≠I):=F;clear Z C J bs m F;refine fw (l':=#[true,true,true,true,true,true,false,false,true,true,false,true,true,true,false,false,false]) eZ ?_;revert B;revert A;revert X;revert N;revert D;revert L;revert I;revert S;exact cs.out
 ·skip
  intro K E;go_simp;go_wp2_with (go_at_call 73;refine eW (lx w5 b2 ya c bn (cd.out.G y ag)) ?_;rintro e w6 ⟨rfl,W⟩);refine E.out _ _ (Or.inr (ab ag W)) ?_;clear E K;have J:=ab ag W;clear W;refine gR (i:=1) (j:=8) eZ rfl rfl ?_ ?_
  ·skip
   intro K E;go_simp;refine E.out _ _ (Or.inr (J.alloc _)) ?_;clear E K;have Z:=ei J 43;have C:=(ad w6).alloc (.cells #[.bool false,.slice none 0 0] 43);have D:=ab J C;generalize w6.heap.size=I at *;generalize w6.alloc (.cells #[.bool false,.slice none 0 0] 43)=S at *;have N:Hid (NI w S I 0):=Z;clear Z C J;refine fw (l':=#[true,true,true,true,true,true,true,false,false,true,false,true,true,true,false,false,false]) eZ ?_;revert N;revert D;revert I;revert S;exact cz.out
  ·skip
   intro K E;go_simp;refine E.out _ _ (Or.inr (J.alloc _)) ?_;clear E K;have Z:=ei J 43;have C:=(ad w6).alloc (.cells #[.bool false,.slice none 0 0] 43);have D:=ab J C;generalize w6.heap.size=L at *;generalize w6.alloc (.cells #[.bool false,.slice none 0 0] 43)=S at *;have X:Hid (NI w S L 0):=Z;clear Z C J;refine fw (l':=#[true,false,true,true,true,true,true,false,true,true,false,true,true,true,false,false,false]) eZ ?_;revert X;revert D;revert L;revert S;exact di.out
 ·skip
  intro K E;go_simp;refine E.out _ _ (Or.inr (ag.alloc _)) ?_;clear E K;have Z:=ei ag 43;have C:=(ad w5).alloc (.cells #[.bool false,.slice none 0 0] 43);have J:=ab ag C;generalize w5.heap.size=L at *;generalize w5.alloc (.cells #[.bool false,.slice none 0 0] 43)=w6 at *;have bu:Hid (NI w w6 L 0):=Z;clear Z C;refine gR (i:=1) (j:=6) eZ rfl rfl ?_ ?_
  ·skip
   intro K E;go_simp;refine E.out _ _ (Or.inr (J.alloc _)) ?_;clear E K;have Z:=ei J 43;have C:=(ad w6).alloc (.cells #[.bool false,.slice none 0 0] 43);have D:=ab J C;have bv:=bu.out.G C;have U:w6.heap.size≠L:=by have:=bu.out.2.1;omega
   generalize w6.heap.size=I at *;generalize w6.alloc (.cells #[.bool false,.slice none 0 0] 43)=S at *;have N:Hid (NI w S I 0):=Z;have X:Hid (NI w S L 0):=bv;have A:Hid (L≠I):=U.symm;have B:Hid (I≠L):=U;clear Z C J bu bv U;refine fw (l':=#[true,true,true,true,true,true,false,false,true,true,false,true,true,true,false,false,false]) eZ ?_;revert B;revert A;revert X;revert N;revert D;revert L;revert I;revert S;exact cs.out
  ·skip
   intro K E;go_simp;go_wp2_with (go_at_call 73;refine eW (lx w6 b2 ya c bn (cd.out.G y J)) ?_;rintro e S ⟨rfl,W⟩);refine E.out _ _ (Or.inr (ab J W)) ?_;clear E K;have D:=ab J W;have X:Hid (NI w S L 0):=bu.out.G W;clear W J bu;refine fw (l':=#[true,false,true,true,true,true,true,false,true,true,false,true,true,true,false,false,false]) eZ ?_;revert X;revert D;revert L;revert S;exact di.out
 refine Later.mk ?_;intro S L D X;refine fc (i:=1) eZ rfl ?_;intro K E;go_simp;refine E.out _ _ (Or.inr (D.alloc _)) ?_;clear E K;have Z:=ei D 43;have C:=(ad S).alloc (.cells #[.bool false,.slice none 0 0] 43);have M:=ab D C;have bv:=X.out.G C;have U:S.heap.size≠L:=by have:=X.out.2.1;omega
 generalize S.heap.size=I at *;generalize S.alloc (.cells #[.bool false,.slice none 0 0] 43)=w8 at *;have O:Hid (NI w w8 I 0):=Z;have am:Hid (NI w w8 L 0):=bv;have A:Hid (L≠I):=U.symm;have B:Hid (I≠L):=U;clear Z C D X bv U;refine fw (l':=#[true,true,true,true,true,true,true,false,true,true,false,true,true,true,false,false,false]) eZ ?_;revert B;revert A;revert am;revert O;revert M;revert L;revert I;revert w8;exact bi.out;refine Later.mk ?_;intro S I D N;refine gR (i:=7) (j:=8) eZ rfl rfl ?_ ?_
 ·skip
  intro K E;go_simp;have al:=hi9 (jr S I 0 bx 0 b2 2 0 o c k eX ce.out ci.out N.out.2.1 (de D ap) (de D y) N.out.2.2 (df ec.out ap D) (df em.out y D));go_wp2_with (go_at_call 72;refine eW al.out ?_;intro e w8 hx;obtain⟨rfl,M,hl,-,bl⟩:=bj D N.out hx);have O:Hid (NI w w8 I (o*(c:Int))):=hl;refine E.out _ _ (Or.inr M) ?_;clear E K hx hl bl al D N;refine gR (i:=8) (j:=10) eZ rfl rfl ?_ ?_
  ·skip
   intro K E;go_simp;refine E.out _ _ (Or.inr (M.alloc _)) ?_;clear E K;have Z:=ei M 43;have C:=(ad w8).alloc (.cells #[.bool false,.slice none 0 0] 43);have Y:=ab M C;have m:=O.out.G C;have F:w8.heap.size≠I:=by have:=O.out.2.1;omega
   generalize w8.heap.size=L at *;generalize w8.alloc (.cells #[.bool false,.slice none 0 0] 43)=w9 at *;have bq:Hid (NI w w9 L 0):=Z;have s:Hid (NI w w9 I (o*(c:Int))):=m;have B:Hid (I≠L):=F.symm;have A:Hid (L≠I):=F;clear Z C M O m F;refine fw (l':=#[true,true,true,true,true,true,true,true,true,true,false,true,true,true,false,false,false]) eZ ?_;revert B;revert A;revert bq;revert s;revert Y;revert L;revert I;revert w9;exact bm.out
  ·skip
   intro K E;go_simp;go_wp2_with (go_at_call 73;refine eW (lx w8 bx o xb ca (ee.out.G ap M)) ?_;rintro e w9 ⟨rfl,W⟩);refine E.out _ _ (Or.inr (ab M W)) ?_;clear E K;have Y:=ab M W;have s:Hid (NI w w9 I (o*(c:Int))):=O.out.G W;clear W M O;refine fc (i:=8) eZ rfl ?_;intro K E;go_simp;refine E.out _ _ (Or.inr (Y.alloc _)) ?_;clear E K;have Z:=ei Y 43;have C:=(ad w9).alloc (.cells #[.bool false,.slice none 0 0] 43);have R:=ab Y C;have m:=s.out.G C;have F:w9.heap.size≠I:=by have:=s.out.2.1;omega
   generalize w9.heap.size=L at *;generalize w9.alloc (.cells #[.bool false,.slice none 0 0] 43)=ai at *;have d:Hid (NI w ai L 0):=Z;have af:Hid (NI w ai I (o*(c:Int))):=m;have B:Hid (I≠L):=F.symm;have A:Hid (L≠I):=F;clear Z C Y s m F;refine fw (l':=#[true,true,true,true,true,true,true,true,true,true,true,true,true,true,false,false,false]) eZ ?_;revert B;revert A;revert d;revert af;revert R;revert L;revert I;revert ai;exact an.out
 ·skip
  intro K E;go_simp;refine E.out _ _ (Or.inr (D.alloc _)) ?_;clear E K;have Z:=ei D 43;have C:=(ad S).alloc (.cells #[.bool false,.slice none 0 0] 43);have M:=ab D C;have m:=N.out.G C;have F:S.heap.size≠I:=by have:=N.out.2.1;omega
  generalize S.heap.size=L at *;generalize S.alloc (.cells #[.bool false,.slice none 0 0] 43)=w8 at *;have am:Hid (NI w w8 L 0):=Z;have O:Hid (NI w w8 I 0):=m;have B:Hid (I≠L):=F.symm;have A:Hid (L≠I):=F;clear Z C D N m F;refine fw (l':=#[true,true,true,true,true,true,true,false,true,true,false,true,true,true,false,false,false]) eZ ?_;revert B;revert A;revert am;revert O;revert M;revert L;revert I;revert w8;exact bi.out
 refine Later.mk ?_;intro S I L D N X A B;refine fc (i:=6) eZ rfl ?_;intro K E;go_simp;go_wp2_with (go_at_call 73;refine eW (lx S b2 ya c bn (cd.out.G y D)) ?_;rintro e w8 ⟨rfl,W⟩);refine E.out _ _ (Or.inr (ab D W)) ?_;clear E K;have M:=ab D W;have O:Hid (NI w w8 I 0):=N.out.G W;have am:Hid (NI w w8 L 0):=X.out.G W;clear W D N X;refine fw (l':=#[true,true,true,true,true,true,true,false,true,true,false,true,true,true,false,false,false]) eZ ?_;revert B;revert A;revert am;revert O;revert M;revert L;revert I;revert w8;exact bi.out;refine Later.mk ?_;intro w8 I L M O am A B;refine fc (i:=7) eZ rfl ?_;intro K E;go_simp;have al:=hi9 (jr w8 I 0 bx 0 b2 2 0 o c k eX ce.out ci.out O.out.2.1 (de M ap) (de M y) O.out.2.2 (df ec.out ap M) (df em.out y M));go_wp2_with (go_at_call 72;refine eW al.out ?_;intro e w9 hx;obtain⟨rfl,Y,hl,-,bl⟩:=bj M O.out hx);have s:Hid (NI w w9 I (o*(c:Int))):=hl;have bq:Hid (NI w w9 L 0):=bl L 0 A.out am.out;refine E.out _ _ (Or.inr Y) ?_;clear E K hx hl bl al M O am;refine fw (l':=#[true,true,true,true,true,true,true,true,true,true,false,true,true,true,false,false,false]) eZ ?_;revert B;revert A;revert bq;revert s;revert Y;revert L;revert I;revert w9;exact bm.out;refine Later.mk ?_;intro w9 I L Y s bq A B;refine fc (i:=10) eZ rfl ?_;intro K E;go_simp;go_wp2_with (go_at_call 73;refine eW (lx w9 bx o xb ca (ee.out.G ap Y)) ?_;rintro e ai ⟨rfl,W⟩);refine E.out _ _ (Or.inr (ab Y W)) ?_;clear E K;have R:=ab Y W;have af:Hid (NI w ai I (o*(c:Int))):=s.out.G W
 have d:Hid (NI w ai L 0):=bq.out.G W;clear W Y s bq;refine fw (l':=#[true,true,true,true,true,true,true,true,true,true,true,true,true,true,false,false,false]) eZ ?_;revert B;revert A;revert d;revert af;revert R;revert L;revert I;revert ai;exact an.out;refine Later.mk ?_;intro ai I L R af d A B;refine fc (i:=14) eZ rfl ?_;intro K E;go_simp;have al:=hi9 (jr ai L 0 bx 2 b2 0 0 xb ya k eX ea.out ds.out d.out.2.1 (de R ap) (de R y) d.out.2.2 (df fp.out ap R) (df fr.out y R));go_wp2_with (go_at_call 72;refine eW al.out ?_;intro e dr hx;obtain⟨rfl,bw,hl,-,bl⟩:=bj R d.out hx);have cr:Hid (NI w dr L ((xb:Int)*ya)):=hl;have cl:Hid (NI w dr I (o*(c:Int))):=bl I (o*(c:Int)) B.out af.out;refine E.out _ _ (Or.inr bw) ?_;clear E K hx hl bl al R af d;refine fc (i:=15) eZ rfl ?_;intro K E;go_simp;have eb:=hi9 (kH dr bz I 0 L 0 (o*c) (xb*ya) (2*k) eX fh.out fa.out ez.out cl.out.2.1 cr.out.2.1 (fs.out.G bw) cl.out.2.2 cr.out.2.2);go_wp2_with (go_at_call 61;refine eW eb.out ?_;intro e gd hx;obtain⟨rfl,k1,k2⟩:=NormTo.after bw hx);have fb:=hi9 k2;refine E.out _ _ (Or.inl fk) ?_;clear hx k2 E K eb;refine fc (i:=16) eZ rfl ?_;intro K E;go_simp;refine E.out _ _ (Or.inl fk) ?_;clear E K;refine fS eZ ?_ _;go_wp2_with fail;go_ret;exact⟨rfl,k1,fb.out⟩
end Go.Proofs.YtohcneeihdkfgaaGreatDoor
namespace Go.Proofs.YtohcneeihdkfgaaGreatDoor.EN
open Go.RowKit
/-- A finite float in units. -/
def fz (b:Nat):Int:=if FT.neg b then -(FT.v (FT.rung b):Int) else FT.v (FT.rung b)
/-- So many units. -/
def Uz (z:Int):Rat:=mkRat z (2^1074)
theorem rW {b:Nat} (h:b<2^64):FT.wrd (FT.neg b) (FT.rung b)=b:=by
 unfold FT.wrd FT.neg FT.rung;by_cases h1:b/2^63%2=1
 ·simp only[h1,beq_self_eq_true,if_true];omega
 ·have A:b/2^63%2=0:=by omega
  simp only[A,show ((0:Nat)==1)=false from rfl,ax,if_false];omega
theorem rung_lt (b:Nat):FT.rung b<2^63:=aW _ (ae _)
theorem q2B (b:Nat):fex b=FT.rung b/2^52:=by
 unfold fex FT.rung;omega
theorem iW (b:Nat):fex b<2047↔FT.rung b<2047*2^52:=by
 rw[q2B];have:=rung_lt b;omega
theorem ko {b:Nat} (h:b<2^64) (A:fex b<2047):FQ b=Uz (fz b):=by
 have h1:=(fq_v (FT.neg b) ((iW b).1 A)).1;rw[rW h] at h1;exact h1
theorem jc:0<2^1074:=by
 obtain⟨n,A⟩:∃ n:Nat,n=1074:=⟨_,rfl⟩;rw[← A];exact ae _
theorem nP (z:Int):z*(Uz z).den=(Uz z).num*((2^1074:Nat):Int):=mk_cross jc rfl
theorem q5m:Uz 0=0:=by unfold Uz;exact Rat.zero_mkRat _
theorem q5l (z:Int):(Uz z).num.sign=z.sign:=by
 have h:=nP z;have h1:=(Uz z).den_pos;have h2:=jc;generalize 2^1074=D at *;generalize (Uz z).den=d at *;generalize (Uz z).num=n at *;have h3:=congrArg Int.sign h;rw[dZ,dZ,bg (a:=(d:Int)) eX,bg (a:=(D:Int)) eX,cU,cU] at h3;exact h3.symm
theorem uz_eq_zero {z:Int}:Uz z=0↔z=0:=by
 constructor
 ·intro h;have h2:=q5l z;rw[h] at h2;exact eL.1 h2.symm
 ·rintro rfl;exact q5m
theorem q3W (x y:Int):((Uz x).num*(Uz y).den-(Uz y).num*(Uz x).den).sign=(x-y).sign:=by
 have E:=nP x;have F:=nP y;have I:=(Uz x).den_pos;have J:=(Uz y).den_pos;have K:=jc;generalize 2^1074=D at *;generalize (Uz x).num=a at *;generalize (Uz y).num=b at *;generalize (Uz x).den=c at *;generalize (Uz y).den=d at *;have key:(a*d-b*c)*(D:Int)=(x-y)*((c*d:Nat):Int):=by
  rw[cO,cO,aG];have A:a*(d:Int)*D=x*(c*d):=by
   rw[show a*(d:Int)*D=(a*D)*d from by rw[cX,cX,dz (d:Int)],← E,cX]
  have B:b*(c:Int)*D=y*(c*d):=by
   rw[show b*(c:Int)*D=(b*D)*c from by rw[cX,cX,dz (c:Int)],← F,cX,dz (d:Int)]
  rw[A,B]
 have h:=congrArg Int.sign key;have C:0<c*d:=aM I J;rw[dZ,dZ,bg (by omega:(0:Int)<D),bg (by omega:(0:Int)<((c*d:Nat):Int)),cU,cU] at h;exact h
end Go.Proofs.YtohcneeihdkfgaaGreatDoor.EN
namespace Go.Proofs.YtohcneeihdkfgaaGreatDoor.EN
open Go.ChangeShapes Go.WideShapes Go.ChangeAt Go.RowKit
/-- Finite floats are ordered as their numbers. -/
theorem jY {x y:Nat} (J:fex x<2047) (K:fex y<2047):FloatKind.f64.format.order x y=some (compare (fz x) (fz y)):=by
 have n1:FT.nan x=false:=by
  unfold FT.nan;have:=(iW x).1 J;exact decide_eq_false (by unfold FT.infR at *;omega)
 have L:FT.nan y=false:=by
  unfold FT.nan;have:=(iW y).1 K;exact decide_eq_false (by unfold FT.infR at *;omega)
 rw[FT.ord_f,n1,L];simp only[dI,ax,if_false]
 congr 1
 have A:∀ r,FT.v r=0↔r=0:=fun r=>by
  constructor
  ·intro h;have I:FT.v 0=0:=by rw[FT.v_sub (ae _)]
   exact FT.v_inj (h.trans I.symm)
  ·rintro rfl;rw[FT.v_sub (ae _)]
 have D:∀ r s,FT.v r<FT.v s↔r<s:=fun r s=>⟨fun h=>by
  rcases bI r s with h1|h1
  ·exact h1
  ·have:=FT.v_le.2 h1;omega,FT.v_lt⟩
 unfold FT.key fz;generalize FT.rung x=r;generalize FT.rung y=s;have h1:=D r s;have h2:=D s r;have h3:=A r;have M:=A s;generalize FT.v r=a at *;generalize FT.v s=b at *;have key:∀ p q B C:Int,(p<q↔B<C)→(q<p↔C<B)→compare p q=compare B C:=by
  intro p q B C E F;rcases cx p q with h|h|h
  ·rw[bO.2 h,bO.2 (E.1 h)]
  ·rw[cV.2 h,cV.2 (by
    have:=mt E.2 eX;have:=mt F.2 eX;omega)]
  ·rw[bX.2 h,bX.2 (F.1 h)]
 cases FT.neg x<;>cases FT.neg y<;>simp only[if_true,ax,if_false]<;>apply key<;>omega
/-- Finite floats of the same number. -/
theorem pG {x y:Nat} (A:fex x<2047) (B:fex y<2047) (h:fz x=fz y):(FloatKind.f64.format.order x y==some .eq)=true:=by
 rw[jY A B,h,cV.2 rfl];rfl
theorem rH (w:World) (b c:Nat) (h:(FloatKind.f64.format.order b c==some .eq)=true):Calls Tryz.prog 129 #[.float .f64 b,.float .f64 c] w fun e A=>e= .returned (.bool true)∧G w A:=by
 go_enter Tryz.func129,Tryz.ntmps129;go_wp2_with fail;go_ret;exact⟨rfl,ad _⟩
end Go.Proofs.YtohcneeihdkfgaaGreatDoor.EN
namespace Go.Proofs.YtohcneeihdkfgaaGreatDoor.EN
open Go.RowKit
/-- The place of a number's nearest float, and its word. -/
def rV (q:Rat):Nat:=rdV 1 (decide (q.num<0)) q.num.natAbs q.den
def nR (q:Rat):Nat:=FT.wrd (decide (q.num<0)) (rV q)
/-- What comes of a number whose floats are taken off, so many at most. -/
inductive Fr:Nat→Rat→List Nat→Bool→Prop where
 |zero (k:Nat):Fr k 0 [] true
 |most (v:Rat):Fr 0 v [] true
 |bad (k:Nat) (v:Rat) (h0:v≠0) (hq:QB v 80) (h:fex (nR v)=2047∨FQ (nR v)=0):Fr (k+1) v [] false
 |step (k:Nat) (v:Rat) (l:List Nat) (o:Bool) (h0:v≠0) (hq:QB v 80) (h1:fex (nR v)<2047) (h2:FQ (nR v)≠0) (h:Fr k (v-FQ (nR v)) l o):Fr (k+1) v (nR v::l) o
/-- Half of the gap above a float of this exponent. -/
def hv (e:Nat):Nat:=gz 11 52 1 (((e-1:Nat):Int)-1075)
/-- Each entry is no more than half of the gap above the one ahead. -/
def Steep:List Nat→Prop
 |a::b::l=>(2≤fex a∧FT.rung b≤hv (fex a))∧Steep (b::l)
 |_=>True
theorem Steep.at:∀ {l:List Nat},Steep l→∀ i,i+1<l.length→2≤fex (l.getD i 0)∧FT.rung (l.getD (i+1) 0)≤hv (fex (l.getD i 0))
 |[],_,i,hi=>by simp at hi
 |[_],_,i,hi=>by simp at hi
 |a::b::l,h,0,_=>h.1
 |a::b::l,h,i+1,hi=>by
  have:=Steep.at (l:=b::l) h.2 i (by simpa using hi);simpa using this
/-- A list tells so many units. -/
structure Tells (z:Int) (l:List Nat):Prop where
 sum:(l.map fz).sum=z
 fin:∀ b∈l,b<2^64∧fex b<2047
 steep:Steep l
 head:∀ a m,l=a::m→FT.rung a=rV (Uz z)∧z≠0
theorem rF (N D:Nat) (B:0<D):fQ N D=N/D+if ja (N%D) D=3∨(ja (N%D) D=2∧N/D%2=1) then 1 else 0:=by
 unfold fQ ja;have C:=aW N B;generalize N%D=R at *;generalize N/D=Q at *
 congr 1
 by_cases A:R=0
 ·rw[if_pos A,if_neg eX,if_neg eX]
 ·rw[if_neg A];by_cases h1:2*R<D
  ·rw[if_pos h1,if_neg eX,if_neg eX]
  ·rw[if_neg h1];by_cases h2:2*R=D
   ·rw[if_pos h2];by_cases h3:Q%2=1
    ·rw[if_pos (Or.inr ⟨h2,h3⟩),if_pos (Or.inr ⟨rfl,h3⟩)]
    ·rw[if_neg eX,if_neg eX]
   ·rw[if_neg h2,if_pos (Or.inl eX),if_pos (Or.inl rfl)]
theorem q6M {A B:Nat} (s:Bool) (J:A≠0) (E:B≠0):flV A B=rdV 1 s A B:=by
 have I:=(iO J E).1;obtain⟨P,F⟩:∃ P,P=fM A B:=⟨_,rfl⟩;have R: -1074≤P:=by rw[F];unfold fM;omega
 obtain⟨U,M⟩:=j0 J E F;have K:0<loP B P:=aM (cy E) (ae _);unfold rdV tV lV at *;unfold flV ij;rw[← F] at I ⊢;rw[rF _ _ K];by_cases C:971<P
 ·rw[if_pos C,if_pos C];have N:2^52≤upP A P/loP B P:=by
   rcases M with h|h
   ·omega
   ·exact(aZ K).2 h
  have O:2046≤(P+1074).toNat:=by omega
  have h1:2046*2^52≤(P+1074).toNat*2^52:=au _ O;have S:(3≠0∧onw 1 s ((2047*2^52-1)%2==1) 3=true):=⟨by omega,rfl⟩;rw[if_pos S];refine Nat.min_eq_right ?_;refine bt ?_ (Nat.add_le_add h1 (bt N (Nat.le_add_right _ _)));omega
 ·rw[if_neg C,if_neg C] at *;generalize upP A P/loP B P=Q at *;generalize ja (upP A P%loP B P) (loP B P)=L at *;have D:((P+1074).toNat*2^52+Q)%2=Q%2:=by omega
  have e:(L≠0∧onw 1 s (((P+1074).toNat*2^52+Q)%2==1) L=true)↔(L=3∨(L=2∧Q%2=1)):=by
   unfold onw;rw[if_pos rfl,D];simp only[cJ,aS,beq_iff_eq];omega
  simp only[e];by_cases h:L=3∨(L=2∧Q%2=1)
  ·rw[if_pos h];omega
  ·rw[if_neg h];omega
/-- The three floats whose sum is told. -/
def l3:List Nat:=[4607182418800017408,4861130398305394688,4307583784117748259]
end Go.Proofs.YtohcneeihdkfgaaGreatDoor.EN
namespace Go.Proofs.YtohcneeihdkfgaaGreatDoor.EN
open Go.ChangeShapes Go.WideShapes Go.ChangeAt Go.RowKit
/-- A slice of floats. -/
def FSl (w:World) (v:Value) (l:List Nat):Prop:=
 ∃ a c,v= .slice a l.length c∧l.length≤c∧∀ i,i<l.length→∃ b o,a=some ⟨b,o,none⟩∧b<w.heap.size∧w.cell? ⟨b,o+i,none⟩=some (.float .f64 (l.getD i 0))
theorem FSl.G {w A:World} {v:Value} {l:List Nat} (h:FSl w v l) (g:G w A):FSl A v l:=by
 obtain⟨a,c,e,C,h⟩:=h;refine⟨a,c,e,C,fun i hi=> ?_⟩;obtain⟨b,o,B,h1,h2⟩:=h i hi;exact⟨b,o,B,aj h1 g.size,g.cell (p:=⟨b,o+i,none⟩) h1 h2⟩
/-- A fraction that lies in three cells. -/
def QAt (w:World) (b o:Nat) (q:Rat):Prop:=∃ t a k c A B c',w.cell? ⟨b,o,none⟩=some (.bool t)∧w.cell? ⟨b,o+1,none⟩=some (.slice a k c)∧w.cell? ⟨b,o+2,none⟩=some (.slice A B c')∧QIs w (.agg #[.bool t,.slice a k c,.slice A B c']) q
theorem QAt.G {w A:World} {b o:Nat} {q:Rat} (h:QAt w b o q) (hb:b<w.heap.size) (g:G w A):QAt A b o q:=by
 obtain⟨t,a,k,c,B,D,c',h1,h2,h3,C⟩:=h;exact⟨t,a,k,c,B,D,c',g.cell (p:=⟨b,o,none⟩) hb h1,g.cell (p:=⟨b,o+1,none⟩) hb h2,g.cell (p:=⟨b,o+2,none⟩) hb h3,C.G g⟩
/-- A slice of fractions, told in units. -/
def NSl (w:World) (v:Value) (l:List Int):Prop:=
 ∃ a c,v= .slice a l.length c∧l.length≤c∧∀ i,i<l.length→∃ b o,a=some ⟨b,o,none⟩∧b<w.heap.size∧QAt w b (o+i*3) (Uz (l.getD i 0))
theorem NSl.G {w A:World} {v:Value} {l:List Int} (h:NSl w v l) (g:G w A):NSl A v l:=by
 obtain⟨a,c,e,C,h⟩:=h;refine⟨a,c,e,C,fun i hi=> ?_⟩;obtain⟨b,o,B,h1,h2⟩:=h i hi;exact⟨b,o,B,aj h1 g.size,h2.G h1 g⟩
/-- No word of 64 bits. -/
def noU (x:Value):Prop:=∀ m,x≠ .int .u64 m
theorem q2Y {x:Value} (h:iK x):noU x:=fun m e=>by rw[e] at h;exact h
theorem ny {w:World} {v:Value} {n b:Nat} {l:List Value} (h:Num w v n) (r:Rec w b l) (M:∀ x∈l,noU x):∀ A:World,(∀ i k,i≠b→A.cell? ⟨i,k,none⟩=w.cell? ⟨i,k,none⟩)→w.heap.size≤A.heap.size→Num A v n:=by
 intro A L N;obtain⟨m,E,D,hv⟩:=h;refine⟨m,?_,D,hv⟩;rcases Sl.cases E with ⟨rfl,a,c,rfl⟩|⟨F,I,o,c,rfl,C,hb,K⟩
 ·exact⟨E.1,Or.inl ⟨rfl,a,c,rfl⟩⟩
 ·have B:I≠b:=by
   intro e;subst e;have J:=K 0 (cq.2 F);rw[r.cell] at J;exact M _ (da J) _ rfl
  exact⟨E.1,Or.inr ⟨I,o,c,rfl,C,by omega,fun i hi=>by rw[L _ _ B];exact K i hi⟩⟩
/-- A fraction stands where a block without words is written. -/
theorem QIs.apart {w A:World} {v:Value} {q:Rat} {b:Nat} {l:List Value} (h:QIs w v q) (r:Rec w b l) (C:∀ x∈l,noU x)
  (B:∀ i k,i≠b→A.cell? ⟨i,k,none⟩=w.cell? ⟨i,k,none⟩) (D:w.heap.size≤A.heap.size):QIs A v q:=by
 obtain⟨a,k,c,E,F,c',e,h1,h2⟩:=h;exact⟨a,k,c,E,F,c',e,ny h1 r C A B D,ny h2 r C A B D⟩
theorem km {w:World} {b i k:Nat} {x y:Value} (h:i≠b):((w.setCell ⟨b,0,none⟩ x).setCell ⟨b,1,none⟩ y).cell? ⟨i,k,none⟩=w.cell? ⟨i,k,none⟩:=by
 rw[World.cell?_setCell_other _ _ _ _ (by intro e;injection e with A;exact h A.symm),World.cell?_setCell_other _ _ _ _ (by intro e;injection e with A;exact h A.symm)]
/-- What stands where a fault is written. -/
theorem FSl.flt {w:World} {v:Value} {l:List Nat} {b:Nat} {x y x' y':Int} (h:FSl w v l) (r:Rec w b [.int .i64 x,.int .i64 y]):FSl ((w.setCell ⟨b,0,none⟩ (.int .i64 x')).setCell ⟨b,1,none⟩ (.int .i64 y')) v l:=by
 obtain⟨a,c,e,D,h⟩:=h;refine⟨a,c,e,D,fun i hi=> ?_⟩;obtain⟨B,o,C,h1,h2⟩:=h i hi;have A:B≠b:=by
  rintro rfl;rw[r.cell] at h2;have:=da h2;simp at this
 exact⟨B,o,C,by simpa [World.setCell] using h1,by rw[km A];exact h2⟩
theorem QIs.flt {w:World} {v:Value} {q:Rat} {b:Nat} {x y x' y':Int} (h:QIs w v q) (r:Rec w b [.int .i64 x,.int .i64 y]):QIs ((w.setCell ⟨b,0,none⟩ (.int .i64 x')).setCell ⟨b,1,none⟩ (.int .i64 y')) v q:=
 h.apart r (by intro u hu m;simp at hu;rcases hu with rfl|rfl<;>(intro e;cases e)) (fun i k hi=>km hi) (by simp [World.setCell])
theorem NSl.flt {w:World} {v:Value} {l:List Int} {b:Nat} {x y x' y':Int} (h:NSl w v l) (r:Rec w b [.int .i64 x,.int .i64 y]):NSl ((w.setCell ⟨b,0,none⟩ (.int .i64 x')).setCell ⟨b,1,none⟩ (.int .i64 y')) v l:=by
 obtain⟨a,c,e,E,h⟩:=h;refine⟨a,c,e,E,fun i hi=> ?_⟩;obtain⟨C,o,D,h1,t,p,k,d,I,F,d',B,J,K,L⟩:=h i hi;have A:C≠b:=by
  rintro rfl;rw[r.cell] at B;have:=da B;simp at this
 exact⟨C,o,D,by simpa [World.setCell] using h1,t,p,k,d,I,F,d',by rw[km A];exact B,by rw[km A];exact J,by rw[km A];exact K,L.flt r⟩
/-- Block b is fractions, told in units, and may be written. -/
def NOwn (w:World) (b:Nat) (l:List Int):Prop:=
 ∃ L:List Value,Rec w b L∧L.length=3*l.length∧(∀ x∈L,iK x)∧
  ∀ i,i<l.length→∃ t a k c A B c',L[i*3]? =some (.bool t)∧L[i*3+1]? =some (.slice a k c)∧L[i*3+2]? =some (.slice A B c')∧QIs w (.agg #[.bool t,.slice a k c,.slice A B c']) (Uz (l.getD i 0))
theorem NOwn.G {w A:World} {b:Nat} {l:List Int} (h:NOwn w b l) (g:Go.Proofs.YtohcneeihdkfgaaGreatDoor.G w A):NOwn A b l:=by
 obtain⟨L,h1,h2,h3,I⟩:=h;refine⟨L,h1.G g,h2,h3,fun i hi=> ?_⟩;obtain⟨t,a,k,c,B,J,c',C,D,E,F⟩:=I i hi;exact⟨t,a,k,c,B,J,c',C,D,E,F.G g⟩
theorem NOwn.free {w:World} {b:Nat} {l:List Int} (h:NOwn w b l) (i:Nat):w.frozen? ⟨b,i,none⟩=false:=by
 obtain⟨L,h1,-⟩:=h;exact h1.frozen i
theorem NOwn.lt {w:World} {b:Nat} {l:List Int} (h:NOwn w b l):b<w.heap.size:=by
 obtain⟨L,h1,-⟩:=h;exact h1.lt
theorem NOwn.cells {w:World} {b:Nat} {l:List Int} (h:NOwn w b l) {i:Nat} (hi:i<l.length):QAt w b (i*3) (Uz (l.getD i 0)):=by
 obtain⟨L,h1,h2,h3,F⟩:=h;obtain⟨t,a,k,c,A,I,c',B,C,D,E⟩:=F i hi;exact⟨t,a,k,c,A,I,c',by rw[h1.cell];exact B,by rw[h1.cell];exact C,by rw[h1.cell];exact D,E⟩
theorem NOwn.sl {w:World} {b:Nat} {l:List Int} (h:NOwn w b l) (c:Nat) (A:l.length≤c):NSl w (.slice (some ⟨b,0,none⟩) l.length c) l:=
 ⟨_,c,rfl,A,fun i hi=>⟨b,0,rfl,h.lt,by rw[aK];exact h.cells hi⟩⟩
theorem NOwn.set {w:World} {b:Nat} {l:List Int} (h:NOwn w b l) {i:Nat} (hi:i<l.length) {z:Int} {t:Bool} {a D:Option Addr} {k c F c':Nat} (S:QIs w (.agg #[.bool t,.slice a k c,.slice D F c']) (Uz z)):
  NOwn (((w.setCell ⟨b,i*3,none⟩ (.bool t)).setCell ⟨b,i*3+1,none⟩ (.slice a k c)).setCell ⟨b,i*3+2,none⟩ (.slice D F c')) b (l.set i z):=by
 obtain⟨L,h1,h2,h3,O⟩:=h;have E:∀ {v:Value} {q:Rat},QIs w v q→QIs (((w.setCell ⟨b,i*3,none⟩ (.bool t)).setCell ⟨b,i*3+1,none⟩ (.slice a k c)).setCell ⟨b,i*3+2,none⟩ (.slice D F c')) v q:=fun hv=>hv.apart h1 (fun x A=>q2Y (h3 x A)) (fun j m C=>by
  rw[World.cell?_setCell_other _ _ _ _ (by intro e;injection e with B;exact C B.symm),World.cell?_setCell_other _ _ _ _ (by intro e;injection e with B;exact C B.symm),World.cell?_setCell_other _ _ _ _ (by intro e;injection e with B;exact C B.symm)]) (by simp [World.setCell])
 refine⟨((L.set (i*3) (.bool t)).set (i*3+1) (.slice a k c)).set (i*3+2) (.slice D F c'),((h1.set _ _).set _ _).set _ _,by simp only[aF];exact h2,?_,?_⟩
 ·intro x A;rcases dD A with A|rfl
  ·rcases dD A with A|rfl
   ·rcases dD A with A|rfl
    ·exact h3 x A
    ·trivial
   ·trivial
  ·trivial
 ·intro j C;rw[aF] at C;by_cases R:j=i
  ·subst R;refine⟨t,a,k,c,D,F,c',?_,?_,?_,?_⟩
   ·rw[aY eX,aY eX,List.getElem?_set_self eX]
   ·rw[aY eX,List.getElem?_set_self (by simp only[aF];omega)]
   ·rw[List.getElem?_set_self (by simp only[aF];omega)]
   ·have:(l.set j z).getD j 0=z:=by simp [List.getD_eq_getElem?_getD,C]
    rw[this];exact E S
  ·obtain⟨t1,I,U,c1,a2,W,J,B,K,M,N⟩:=O j C;refine⟨t1,I,U,c1,a2,W,J,?_,?_,?_,?_⟩
   ·rw[aY eX,aY eX,aY eX];exact B
   ·rw[aY eX,aY eX,aY eX];exact K
   ·rw[aY eX,aY eX,aY eX];exact M
   ·have:(l.set i z).getD j 0=l.getD j 0:=by simp only[ak];rw[aY eX]
    rw[this];exact E N
/-- Each float of a list is finite. -/
def Fin (l:List Nat):Prop:=∀ b∈l,fex b<2047
theorem pI {l:List Nat} (h:∀ i,i<l.length→fex (l.getD i 0)<2047):Fin l:=by
 intro b hb;obtain⟨i,hi,rfl⟩:=List.mem_iff_getElem.1 hb;have:=h i hi
 rwa[ak,aQ hi] at this
/-- Floats as cells. -/
def fl (l:List Nat):List Value:=l.map fun b=> .float .f64 b
/-- A slice of floats whose block is our own (from block base on). -/
def FOwn (w:World) (B:Nat) (v:Value) (l:List Nat):Prop:=
 (v= .slice none 0 0∧l=[])∨∃ g cap A,v= .slice (some ⟨g,0,none⟩) l.length cap∧B≤g∧w.heap[g]? =some (.cells A 22 (0,0))∧l.length≤cap∧cap≤maxLen∧A.size=cap∧A.toList.take l.length=fl l∧∀ x∈A.toList,iK x
theorem q0G {w:World} {g:Nat} {o:Obj} (h:w.heap[g]? =some o):g<w.heap.size:=(cG.1 h).1
theorem FOwn.G {w C:World} {A:Nat} {v:Value} {l:List Nat} (h:FOwn w A v l) (g:Go.Proofs.YtohcneeihdkfgaaGreatDoor.G w C):FOwn C A v l:=by
 rcases h with h|⟨b,cap,B,e,h1,h2,h3⟩
 ·exact Or.inl h
 ·refine Or.inr ⟨b,cap,B,e,h1,?_,h3⟩;obtain⟨-,-,-,-,g5⟩:=g;exact(g5 b (q0G h2)).trans h2
theorem FOwn.set {w:World} {A b i x n cap:Nat} {l:List Nat} (h:FOwn w A (.slice (some ⟨b,0,none⟩) n cap) l):FOwn (w.setCell ⟨b,i,none⟩ (.float .f64 x)) A (.slice (some ⟨b,0,none⟩) n cap) (l.set i x):=by
 rcases h with ⟨e,-⟩|⟨L,D,C,e,h1,h2,h3,I,J,h6,K⟩
 ·cases e
 ·injection e with B E F;injection B with B;injection B with B;subst B;subst F;refine Or.inr ⟨b,cap,C.setIfInBounds i (.float .f64 x),by rw[aF,E],h1,?_,by rw[aF];exact h3,I,by simpa using J,?_,?_⟩
  ·simp only[World.setCell,Array.getElem?_modify,if_true,h2,dR];simp
  ·rw[Array.toList_setIfInBounds,aF];rw[List.take_set,h6];unfold fl;rw[List.map_set]
  ·intro u hu;rw[Array.toList_setIfInBounds] at hu;rcases dD hu with hu|rfl
   ·exact K u hu
   ·trivial
theorem FOwn.own {w:World} {A:Nat} {v:Value} {l:List Nat} (h:FOwn w A v l) {b:Nat} (hb:b<A∨w.heap.size≤b):v.ownBlock≠some b:=by
 rcases h with ⟨rfl,-⟩|⟨g,cap,B,rfl,h1,h2,-⟩
 ·intro e;cases e
 ·intro e;have C:g=b:=ct e;have:=q0G h2;omega
theorem FOwn.oth {w C:World} {A:Nat} {v:Value} {l:List Nat} (h:FOwn w A v l) {b:Nat} (hb:v.ownBlock≠some b) (D:∀ k,k≠b→C.heap[k]? =w.heap[k]?):FOwn C A v l:=by
 rcases h with h|⟨g,cap,B,rfl,h1,h2,h3⟩
 ·exact Or.inl h
 ·exact Or.inr ⟨g,cap,B,rfl,h1,by rw[D g (by intro e;exact hb (by rw[← e];rfl))];exact h2,h3⟩
/-- What appending to a slice of our own leaves standing. -/
structure Onto (base:Nat) (v:Value) (w w':World):Prop where
 q:∀ (u:Value) (x:Rat),QIs w u x→QIs w' u x
 r:∀ (b:Nat) (L:List Value),Rec w b L→v.ownBlock≠some b→Rec w' b L
 g:∀ w0:World,w0.heap.size≤base→G w0 w→G w0 w'
/-- An append whose run is known. -/
theorem nX {P:Program} (w:World) {ops:Array Oper} {rest:List Oper} {o:Oper} {a:Act} {Q:Exit→Act→World→Prop} (A:o.guard=none) (s x:Operand) (t:TypeId)
  (E:o.op= .call {callee:= .builtin .append,args:=#[s,x],argTypes:=#[t,t]}) (v sl:Value) (I:a.eval s=v) (J:a.eval x=sl) {B:Value} {C:World}
  (F:(Builtin.append_ #[t,t] o.type #[v,sl]).run P w= .ok B C) (h:wpList P ops Q rest (a.put o.dst B) C):wpList P ops Q (o::rest) a w:=
 wpList_plain A fun _ D=>by
  unfold Oper.wp execOp;simp only[E,resolve,invoke,builtin,Sem.run_bind,Sem.run_pure,Result.andThen_ok,List.map_toArray,du,eH,I,J,F];exact D _ _ h
end Go.Proofs.YtohcneeihdkfgaaGreatDoor.EN
namespace Go.Proofs.YtohcneeihdkfgaaGreatDoor.EN
open Go.RowKit
/-- Two entries change places. -/
def swap (l:List Nat) (p q:Nat):List Nat:=(l.set p (l.getD q 0)).set q (l.getD p 0)
/-- 1 for what is no number or infinite. -/
def bad (b:Nat):Int:=if fex b<2047 then 0 else 1
end Go.Proofs.YtohcneeihdkfgaaGreatDoor.EN
namespace Go.Proofs.YtohcneeihdkfgaaGreatDoor
theorem Rec.new6 (w:World) (a b c d e f:Value) (t:TypeId):Rec (w.alloc (.cells #[a,b,c,d,e,f] t)) w.heap.size [a,b,c,d,e,f]:=Rec.new w [a,b,c,d,e,f] t
theorem Rec.f6 {w:World} {b:Nat} {A B C D E F:Value} (h:Rec w b [A,B,C,D,E,F]):w.cell? ⟨b,0,none⟩=some A∧w.cell? ⟨b,1,none⟩=some B∧w.cell? ⟨b,2,none⟩=some C∧w.cell? ⟨b,3,none⟩=some D∧w.cell? ⟨b,4,none⟩=some E∧w.cell? ⟨b,5,none⟩=some F∧
  w.frozen? ⟨b,0,none⟩=false∧w.frozen? ⟨b,1,none⟩=false∧w.frozen? ⟨b,2,none⟩=false∧w.frozen? ⟨b,3,none⟩=false∧w.frozen? ⟨b,4,none⟩=false∧w.frozen? ⟨b,5,none⟩=false:=
 ⟨h.cell 0,h.cell 1,h.cell 2,h.cell 3,h.cell 4,h.cell 5,h.frozen 0,h.frozen 1,h.frozen 2,h.frozen 3,h.frozen 4,h.frozen 5⟩
theorem cY:type_of% @Rec.f6:= @Rec.f6
end Go.Proofs.YtohcneeihdkfgaaGreatDoor
namespace Go.Proofs.YtohcneeihdkfgaaGreatDoor.EN
open Go.ChangeShapes Go.WideShapes Go.ChangeAt Go.RowKit
/-- Six cells written. -/
def set6 (w:World) (b:Nat) (A B C D E F:Value):World:=(((((w.setCell ⟨b,0,none⟩ A).setCell ⟨b,1,none⟩ B).setCell ⟨b,2,none⟩ C).setCell ⟨b,3,none⟩ D).setCell ⟨b,4,none⟩ E).setCell ⟨b,5,none⟩ F
theorem q3D {w:World} {b:Nat} {v:Value} {q:Rat} {y0 y1 C D E F K L M N O R:Value} (h:QIs w v q) (r:Rec w b [y0,y1,C,D,E,F]) (J:∀ x∈[y0,y1,C,D,E,F],noU x):QIs (set6 w b K L M N O R) v q:=
 h.apart r J (fun i k hi=>by
  have A:∀ (B:World) (j:Nat) (x:Value),(B.setCell ⟨b,j,none⟩ x).cell? ⟨i,k,none⟩=B.cell? ⟨i,k,none⟩:=fun B j x=>World.cell?_setCell_other _ _ _ _ (by intro e;injection e with I;exact hi I.symm);unfold set6;rw[A,A,A,A,A,A]) (by simp [set6,World.setCell])
/-- A step's two parts. -/
def StepIs (w:World) (v:Value) (p q:Rat):Prop:=∃ t a k c A D c' t2 b j d B C d',v= .agg #[.bool t,.slice a k c,.slice A D c',.bool t2,.slice b j d,.slice B C d']∧QIs w (.agg #[.bool t,.slice a k c,.slice A D c']) p∧QIs w (.agg #[.bool t2,.slice b j d,.slice B C d']) q
theorem StepIs.G {w A:World} {v:Value} {p q:Rat} (h:StepIs w v p q) (g:Go.Proofs.YtohcneeihdkfgaaGreatDoor.G w A):StepIs A v p q:=by
 obtain⟨t,a,k,c,B,E,c',t2,b,j,d,C,D,d',e,h1,h2⟩:=h;exact⟨t,a,k,c,B,E,c',t2,b,j,d,C,D,d',e,h1.G g,h2.G g⟩
/-- At block p lies the reference's ratio of a fraction. -/
def RIs (w:World) (p:Nat) (q:Rat):Prop:=RatIs w p q.num (q.den:Int)
theorem RIs.G {w A:World} {p:Nat} {q:Rat} (h:RIs w p q) (B:p<w.heap.size) (g:G w A):RIs A p q:=RatIs.G h B g
/-- A call hands back a new ratio. -/
def RetRat (w:World) (q:Rat) (e:Ending) (A:World):Prop:=∃ p,e= .returned (.pointer (some ⟨p,0,none⟩))∧G w A∧w.heap.size≤p∧p<A.heap.size∧RIs A p q
/-- A call sets a ratio. -/
def SetRat (w:World) (b:Nat) (q:Rat) (e:Ending) (A:World):Prop:=e= .returned (.pointer (some ⟨b,0,none⟩))∧GX b w A∧RIs A b q
theorem SetRat.ret {w0 w:World} {b:Nat} {q:Rat} {e:Ending} {A:World} (g:G w0 w) (hb:w0.heap.size≤b) (B:b<w.heap.size) (h:SetRat w b q e A):RetRat w0 q e A:=
 ⟨b,h.1,GX.fresh g h.2.1 hb,hb,aj B h.2.1.size,h.2.2⟩
theorem q6j (w:World) (b:Nat) (h:b<2^64) (A:fex b<2047):Calls Tryz.prog 38 #[.float .f64 b] w (RetRat w (Uz (fz b))):=by
 have D:FQ b=Uz (fz b):=ko h A;obtain⟨B,C⟩:=jO (pL (fex b)) (q:=FQ b) rfl;refine(q6i w b (fex b) (b%2^52) (fmag b) h rfl rfl A rfl).mono ?_;rintro e J ⟨p,rfl,g,E,F,I⟩;refine⟨p,rfl,g,E,F,?_⟩;rw[← D];unfold RIs;rw[B,C];exact I
theorem qb32 {q:Rat} {K:Nat} (h:QB q K):q.num.natAbs<2^(32*(2*K))∧q.den<2^(32*(2*K)):=by
 have e:32*(2*K)=64*K:=by omega
 rw[e];exact h
theorem q6C (w:World) (A bx B:Nat) (J L:Int) (x y:Rat) (K:Nat) (Y:K≤40000) (F:QB x K) (I:QB y K)
  (E:A<w.heap.size) (C:bx<w.heap.size) (D:B<w.heap.size) (S:RatIs w A J L) (O:RIs w bx x) (R:RIs w B y):
  Calls Tryz.prog 17 #[.pointer (some ⟨A,0,none⟩),.pointer (some ⟨bx,0,none⟩),.pointer (some ⟨B,0,none⟩)] w (SetRat w A (x-y)):=by
 obtain⟨M,N⟩:=jO (aM x.den_pos y.den_pos) (q:=x-y) (Rat.sub_def' x y);refine(q6B w A bx B J L x.num y.num x.den y.den (2*K) eX (qb32 F).1 (qb32 I).1 (qb32 F).2 (qb32 I).2 x.den_pos y.den_pos E C D S O R).mono ?_;rintro e Z ⟨U,W,X⟩;refine⟨U,W,?_⟩;unfold RIs;rw[M,N];exact X
/-- The same, or a new ratio, which stands for 0. -/
def RV (w:World) (p:Nat) (q:Rat):Prop:=RIs w p q∨(q=0∧RatIs w p 0 0)
theorem RV.G {w B:World} {p:Nat} {q:Rat} (h:RV w p q) (A:p<w.heap.size) (g:G w B):RV B p q:=by
 rcases h with h|⟨h1,h⟩
 ·exact Or.inl (h.G A g)
 ·exact Or.inr ⟨h1,RatIs.G h A g⟩
theorem RV.v {w:World} {p:Nat} {q:Rat} (h:RV w p q):RatV w p q.num q.den:=by
 rcases h with h|⟨rfl,h⟩
 ·exact Or.inl h
 ·exact Or.inr ⟨rfl,rfl,h⟩
theorem q5J (w:World) (A bx B:Nat) (J L:Int) (x y:Rat) (K:Nat) (Y:K≤40000) (F:QB x K) (I:QB y K)
  (E:A<w.heap.size) (C:bx<w.heap.size) (D:B<w.heap.size) (S:RatIs w A J L) (O:RV w bx x) (R:RV w B y):
  Calls Tryz.prog 15 #[.pointer (some ⟨A,0,none⟩),.pointer (some ⟨bx,0,none⟩),.pointer (some ⟨B,0,none⟩)] w (SetRat w A (x+y)):=by
 obtain⟨M,N⟩:=jO (aM x.den_pos y.den_pos) (q:=x+y) (Rat.add_def' x y);refine(q5I w A bx B J L x.num y.num x.den y.den (2*K) eX (qb32 F).1 (qb32 I).1 (qb32 F).2 (qb32 I).2 x.den_pos y.den_pos E C D S O.v R.v).mono ?_;rintro e Z ⟨U,W,X⟩;refine⟨U,W,?_⟩;unfold RIs;rw[M,N];exact X
theorem q29 (w:World) (A bx B:Nat) (F I:Int) (x y:Rat) (K:Nat) (J:K≤40000) (O:QB x K) (R:QB y K)
  (E:A<w.heap.size) (C:bx<w.heap.size) (D:B<w.heap.size) (N:RatIs w A F I) (L:RIs w bx x) (M:RIs w B y):
  Calls Tryz.prog 15 #[.pointer (some ⟨A,0,none⟩),.pointer (some ⟨bx,0,none⟩),.pointer (some ⟨B,0,none⟩)] w (SetRat w A (x+y)):=
 q5J w A bx B F I x y K J O R E C D N (Or.inl L) (Or.inl M)
theorem q62 (w:World) (A bx B:Nat) (J L:Int) (x y:Rat) (K:Nat) (Y:K≤40000) (F:QB x K) (I:QB y K)
  (E:A<w.heap.size) (C:bx<w.heap.size) (D:B<w.heap.size) (S:RatIs w A J L) (O:RV w bx x) (R:RV w B y):
  Calls Tryz.prog 19 #[.pointer (some ⟨A,0,none⟩),.pointer (some ⟨bx,0,none⟩),.pointer (some ⟨B,0,none⟩)] w (SetRat w A (x*y)):=by
 obtain⟨M,N⟩:=jO (aM x.den_pos y.den_pos) (q:=x*y) (Rat.mul_def' x y);refine(q61 w A bx B J L x.num y.num x.den y.den (2*K) eX (qb32 F).1 (qb32 I).1 (qb32 F).2 (qb32 I).2 x.den_pos y.den_pos E C D S O.v R.v).mono ?_;rintro e Z ⟨U,W,X⟩;refine⟨U,W,?_⟩;unfold RIs;rw[M,N];exact X
theorem q04 (w:World) (A bx B:Nat) (F I:Int) (x y:Rat) (K:Nat) (J:K≤40000) (O:QB x K) (R:QB y K)
  (E:A<w.heap.size) (C:bx<w.heap.size) (D:B<w.heap.size) (N:RatIs w A F I) (L:RIs w bx x) (M:RIs w B y):
  Calls Tryz.prog 19 #[.pointer (some ⟨A,0,none⟩),.pointer (some ⟨bx,0,none⟩),.pointer (some ⟨B,0,none⟩)] w (SetRat w A (x*y)):=
 q62 w A bx B F I x y K J O R E C D N (Or.inl L) (Or.inl M)
theorem q5M (w:World) (bx C:Nat) (x y:Rat) (K:Nat) (M:K≤40000) (F:QB x K) (I:QB y K)
  (D:bx<w.heap.size) (E:C<w.heap.size) (J:RV w bx x) (L:RV w C y):
  Calls Tryz.prog 25 #[.pointer (some ⟨bx,0,none⟩),.pointer (some ⟨C,0,none⟩)] w fun e B=>e= .returned (.int .i64 (x.num*y.den-y.num*x.den).sign)∧G w B:=by
 have A:∀ (e:Ending) (B:World),(e= .returned (.int .i64 (cmpI (x.num*(y.den:Int)) (y.num*(x.den:Int))))∧G w B)→(e= .returned (.int .i64 (x.num*y.den-y.num*x.den).sign)∧G w B):=by
  rintro e B ⟨rfl,g⟩;exact⟨by rw[pA],g⟩
 exact Calls.mono (P:=Tryz.prog) (q5L w bx C x.num y.num x.den y.den (2*K) eX (qb32 F).1 (qb32 I).1 (qb32 F).2 (qb32 I).2 x.den_pos y.den_pos D E J.v L.v) A
theorem mw (w:World) (b:Nat) (h:b<2^64):Calls Tryz.prog 37 #[.float .f64 b] w fun e A=>e= .returned (.bool (decide (fex b<2047)))∧G w A:=by
 have e:decide (fex b<2047)=decide (FT.rung b<FT.infR):=by
  have:=iW b;exact decide_eq_decide.2 this
 rw[e];exact q2E b w h
theorem q0O (w:World) (t:TypeId):Rec (w.alloc (.cells #[.bool false,.slice none 0 0,.bool false,.slice none 0 0] t)) w.heap.size [.bool false,.slice none 0 0,.bool false,.slice none 0 0]:=Rec.new w [.bool false,.slice none 0 0,.bool false,.slice none 0 0] t
theorem q4T (x y:Rat):((x.num*y.den:Int):Rat)/((x.den*y.num:Int):Rat)=x/y:=by
 have h1:x=Rat.divInt x.num x.den:=(Rat.num_divInt_den x).symm;have h2:y=Rat.divInt y.num y.den:=(Rat.num_divInt_den y).symm;have h3:x/y=Rat.divInt x.num x.den*(Rat.divInt y.num y.den)⁻¹ :=by rw[← h1,← h2,Rat.div_def]
 rw[h3,Rat.inv_divInt,Rat.divInt_mul_divInt,Rat.divInt_eq_div]
/-- The reference's quotient of two ratios, to a new one. -/
theorem q6h (w:World) (A bx B:Nat) (x y:Rat) (K:Nat) (W:K≤40000) (F:QB x K) (I:QB y K) (J:y≠0)
  (_:A<w.heap.size) (C:bx<w.heap.size) (D:B<w.heap.size) (O:Rec w A [.bool false,.slice none 0 0,.bool false,.slice none 0 0]) (M:RIs w bx x) (N:RIs w B y):
  Calls Tryz.prog 32 #[.pointer (some ⟨A,0,none⟩),.pointer (some ⟨bx,0,none⟩),.pointer (some ⟨B,0,none⟩)] w (SetRat w A (x/y)):=by
 have L:y.num≠0:=fun h=>J (cI.1 h);have E:=q6g w A bx B x.num y.num x.den y.den (2*K) eX (qb32 F).1 (qb32 I).1 (qb32 F).2 (qb32 I).2 x.den_pos y.den_pos L C D O M N;rw[q4T] at E;refine Calls.mono (P:=Tryz.prog) E ?_;rintro e X ⟨R,S,U⟩;exact⟨R,S,U⟩
/-- A number's float in a mode. -/
def flW (m:Int) (q:Rat):Nat:=if q=0 then 0 else FT.wrd (decide (q.num<0)) (rdV m (decide (q.num<0)) q.num.natAbs q.den)
/-- A call hands back a sum's float, or what is at fault. -/
def q28 (w:World) (l:List Nat) (m:Int) (e:Ending) (A:World):Prop:=∃ (b:Nat) (c a:Int),e= .returned (.tuple #[.float .f64 b,.agg #[.int .i64 c,.int .i64 a]])∧G w A∧
 ((Fin l∧b=flW m (Uz (l.map fz).sum)∧c=0∧a=0)∨(∃ i:Nat,b=0∧c=4∧a=i∧i<l.length∧fex (l.getD i 0)=2047∧∀ j,j<i→fex (l.getD j 0)<2047))
/-- A store of a float. -/
theorem fu (P:Program) (w:World) (a:Addr) (m:Mode) (k:FloatKind) (n:Nat):(store a (.float k n) m).run P w=stored P w a (.float k n) m:=run_store P w a _ m rfl
attribute [local go_sem] fu
end Go.Proofs.YtohcneeihdkfgaaGreatDoor.EN
namespace Go.Proofs.YtohcneeihdkfgaaGreatDoor.EN
open Go.ChangeShapes Go.WideShapes Go.ChangeAt Go.RowKit
attribute [local go_sem] fu
/-- A slice of points. -/
def PSl (w:World) (v:Value) (l:List (Nat×Nat)):Prop:=
 ∃ a c,v= .slice a l.length c∧l.length≤c∧∀ i,i<l.length→∃ b o,a=some ⟨b,o,none⟩∧b<w.heap.size∧w.cell? ⟨b,o+i*2,none⟩=some (.float .f64 (l.getD i (0,0)).1)∧w.cell? ⟨b,o+i*2+1,none⟩=some (.float .f64 (l.getD i (0,0)).2)
theorem PSl.G {w A:World} {v:Value} {l:List (Nat×Nat)} (h:PSl w v l) (g:G w A):PSl A v l:=by
 obtain⟨a,c,e,C,h⟩:=h;refine⟨a,c,e,C,fun i hi=> ?_⟩;obtain⟨b,o,B,h1,h2,h3⟩:=h i hi;exact⟨b,o,B,aj h1 g.size,g.cell (p:=⟨b,o+i*2,none⟩) h1 h2,g.cell (p:=⟨b,o+i*2+1,none⟩) h1 h3⟩
end Go.Proofs.YtohcneeihdkfgaaGreatDoor.EN
namespace Go.Proofs.YtohcneeihdkfgaaGreatDoor.EN
open Go.ChangeShapes Go.WideShapes Go.ChangeAt Go.RowKit
theorem StepIs.set6 {w:World} {b:Nat} {v:Value} {p q:Rat} {J K L M N O:Value} (h:StepIs w v p q) (r:Rec w b [.bool false,.slice none 0 0,.slice none 0 0,.bool false,.slice none 0 0,.slice none 0 0]):StepIs (set6 w b J K L M N O) v p q:=by
 have A:∀ x∈[Value.bool false,.slice none 0 0,.slice none 0 0,.bool false,.slice none 0 0,.slice none 0 0],noU x:=by
  intro x E m e;subst e;simp at E
 obtain⟨t,a,k,c,B,I,c',t2,C,j,d,D,F,d',e,h1,h2⟩:=h;exact⟨t,a,k,c,B,I,c',t2,C,j,d,D,F,d',e,q3D h1 r A,q3D h2 r A⟩
/-- A step that lies in a block of its own. -/
def StepAt (w:World) (b:Nat) (p q:Rat):Prop:=∃ t a k c A E c' t2 C j d B D d',Rec w b [.bool t,.slice a k c,.slice A E c',.bool t2,.slice C j d,.slice B D d']∧StepIs w (.agg #[.bool t,.slice a k c,.slice A E c',.bool t2,.slice C j d,.slice B D d']) p q
theorem StepAt.G {w A:World} {b:Nat} {p q:Rat} (h:StepAt w b p q) (g:Go.Proofs.YtohcneeihdkfgaaGreatDoor.G w A):StepAt A b p q:=by
 obtain⟨t,a,k,c,B,F,c',t2,D,j,d,C,E,d',h1,h2⟩:=h;exact⟨t,a,k,c,B,F,c',t2,D,j,d,C,E,d',aw h1 g,h2.G g⟩
end Go.Proofs.YtohcneeihdkfgaaGreatDoor.EN
namespace Go.Proofs.YtohcneeihdkfgaaGreatDoor
end Go.Proofs.YtohcneeihdkfgaaGreatDoor
namespace Go.Proofs.YtohcneeihdkfgaaGreatDoor.EN
open Go.ChangeShapes Go.WideShapes Go.ChangeAt Go.RowKit
theorem q3C {w:World} {b c:Nat} {l:List Value} {B C D E F I:Value} (h:Rec w b l) (A:c≠b):Rec (set6 w c B C D E F I) b l:=
 Rec.oth (Rec.oth (Rec.oth (Rec.oth (Rec.oth (Rec.oth h _ A) _ A) _ A) _ A) _ A) _ A
theorem StepAt.set6 {w:World} {b c:Nat} {p q:Rat} {J K L M N O:Value} (h:StepAt w b p q) (r:Rec w c [.bool false,.slice none 0 0,.slice none 0 0,.bool false,.slice none 0 0,.slice none 0 0]) (A:c≠b):StepAt (EN.set6 w c J K L M N O) b p q:=by
 obtain⟨t,a,k,c',B,I,E,t2,D,j,d,C,F,d',h1,h2⟩:=h;exact⟨t,a,k,c',B,I,E,t2,D,j,d,C,F,d',q3C h1 A,h2.set6 r⟩
end Go.Proofs.YtohcneeihdkfgaaGreatDoor.EN
