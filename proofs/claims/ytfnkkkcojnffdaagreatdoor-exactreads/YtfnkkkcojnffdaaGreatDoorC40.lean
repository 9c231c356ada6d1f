/- What is proved here: how a fraction is cut to a float, its arithmetic (no program).
What is proved here: contracts of package exact: quotient, over this seat's translation.
What is proved here: contracts of package exact: rounding, over this seat's translation.
What is proved here: contracts of package exact: Float, over this seat's translation.
What is proved here: contracts of package exact: Of, over this seat's translation.
What is proved here: the closed fact on one third, over this seat's translation.
What is proved here: lowest terms and bounds of fractions (no program), over this seat's translation.
What is proved here: contracts of the reference's ratios: SetFrac of a new ratio, whatever sign the lower part has, over this seat's translation.
What is proved here: the law's own fraction of two whole numbers, over this seat's translation.
What is proved here: sums of floats in units of 2 to the power of -1074; how near the nearest float is, over this seat's translation (no program).
What is proved here: the list of a sum: what is taken off it, float by float (no program), over this seat's translation.
What is proved here: the numbers of the closed fact on sums told by several floats (no program), over this seat's translation.
What is proved here: slices of floats and of fractions in memory, over this seat's translation (no program).
What is proved here: contracts of package expan: read, over this seat's translation.
What is proved here: a slice of floats of our own that grows, over this seat's translation (no program).
What is proved here: sums of lists in which entries change places; bounds of sums (no program), over this seat's translation.
What is proved here: contracts of package geom: steps from point to point, over this seat's translation.
What is proved here: the reference's ratios told by core's fractions: a float's, sums, differences, products, over this seat's translation.
What is proved here: contracts of the reference: F, CheckList, over this seat's translation.
What is proved here: contracts of package expan: the pair of a number, over this seat's translation.
What is proved here: contracts of package geom: finite, unfit, Turn, over this seat's translation.
What is proved here: contracts of package geom: norm, Circle, over this seat's translation.
What is proved here: contracts of package geom: Circle, over this seat's translation. -/
import Derived.Test.YtfnkkkcojnffdaaGreatDoorC1
import Derived.Test.YtfnkkkcojnffdaaGreatDoorC32
import Derived.Test.YtfnkkkcojnffdaaGreatDoorC39
import Derived.Test.YtfnkkkcojnffdaaGreatDoorC23
import Derived.Test.YtfnkkkcojnffdaaGreatDoorC3
import Derived.Test.YtfnkkkcojnffdaaGreatDoorC22
import Derived.Test.YtfnkkkcojnffdaaGreatDoorC8
import Derived.Test.YtfnkkkcojnffdaaGreatDoorC17
import Derived.Test.YtfnkkkcojnffdaaGreatDoorC17
import Derived.Test.YtfnkkkcojnffdaaGreatDoorC2
import Derived.Test.YtfnkkkcojnffdaaGreatDoorC35
import Derived.Test.YtfnkkkcojnffdaaGreatDoorC36
import Derived.Test.YtfnkkkcojnffdaaGreatDoorC6
import Derived.Test.YtfnkkkcojnffdaaGreatDoorC38
import Derived.Test.YtfnkkkcojnffdaaGreatDoorC27
import Derived.Laws.IdiomCopy
namespace Go.Proofs.YtfnkkkcojnffdaaGreatDoor.EN
open Go.RowKit
/-- What is left behind a step: nothing, less than half of it, half, more. -/
def iY (R D:Nat):Nat:=if R=0 then 0 else if 2*R<D then 1 else if 2*R=D then 2 else 3
/-- The float at or below A / B (its place among the floats from 0 on), and what is left. -/
def tV (A B:Nat):Nat:=if 971<fO A B then 2047*2^52-1 else (fO A B+1074).toNat*2^52+upP A (fO A B)/loP B (fO A B)
def lV (A B:Nat):Nat:=if 971<fO A B then 3 else iY (upP A (fO A B)%loP B (fO A B)) (loP B (fO A B))
theorem jX {N D C A:Nat} (E:0<D) (B:0<A) (h:N*A=C*D):N/D=C/A:=by
 rw[← cf N D B,h,aF D A,cf _ _ E]
theorem lz {N D E A:Nat} (I:0<D) (C:0<A) (h:N*A=E*D):iY (N%D) D=iY (E%A) A:=by
 have L:=jX I C h;have K:=bY N D;have J:=bY E A;rw[← L] at J;have key:N%D*A=E%A*D:=by
  have h1:(D*(N/D)+N%D)*A=(A*(N/D)+E%A)*D:=by rw[K,J];exact h
  rw[aH,aH,show D*(N/D)*A=A*(N/D)*D from by ac_rfl] at h1;exact Nat.add_left_cancel h1
 generalize N%D=R at *;generalize E%A=F at *;have M:R=0↔F=0:=by
  constructor
  ·rintro rfl;rw[bJ] at key;exact(Nat.mul_eq_zero.1 key.symm).resolve_right dT
  ·rintro rfl;rw[bJ] at key;exact(Nat.mul_eq_zero.1 key).resolve_right dT
 have O:2*R<D↔2*F<A:=by
  have B:2*R*A=2*F*D:=by rw[aj,key,aj]
  constructor
  ·intro h;have h2:2*R*A<D*A:=aD h C;rw[B,aF D A] at h2;exact bN h2
  ·intro h;have h2:2*F*D<A*D:=aD h I;rw[← B,aF A D] at h2;exact bN h2
 have S:2*R=D↔2*F=A:=by
  have B:2*R*A=2*F*D:=by rw[aj,key,aj]
  constructor
  ·intro h;rw[h,aF D A] at B;exact(dc I B).symm
  ·intro h;rw[h,aF A D] at B;exact dc C B
 unfold iY;simp only[M,O,S]
theorem lC (X D n:Nat) (F:0<D) (J:1≤n):iY (X%(D*2^n)) (D*2^n)=
  if X/D%2^n=0∧X%D=0 then 0 else if X/D%2^n<2^(n-1) then 1 else if X/D%2^n=2^(n-1)∧X%D=0 then 2 else 3:=by
 rw[Nat.mod_mul];have I:=aU X F;generalize X%D=R at *;generalize X/D%2^n=b at *;have e:2^n=2*2^(n-1):=by
  obtain⟨k,rfl⟩:∃ k,n=k+1:=⟨n-1,by omega⟩;simp [Nat.pow_succ,Nat.mul_comm]
 rw[e];generalize 2^(n-1)=m at *;unfold iY;have B:D*(2*m)=2*(D*m):=by ac_rfl
 rw[B];have C:R+D*b=0↔b=0∧R=0:=by
  constructor
  ·intro h;have h1:D*b=0:=by omega
   exact⟨(Nat.mul_eq_zero.1 h1).resolve_left dT,by omega⟩
  ·rintro⟨rfl,rfl⟩;simp
 have h1:2*(R+D*b)<2*(D*m)↔b<m:=by
  constructor
  ·intro h;have h2:D*b<D*m:=by omega
   exact cH h2
  ·intro h;have h2:D*(b+1)≤D*m:=au _ h;rw[ax,bw] at h2;omega
 have h2:2*(R+D*b)=2*(D*m)↔b=m∧R=0:=by
  constructor
  ·intro h;have h3:R+D*b=D*m:=by omega
   have E:b=m:=by
    rcases Nat.lt_trichotomy b m with A|A|A
    ·have:D*(b+1)≤D*m:=au _ A;rw[ax,bw] at this;omega
    ·exact A
    ·have:D*(m+1)≤D*b:=au _ A;rw[ax,bw] at this;omega
   subst E;exact⟨rfl,by omega⟩
  ·rintro⟨rfl,rfl⟩;omega
 simp only[C,h1,h2]
theorem nj (a:Nat):EN.blen a=Go.Proofs.YtfnkkkcojnffdaaGreatDoor.blen a:=rfl
theorem ij {a:Nat} (h:a≠0):2^(EN.blen a-1)≤a∧a<2^EN.blen a∧1≤EN.blen a:=by
 unfold EN.blen;rw[if_neg h];exact⟨cB h,cg,by omega⟩
/-- The front of A / B: its first 62 or 63 digits in twos. -/
theorem ir {A B:Nat} {e:Int} (F:A≠0) (I:B≠0) (i:e=(EN.blen A:Int)-EN.blen B-62):
  2^61≤upP A e/loP B e∧upP A e/loP B e<2^63∧expo A B=e+EN.blen (upP A e/loP B e)-1:=by
 obtain⟨M,a2,a3⟩:=ij F;obtain⟨N,c,d⟩:=ij I;have E:0<loP B e:=by unfold loP;exact bT dT (ae _)
 obtain⟨K,O⟩:∃ K:Nat,-(K:Int)≤e∧ -(K:Int)≤expo A B∧EN.blen B+200≤K:=⟨(-e).toNat+(-(expo A B)).toNat+EN.blen B+200,by omega,by omega,by omega⟩;obtain⟨C,D,R⟩:=O;have g1:2^61*B*2^e.toNat≤A*2^(-e).toNat:=by
  rw[jD K C];have h1:2^61*B*2^((K:Int)+e).toNat≤2^61*2^EN.blen B*2^((K:Int)+e).toNat:=aq _ (au _ dT);have h2:2^(EN.blen A-1)*2^K≤A*2^K:=aq _ M;rw[← ah,← ah,show 61+EN.blen B+((K:Int)+e).toNat=EN.blen A-1+K from by omega,ah] at h1;omega
 have g2:A*2^(-e).toNat<2^63*B*2^e.toNat:=by
  rw[jE K C];have h1:2^63*2^(EN.blen B-1)*2^((K:Int)+e).toNat≤2^63*B*2^((K:Int)+e).toNat:=aq _ (au _ N);have h2:A*2^K<2^EN.blen A*2^K:=aD a2 (ae _);rw[← ah,← ah,show 63+(EN.blen B-1)+((K:Int)+e).toNat=EN.blen A+K from by omega,ah] at h1;omega
 have W:2^61≤upP A e/loP B e:=(cX E).2 (by unfold upP loP;rw[← aj];exact g1);have X:upP A e/loP B e<2^63:=(aX E).2 (by unfold upP loP;rw[← aj];exact g2);refine⟨W,X,?_⟩;have J:upP A e/loP B e≠0:=by omega
 obtain⟨S,U,l3⟩:=ij J;have f1:2^(EN.blen (upP A e/loP B e)-1)*loP B e≤upP A e:=(cX E).1 S;have f2:upP A e<2^EN.blen (upP A e/loP B e)*loP B e:=(aX E).1 U;generalize EN.blen (upP A e/loP B e)=L at *;unfold upP loP at f1 f2;rw[← aj,jD K C] at f1;rw[← aj,jE K C] at f2;have j:=nt F I K D;have k:=nu F I K D;have Y:B*2^((K:Int)+expo A B).toNat<B*2^(L+((K:Int)+e).toNat):=by
  rw[ah,← aj,aF B (2^L)];omega
 have Z:B*2^(L-1+((K:Int)+e).toNat)<B*2^((K:Int)+(expo A B+1)).toNat:=by
  rw[ah,← aj,aF B (2^(L-1))];omega
 have m:=fN (cH Y);have z2:=fN (cH Z);omega
/-- Steps of 2^P, and steps of 2^e that are parted: P = e + n. -/
theorem om {A B n:Nat} {e P:Int} (h:P=e+n):upP A P*(loP B e*2^n)=upP A e*loP B P:=by
 unfold upP loP;have C:2^(-P).toNat*(2^e.toNat*2^n)=2^(-e).toNat*2^P.toNat:=by
  rw[← ah,← ah,← ah];congr 1;omega
 have D:A*2^(-P).toNat*(B*2^e.toNat*2^n)=A*B*(2^(-P).toNat*(2^e.toNat*2^n)):=by ac_rfl
 have E:A*2^(-e).toNat*(B*2^P.toNat)=A*B*(2^(-e).toNat*2^P.toNat):=by ac_rfl
 rw[D,E,C]
end Go.Proofs.YtfnkkkcojnffdaaGreatDoor.EN
namespace Go.Proofs.YtfnkkkcojnffdaaGreatDoor.EN
open Go.ChangeShapes Go.WideShapes Go.ChangeAt Go.RowKit
def dZ (A B:Nat):Int:=(EN.blen A:Int)-EN.blen B-62
theorem ie {a K:Nat} (h:a<2^(64*K)):EN.blen a≤64*K:=by
 unfold EN.blen;split
 ·omega
 ·have:=(cA dT).2 h;omega
set_option maxRecDepth 10000 in
theorem mP (w:World) (va o:Value) (A B K:Nat) (hK:K≤15000) (ci:1≤K) (ha:Num w va A) (hb:Num w o B) (E:A<2^(64*K)) (F:B<2^(64*K)) (hA:A≠0) (hB:B≠0):
  Calls Tryz.prog 97 #[va,o] w fun r w'=>r= .returned (.agg #[.int .u64 ((upP A (dZ A B)/loP B (dZ A B):Nat):Int),.int .i64 (dZ A B),.bool (decide (0<upP A (dZ A B)%loP B (dZ A B)))])∧G w w':=by
 obtain⟨q1,q2,-⟩:=ir hA hB (e:=dZ A B) rfl;have lA:=ie E;have lB:=ie F;have U:Hid (∀ C,G w C→_):=fun C g=>iO C va A K dT (ha.G g) E;have W:Hid (∀ C,G w C→_):=fun C g=>iO C o B K dT (hb.G g) F;have he:dZ A B=(EN.blen A:Int)-EN.blen B-62:=rfl;have M:Hid (∀ C,G w C→Calls Tryz.prog 155 #[va,.int .i64 (-(dZ A B))] C (ef C (upP A (dZ A B)))):=fun C g=>jC C va A K (-(dZ A B)) dT dT dT (ha.G g) E;have N:Hid (∀ C,G w C→Calls Tryz.prog 155 #[o,.int .i64 (dZ A B)] C (ef C (loP B (dZ A B)))):=fun C g=>jC C o B K (dZ A B) dT dT dT (hb.G g) F;have hX:upP A (dZ A B)<2^(64*(2*K+1)):=by
  unfold upP;have h1:2^(-(dZ A B)).toNat≤2^(64*K+62):=ak dT dT;have h2:A*2^(-(dZ A B)).toNat<2^(64*K)*2^(64*K+62):=ad (aD E (ae _)) (au _ h1);rw[← ah] at h2;exact ad h2 (ak dT dT)
 have hD:loP B (dZ A B)<2^(64*(2*K+1)):=by
  unfold loP;have h1:2^(dZ A B).toNat≤2^(64*K+62):=ak dT dT;have h2:B*2^(dZ A B).toNat<2^(64*K)*2^(64*K+62):=ad (aD F (ae _)) (au _ h1);rw[← ah] at h2;exact ad h2 (ak dT dT)
 have Z:0<loP B (dZ A B):=by unfold loP;exact bT dT (ae _)
 have cd: -10000000≤dZ A B:=by omega
 have ce:dZ A B≤10000000:=by omega
 have cl:(EN.blen A:Int)-EN.blen B-62=dZ A B:=rfl;generalize dZ A B=e at *;generalize upP A e=X at *;generalize loP B e=D at *;have S:Hid (∀ C L v2,Num C L X→Num C v2 D→_):=fun C L v2 h1 h2=>jk C L v2 X D (2*K+1) dT dT h1 h2 hX hD Z;generalize X/D=Q at *;generalize X%D=R at *;generalize EN.blen A=bA at *;generalize EN.blen B=bB at *;have cc:Q<18446744073709551616:=by omega
 have bl:Q≠0:=by omega
 have cz:(bA:Int)≤960000:=by omega
 have dk:(bB:Int)≤960000:=by omega
 obtain⟨J,I⟩:∃ J,J=decide (0<R):=⟨_,rfl⟩;rw[← I];have bi:Hid (J=decide (0<R)):=I;clear I;clear hX hD Z q1 q2 ha hb E F hA hB lA lB he;go_enter Tryz.func97,Tryz.ntmps97;go_wp2_with fail;obtain⟨w0,m,g0,cx,R0⟩:=eD w [.int .u64 0,.int .i64 0,.bool false] 177;rw[m];clear m;refine dS (U.out w0 g0) ?_;rintro s C ⟨rfl,g1⟩;go_wp2_with fail;refine dS (W.out C (aa g0 g1)) ?_;rintro s w2 ⟨rfl,g2⟩;have g12:=aa g1 g2;go_wp2_with fail;refine dS (M.out w2 (aa g0 g12)) ?_;intro s w3 c;obtain⟨L,rfl,g3,d⟩:=c;have Y:Hid (Num w3 L X):=d;have g13:=aa g12 g3;clear U W M d g1 g2 g12;go_wp2_with fail;refine dS (N.out w3 (aa g0 g13)) ?_;intro s w4 c;obtain⟨v2,rfl,g4,i⟩:=c;have O:=hi9 (S.out w4 L v2 (Y.out.G g4) i);have g14:=aa g13 g4;clear N S Y i g3 g13 g4;go_wp2_with fail;refine dS O.out ?_;intro s w5 c;obtain⟨v3,v4,rfl,g5,j,k⟩:=c;have g15:=aa g14 g5;clear O g14 g5;rcases eR j with ⟨h,-⟩|⟨-,-,nb,no,nc,rfl,cs,cn,bn⟩|⟨h,-⟩
 ·exact absurd h bl
 ·obtain⟨pr,kr,cr,rfl,-,hk,-⟩:=fp k;clear j k;rw[← bi.out] at hk;obtain⟨y,al,am,an,ao,ap⟩:=ev R0 (g15);go_wp2_with fail;have hT:Hid (Rec _ (w.heap.size) [.int .u64 (Q:Int),.int .i64 e,.bool J]):=Rec.set3 (bs R0.out (g15));have g9:=Rec.h3 hT.out (aa g0 g15) dT;generalize (World.setCell (World.setCell (World.setCell w5 ⟨w.heap.size,0,none⟩ (.int .u64 (Q:Int))) ⟨w.heap.size,1,none⟩ (.int .i64 e)) ⟨w.heap.size,2,none⟩ (.bool J))=w9 at *;obtain⟨bq,bu,bv,bz,ca,cb⟩:=ev hT (((af _)));refine bodyPost_ret (v:= .agg #[.int .u64 (Q:Int),.int .i64 e,.bool J]) (by simp [results,Tryz.results97,go_sem, *]) rfl ?_;exact⟨rfl,g9⟩
 ·omega
/-- What a fraction above 0 comes to: steps, their place, what is left. -/
theorem q17 (w:World) (A B:Nat) (hA:A≠0) (hB:B≠0) (am:EN.blen A≤960000) (an:EN.blen B≤960000):
  ∃ R:Nat,∃ P:Int,R<2^53∧ -1074≤P∧P≤971∧(P= -1074∨2^52≤R)∧tV A B=(P+1074).toNat*2^52+R∧lV A B<4∧
  Calls Tryz.prog 153 #[.agg #[.int .u64 ((upP A (dZ A B)/loP B (dZ A B):Nat):Int),.int .i64 (dZ A B),.bool (decide (0<upP A (dZ A B)%loP B (dZ A B)))]] w fun r w'=>r= .returned (.tuple #[.int .u64 (R:Int),.int .i64 P,.int .i64 ((lV A B:Nat):Int)])∧G w w':=by
 obtain⟨q1,O,y⟩:=ir hA hB (e:=dZ A B) rfl;have he:dZ A B=(EN.blen A:Int)-EN.blen B-62:=rfl;have N:∀ n:Nat,∀ P:Int,P=dZ A B+n→upP A P*(loP B (dZ A B)*2^n)=upP A (dZ A B)*loP B P:=fun n P h=>om h;have F:0<loP B (dZ A B):=by unfold loP;exact bT dT (ae _)
 have M:∀ P:Int,0<loP B P:=fun P=>by unfold loP;exact bT dT (ae _)
 have D:upP A (dZ A B)/loP B (dZ A B)≠0:=by omega
 obtain⟨o,s,l3⟩:=ij D;have hL:EN.blen (upP A (dZ A B)/loP B (dZ A B))≤63:=by
  have:2^(EN.blen (upP A (dZ A B)/loP B (dZ A B))-1)<2^63:=aG o O;have:=fN this;omega
 have al:62≤EN.blen (upP A (dZ A B)/loP B (dZ A B)):=by
  have:2^61<2^EN.blen (upP A (dZ A B)/loP B (dZ A B)):=aG q1 s;have:=fN this;omega
 have E:fO A B=max (dZ A B+EN.blen (upP A (dZ A B)/loP B (dZ A B))-53) (-1074):=by
  unfold fO;rw[y];omega
 obtain⟨P,S⟩:∃ P,P=fO A B:=⟨_,rfl⟩;have L:tV A B=if 971<P then 2047*2^52-1 else (P+1074).toNat*2^52+upP A P/loP B P:=by unfold tV;rw[S]
 have J:lV A B=if 971<P then 3 else iY (upP A P%loP B P) (loP B P):=by unfold lV;rw[S]
 rw[← S] at E;have C:=M P;clear M;by_cases W:971<P
 ·rw[if_pos W] at L J;refine⟨9007199254740991,971,by omega,by omega,by omega,Or.inr dT,by rw[L];rfl,by omega,?_⟩;rw[J];exact ot w _ (dZ A B) P _ D O dT dT E W
 ·rw[if_neg W] at L J;obtain⟨n,Y⟩:∃ n:Nat,P=dZ A B+n∧9≤n:=⟨(P-dZ A B).toNat,by omega,by omega⟩;obtain⟨Y,ao⟩:=Y;have U:=N n P Y;have K:0<loP B (dZ A B)*2^n:=bT F (ae n);have i:upP A P/loP B P=upP A (dZ A B)/loP B (dZ A B)/2^n:=by
   rw[jX C K U,bL]
  have j:iY (upP A P%loP B P) (loP B P)=lv (upP A (dZ A B)/loP B (dZ A B)%2^n) (2^(n-1)) (decide (0<upP A (dZ A B)%loP B (dZ A B))):=by
   rw[lz C K U,lC _ _ n F dT];unfold lv;have e3:(decide (0<upP A (dZ A B)%loP B (dZ A B))=false)=(upP A (dZ A B)%loP B (dZ A B)=0):=by
    apply propext;rw[decide_eq_false_iff_not];omega
   simp only[e3]
  rw[i] at L;rw[j] at J;clear i j U N K F C y;generalize decide (0<upP A (dZ A B)%loP B (dZ A B))=d at *;generalize upP A (dZ A B)/loP B (dZ A B)=Q at *;generalize dZ A B=e at *;have X:∀ b m:Nat,lv b m d<4:=fun b m=>by unfold lv;split;omega;split;omega;split<;>omega
  by_cases Z:63<P-e
  ·have hp:2^63≤2^(n-1):=eM dT;have ap:2^n=2*2^(n-1):=by
    obtain⟨k,rfl⟩:∃ k,n=k+1:=⟨n-1,by omega⟩;simp [Nat.pow_succ,Nat.mul_comm]
   have e4:Q/2^n=0:=aN dT;have e5:Q%2^n=Q:=aM dT;have e6:lV A B=1:=by
    rw[J,e5];unfold lv;rw[if_neg dT,if_pos dT]
   have I:P= -1074:=by omega
   refine⟨0,P,by omega,by omega,by omega,Or.inl I,by rw[L,e4],by omega,?_⟩;rw[e6];exact ou w Q e P d D O dT dT E dT Z
  ·obtain⟨k,hk⟩:∃ k,n=k+1:=⟨n-1,by omega⟩;have c:Q/2^n<2^53:=by
    rw[aX (ae n),← ah];exact ad s (eM dT)
   refine⟨Q/2^n,P,c,by omega,by omega,?_,L,by rw[J];exact X _ _,?_⟩
   ·by_cases I:P= -1074
    ·exact Or.inl I
    ·right;rw[cX (ae n),← ah];exact ch (eM dT) o
   ·rw[J,hk];exact mj w Q k e P d D O dT dT E dT dT dT
attribute [local go_sem] gu
/-- Whether a number between two floats goes on to the one that is farther from 0. -/
def onw (m:Int) (neg A:Bool) (l:Nat):Bool:=if m=1 then l==3||(l==2&&A) else if m=2 then neg else if m=3 then !neg else false
def q06 (m:Int) (neg:Bool) (w:World) (e:Ending) (D:World):Prop:=∃ (F:Nat) (A:Array Value),e= .returned (.func (.func F) #[] A)∧G w D∧
 (∀ B,G D B→∀ (C:Bool) (l:Nat),l<4→Calls Tryz.prog F (#[.bool C,.int .i64 (l:Int)]++A) B fun e E=>e= .returned (.bool (onw m neg C l))∧G B E)∧
 (∀ args B,(callFunc F args).run Tryz.prog B= .ok (.enter F args) B)
theorem qg (w:World) (A:Bool) (l:Nat) (C:l<4):Calls Tryz.prog 193 #[.bool A,.int .i64 (l:Int)] w fun e B=>e= .returned (.bool (l==3||(l==2&&A)))∧G w B:=by
 have h:l=0∨l=1∨l=2∨l=3:=by omega
 rcases h with rfl|rfl|rfl|rfl<;>cases A
 all_goals
  go_enter Tryz.func193,Tryz.ntmps193;go_wp2_with fail;go_ret;exact⟨rfl,af _⟩
theorem pH (w:World) (b l:Nat) (neg A:Bool) (C:w.cell? ⟨b,0,none⟩=some (.bool neg)):Calls Tryz.prog 194 #[.bool A,.int .i64 (l:Int),.pointer (some ⟨b,0,none⟩)] w fun e B=>e= .returned (.bool neg)∧G w B:=by
 go_enter Tryz.func194,Tryz.ntmps194;go_wp2_with fail;go_ret;exact⟨rfl,af _⟩
theorem q1U (w:World) (b l:Nat) (neg A:Bool) (C:w.cell? ⟨b,0,none⟩=some (.bool neg)):Calls Tryz.prog 195 #[.bool A,.int .i64 (l:Int),.pointer (some ⟨b,0,none⟩)] w fun e B=>e= .returned (.bool (!neg))∧G w B:=by
 go_enter Tryz.func195,Tryz.ntmps195;go_wp2_with fail;go_ret;exact⟨rfl,af _⟩
theorem q1u (w:World) (l:Nat) (A:Bool):Calls Tryz.prog 196 #[.bool A,.int .i64 (l:Int)] w fun e B=>e= .returned (.bool false)∧G w B:=by
 go_enter Tryz.func196,Tryz.ntmps196;go_wp2_with fail;go_ret;exact⟨rfl,af _⟩
theorem q1M (w:World) (m:Int) (neg:Bool) (E:m=1∨m=2∨m=3∨m=4):
  Calls Tryz.prog 152 #[.int .i64 m,.bool neg] w (q06 m neg w):=by
 rcases E with rfl|rfl|rfl|rfl
 ·go_enter Tryz.func152,Tryz.ntmps152;go_wp2_with fail;go_ret;exact⟨193,#[],rfl,(af _).alloc _,fun B _ A l C=>qg B A l C,fun _ _=>by kernel_rfl⟩
 ·go_enter Tryz.func152,Tryz.ntmps152;go_wp2_with fail;go_ret;have D:(w.alloc (.cells #[.bool neg] 4)).cell? ⟨w.heap.size,0,none⟩=some (.bool neg):=by simp [go_sem]
  exact⟨194,#[.pointer (some ⟨w.heap.size,0,none⟩)],rfl,(af _).alloc _,fun B g A l C=>pH B w.heap.size l neg A (g.cell (p:=⟨w.heap.size,0,none⟩) eO D),fun _ _=>by kernel_rfl⟩
 ·go_enter Tryz.func152,Tryz.ntmps152;go_wp2_with fail;go_ret;have D:(w.alloc (.cells #[.bool neg] 4)).cell? ⟨w.heap.size,0,none⟩=some (.bool neg):=by simp [go_sem]
  exact⟨195,#[.pointer (some ⟨w.heap.size,0,none⟩)],rfl,(af _).alloc _,fun B g A l C=>q1U B w.heap.size l neg A (g.cell (p:=⟨w.heap.size,0,none⟩) eO D),fun _ _=>by kernel_rfl⟩
 ·go_enter Tryz.func152,Tryz.ntmps152;go_wp2_with fail;go_ret;exact⟨196,#[],rfl,(af _).alloc _,fun B _ A l C=>q1u B l A,fun _ _=>by kernel_rfl⟩
theorem pN (F:Nat) (A:Array Value) (w:World):(binOp BinOp.eql 173 (.func (.func F) #[] A) .nilFunc).run Tryz.prog w= .ok (.bool false) w:=by kernel_rfl
/-- The float that so many steps at a place make. -/
theorem mD {v:Nat} {P:Int} (hv:v≤2^53) (E: -1074≤P) (F:P≤971) (h:P= -1074∨2^52≤v):fu 11 52 v P=(P+1074).toNat*2^52+v:=by
 have hb:(P+1074).toNat≤2045:=by omega
 rcases Nat.lt_or_eq_of_le hv with h1|h1
 ·rw[lG h1 E h,bE];omega
 ·subst h1;have C:=nv (A:=2^53*2^P.toNat) (B:=2^(-P).toNat) (mag:=2^53) (e:=P) (ct dT (by have:=ae P.toNat;omega)) (by have:=ae (-P).toNat;omega) dT dT (by ac_rfl);have D:=nv (A:=2^53*2^P.toNat) (B:=2^(-P).toNat) (mag:=2^52) (e:=P+1) (ct dT (by have:=ae P.toNat;omega)) (by have:=ae (-P).toNat;omega) dT dT (by
   have:53+P.toNat+(-(P+1)).toNat=52+(-P).toNat+(P+1).toNat:=by omega
   rw[← ah,← ah,← ah,← ah,this])
  rw[C,← D,lG dT dT (Or.inr (ay _))];rw[show (P+1+1074).toNat=(P+1074).toNat+1 from by omega];generalize (P+1074).toNat=k at *;rw[bE]
  ·omega
  ·omega
set_option maxRecDepth 10000 in
set_option maxHeartbeats 1000000 in
theorem oN (w:World) (v:Value) (x:Rat) (m:Int) (FR:Nat) (fv:Value) (C:Nat) (P:Int) (l:Nat) (hm:m=1∨m=2∨m=3∨m=4) (hx:QIs w v x) (h0:x≠0)
  (ds:C<2^53) (cz: -1074≤P) (dk:P≤971) (fs:P= -1074∨2^52≤C) (hl:l<4)
  (HQ:∀ B v1 v2,G w B→Num B v1 x.num.natAbs→Num B v2 x.den→Calls Tryz.prog FR #[v1,v2] B fun e w2=>e= .returned fv∧G B w2)
  (HE:∀ args w,(callFunc FR args).run Tryz.prog w= .ok (.enter FR args) w)
  (HC:∀ B,Calls Tryz.prog 153 #[fv] B fun r w'=>r= .returned (.tuple #[.int .u64 (C:Int),.int .i64 P,.int .i64 (l:Int)])∧G B w'):
  Calls Tryz.prog 96 #[v,.int .i64 m,.func (.func FR) #[] #[]] w fun r w'=>r= .returned (.tuple #[.float .f64 (FT.wrd (decide (x.num<0)) ((P+1074).toNat*2^52+C+if l≠0∧onw m (decide (x.num<0)) (C%2==1) l=true then 1 else 0)),.int .i64 0])∧G w w':=by
 have cn:Hid (∀ B,G w B→_):=fun B g=>nJ B v x (hx.G g);have HB:Hid (∀ B,G w B→_):=fun B g=>ni B v x (hx.G g);have hz:(x.num.sign==0)=false:=by rw[fY,decide_eq_false h0]
 obtain⟨a,k,c,a',k',c',rfl,y,he⟩:=hx;obtain⟨s,hs⟩:∃ s,s=decide (x.num<0):=⟨_,rfl⟩;rw[← hs];rw[← hs] at cn HB;have HR:Hid (∀ B,_):=fun B=>q1M B m s hm;obtain⟨u,hu⟩:∃ u:Nat,u=if l≠0∧onw m s (C%2==1) l=true then 1 else 0:=⟨_,rfl⟩;rw[← hu];have hq:u≤1:=by rw[hu];split<;>omega
 have cb:fu 11 52 (C+u) P=(P+1074).toNat*2^52+C+u:=by
  rw[mD dT cz dk dT];omega
 have D:Hid (∀ B,Calls Tryz.prog 154 #[.int .i64 ((C+u:Nat):Int),.int .i64 P] B fun r w'=>r= .returned (.float .f64 ((P+1074).toNat*2^52+C+u))∧G B w'):=fun B=>by
  have h:=q1x ((C+u:Nat):Int) P B dT dT dT dT;rw[if_neg dT,bM,show fV P=P from by unfold fV;omega,cb] at h;exact h
 have dq:(P+1074).toNat*2^52+C+u<2^63:=by
  have:(P+1074).toNat≤2045:=by omega
  omega
 have ea:FT.wrd false ((P+1074).toNat*2^52+C+u)=(P+1074).toNat*2^52+C+u:=rfl;obtain⟨fl,dr⟩:∃ fl,fl=(P+1074).toNat*2^52+C+u:=⟨_,rfl⟩;rw[← dr] at D dq ea ⊢;clear cb dr;have R:=lI fl (by clear hu;omega);have cc:negV fl=FT.wrd true fl:=by
  have h1:FT.neg fl=false:=by unfold FT.neg;simp;clear hu;omega
  unfold negV;rw[if_neg (by rw[h1];simp)];rfl
 rw[cc] at R;clear cc;obtain⟨fn,j⟩:∃ fn,fn=FT.wrd true fl:=⟨_,rfl⟩;rw[← j] at R;have ci:Hid (Op.negFloat .f64 fl=fn):=R;have ce:Hid (Ending.returned (.tuple #[.float .f64 fn,.int .i64 0])= .returned (.tuple #[.float .f64 (FT.wrd true fl),.int .i64 0])):=by show Ending.returned (.tuple #[.float .f64 fn,.int .i64 0])= .returned (.tuple #[.float .f64 (FT.wrd true fl),.int .i64 0]);rw[j]
 have cl:Hid (∀ B v1 v2,G w B→Num B v1 x.num.natAbs→Num B v2 x.den→_):=HQ;have cr:Hid (∀ B,_):=HC;have cs:Hid (Num w (.slice a k c) x.num.natAbs):=y;have em:Hid (∀ args w,(callFunc FR args).run Tryz.prog w= .ok (.enter FR args) w):=HE;have hj: -9223372036854775808≤P:=by omega
 have hk:P≤9223372036854775807:=by omega
 have hh:Hid (C<2^53):=ds;have ep:Hid (l<4):=hl;have HU:Hid (u=if l≠0∧onw m s (C%2==1) l=true then 1 else 0):=hu;have hg:(C:Int)<9007199254740992:=by omega
 have hn:(l:Int)<4:=by omega
 generalize x.num.sign=z at *;generalize x.num.natAbs=xn at *;obtain⟨d,hd⟩:∃ d,d=x.den:=⟨_,rfl⟩;rw[← hd] at HB cl;clear dq ea R j HQ HC HE y he hs hd ds hl hu cz dk fs hm h0;go_enter Tryz.func96,Tryz.ntmps96;go_wp2_with fail;obtain⟨w0,ec,g0,hr,R0⟩:=eD w [.bool s,.slice a k c,.slice a' k' c'] 29;rw[ec];clear ec;refine dS (HR.out w0) ?_;intro e1 B hs;obtain⟨F,Z,rfl,g1,ca,bz⟩:=hs;have ek:Hid (∀ args w2,(callFunc F args).run Tryz.prog w2= .ok (.enter F args) w2):=bz;clear bz;have cd:Hid (∀ w2,G B w2→∀ (N:Bool) (l:Nat),l<4→Calls Tryz.prog F (#[.bool N,.int .i64 (l:Int)]++Z) w2 fun e w3=>e= .returned (.bool (onw m s N l))∧G w2 w3):=ca;have cx:=aa g0 g1;have S0:Hid (Rec _ _ _):=bs R0.out (g1);clear ca g0 g1 R0 HR;obtain⟨an,ao,ap,bi,bl,bn⟩:=ev S0 (af _);have j:=pN F Z B;go_wp2_with fail;clear j;refine dS (cn.out B cx) ?_;rintro e1 w2 ⟨rfl,g2⟩;have i:=aa cx g2;have T0:Hid (Rec _ _ _):=bs S0.out (g2);clear an ao ap bi bl bn S0 cn;go_wp2_with fail
 refine oW 15 0 [.is (.func (.func FR) #[] #[]),.is (.pointer (some ⟨w.heap.size,0,none⟩)),.is (.pointer (some ⟨w.heap.size,1,none⟩)),.is (.slice a k c),.is (.agg #[.bool s,.slice a k c,.slice a' k' c']),.any (fun v w'=>Num w' v (d)),.is (fv),.is (.tuple #[.int .u64 (C:Int),.int .i64 P,.int .i64 (l:Int)]),.is (.tuple #[.int .u64 (C:Int),.int .i64 P,.int .i64 (l:Int)]),.is (.int .u64 (C:Int)),.is (.int .i64 P),.is (.int .i64 (l:Int)),.is (.int .u64 (C:Int)),.is (.int .i64 P),.is (.int .i64 (l:Int))] [some 24,some 25,some 26,some 27,some 28,some 29,some 30,some 31,some 23,some 32,some 33,some 34,some 9,some 10,some 11] ?_;intro v5 A hA;simp only[eY,Act.put,aA,aI,aJ] at hA;subst hA;refine⟨?_,?_⟩
 ·skip
  refine ai rfl ?b0 (ai rfl ?b1 (ai rfl ?b2 (ai rfl ?b3 (ai rfl ?o1_4 (ai rfl ?b7 (ai rfl ?b8 (ai rfl ?bA (ai rfl ?b4 (ai rfl ?b5 (ai rfl ?a1 (ai rfl ?a6 (ai rfl ?a7 (ai rfl ?a8 (ai rfl ?o1_14 (Eaches.nil)))))))))))))))
  case b0|b1|b2|b4|b5|a1|a6|a7|a8|o1_14=>
   exact oV
  case b3|o1_4=>
   intro W hW hD K hK;clear hD;have ⟨ga,gg,gm⟩:=rc39 T0 hW;go_simp;exact hK.out _ _ ⟨_,rfl,af _,rfl⟩
  ·intro W hW hD K hK;have hc:=hi9 (HB.out W (aa i hW));exact kP
  ·intro W hW hD K hK;have h5:=kZ v5 5 hD;clear hD;have dl:=em.out #[.slice a k c,v5] W;go_simp;go_wp2_with (refine dS (cl.out W (.slice a k c) v5 (aa i hW) (cs.out.G (aa i hW)) h5) ?_;intro e w9 hs;obtain⟨rfl,g9⟩:=hs);exact hK.out _ _ ⟨_,rfl,g9,rfl⟩
  ·intro W hW hD K hK;have hc:=hi9 (cr.out W);exact ed9
 intro w3 g3 hH;clear hH;refine wpAny_done dV ?_ _;have am:=aa i g3;have g13:=aa g2 g3;have U0:Hid (Rec _ _ _):=bs T0.out (g3);clear T0 HB cl cr cs i g2 g3;by_cases Y:l=0
 ·have ha:((l:Int) != 0)=false:=by rw[Y];rfl
  have o:u=0:=by rw[HU.out,if_neg (by rintro⟨h,-⟩;exact h Y)]
  subst o;rw[aP] at D;have O:=am;have eb:IntKind.i64.wrap (C:Int)=C:=by rw[IntKind.wrap_i64];omega
  clear HU cd Y g13 am;obtain⟨S,U,X,E,I,J⟩:=ev U0 (af _);clear E I J;go_wp2_with fail;refine dS (D.out _) ?_;rintro e9 w9 ⟨rfl,g9⟩;have L:=aa O g9;have X0:Hid (Rec _ _ _):=bs U0.out (g9);have M:=Rec.f3 X0.out;have y:=M.1;clear D O g9 M;cases s
  ·go_wp2_with fail
   go_ret2
   exact⟨rfl,L⟩
  ·have R:=ci.out;go_wp2_with fail
   go_ret2
   exact⟨ce.out,L⟩
 ·have ha:((l:Int) != 0)=true:=by simp;exact Y
  obtain⟨N,ho⟩:∃ N,N=(C%2==1):=⟨_,rfl⟩;have hp:((C:Int)%2==1)=N:=by rw[ho,Bool.eq_iff_iff];simp;omega
  have hf:(0:Int)≤C:=by omega
  have bq:=cd.out w3 g13 N l ep.out;rw[ho] at bq;have hu:u=if onw m s (C%2==1) l=true then 1 else 0:=by rw[HU.out];simp [Y]
  generalize onw m s (C%2==1) l=ob at *;rw[← ho] at bq;have bu:=hi9 bq;have al:Hid (u=if ob=true then 1 else 0):=hu;have dl:=ek.out (#[.bool N,.int .i64 (l:Int)]++Z) w3;clear HU cd Y g13 ho bq hu;obtain⟨S,U,X,E,I,J⟩:=ev U0 (af _);clear E I J;go_wp2_with fail;refine dS bu.out ?_;rintro e8 w8 ⟨rfl,g8⟩;have O:=aa am g8;have V0:Hid (Rec _ _ _):=bs U0.out (g8);clear dl bu U0 am g8 S U X;have U0:Hid (Rec w8 w.heap.size [.bool s,.slice a k c,.slice a' k' c']):=V0.out;clear V0;cases ob
  ·have o:u=0:=al.out;subst o;rw[aP] at D;have eb:IntKind.i64.wrap (C:Int)=C:=by rw[IntKind.wrap_i64];omega
   clear al;go_wp2_with fail;refine dS (D.out _) ?_;rintro e9 w9 ⟨rfl,g9⟩;have L:=aa O g9;have X0:Hid (Rec _ _ _):=bs U0.out (g9);have M:=Rec.f3 X0.out;have y:=M.1;clear D O g9 M;cases s
   ·go_wp2_with fail
    go_ret2
    exact⟨rfl,L⟩
   ·have R:=ci.out;go_wp2_with fail
    go_ret2
    exact⟨ce.out,L⟩
  ·have o:u=1:=al.out;subst o;have eb:IntKind.i64.wrap ((C:Int)+1)=(C:Int)+1:=by rw[IntKind.wrap_i64];omega
   have bv:Hid (∀ B,Calls Tryz.prog 154 #[.int .i64 ((C:Int)+1),.int .i64 P] B fun r w'=>r= .returned (.float .f64 fl)∧G B w'):=fun B=>by
    have h:=D.out B;rw[show ((C+1:Nat):Int)=(C:Int)+1 from by omega] at h;exact h
   clear al D;have D:=bv;clear bv;go_wp2_with fail;refine dS (D.out _) ?_;rintro e9 w9 ⟨rfl,g9⟩;have L:=aa O g9;have X0:Hid (Rec _ _ _):=bs U0.out (g9);have M:=Rec.f3 X0.out;have y:=M.1;clear D O g9 M;cases s
   ·go_wp2_with fail
    go_ret2
    exact⟨rfl,L⟩
   ·have R:=ci.out;go_wp2_with fail
    go_ret2
    exact⟨ce.out,L⟩
end Go.Proofs.YtfnkkkcojnffdaaGreatDoor.EN
namespace Go.Proofs.YtfnkkkcojnffdaaGreatDoor.EN
open Go.ChangeShapes Go.WideShapes Go.ChangeAt Go.RowKit
/-- A fraction above 0 rounded: the float's place. -/
def rdV (m:Int) (neg:Bool) (A B:Nat):Nat:=tV A B+if lV A B≠0∧onw m neg (tV A B%2==1) (lV A B)=true then 1 else 0
theorem nx (w:World) (v:Value) (x:Rat) (m:Int) (K:Nat) (i:K≤15000) (N:1≤K) (X:m=1∨m=2∨m=3∨m=4) (Y:QIs w v x) (M:x≠0) (hb:QB x K):
  Calls Tryz.prog 41 #[v,.int .i64 m] w fun r S=>r= .returned (.tuple #[.float .f64 (FT.wrd (decide (x.num<0)) (rdV m (decide (x.num<0)) x.num.natAbs x.den)),.int .i64 0])∧G w S:=by
 have J:x.num.natAbs≠0:=by
  intro h;exact M (Rat.num_eq_zero.1 dT)
 have L:=x.den_nz;have lA:=ie hb.1;have lB:=ie hb.2;obtain⟨F,P,h1,h2,h3,D,I,h6,-⟩:=q17 w x.num.natAbs x.den J L dT dT;have A:(F%2==1)=(tV x.num.natAbs x.den%2==1):=by
  rw[I];have:((P+1074).toNat*2^52+F)%2=F%2:=by omega
  rw[this]
 have C:Hid (∀ B,G w B→Calls Tryz.prog 96 #[v,.int .i64 m,.func (.func 97) #[] #[]] B fun r S=>r= .returned (.tuple #[.float .f64 (FT.wrd (decide (x.num<0)) (rdV m (decide (x.num<0)) x.num.natAbs x.den)),.int .i64 0])∧G B S):=fun B g=>by
  have h:=oN B v x m 97 _ F P (lV x.num.natAbs x.den) X (Y.G g) M h1 h2 h3 D h6 (fun U v1 v2 _ k1 k2=>mP U v1 v2 _ _ K i N k1 k2 hb.1 hb.2 J L) (fun _ _=>by kernel_rfl) (fun U=>by
   obtain⟨R,Z,j1,j2,j3,O,y,j6,j⟩:=q17 U x.num.natAbs x.den J L dT dT;have W:Z=P∧R=F:=by
    rw[I] at y;rcases D with D|D<;>rcases O with O|O<;>(constructor<;>omega)
   obtain⟨rfl,rfl⟩:=W;exact j)
  rw[A,← I] at h;exact h
 unfold rdV at C ⊢;generalize tV x.num.natAbs x.den+(if lV x.num.natAbs x.den≠0∧onw m (decide (x.num<0)) (tV x.num.natAbs x.den%2==1) (lV x.num.natAbs x.den)=true then 1 else 0)=r at *;clear M hb J L lA lB h1 h2 h3 D I h6 A X;generalize FT.wrd (decide (x.num<0)) r=fl at *;obtain⟨a,k,c,d,e,c',rfl,-,-⟩:=Y;generalize decide (x.num<0)=s at *;go_enter Tryz.func41,Tryz.ntmps41;go_wp2_with fail;obtain⟨w0,E,g0,o,R0⟩:=eD w [.bool s,.slice a k c,.slice d e c'] 29;rw[E];clear E;refine Calls.mono (P:=Tryz.prog) (C.out w0 g0) ?_;rintro W B ⟨rfl,g1⟩;go_wp2_with fail
 go_ret2
 exact⟨rfl,aa g0 g1⟩
def fex (b:Nat):Nat:=b/2^52%2^11
def fmag (b:Nat):Nat:=if fex b=0 then b%2^52 else 2^52+b%2^52
/-- What a finite float is. -/
def FQ (b:Nat):Rat:=mkRat (frN (FT.neg b) (fmag b) (fex b)) (frD (fex b))
theorem oS:((1:Int):Rat)/((3:Int):Rat)=mkRat 1 3:=(Rat.mkRat_eq_div 1 3).symm
theorem third_parts:(((1:Int):Rat)/((3:Int):Rat)).num=1∧(((1:Int):Rat)/((3:Int):Rat)).den=3:=
 rat_low dT rfl (mk_cross dT oS)
theorem kI (w:World) (v:Value) (h:QIs w v ((1:Int)/(3:Int):Rat)):
  Calls Tryz.prog 10 #[v] w fun e E=>e= .returned (.string ⟨#[49,47,51]⟩)∧G w E:=by
 have R:(((1:Int):Rat)/((3:Int):Rat)).num=1:=third_parts.1;have S:(((1:Int):Rat)/((3:Int):Rat)).den=3:=third_parts.2;obtain⟨a,k,c,N,O,c',rfl,h1,h2⟩:=h;rw[R] at h1 ⊢;rw[S] at h2;have C:Num w (.slice a k c) 1:=h1;have B:Num w (.slice N O c') 3:=h2;have d1:Lib.decDigits 1=[49]:=by rw[Lib.decDigits];rfl
 have d3:Lib.decDigits 3=[51]:=by rw[Lib.decDigits];rfl
 have W:Hid (∀ A,G w A→Calls Tryz.prog 47 #[.slice a k c] A fun e E=>e= .returned (.string ⟨#[49]⟩)∧G A E):=fun A g=>by
  have h:=q00 A _ 1 dT dT (C.G g);rw[d1] at h;exact h
 have X:Hid (∀ A,G w A→Calls Tryz.prog 47 #[.slice N O c'] A fun e E=>e= .returned (.string ⟨#[51]⟩)∧G A E):=fun A g=>by
  have h:=q00 A _ 3 dT dT (B.G g);rw[d3] at h;exact h
 obtain⟨s,o,y,e,-,m,-⟩:=fp B;injection e with d i j;subst d;subst i;subst j;have U:decide ((1:Int)<0)=false:=rfl;rw[U];clear h1 h2 C B d1 d3 R S U;go_enter Tryz.func10,Tryz.ntmps10;go_wp2_with fail;obtain⟨w0,D,g0,Z,Y⟩:=eD w [.bool false,.slice a k c,.slice N O c'] 29;rw[D];clear D;refine dS (W.out w0 g0) ?_;rintro e A ⟨rfl,g1⟩;obtain⟨F,I,J,K,L,M⟩:=ev Y (g1);go_wp2_with fail;refine dS (X.out A (aa g0 g1)) ?_;rintro e w2 ⟨rfl,g2⟩;go_wp2_with fail;go_ret;exact⟨rfl,aa g0 (aa g1 g2)⟩
theorem ky (w:World):Calls Tryz.prog 42 #[.float .f64 4599676419421066581,.float .f64 4607182418800017408] w fun e K=>e= .returned (.float .f64 4599676419421066582)∧G w K:=by
 have E:Hid _:=fun w=>nE 4599676419421066581 w;have F:Hid _:=fun w=>nE 4607182418800017408 w;rw[show FT.nan 4599676419421066581=false from by decide] at E;rw[show FT.nan 4607182418800017408=false from by decide] at F;have L:(FloatKind.f64.format.order 4599676419421066581 4607182418800017408==some .eq)=false:=by decide+kernel
 have M:(FloatKind.f64.format.order 4599676419421066581 0==some .eq)=false:=by decide+kernel
 have N:(FloatKind.f64.format.order 4607182418800017408 4599676419421066581==some .gt)=true:=by decide+kernel
 have O:(FloatKind.f64.format.order 4599676419421066581 0==some .gt)=true:=by decide+kernel
 have J:=fun w=>ff 4599676419421066581 w;have I:=fun w=>eH 4599676419421066582 w;go_enter Tryz.func42,Tryz.ntmps42;go_wp2_with fail;refine(E.out _).mono ?_;rintro e R ⟨rfl,C⟩;have A:=C.size
 try simp at A
 go_wp2_with fail;refine(F.out _).mono ?_;rintro e S ⟨rfl,D⟩;have B:=D.size
 try simp at B
 go_wp2_with fail;go_ret;exact⟨rfl,ny⟩
set_option maxRecDepth 10000 in
theorem q0U (w:World) (o:Tab w):Calls Tryz.prog 5 #[] w fun e N=>e= .returned (.bool true)∧G w N:=by
 have d:Hid (∀ A,G w A→Calls Tryz.prog 6 #[.int .i64 1,.int .i64 3] A (kQ A ((1:Int)/(3:Int):Rat) 0)):=fun A g=>by
  have h:=mK A 1 3 (o.G g) dT dT dT dT;exact h
 have K:((1:Int)/(3:Int):Rat)≠0:=by
  intro h;have:=congrArg Rat.num h;rw[third_parts.1] at this;exact absurd this ey
 have L:QB ((1:Int)/(3:Int):Rat) 1:=by unfold QB;rw[third_parts.1,third_parts.2];exact⟨by decide,by decide⟩
 have O:Hid (∀ A v,QIs A v ((1:Int)/(3:Int):Rat)→Calls Tryz.prog 41 #[v,.int .i64 1] A fun r N=>r= .returned (.tuple #[.float .f64 4599676419421066581,.int .i64 0])∧G A N):=fun A v hv=>by
  have h:=nx A v _ 1 1 dT dT (Or.inl rfl) hv K L;rw[third_parts.1,third_parts.2,show FT.wrd (decide ((1:Int)<0)) (rdV 1 (decide ((1:Int)<0)) (Int.natAbs 1) 3)=4599676419421066581 from by decide+kernel] at h;exact h
 have R:Hid (∀ A v,QIs A v ((1:Int)/(3:Int):Rat)→Calls Tryz.prog 41 #[v,.int .i64 3] A fun r N=>r= .returned (.tuple #[.float .f64 4599676419421066582,.int .i64 0])∧G A N):=fun A v hv=>by
  have h:=nx A v _ 3 1 dT dT (Or.inr (Or.inr (Or.inl rfl))) hv K L;rw[third_parts.1,third_parts.2,show FT.wrd (decide ((1:Int)<0)) (rdV 3 (decide ((1:Int)<0)) (Int.natAbs 1) 3)=4599676419421066582 from by decide+kernel] at h;exact h
 have m:Hid (∀ A v,QIs A v ((1:Int)/(3:Int):Rat)→_):=fun A v hv=>kI A v hv;clear K L;go_enter Tryz.func5,Tryz.ntmps5;go_wp2_with fail;refine dS (d.out _ (by repeat' (first|exact af _|refine G.alloc ?_ _))) ?_;intro e1 A s;obtain⟨v,rfl,g1,hv⟩:=s;obtain⟨a,k,c,U,X,c',rfl,Y,Z⟩:=hv;have W:decide ((((1:Int):Rat)/((3:Int):Rat)).num<0)=false:=by rw[third_parts.1];rfl
 have j:QIs A (.agg #[.bool false,.slice a k c,.slice U X c']) ((1:Int)/(3:Int):Rat):=⟨a,k,c,U,X,c',by rw[W],Y,Z⟩;have S:=hi9 j;rw[W];clear d Y Z W j;go_wp2_with fail;obtain⟨w2,M,g2,y,i⟩:=eD A [.bool false,.slice a k c,.slice U X c'] 29;rw[M];clear M;refine dS (O.out w2 _ (QIs.G S.out g2)) ?_;rintro e w3 ⟨rfl,g3⟩;have g23:=aa g2 g3;obtain⟨B,C,D,E,F,I⟩:=ev i (g3);go_wp2_with fail;clear B C D E F I;refine dS (R.out w3 _ (QIs.G S.out g23)) ?_;rintro e w4 ⟨rfl,g4⟩;have g24:=aa g3 g4;have Y:(FloatKind.f64.format.order 4599676419421066581 4599676419421066581==some .eq)=true:=by decide+kernel
 have Z:(FloatKind.f64.format.order 4599676419421066582 4599676419421066582==some .eq)=true:=by decide+kernel
 go_wp2_with fail;refine dS (ky _) ?_;rintro e w5 ⟨rfl,g5⟩;have J:=aa g24 g5;obtain⟨B,C,D,E,F,I⟩:=ev i (J);go_wp2_with fail;refine dS (m.out w5 _ (QIs.G S.out (aa g2 J))) ?_;rintro e w6 ⟨rfl,g6⟩;go_wp2_with fail;go_ret;exact⟨rfl,aa g1 (aa g2 (aa J g6))⟩
end Go.Proofs.YtfnkkkcojnffdaaGreatDoor.EN
namespace Go.Proofs.YtfnkkkcojnffdaaGreatDoor
open Go.RowKit
/-- A ratio of whole numbers in lowest terms. -/
theorem pM {sa A:Int} (h:A≠0):((sa:Rat)/(A:Rat))=mkRat (if A<0 then -sa else sa) A.natAbs:=by
 rw[Rat.mkRat_eq_div];by_cases B:A<0
 ·rw[if_pos B];have e:((A.natAbs:Nat):Rat)= -((A:Int):Rat):=by
   have:((A.natAbs:Nat):Int)= -A:=by omega
   show (((A.natAbs:Nat):Int):Rat)=_;rw[this];rfl
  rw[e];rw[Rat.div_def,Rat.div_def];have E:((A:Int):Rat)≠0:=by intro C;have:=congrArg Rat.num C;exact h this
  have D:(-((A:Int):Rat))⁻¹ = -(((A:Int):Rat)⁻¹):=by
   refine Rat.inv_eq_of_mul_eq_one ?_;rw[Rat.neg_mul,Rat.mul_neg,Rat.neg_neg,Rat.mul_inv_cancel _ E]
  rw[D,Rat.mul_neg];show _= -((-(sa:Rat))*_);rw[Rat.neg_mul,Rat.neg_neg]
 ·rw[if_neg B];have e:((A.natAbs:Nat):Rat)=((A:Int):Rat):=by
   have:((A.natAbs:Nat):Int)=A:=by omega
   show (((A.natAbs:Nat):Int):Rat)=_;rw[this]
  rw[e]
theorem ld {z:Int} {d:Nat} (A:0<d) {q:Rat} (h:q=mkRat z d):q.num=Int.tdiv z (Nat.gcd z.natAbs d:Nat)∧q.den=d/Nat.gcd z.natAbs d:=by
 have F:0<Nat.gcd z.natAbs d:=cO _ A;obtain⟨a,J⟩:=bQ z.natAbs d;have I:z=Int.tdiv z (Nat.gcd z.natAbs d:Nat)*((Nat.gcd z.natAbs d:Nat):Int):=by
  rw[Int.tdiv_mul_cancel (Int.ofNat_dvd_left.2 (cC _ _))]
 have D:d/Nat.gcd z.natAbs d*Nat.gcd z.natAbs d=d:=Nat.div_mul_cancel (bQ _ _);have C:0<d/Nat.gcd z.natAbs d:=Nat.div_pos (Nat.le_of_dvd A (bQ _ _)) F;have B:(Int.tdiv z (Nat.gcd z.natAbs d:Nat)).natAbs=z.natAbs/Nat.gcd z.natAbs d:=by
  rw[Int.natAbs_tdiv,bM];rfl
 refine EN.rat_low C (by rw[B];exact Nat.gcd_div_gcd_div_gcd_of_pos_right A) ?_;have h1:=EN.mk_cross A h;have E:((Nat.gcd z.natAbs d:Nat):Int)≠0:=by omega
 refine Int.eq_of_mul_eq_mul_right E ?_;rw[show Int.tdiv z (Nat.gcd z.natAbs d:Nat)*(q.den:Int)*((Nat.gcd z.natAbs d:Nat):Int)=Int.tdiv z (Nat.gcd z.natAbs d:Nat)*((Nat.gcd z.natAbs d:Nat):Int)*q.den from by ac_rfl,← I,h1,Int.mul_assoc,← aV,D]
end Go.Proofs.YtfnkkkcojnffdaaGreatDoor
namespace Go.Proofs.YtfnkkkcojnffdaaGreatDoor.EN
open Go.RowKit
theorem q1e {q:Rat} {z:Int} {d K:Nat} (C:0<d) (h:q=mkRat z d) (h1:z.natAbs<2^(64*K)) (h2:d<2^(64*K)):QB q K:=by
 obtain⟨A,B⟩:=ld C h;refine⟨?_,?_⟩
 ·rw[A,Int.natAbs_tdiv,bM];exact aG (bh _ _) h1
 ·rw[B];exact aG (bh _ _) h2
theorem q1I {x y:Rat} {K L:Nat} (A:QB x K) (B:QB y L):QB (x*y) (K+L):=by
 refine q1e (z:=x.num*y.num) (d:=x.den*y.den) (bT x.den_pos y.den_pos) ?_ ?_ (gS A.2 B.2)
 ·rw[← Rat.mkRat_mul_mkRat,Rat.mkRat_self,Rat.mkRat_self]
 ·rw[Int.natAbs_mul];exact gS A.1 B.1
theorem kB {K:Nat} (h:1≤K):QB 0 K:=⟨ae _,Nat.one_lt_two_pow dT⟩
end Go.Proofs.YtfnkkkcojnffdaaGreatDoor.EN
namespace Go.Proofs.YtfnkkkcojnffdaaGreatDoor
open Go.ChangeShapes Go.WideShapes Go.ChangeAt Go.RowKit
open BN
theorem Rec.f4 {w:World} {b:Nat} {x y z u:Value} (h:Rec w b [x,y,z,u]):w.cell? ⟨b,0,none⟩=some x∧w.cell? ⟨b,1,none⟩=some y∧w.cell? ⟨b,2,none⟩=some z∧w.cell? ⟨b,3,none⟩=some u∧w.frozen? ⟨b,0,none⟩=false∧w.frozen? ⟨b,1,none⟩=false∧w.frozen? ⟨b,2,none⟩=false∧w.frozen? ⟨b,3,none⟩=false:=
 ⟨h.cell 0,h.cell 1,h.cell 2,h.cell 3,h.frozen 0,h.frozen 1,h.frozen 2,h.frozen 3⟩
theorem ka {w:World} {v:Value} {n b:Nat} {x y z u u1 u2 u3 u4:Value} (h:Num w v n) (r:Rec w b [x,y,z,u]) (L:∀ c∈[x,y,z,u],∀ k i,c≠ .int k i):
  Num ((((w.setCell ⟨b,0,none⟩ u1).setCell ⟨b,1,none⟩ u2).setCell ⟨b,2,none⟩ u3).setCell ⟨b,3,none⟩ u4) v n:=by
 obtain⟨m,E,D,hv⟩:=h;refine⟨m,?_,D,hv⟩;rcases Sl.cases E with ⟨rfl,a,c,rfl⟩|⟨F,I,o,c,rfl,C,hb,K⟩
 ·exact⟨E.1,Or.inl ⟨rfl,a,c,rfl⟩⟩
 ·have A:I≠b:=by
   intro e;subst e;have J:=K 0 (bD.2 F);rw[r.cell] at J;exact L _ (bH J) _ _ rfl
  refine⟨E.1,Or.inr ⟨I,o,c,rfl,C,by simpa [World.setCell] using hb,fun i hi=> ?_⟩⟩;rw[World.cell?_setCell_other _ _ _ _ (by intro e;injection e with B;exact A B.symm),World.cell?_setCell_other _ _ _ _ (by intro e;injection e with B;exact A B.symm),World.cell?_setCell_other _ _ _ _ (by intro e;injection e with B;exact A B.symm),World.cell?_setCell_other _ _ _ _ (by intro e;injection e with B;exact A B.symm)];exact K i hi
set_option maxRecDepth 10000 in
set_option maxHeartbeats 2000000 in
theorem lQ (w:World) (C ba oa bb ob:Nat) (sa F:Int) (K:Nat) (hK:K≤300000) (o:sa.natAbs<2^(32*K)) (s:F.natAbs<2^(32*K)) (cr:F≠0) (dq:ba<w.heap.size) (dr:bb<w.heap.size)
  (hz:Rec w C [.bool false,.slice none 0 0,.bool false,.slice none 0 0]) (ha:IntIs w ba oa sa) (hb:IntIs w bb ob F):
  Calls Tryz.prog 43 #[.pointer (some ⟨C,0,none⟩),.pointer (some ⟨ba,oa,none⟩),.pointer (some ⟨bb,ob,none⟩)] w (NormTo w C ((sa:Rat)/(F:Rat)).num ((sa:Rat)/(F:Rat)).den):=by
 have fv:=hz.lt;have ca:Hid (∀ S p,G w S→NI w S p 0→_):=fun S p g h=>q1g S p 0 ba oa 0 sa K dT o h.2.1 (G.lt g dq) h.2.2 (ha.G dq g);have cc:Hid (∀ S p,G w S→NI w S p 0→_):=fun S p g h=>q1g S p 0 bb ob 0 F K dT s h.2.1 (G.lt g dr) h.2.2 (hb.G dr g);have HZ:Hid (Rec w C [.bool false,.slice none 0 0,.bool false,.slice none 0 0]):=hz;have bi:Hid (sa.natAbs<2^(32*K)):=o;have bl:Hid (F.natAbs<2^(32*K)):=s;have d:Hid (F≠0):=cr;obtain⟨nb,vb,b',⟨-,c2,-,-⟩,hh,O,-⟩:=hb;obtain⟨m,hm,ga,an⟩:=hh;obtain⟨pb,cb,rfl,-,-⟩:=ei hm;have ec:m.length≠0:=by
  intro h0;rw[aC h0] at an;have:b'=0:=an.symm;rw[this] at O;unfold sg at O;cases nb<;>simp at O<;>omega
 have hl:((m.length:Int)==0)=false:=by simp;intro h;exact ec (by rw[h];rfl)
 generalize m.length=j at *;clear hz ha hm ga an O ec o s cr;go_enter Tryz.func43,Tryz.ntmps43;go_wp2_with fail;have L:=NI.new (af w) 43;have J:=(af w).alloc (.cells #[.bool false,.slice none 0 0] 43);refine Calls.mono (P:=Tryz.prog) (ca.out _ _ J L) ?_;intro e w3 hs;obtain⟨rfl,y,al,-,-⟩:=SetTo.step J L hs;clear hs L J c2;have hw:C<w.heap.size:=fv;generalize ii:w.heap.size=pn at *;go_wp2_with fail;have L:=NI.new y 43;have dk:=al.G ((af w3).alloc (.cells #[.bool false,.slice none 0 0] 43));have J:=aa y ((af w3).alloc (.cells #[.bool false,.slice none 0 0] 43));have he:w3.heap.size≠pn:=by have:=al.2.1;omega
 refine Calls.mono (P:=Tryz.prog) (cc.out _ _ J L) ?_;intro e w4 hs;obtain⟨rfl,cz,cx,-,ds⟩:=SetTo.step J L hs;have dl:=ds pn sa he.symm dk;clear hs L J ds dk al y ca cc;generalize w3.heap.size=pd at *;have ih:=cx.1;have hr:=dl.1;obtain⟨-,ht,n1,v1,a1,⟨c1,c2,-,-⟩,ao,h1,ci⟩:=dl;obtain⟨-,hp,R,v2,a2,⟨c3,c4,-,-⟩,ap,h2,cl⟩:=cx;have M:=bs HZ.out cz;have N:=Rec.f4 M;have z1:=N.1;have z2:=N.2.1;have z3:=N.2.2.1;have z4:=N.2.2.2.1;have f1:=N.2.2.2.2.1;have f2:=N.2.2.2.2.2.1;have f3:=N.2.2.2.2.2.2.1;have f4:=N.2.2.2.2.2.2.2;obtain⟨X,r1,t1,rfl⟩:=iN ao;obtain⟨Y,r2,t2,rfl⟩:=iN ap;simp only[az] at c2 c4;have hy:¬ C=pn:=by omega
 have hx:¬ C=pd:=by omega
 have ho:¬ pn=C:=by omega
 have hn:¬ pd=C:=by omega
 have am:∀ c∈[Value.bool false,.slice none 0 0,.bool false,.slice none 0 0],∀ k i,c≠ .int k i:=by
  intro c hc k i;simp at hc;rcases hc with rfl|rfl|rfl|rfl<;>(intro e;cases e)
 have cd:=hi9 (ka (u1:= .bool n1) (u2:= .slice X r1 t1) (u3:= .bool R) (u4:= .slice Y r2 t2) ao M am);have ce:=hi9 (ka (u1:= .bool n1) (u2:= .slice X r1 t1) (u3:= .bool R) (u4:= .slice Y r2 t2) ap M am);have bv:Hid (Rec ((((w4.setCell ⟨C,0,none⟩ (.bool n1)).setCell ⟨C,1,none⟩ (.slice X r1 t1)).setCell ⟨C,2,none⟩ (.bool R)).setCell ⟨C,3,none⟩ (.slice Y r2 t2)) C [.bool n1,.slice X r1 t1,.bool R,.slice Y r2 t2]):=(((M.set 0 _).set 1 _).set 2 _).set 3 _;have ek:Hid (GX C w ((((w4.setCell ⟨C,0,none⟩ (.bool n1)).setCell ⟨C,1,none⟩ (.slice X r1 t1)).setCell ⟨C,2,none⟩ (.bool R)).setCell ⟨C,3,none⟩ (.slice Y r2 t2))):=GX.set (GX.set (GX.set (GX.set (GX.of cz) _) _) _) _;have I:=Rec.f4 bv.out;have bn:Hid (IntIs ((((w4.setCell ⟨C,0,none⟩ (.bool n1)).setCell ⟨C,1,none⟩ (.slice X r1 t1)).setCell ⟨C,2,none⟩ (.bool R)).setCell ⟨C,3,none⟩ (.slice Y r2 t2)) C 0 sa):=⟨n1,_,a1,⟨I.1,I.2.1,I.2.2.2.2.1,I.2.2.2.2.2.1⟩,cd.out,h1,ci⟩;have bq:Hid (IntIs ((((w4.setCell ⟨C,0,none⟩ (.bool n1)).setCell ⟨C,1,none⟩ (.slice X r1 t1)).setCell ⟨C,2,none⟩ (.bool R)).setCell ⟨C,3,none⟩ (.slice Y r2 t2)) C 2 F):=⟨R,_,a2,⟨I.2.2.1,I.2.2.2.1,I.2.2.2.2.2.2.1,I.2.2.2.2.2.2.2⟩,ce.out,h2,cl⟩;have hq:=pM (sa:=sa) d.out;have E:=ld (by have:=d.out;omega) hq;have U:(if F<0 then -sa else sa).natAbs=sa.natAbs:=by split<;>omega
 rw[U] at E;obtain⟨P,hP⟩:∃ P,P=((sa:Rat)/(F:Rat)).num:=⟨_,rfl⟩;obtain⟨D,hD⟩:∃ D,D=((sa:Rat)/(F:Rat)).den:=⟨_,rfl⟩;rw[← hP,← hD] at E;have HN:Hid (∀ Z,C<Z.heap.size→IntIs Z C 0 sa→IntIs Z C 2 F→Calls Tryz.prog 102 #[.pointer (some ⟨C,0,none⟩)] Z (NormTo Z C P D)):=by
  intro Z k1 k2 k3;by_cases W:F<0
  ·have h:=mI Z C sa F.natAbs K hK bi.out bl.out dT k1 k2 (by rw[show -((F.natAbs:Nat):Int)=F from by omega];exact k3);rw[if_pos W] at E;rw[E.1,E.2];exact h
  ·obtain⟨n,va,A,ia,hj,ea,gm⟩:=k2;obtain⟨m2,vb,B,ib,hk,eb,hd⟩:=k3;have gg:m2=false:=by
    cases m2
    ·rfl
    ·have h1:=hd rfl;unfold sg at eb;simp at eb;omega
   subst gg;have cs:B=F.natAbs:=by unfold sg at eb;simp at eb;omega
   have cn:A=sa.natAbs:=gU ea;have h:=q1E Z C n va vb A B K hK (by rw[cn];exact bi.out) (by rw[cs];exact bl.out) (by have:=d.out;omega) gm k1 ⟨ia,hj,ib,hk⟩;rw[if_neg W] at E;rw[q0O,ea,cn,cs,← E.1,← E.2] at h;exact h
 have hg:C<((((w4.setCell ⟨C,0,none⟩ (.bool n1)).setCell ⟨C,1,none⟩ (.slice X r1 t1)).setCell ⟨C,2,none⟩ (.bool R)).setCell ⟨C,3,none⟩ (.slice Y r2 t2)).heap.size:=by
  have:C<w4.heap.size:=by omega
  simpa [World.setCell] using this
 have fs:=hi9 (HN.out _ hg bn.out bq.out);have bu:Hid (P=((sa:Rat)/(F:Rat)).num∧D=((sa:Rat)/(F:Rat)).den):=⟨hP,hD⟩;clear ci h1 h2 cl ao ap HZ M N I am cd ce bv bn bq hq E U hP hD HN;go_wp2_with fail;refine Calls.mono (P:=Tryz.prog) fs.out ?_;intro e w6 hs;obtain⟨rfl,k1,k2⟩:=hs;have ep:Hid (RatIs w6 C P (D:Int)):=k2;have em:Hid (GX C w w6):=GX.trans ek.out k1;clear k1 k2;go_wp2_with fail;go_ret;exact⟨rfl,em.out,by rw[← bu.out.1,← bu.out.2];exact ep.out⟩
end Go.Proofs.YtfnkkkcojnffdaaGreatDoor
namespace Go.Proofs.YtfnkkkcojnffdaaGreatDoor.EN
open Go.ChangeShapes Go.WideShapes Go.ChangeAt Go.RowKit
/-- A new Int of the reference. -/
def NewI (w0 w:World) (v:Value) (s:Int):Prop:=∃ p,v= .pointer (some ⟨p,0,none⟩)∧w0.heap.size≤p∧p<w.heap.size∧IntIs w p 0 s
theorem NewI.G {w0 w A:World} {v:Value} {s:Int} (h:NewI w0 w v s) (g:G w A):NewI w0 A v s:=by
 obtain⟨p,e,h1,h2,h3⟩:=h;exact⟨p,e,h1,ad h2 g.size,h3.G h2 g⟩
end Go.Proofs.YtfnkkkcojnffdaaGreatDoor.EN
namespace Go.Proofs.YtfnkkkcojnffdaaGreatDoor.EN
open Go.RowKit
/-- A finite float in units. -/
def fz (b:Nat):Int:=if FT.neg b then -(FT.v (FT.rung b):Int) else FT.v (FT.rung b)
/-- So many units. -/
def Uz (z:Int):Rat:=mkRat z (2^1074)
theorem rung_lt (b:Nat):FT.rung b<2^63:=aU _ (ae _)
/-- The place of a number's nearest float, and its word. -/
def rV (q:Rat):Nat:=rdV 1 (decide (q.num<0)) q.num.natAbs q.den
def nR (q:Rat):Nat:=FT.wrd (decide (q.num<0)) (rV q)
/-- What comes of a number whose floats are taken off, so many at most. -/
inductive Fr:Nat→Rat→List Nat→Bool→Prop where
 |zero (k:Nat):Fr k 0 [] true
 |most (v:Rat):Fr 0 v [] true
 |bad (k:Nat) (v:Rat) (h0:v≠0) (hq:QB v 80) (h:fex (nR v)=2047∨FQ (nR v)=0):Fr (k+1) v [] false
 |step (k:Nat) (v:Rat) (l:List Nat) (o:Bool) (h0:v≠0) (hq:QB v 80) (h1:fex (nR v)<2047) (h2:FQ (nR v)≠0) (h:Fr k (v-FQ (nR v)) l o):Fr (k+1) v (nR v::l) o
/-- Half of the gap above a float of this exponent. -/
def hv (e:Nat):Nat:=fu 11 52 1 (((e-1:Nat):Int)-1075)
/-- Each entry is no more than half of the gap above the one ahead. -/
def Steep:List Nat→Prop
 |a::b::l=>(2≤fex a∧FT.rung b≤hv (fex a))∧Steep (b::l)
 |_=>True
theorem Steep.at:∀ {l:List Nat},Steep l→∀ i,i+1<l.length→2≤fex (l.getD i 0)∧FT.rung (l.getD (i+1) 0)≤hv (fex (l.getD i 0))
 |[],_,i,hi=>by simp at hi
 |[_],_,i,hi=>by simp at hi
 |a::b::l,h,0,_=>h.1
 |a::b::l,h,i+1,hi=>by
  have:=Steep.at (l:=b::l) h.2 i (by simpa using hi);simpa using this
/-- A list tells so many units. -/
structure Tells (z:Int) (l:List Nat):Prop where
 sum:(l.map fz).sum=z
 fin:∀ b∈l,b<2^64∧fex b<2047
 steep:Steep l
 head:∀ a m,l=a::m→FT.rung a=rV (Uz z)∧z≠0
/-- The three floats whose sum is told. -/
def l3:List Nat:=[4607182418800017408,4861130398305394688,4307583784117748259]
end Go.Proofs.YtfnkkkcojnffdaaGreatDoor.EN
namespace Go.Proofs.YtfnkkkcojnffdaaGreatDoor.EN
open Go.ChangeShapes Go.WideShapes Go.ChangeAt Go.RowKit
/-- A slice of floats. -/
def FSl (w:World) (v:Value) (l:List Nat):Prop:=
 ∃ a c,v= .slice a l.length c∧l.length≤c∧∀ i,i<l.length→∃ b o,a=some ⟨b,o,none⟩∧b<w.heap.size∧w.cell? ⟨b,o+i,none⟩=some (.float .f64 (l.getD i 0))
theorem FSl.G {w A:World} {v:Value} {l:List Nat} (h:FSl w v l) (g:G w A):FSl A v l:=by
 obtain⟨a,c,e,C,h⟩:=h;refine⟨a,c,e,C,fun i hi=> ?_⟩;obtain⟨b,o,B,h1,h2⟩:=h i hi;exact⟨b,o,B,ad h1 g.size,g.cell (p:=⟨b,o+i,none⟩) h1 h2⟩
/-- A fraction that lies in three cells. -/
def QAt (w:World) (b o:Nat) (q:Rat):Prop:=∃ t a k c A B c',w.cell? ⟨b,o,none⟩=some (.bool t)∧w.cell? ⟨b,o+1,none⟩=some (.slice a k c)∧w.cell? ⟨b,o+2,none⟩=some (.slice A B c')∧QIs w (.agg #[.bool t,.slice a k c,.slice A B c']) q
theorem QAt.G {w A:World} {b o:Nat} {q:Rat} (h:QAt w b o q) (hb:b<w.heap.size) (g:G w A):QAt A b o q:=by
 obtain⟨t,a,k,c,B,D,c',h1,h2,h3,C⟩:=h;exact⟨t,a,k,c,B,D,c',g.cell (p:=⟨b,o,none⟩) hb h1,g.cell (p:=⟨b,o+1,none⟩) hb h2,g.cell (p:=⟨b,o+2,none⟩) hb h3,C.G g⟩
/-- A slice of fractions, told in units. -/
def NSl (w:World) (v:Value) (l:List Int):Prop:=
 ∃ a c,v= .slice a l.length c∧l.length≤c∧∀ i,i<l.length→∃ b o,a=some ⟨b,o,none⟩∧b<w.heap.size∧QAt w b (o+i*3) (Uz (l.getD i 0))
theorem NSl.G {w A:World} {v:Value} {l:List Int} (h:NSl w v l) (g:G w A):NSl A v l:=by
 obtain⟨a,c,e,C,h⟩:=h;refine⟨a,c,e,C,fun i hi=> ?_⟩;obtain⟨b,o,B,h1,h2⟩:=h i hi;exact⟨b,o,B,ad h1 g.size,h2.G h1 g⟩
/-- No word of 64 bits. -/
def noU (x:Value):Prop:=∀ m,x≠ .int .u64 m
theorem qi {x:Value} (h:fk x):noU x:=fun m e=>by rw[e] at h;exact h
theorem jw {w:World} {v:Value} {n b:Nat} {l:List Value} (h:Num w v n) (r:Rec w b l) (M:∀ x∈l,noU x):∀ A:World,(∀ i k,i≠b→A.cell? ⟨i,k,none⟩=w.cell? ⟨i,k,none⟩)→w.heap.size≤A.heap.size→Num A v n:=by
 intro A L N;obtain⟨m,E,D,hv⟩:=h;refine⟨m,?_,D,hv⟩;rcases Sl.cases E with ⟨rfl,a,c,rfl⟩|⟨F,I,o,c,rfl,C,hb,K⟩
 ·exact⟨E.1,Or.inl ⟨rfl,a,c,rfl⟩⟩
 ·have B:I≠b:=by
   intro e;subst e;have J:=K 0 (bD.2 F);rw[r.cell] at J;exact M _ (bH J) _ rfl
  exact⟨E.1,Or.inr ⟨I,o,c,rfl,C,by omega,fun i hi=>by rw[L _ _ B];exact K i hi⟩⟩
/-- A fraction stands where a block without words is written. -/
theorem QIs.apart {w A:World} {v:Value} {q:Rat} {b:Nat} {l:List Value} (h:QIs w v q) (r:Rec w b l) (C:∀ x∈l,noU x)
  (B:∀ i k,i≠b→A.cell? ⟨i,k,none⟩=w.cell? ⟨i,k,none⟩) (D:w.heap.size≤A.heap.size):QIs A v q:=by
 obtain⟨a,k,c,E,F,c',e,h1,h2⟩:=h;exact⟨a,k,c,E,F,c',e,jw h1 r C A B D,jw h2 r C A B D⟩
/-- Block b is fractions, told in units, and may be written. -/
def NOwn (w:World) (b:Nat) (l:List Int):Prop:=
 ∃ L:List Value,Rec w b L∧L.length=3*l.length∧(∀ x∈L,fk x)∧
  ∀ i,i<l.length→∃ t a k c A B c',L[i*3]? =some (.bool t)∧L[i*3+1]? =some (.slice a k c)∧L[i*3+2]? =some (.slice A B c')∧QIs w (.agg #[.bool t,.slice a k c,.slice A B c']) (Uz (l.getD i 0))
theorem NOwn.G {w A:World} {b:Nat} {l:List Int} (h:NOwn w b l) (g:Go.Proofs.YtfnkkkcojnffdaaGreatDoor.G w A):NOwn A b l:=by
 obtain⟨L,h1,h2,h3,I⟩:=h;refine⟨L,h1.G g,h2,h3,fun i hi=> ?_⟩;obtain⟨t,a,k,c,B,J,c',C,D,E,F⟩:=I i hi;exact⟨t,a,k,c,B,J,c',C,D,E,F.G g⟩
theorem NOwn.free {w:World} {b:Nat} {l:List Int} (h:NOwn w b l) (i:Nat):w.frozen? ⟨b,i,none⟩=false:=by
 obtain⟨L,h1,-⟩:=h;exact h1.frozen i
theorem NOwn.lt {w:World} {b:Nat} {l:List Int} (h:NOwn w b l):b<w.heap.size:=by
 obtain⟨L,h1,-⟩:=h;exact h1.lt
theorem NOwn.cells {w:World} {b:Nat} {l:List Int} (h:NOwn w b l) {i:Nat} (hi:i<l.length):QAt w b (i*3) (Uz (l.getD i 0)):=by
 obtain⟨L,h1,h2,h3,F⟩:=h;obtain⟨t,a,k,c,A,I,c',B,C,D,E⟩:=F i hi;exact⟨t,a,k,c,A,I,c',by rw[h1.cell];exact B,by rw[h1.cell];exact C,by rw[h1.cell];exact D,E⟩
theorem NOwn.sl {w:World} {b:Nat} {l:List Int} (h:NOwn w b l) (c:Nat) (A:l.length≤c):NSl w (.slice (some ⟨b,0,none⟩) l.length c) l:=
 ⟨_,c,rfl,A,fun i hi=>⟨b,0,rfl,h.lt,by rw[az];exact h.cells hi⟩⟩
theorem NOwn.set {w:World} {b:Nat} {l:List Int} (h:NOwn w b l) {i:Nat} (hi:i<l.length) {z:Int} {t:Bool} {a D:Option Addr} {k c F c':Nat} (S:QIs w (.agg #[.bool t,.slice a k c,.slice D F c']) (Uz z)):
  NOwn (((w.setCell ⟨b,i*3,none⟩ (.bool t)).setCell ⟨b,i*3+1,none⟩ (.slice a k c)).setCell ⟨b,i*3+2,none⟩ (.slice D F c')) b (l.set i z):=by
 obtain⟨L,h1,h2,h3,O⟩:=h;have E:∀ {v:Value} {q:Rat},QIs w v q→QIs (((w.setCell ⟨b,i*3,none⟩ (.bool t)).setCell ⟨b,i*3+1,none⟩ (.slice a k c)).setCell ⟨b,i*3+2,none⟩ (.slice D F c')) v q:=fun hv=>hv.apart h1 (fun x A=>qi (h3 x A)) (fun j m C=>by
  rw[World.cell?_setCell_other _ _ _ _ (by intro e;injection e with B;exact C B.symm),World.cell?_setCell_other _ _ _ _ (by intro e;injection e with B;exact C B.symm),World.cell?_setCell_other _ _ _ _ (by intro e;injection e with B;exact C B.symm)]) (by simp [World.setCell])
 refine⟨((L.set (i*3) (.bool t)).set (i*3+1) (.slice a k c)).set (i*3+2) (.slice D F c'),((h1.set _ _).set _ _).set _ _,by simp only[av];exact h2,?_,?_⟩
 ·intro x A;rcases cI A with A|rfl
  ·rcases cI A with A|rfl
   ·rcases cI A with A|rfl
    ·exact h3 x A
    ·trivial
   ·trivial
  ·trivial
 ·intro j C;rw[av] at C;by_cases R:j=i
  ·subst R;refine⟨t,a,k,c,D,F,c',?_,?_,?_,?_⟩
   ·rw[aS dT,aS dT,List.getElem?_set_self dT]
   ·rw[aS dT,List.getElem?_set_self (by simp only[av];omega)]
   ·rw[List.getElem?_set_self (by simp only[av];omega)]
   ·have:(l.set j z).getD j 0=z:=by simp [List.getD_eq_getElem?_getD,C]
    rw[this];exact E S
  ·obtain⟨t1,I,U,c1,a2,W,J,B,K,M,N⟩:=O j C;refine⟨t1,I,U,c1,a2,W,J,?_,?_,?_,?_⟩
   ·rw[aS dT,aS dT,aS dT];exact B
   ·rw[aS dT,aS dT,aS dT];exact K
   ·rw[aS dT,aS dT,aS dT];exact M
   ·have:(l.set i z).getD j 0=l.getD j 0:=by simp only[ab];rw[aS dT]
    rw[this];exact E N
/-- Each float of a list is finite. -/
def Fin (l:List Nat):Prop:=∀ b∈l,fex b<2047
theorem ku {l:List Nat} (h:∀ i,i<l.length→fex (l.getD i 0)<2047):Fin l:=by
 intro b hb;obtain⟨i,hi,rfl⟩:=List.mem_iff_getElem.1 hb;have:=h i hi
 rwa[ab,aB hi] at this
/-- Floats as cells. -/
def fl (l:List Nat):List Value:=l.map fun b=> .float .f64 b
/-- A slice of floats whose block is our own (from block base on). -/
def FOwn (w:World) (B:Nat) (v:Value) (l:List Nat):Prop:=
 (v= .slice none 0 0∧l=[])∨∃ g cap A,v= .slice (some ⟨g,0,none⟩) l.length cap∧B≤g∧w.heap[g]? =some (.cells A 22 (0,0))∧l.length≤cap∧cap≤maxLen∧A.size=cap∧A.toList.take l.length=fl l∧∀ x∈A.toList,fk x
theorem heap_lt {w:World} {g:Nat} {o:Obj} (h:w.heap[g]? =some o):g<w.heap.size:=(aT.1 h).1
theorem FOwn.G {w C:World} {A:Nat} {v:Value} {l:List Nat} (h:FOwn w A v l) (g:Go.Proofs.YtfnkkkcojnffdaaGreatDoor.G w C):FOwn C A v l:=by
 rcases h with h|⟨b,cap,B,e,h1,h2,h3⟩
 ·exact Or.inl h
 ·refine Or.inr ⟨b,cap,B,e,h1,?_,h3⟩;obtain⟨-,-,-,-,g5⟩:=g;exact(g5 b (heap_lt h2)).trans h2
theorem FOwn.set {w:World} {A b i x n cap:Nat} {l:List Nat} (h:FOwn w A (.slice (some ⟨b,0,none⟩) n cap) l):FOwn (w.setCell ⟨b,i,none⟩ (.float .f64 x)) A (.slice (some ⟨b,0,none⟩) n cap) (l.set i x):=by
 rcases h with ⟨e,-⟩|⟨L,D,C,e,h1,h2,h3,I,J,h6,K⟩
 ·cases e
 ·injection e with B E F;injection B with B;injection B with B;subst B;subst F;refine Or.inr ⟨b,cap,C.setIfInBounds i (.float .f64 x),by rw[av,E],h1,?_,by rw[av];exact h3,I,by simpa using J,?_,?_⟩
  ·simp only[World.setCell,da,if_true,h2,cq];simp
  ·rw[Array.toList_setIfInBounds,av];rw[List.take_set,h6];unfold fl;rw[List.map_set]
  ·intro u hu;rw[Array.toList_setIfInBounds] at hu;rcases cI hu with hu|rfl
   ·exact K u hu
   ·trivial
theorem FOwn.own {w:World} {A:Nat} {v:Value} {l:List Nat} (h:FOwn w A v l) {b:Nat} (hb:b<A∨w.heap.size≤b):v.ownBlock≠some b:=by
 rcases h with ⟨rfl,-⟩|⟨g,cap,B,rfl,h1,h2,-⟩
 ·intro e;cases e
 ·intro e;have C:g=b:=bp e;have:=heap_lt h2;omega
theorem FOwn.oth {w C:World} {A:Nat} {v:Value} {l:List Nat} (h:FOwn w A v l) {b:Nat} (hb:v.ownBlock≠some b) (D:∀ k,k≠b→C.heap[k]? =w.heap[k]?):FOwn C A v l:=by
 rcases h with h|⟨g,cap,B,rfl,h1,h2,h3⟩
 ·exact Or.inl h
 ·exact Or.inr ⟨g,cap,B,rfl,h1,by rw[D g (by intro e;exact hb (by rw[← e];rfl))];exact h2,h3⟩
/-- What appending to a slice of our own leaves standing. -/
structure Onto (base:Nat) (v:Value) (w w':World):Prop where
 q:∀ (u:Value) (x:Rat),QIs w u x→QIs w' u x
 r:∀ (b:Nat) (L:List Value),Rec w b L→v.ownBlock≠some b→Rec w' b L
 g:∀ w0:World,w0.heap.size≤base→G w0 w→G w0 w'
/-- An append whose run is known. -/
theorem wpList_app {P:Program} (w:World) {ops:Array Oper} {rest:List Oper} {o:Oper} {a:Act} {Q:Exit→Act→World→Prop} (A:o.guard=none) (s x:Operand) (t:TypeId)
  (E:o.op= .call {callee:= .builtin .append,args:=#[s,x],argTypes:=#[t,t]}) (v sl:Value) (I:a.eval s=v) (J:a.eval x=sl) {B:Value} {C:World}
  (F:(Builtin.append_ #[t,t] o.type #[v,sl]).run P w= .ok B C) (h:wpList P ops Q rest (a.put o.dst B) C):wpList P ops Q (o::rest) a w:=
 wpList_plain A fun _ D=>by
  unfold Oper.wp execOp;simp only[E,resolve,invoke,builtin,Sem.run_bind,Sem.run_pure,Result.andThen_ok,List.map_toArray,dB,List.map_nil,I,J,F];exact D _ _ h
end Go.Proofs.YtfnkkkcojnffdaaGreatDoor.EN
namespace Go.Proofs.YtfnkkkcojnffdaaGreatDoor.EN
open Go.RowKit
/-- Two entries change places. -/
def swap (l:List Nat) (p q:Nat):List Nat:=(l.set p (l.getD q 0)).set q (l.getD p 0)
/-- 1 for what is no number or infinite. -/
def bad (b:Nat):Int:=if fex b<2047 then 0 else 1
end Go.Proofs.YtfnkkkcojnffdaaGreatDoor.EN
namespace Go.Proofs.YtfnkkkcojnffdaaGreatDoor
theorem Rec.new6 (w:World) (a b c d e f:Value) (t:TypeId):Rec (w.alloc (.cells #[a,b,c,d,e,f] t)) w.heap.size [a,b,c,d,e,f]:=Rec.new w [a,b,c,d,e,f] t
end Go.Proofs.YtfnkkkcojnffdaaGreatDoor
namespace Go.Proofs.YtfnkkkcojnffdaaGreatDoor.EN
open Go.ChangeShapes Go.WideShapes Go.ChangeAt Go.RowKit
/-- Six cells written. -/
def set6 (w:World) (b:Nat) (A B C D E F:Value):World:=(((((w.setCell ⟨b,0,none⟩ A).setCell ⟨b,1,none⟩ B).setCell ⟨b,2,none⟩ C).setCell ⟨b,3,none⟩ D).setCell ⟨b,4,none⟩ E).setCell ⟨b,5,none⟩ F
theorem qE {w:World} {b:Nat} {v:Value} {q:Rat} {C D E F I J M N O R S U:Value} (h:QIs w v q) (r:Rec w b [C,D,E,F,I,J]) (L:∀ x∈[C,D,E,F,I,J],noU x):QIs (set6 w b M N O R S U) v q:=
 h.apart r L (fun i k hi=>by
  have A:∀ (B:World) (j:Nat) (x:Value),(B.setCell ⟨b,j,none⟩ x).cell? ⟨i,k,none⟩=B.cell? ⟨i,k,none⟩:=fun B j x=>World.cell?_setCell_other _ _ _ _ (by intro e;injection e with K;exact hi K.symm);unfold set6;rw[A,A,A,A,A,A]) (by simp [set6,World.setCell])
/-- A step's two parts. -/
def StepIs (w:World) (v:Value) (p q:Rat):Prop:=∃ t a k c A D c' t2 b j d B C d',v= .agg #[.bool t,.slice a k c,.slice A D c',.bool t2,.slice b j d,.slice B C d']∧QIs w (.agg #[.bool t,.slice a k c,.slice A D c']) p∧QIs w (.agg #[.bool t2,.slice b j d,.slice B C d']) q
theorem StepIs.G {w A:World} {v:Value} {p q:Rat} (h:StepIs w v p q) (g:Go.Proofs.YtfnkkkcojnffdaaGreatDoor.G w A):StepIs A v p q:=by
 obtain⟨t,a,k,c,B,E,c',t2,b,j,d,C,D,d',e,h1,h2⟩:=h;exact⟨t,a,k,c,B,E,c',t2,b,j,d,C,D,d',e,h1.G g,h2.G g⟩
/-- At block p lies the reference's ratio of a fraction. -/
def RIs (w:World) (p:Nat) (q:Rat):Prop:=RatIs w p q.num (q.den:Int)
theorem RIs.G {w A:World} {p:Nat} {q:Rat} (h:RIs w p q) (B:p<w.heap.size) (g:G w A):RIs A p q:=RatIs.G h B g
/-- A call hands back a new ratio. -/
def RetRat (w:World) (q:Rat) (e:Ending) (A:World):Prop:=∃ p,e= .returned (.pointer (some ⟨p,0,none⟩))∧G w A∧w.heap.size≤p∧p<A.heap.size∧RIs A p q
/-- A call sets a ratio. -/
def SetRat (w:World) (b:Nat) (q:Rat) (e:Ending) (A:World):Prop:=e= .returned (.pointer (some ⟨b,0,none⟩))∧GX b w A∧RIs A b q
theorem SetRat.ret {w0 w:World} {b:Nat} {q:Rat} {e:Ending} {A:World} (g:G w0 w) (hb:w0.heap.size≤b) (B:b<w.heap.size) (h:SetRat w b q e A):RetRat w0 q e A:=
 ⟨b,h.1,GX.fresh g h.2.1 hb,hb,ad B h.2.1.size,h.2.2⟩
theorem qb32 {q:Rat} {K:Nat} (h:QB q K):q.num.natAbs<2^(32*(2*K))∧q.den<2^(32*(2*K)):=by
 have e:32*(2*K)=64*K:=by omega
 rw[e];exact h
/-- The same, or a new ratio, which stands for 0. -/
def RV (w:World) (p:Nat) (q:Rat):Prop:=RIs w p q∨(q=0∧RatIs w p 0 0)
theorem RV.G {w B:World} {p:Nat} {q:Rat} (h:RV w p q) (A:p<w.heap.size) (g:G w B):RV B p q:=by
 rcases h with h|⟨h1,h⟩
 ·exact Or.inl (h.G A g)
 ·exact Or.inr ⟨h1,RatIs.G h A g⟩
theorem RV.v {w:World} {p:Nat} {q:Rat} (h:RV w p q):RatV w p q.num q.den:=by
 rcases h with h|⟨rfl,h⟩
 ·exact Or.inl h
 ·exact Or.inr ⟨rfl,rfl,h⟩
theorem kD (w:World) (c a:Int):Calls Tryz.prog 91 #[.int .i64 c,.int .i64 a] w fun e F=>e= .returned (.agg #[.int .i64 c,.int .i64 a])∧G w F:=by
 go_enter Tryz.func91,Tryz.ntmps91;go_wp2_with fail;have E:Hid (Rec (w.alloc (.cells #[.int .i64 c,.int .i64 a] 65)) w.heap.size [.int .i64 c,.int .i64 a]):=Rec.new2 w _ _ _;have g0:G w (w.alloc (.cells #[.int .i64 c,.int .i64 a] 65)):=(af w).alloc _;generalize w.alloc (.cells #[.int .i64 c,.int .i64 a] 65)=w0 at *;obtain⟨A,B,C,D⟩:=eU E (af _);refine bodyPost_ret (v:= .agg #[.int .i64 c,.int .i64 a]) (by simp [results,Tryz.results91,go_sem, *]) rfl ?_;exact⟨rfl,g0⟩
/-- A store of a float. -/
theorem fX (P:Program) (w:World) (a:Addr) (m:Mode) (k:FloatKind) (n:Nat):(store a (.float k n) m).run P w=stored P w a (.float k n) m:=run_store P w a _ m rfl
attribute [local go_sem] fX
end Go.Proofs.YtfnkkkcojnffdaaGreatDoor.EN
namespace Go.Proofs.YtfnkkkcojnffdaaGreatDoor.EN
open Go.ChangeShapes Go.WideShapes Go.ChangeAt Go.RowKit
attribute [local go_sem] fX
/-- A slice of points. -/
def PSl (w:World) (v:Value) (l:List (Nat×Nat)):Prop:=
 ∃ a c,v= .slice a l.length c∧l.length≤c∧∀ i,i<l.length→∃ b o,a=some ⟨b,o,none⟩∧b<w.heap.size∧w.cell? ⟨b,o+i*2,none⟩=some (.float .f64 (l.getD i (0,0)).1)∧w.cell? ⟨b,o+i*2+1,none⟩=some (.float .f64 (l.getD i (0,0)).2)
theorem PSl.G {w A:World} {v:Value} {l:List (Nat×Nat)} (h:PSl w v l) (g:G w A):PSl A v l:=by
 obtain⟨a,c,e,C,h⟩:=h;refine⟨a,c,e,C,fun i hi=> ?_⟩;obtain⟨b,o,B,h1,h2,h3⟩:=h i hi;exact⟨b,o,B,ad h1 g.size,g.cell (p:=⟨b,o+i*2,none⟩) h1 h2,g.cell (p:=⟨b,o+i*2+1,none⟩) h1 h3⟩
end Go.Proofs.YtfnkkkcojnffdaaGreatDoor.EN
namespace Go.Proofs.YtfnkkkcojnffdaaGreatDoor.EN
open Go.ChangeShapes Go.WideShapes Go.ChangeAt Go.RowKit
theorem StepIs.set6 {w:World} {b:Nat} {v:Value} {p q:Rat} {J K L M N O:Value} (h:StepIs w v p q) (r:Rec w b [.bool false,.slice none 0 0,.slice none 0 0,.bool false,.slice none 0 0,.slice none 0 0]):StepIs (set6 w b J K L M N O) v p q:=by
 have A:∀ x∈[Value.bool false,.slice none 0 0,.slice none 0 0,.bool false,.slice none 0 0,.slice none 0 0],noU x:=by
  intro x E m e;subst e;simp at E
 obtain⟨t,a,k,c,B,I,c',t2,C,j,d,D,F,d',e,h1,h2⟩:=h;exact⟨t,a,k,c,B,I,c',t2,C,j,d,D,F,d',e,qE h1 r A,qE h2 r A⟩
/-- A step that lies in a block of its own. -/
def StepAt (w:World) (b:Nat) (p q:Rat):Prop:=∃ t a k c A E c' t2 C j d B D d',Rec w b [.bool t,.slice a k c,.slice A E c',.bool t2,.slice C j d,.slice B D d']∧StepIs w (.agg #[.bool t,.slice a k c,.slice A E c',.bool t2,.slice C j d,.slice B D d']) p q
theorem StepAt.G {w A:World} {b:Nat} {p q:Rat} (h:StepAt w b p q) (g:Go.Proofs.YtfnkkkcojnffdaaGreatDoor.G w A):StepAt A b p q:=by
 obtain⟨t,a,k,c,B,F,c',t2,D,j,d,C,E,d',h1,h2⟩:=h;exact⟨t,a,k,c,B,F,c',t2,D,j,d,C,E,d',bs h1 g,h2.G g⟩
end Go.Proofs.YtfnkkkcojnffdaaGreatDoor.EN
namespace Go.Proofs.YtfnkkkcojnffdaaGreatDoor
end Go.Proofs.YtfnkkkcojnffdaaGreatDoor
namespace Go.Proofs.YtfnkkkcojnffdaaGreatDoor.EN
open Go.ChangeShapes Go.WideShapes Go.ChangeAt Go.RowKit
theorem qD {w:World} {b c:Nat} {l:List Value} {B C D E F I:Value} (h:Rec w b l) (A:c≠b):Rec (set6 w c B C D E F I) b l:=
 Rec.oth (Rec.oth (Rec.oth (Rec.oth (Rec.oth (Rec.oth h _ A) _ A) _ A) _ A) _ A) _ A
theorem StepAt.set6 {w:World} {b c:Nat} {p q:Rat} {J K L M N O:Value} (h:StepAt w b p q) (r:Rec w c [.bool false,.slice none 0 0,.slice none 0 0,.bool false,.slice none 0 0,.slice none 0 0]) (A:c≠b):StepAt (EN.set6 w c J K L M N O) b p q:=by
 obtain⟨t,a,k,c',B,I,E,t2,D,j,d,C,F,d',h1,h2⟩:=h;exact⟨t,a,k,c',B,I,E,t2,D,j,d,C,F,d',qD h1 A,h2.set6 r⟩
end Go.Proofs.YtfnkkkcojnffdaaGreatDoor.EN
