/- What is proved here: how a fraction is cut to a float, its arithmetic (no program).
What is proved here: contracts of package exact: quotient, over this seat's translation.
What is proved here: contracts of package exact: rounding, over this seat's translation.
What is proved here: contracts of package exact: Float, over this seat's translation.
What is proved here: contracts of package exact: Of, over this seat's translation.
What is proved here: the closed fact on one third, over this seat's translation.
What is proved here: the float at or below a ratio, by its size; floats around a ratio, over this seat's translation.
What is proved here: lowest terms and bounds of fractions (no program), over this seat's translation.
What is proved here: contracts of the reference's ratios: SetFrac of a new ratio, whatever sign the lower part has, over this seat's translation.
What is proved here: the law's own fraction of two whole numbers, over this seat's translation.
What is proved here: contracts of the reference's ratios: Quo of Rat (to a new one, by one of any sign but 0), over this seat's translation.
What is proved here: sums of floats in units of 2 to the power of -1074; how near the nearest float is, over this seat's translation (no program).
What is proved here: the list of a sum: what is taken off it, float by float (no program), over this seat's translation.
What is proved here: the numbers of the closed fact on sums told by several floats (no program), over this seat's translation.
What is proved here: slices of floats and of fractions in memory, over this seat's translation (no program).
What is proved here: contracts of package expan: read, over this seat's translation.
What is proved here: a slice of floats of our own that grows, over this seat's translation (no program).
What is proved here: sums of lists in which entries change places; bounds of sums (no program), over this seat's translation.
What is proved here: contracts of package geom: steps from point to point, over this seat's translation.
What is proved here: the reference's ratios told by core's fractions: a float's, sums, differences, products, over this seat's translation.
What is proved here: the reference's ratios told by core's fractions, new ones too: products, Cmp, over this seat's translation.
What is proved here: contracts of the reference: F, CheckList, over this seat's translation.
What is proved here: contracts of the reference: add, over this seat's translation.
What is proved here: contracts of the reference's ratios: Set, Neg, Abs of a new Rat, over this seat's translation.
What is proved here: contracts of package expan: Sum, Cmp, over this seat's translation.
What is proved here: contracts of package expan: the pair of a number, over this seat's translation.
What is proved here: contracts of package geom: finite, unfit, Turn, over this seat's translation.
What is proved here: contracts of package geom: norm, Circle, over this seat's translation.
What is proved here: contracts of package geom: Circle, over this seat's translation. -/
import Derived.Test.YtfnkkkcojnffdaaGreatDoorQ1
import Derived.Test.YtfnkkkcojnffdaaGreatDoorQ31
import Derived.Test.YtfnkkkcojnffdaaGreatDoorQ38
import Derived.Test.YtfnkkkcojnffdaaGreatDoorQ20
import Derived.Test.YtfnkkkcojnffdaaGreatDoorQ3
import Derived.Test.YtfnkkkcojnffdaaGreatDoorQ18
import Derived.Test.YtfnkkkcojnffdaaGreatDoorQ8
import Derived.Test.YtfnkkkcojnffdaaGreatDoorQ15
import Derived.Test.YtfnkkkcojnffdaaGreatDoorQ15
import Derived.Test.YtfnkkkcojnffdaaGreatDoorQ2
import Derived.Test.YtfnkkkcojnffdaaGreatDoorQ34
import Derived.Test.YtfnkkkcojnffdaaGreatDoorQ35
import Derived.Test.YtfnkkkcojnffdaaGreatDoorQ6
import Derived.Test.YtfnkkkcojnffdaaGreatDoorQ37
import Derived.Test.YtfnkkkcojnffdaaGreatDoorQ26
import Derived.Laws.IdiomCopy
namespace Go.Proofs.YtfnkkkcojnffdaaGreatDoor.EN
open Go.RowKit
/-- What is left behind a step: nothing, less than half of it, half, more. -/
def kL (R D:Nat):Nat:=if R=0 then 0 else if 2*R<D then 1 else if 2*R=D then 2 else 3
/-- The float at or below A / B (its place among the floats from 0 on), and what is left. -/
def tV (A B:Nat):Nat:=if 971<iB A B then 2047*2^52-1 else (iB A B+1074).toNat*2^52+upP A (iB A B)/loP B (iB A B)
def lV (A B:Nat):Nat:=if 971<iB A B then 3 else kL (upP A (iB A B)%loP B (iB A B)) (loP B (iB A B))
theorem mc {N D C A:Nat} (E:0<D) (B:0<A) (h:N*A=C*D):N/D=C/A:=by
 rw[← cM N D B,h,aI D A,cM _ _ E]
theorem nJ {N D E A:Nat} (I:0<D) (C:0<A) (h:N*A=E*D):kL (N%D) D=kL (E%A) A:=by
 have L:=mc I C h;have K:=cu N D;have J:=cu E A;rw[← L] at J;have key:N%D*A=E%A*D:=by
  have h1:(D*(N/D)+N%D)*A=(A*(N/D)+E%A)*D:=by rw[K,J];exact h
  rw[aJ,aJ,show D*(N/D)*A=A*(N/D)*D from by ac_rfl] at h1;exact Nat.add_left_cancel h1
 generalize N%D=R at *;generalize E%A=F at *;have M:R=0↔F=0:=by
  constructor
  ·rintro rfl;rw[cw] at key;exact(Nat.mul_eq_zero.1 key.symm).resolve_right eK
  ·rintro rfl;rw[cw] at key;exact(Nat.mul_eq_zero.1 key).resolve_right eK
 have O:2*R<D↔2*F<A:=by
  have B:2*R*A=2*F*D:=by rw[ak,key,ak]
  constructor
  ·intro h;have h2:2*R*A<D*A:=aF h C;rw[B,aI D A] at h2;exact ck h2
  ·intro h;have h2:2*F*D<A*D:=aF h I;rw[← B,aI A D] at h2;exact ck h2
 have S:2*R=D↔2*F=A:=by
  have B:2*R*A=2*F*D:=by rw[ak,key,ak]
  constructor
  ·intro h;rw[h,aI D A] at B;exact(dE I B).symm
  ·intro h;rw[h,aI A D] at B;exact dE C B
 unfold kL;simp only[M,O,S]
theorem nK (X D n:Nat) (F:0<D) (J:1≤n):kL (X%(D*2^n)) (D*2^n)=
  if X/D%2^n=0∧X%D=0 then 0 else if X/D%2^n<2^(n-1) then 1 else if X/D%2^n=2^(n-1)∧X%D=0 then 2 else 3:=by
 rw[Nat.mod_mul];have I:=aX X F;generalize X%D=R at *;generalize X/D%2^n=b at *;have e:2^n=2*2^(n-1):=by
  obtain⟨k,rfl⟩:∃ k,n=k+1:=⟨n-1,by omega⟩;simp [Nat.pow_succ,Nat.mul_comm]
 rw[e];generalize 2^(n-1)=m at *;unfold kL;have B:D*(2*m)=2*(D*m):=by ac_rfl
 rw[B];have C:R+D*b=0↔b=0∧R=0:=by
  constructor
  ·intro h;have h1:D*b=0:=by omega
   exact⟨(Nat.mul_eq_zero.1 h1).resolve_left eK,by omega⟩
  ·rintro⟨rfl,rfl⟩;simp
 have h1:2*(R+D*b)<2*(D*m)↔b<m:=by
  constructor
  ·intro h;have h2:D*b<D*m:=by omega
   exact da h2
  ·intro h;have h2:D*(b+1)≤D*m:=aA _ h;rw[aw,bJ] at h2;omega
 have h2:2*(R+D*b)=2*(D*m)↔b=m∧R=0:=by
  constructor
  ·intro h;have h3:R+D*b=D*m:=by omega
   have E:b=m:=by
    rcases Nat.lt_trichotomy b m with A|A|A
    ·have:D*(b+1)≤D*m:=aA _ A;rw[aw,bJ] at this;omega
    ·exact A
    ·have:D*(m+1)≤D*b:=aA _ A;rw[aw,bJ] at this;omega
   subst E;exact⟨rfl,by omega⟩
  ·rintro⟨rfl,rfl⟩;omega
 simp only[C,h1,h2]
theorem pK (a:Nat):EN.blen a=Go.Proofs.YtfnkkkcojnffdaaGreatDoor.blen a:=rfl
theorem jK {a:Nat} (h:a≠0):2^(EN.blen a-1)≤a∧a<2^EN.blen a∧1≤EN.blen a:=by
 unfold EN.blen;rw[if_neg h];exact⟨cV h,cG,by omega⟩
/-- The front of A / B: its first 62 or 63 digits in twos. -/
theorem jM {A B:Nat} {e:Int} (F:A≠0) (I:B≠0) (i:e=(EN.blen A:Int)-EN.blen B-62):
  2^61≤upP A e/loP B e∧upP A e/loP B e<2^63∧expo A B=e+EN.blen (upP A e/loP B e)-1:=by
 obtain⟨M,a2,a3⟩:=jK F;obtain⟨N,c,d⟩:=jK I;have E:0<loP B e:=by unfold loP;exact bF eK (af _)
 obtain⟨K,O⟩:∃ K:Nat,-(K:Int)≤e∧ -(K:Int)≤expo A B∧EN.blen B+200≤K:=⟨(-e).toNat+(-(expo A B)).toNat+EN.blen B+200,by omega,by omega,by omega⟩;obtain⟨C,D,R⟩:=O;have g1:2^61*B*2^e.toNat≤A*2^(-e).toNat:=by
  rw[lI K C];have h1:2^61*B*2^((K:Int)+e).toNat≤2^61*2^EN.blen B*2^((K:Int)+e).toNat:=ay _ (aA _ eK);have h2:2^(EN.blen A-1)*2^K≤A*2^K:=ay _ M;rw[← ah,← ah,show 61+EN.blen B+((K:Int)+e).toNat=EN.blen A-1+K from by omega,ah] at h1;omega
 have g2:A*2^(-e).toNat<2^63*B*2^e.toNat:=by
  rw[lJ K C];have h1:2^63*2^(EN.blen B-1)*2^((K:Int)+e).toNat≤2^63*B*2^((K:Int)+e).toNat:=ay _ (aA _ N);have h2:A*2^K<2^EN.blen A*2^K:=aF a2 (af _);rw[← ah,← ah,show 63+(EN.blen B-1)+((K:Int)+e).toNat=EN.blen A+K from by omega,ah] at h1;omega
 have W:2^61≤upP A e/loP B e:=(cB E).2 (by unfold upP loP;rw[← ak];exact g1);have X:upP A e/loP B e<2^63:=(bh E).2 (by unfold upP loP;rw[← ak];exact g2);refine⟨W,X,?_⟩;have J:upP A e/loP B e≠0:=by omega
 obtain⟨S,U,l3⟩:=jK J;have f1:2^(EN.blen (upP A e/loP B e)-1)*loP B e≤upP A e:=(cB E).1 S;have f2:upP A e<2^EN.blen (upP A e/loP B e)*loP B e:=(bh E).1 U;generalize EN.blen (upP A e/loP B e)=L at *;unfold upP loP at f1 f2;rw[← ak,lI K C] at f1;rw[← ak,lJ K C] at f2;have j:=pP F I K D;have k:=pQ F I K D;have Y:B*2^((K:Int)+expo A B).toNat<B*2^(L+((K:Int)+e).toNat):=by
  rw[ah,← ak,aI B (2^L)];omega
 have Z:B*2^(L-1+((K:Int)+e).toNat)<B*2^((K:Int)+(expo A B+1)).toNat:=by
  rw[ah,← ak,aI B (2^(L-1))];omega
 have m:=iv (da Y);have z2:=iv (da Z);omega
/-- Steps of 2^P, and steps of 2^e that are parted: P = e + n. -/
theorem qE {A B n:Nat} {e P:Int} (h:P=e+n):upP A P*(loP B e*2^n)=upP A e*loP B P:=by
 unfold upP loP;have C:2^(-P).toNat*(2^e.toNat*2^n)=2^(-e).toNat*2^P.toNat:=by
  rw[← ah,← ah,← ah];congr 1;omega
 have D:A*2^(-P).toNat*(B*2^e.toNat*2^n)=A*B*(2^(-P).toNat*(2^e.toNat*2^n)):=by ac_rfl
 have E:A*2^(-e).toNat*(B*2^P.toNat)=A*B*(2^(-e).toNat*2^P.toNat):=by ac_rfl
 rw[D,E,C]
end Go.Proofs.YtfnkkkcojnffdaaGreatDoor.EN
namespace Go.Proofs.YtfnkkkcojnffdaaGreatDoor.EN
open Go.ChangeShapes Go.WideShapes Go.ChangeAt Go.RowKit
def eS (A B:Nat):Int:=(EN.blen A:Int)-EN.blen B-62
theorem jJ {a K:Nat} (h:a<2^(64*K)):EN.blen a≤64*K:=by
 unfold EN.blen;split
 ·omega
 ·have:=(cH eK).2 h;omega
set_option maxRecDepth 10000 in
theorem pk (w:World) (va vb:Value) (A B K:Nat) (hK:K≤15000) (cd:1≤K) (ha:Num w va A) (hb:Num w vb B) (E:A<2^(64*K)) (F:B<2^(64*K)) (hA:A≠0) (hB:B≠0):
  Calls Tryz.prog 97 #[va,vb] w fun r w'=>r= .returned (.agg #[.int .u64 ((upP A (eS A B)/loP B (eS A B):Nat):Int),.int .i64 (eS A B),.bool (decide (0<upP A (eS A B)%loP B (eS A B)))])∧G w w':=by
 obtain⟨q1,q2,-⟩:=jM hA hB (e:=eS A B) rfl;have lA:=jJ E;have lB:=jJ F;have U:Hid (∀ C,G w C→_):=fun C g=>jF C va A K eK (ha.G g) E;have W:Hid (∀ C,G w C→_):=fun C g=>jF C vb B K eK (hb.G g) F;have he:eS A B=(EN.blen A:Int)-EN.blen B-62:=rfl;have M:Hid (∀ C,G w C→Calls Tryz.prog 155 #[va,.int .i64 (-(eS A B))] C (eU C (upP A (eS A B)))):=fun C g=>ji C va A K (-(eS A B)) eK eK eK (ha.G g) E;have N:Hid (∀ C,G w C→Calls Tryz.prog 155 #[vb,.int .i64 (eS A B)] C (eU C (loP B (eS A B)))):=fun C g=>ji C vb B K (eS A B) eK eK eK (hb.G g) F;have hX:upP A (eS A B)<2^(64*(2*K+1)):=by
  unfold upP;have h1:2^(-(eS A B)).toNat≤2^(64*K+62):=ai eK eK;have h2:A*2^(-(eS A B)).toNat<2^(64*K)*2^(64*K+62):=ae (aF E (af _)) (aA _ h1);rw[← ah] at h2;exact ae h2 (ai eK eK)
 have hD:loP B (eS A B)<2^(64*(2*K+1)):=by
  unfold loP;have h1:2^(eS A B).toNat≤2^(64*K+62):=ai eK eK;have h2:B*2^(eS A B).toNat<2^(64*K)*2^(64*K+62):=ae (aF F (af _)) (aA _ h1);rw[← ah] at h2;exact ae h2 (ai eK eK)
 have Z:0<loP B (eS A B):=by unfold loP;exact bF eK (af _)
 have cb: -10000000≤eS A B:=by omega
 have cc:eS A B≤10000000:=by omega
 have ce:(EN.blen A:Int)-EN.blen B-62=eS A B:=rfl;generalize eS A B=e at *;generalize upP A e=X at *;generalize loP B e=D at *;have S:Hid (∀ C L v2,Num C L X→Num C v2 D→_):=fun C L v2 h1 h2=>j9 C L v2 X D (2*K+1) eK eK h1 h2 hX hD Z;generalize X/D=Q at *;generalize X%D=R at *;generalize EN.blen A=bA at *;generalize EN.blen B=bB at *;have ca:Q<18446744073709551616:=by omega
 have bi:Q≠0:=by omega
 have cn:(bA:Int)≤960000:=by omega
 have cs:(bB:Int)≤960000:=by omega
 obtain⟨J,I⟩:∃ J,J=decide (0<R):=⟨_,rfl⟩;rw[← I];have ap:Hid (J=decide (0<R)):=I;clear I;clear hX hD Z q1 q2 ha hb E F hA hB lA lB he;go_enter Tryz.func97,Tryz.ntmps97;go_wp2_with fail;obtain⟨w0,m,g0,cm,R0⟩:=fi w [.int .u64 0,.int .i64 0,.bool false] 177;rw[m];clear m;refine eJ (U.out w0 g0) ?_;rintro o C ⟨rfl,g1⟩;go_wp2_with fail;refine eJ (W.out C (aa g0 g1)) ?_;rintro o w2 ⟨rfl,g2⟩;have g12:=aa g1 g2;go_wp2_with fail;refine eJ (M.out w2 (aa g0 g12)) ?_;intro o w3 c;obtain⟨L,rfl,g3,d⟩:=c;have Y:Hid (Num w3 L X):=d;have g13:=aa g12 g3;clear U W M d g1 g2 g12;go_wp2_with fail;refine eJ (N.out w3 (aa g0 g13)) ?_;intro o w4 c;obtain⟨v2,rfl,g4,i⟩:=c;have O:=hi9 (S.out w4 L v2 (Y.out.G g4) i);have g14:=aa g13 g4;clear N S Y i g3 g13 g4;go_wp2_with fail;refine eJ O.out ?_;intro o w5 c;obtain⟨v3,v4,rfl,g5,j,k⟩:=c;have g15:=aa g14 g5;clear O g14 g5;rcases gi j with ⟨h,-⟩|⟨-,-,nb,no,nc,rfl,cl,ci,bl⟩|⟨h,-⟩
 ·exact absurd h bi
 ·obtain⟨pr,kr,cr,rfl,-,hk,-⟩:=gv k;clear j k;rw[← ap.out] at hk;obtain⟨s,y,al,am,an,ao⟩:=eX R0 (g15);go_wp2_with fail;have hT:Hid (Rec _ (w.heap.size) [.int .u64 (Q:Int),.int .i64 e,.bool J]):=du (aM R0.out (g15));have g9:=Rec.h3 hT.out (aa g0 g15) eK;generalize (World.setCell (World.setCell (World.setCell w5 ⟨w.heap.size,0,none⟩ (.int .u64 (Q:Int))) ⟨w.heap.size,1,none⟩ (.int .i64 e)) ⟨w.heap.size,2,none⟩ (.bool J))=w9 at *;obtain⟨bn,bq,bs,bu,bv,bz⟩:=eX hT (((ag _)));refine bodyPost_ret (v:= .agg #[.int .u64 (Q:Int),.int .i64 e,.bool J]) (by simp [results,Tryz.results97,go_sem, *]) rfl ?_;exact⟨rfl,g9⟩
 ·omega
/-- What a fraction above 0 comes to: steps, their place, what is left. -/
theorem q2o (w:World) (A B:Nat) (hA:A≠0) (hB:B≠0) (am:EN.blen A≤960000) (an:EN.blen B≤960000):
  ∃ R:Nat,∃ P:Int,R<2^53∧ -1074≤P∧P≤971∧(P= -1074∨2^52≤R)∧tV A B=(P+1074).toNat*2^52+R∧lV A B<4∧
  Calls Tryz.prog 153 #[.agg #[.int .u64 ((upP A (eS A B)/loP B (eS A B):Nat):Int),.int .i64 (eS A B),.bool (decide (0<upP A (eS A B)%loP B (eS A B)))]] w fun r w'=>r= .returned (.tuple #[.int .u64 (R:Int),.int .i64 P,.int .i64 ((lV A B:Nat):Int)])∧G w w':=by
 obtain⟨q1,O,y⟩:=jM hA hB (e:=eS A B) rfl;have he:eS A B=(EN.blen A:Int)-EN.blen B-62:=rfl;have N:∀ n:Nat,∀ P:Int,P=eS A B+n→upP A P*(loP B (eS A B)*2^n)=upP A (eS A B)*loP B P:=fun n P h=>qE h;have F:0<loP B (eS A B):=by unfold loP;exact bF eK (af _)
 have M:∀ P:Int,0<loP B P:=fun P=>by unfold loP;exact bF eK (af _)
 have D:upP A (eS A B)/loP B (eS A B)≠0:=by omega
 obtain⟨o,s,l3⟩:=jK D;have hL:EN.blen (upP A (eS A B)/loP B (eS A B))≤63:=by
  have:2^(EN.blen (upP A (eS A B)/loP B (eS A B))-1)<2^63:=aq o O;have:=iv this;omega
 have al:62≤EN.blen (upP A (eS A B)/loP B (eS A B)):=by
  have:2^61<2^EN.blen (upP A (eS A B)/loP B (eS A B)):=aq q1 s;have:=iv this;omega
 have E:iB A B=max (eS A B+EN.blen (upP A (eS A B)/loP B (eS A B))-53) (-1074):=by
  unfold iB;rw[y];omega
 obtain⟨P,S⟩:∃ P,P=iB A B:=⟨_,rfl⟩;have L:tV A B=if 971<P then 2047*2^52-1 else (P+1074).toNat*2^52+upP A P/loP B P:=by unfold tV;rw[S]
 have J:lV A B=if 971<P then 3 else kL (upP A P%loP B P) (loP B P):=by unfold lV;rw[S]
 rw[← S] at E;have C:=M P;clear M;by_cases W:971<P
 ·rw[if_pos W] at L J;refine⟨9007199254740991,971,by omega,by omega,by omega,Or.inr eK,by rw[L];rfl,by omega,?_⟩;rw[J];exact qG w _ (eS A B) P _ D O eK eK E W
 ·rw[if_neg W] at L J;obtain⟨n,Y⟩:∃ n:Nat,P=eS A B+n∧9≤n:=⟨(P-eS A B).toNat,by omega,by omega⟩;obtain⟨Y,ao⟩:=Y;have U:=N n P Y;have K:0<loP B (eS A B)*2^n:=bF F (af n);have i:upP A P/loP B P=upP A (eS A B)/loP B (eS A B)/2^n:=by
   rw[mc C K U,bt]
  have j:kL (upP A P%loP B P) (loP B P)=lv (upP A (eS A B)/loP B (eS A B)%2^n) (2^(n-1)) (decide (0<upP A (eS A B)%loP B (eS A B))):=by
   rw[nJ C K U,nK _ _ n F eK];unfold lv;have e3:(decide (0<upP A (eS A B)%loP B (eS A B))=false)=(upP A (eS A B)%loP B (eS A B)=0):=by
    apply propext;rw[decide_eq_false_iff_not];omega
   simp only[e3]
  rw[i] at L;rw[j] at J;clear i j U N K F C y;generalize decide (0<upP A (eS A B)%loP B (eS A B))=d at *;generalize upP A (eS A B)/loP B (eS A B)=Q at *;generalize eS A B=e at *;have X:∀ b m:Nat,lv b m d<4:=fun b m=>by unfold lv;split;omega;split;omega;split<;>omega
  by_cases Z:63<P-e
  ·have hp:2^63≤2^(n-1):=fU eK;have ap:2^n=2*2^(n-1):=by
    obtain⟨k,rfl⟩:∃ k,n=k+1:=⟨n-1,by omega⟩;simp [Nat.pow_succ,Nat.mul_comm]
   have e4:Q/2^n=0:=aR eK;have e5:Q%2^n=Q:=aU eK;have e6:lV A B=1:=by
    rw[J,e5];unfold lv;rw[if_neg eK,if_pos eK]
   have I:P= -1074:=by omega
   refine⟨0,P,by omega,by omega,by omega,Or.inl I,by rw[L,e4],by omega,?_⟩;rw[e6];exact qH w Q e P d D O eK eK E eK Z
  ·obtain⟨k,hk⟩:∃ k,n=k+1:=⟨n-1,by omega⟩;have c:Q/2^n<2^53:=by
    rw[bh (af n),← ah];exact ae s (fU eK)
   refine⟨Q/2^n,P,c,by omega,by omega,?_,L,by rw[J];exact X _ _,?_⟩
   ·by_cases I:P= -1074
    ·exact Or.inl I
    ·right;rw[cB (af n),← ah];exact bk (fU eK) o
   ·rw[J,hk];exact oF w Q k e P d D O eK eK E eK eK eK
attribute [local go_sem] iU
/-- Whether a number between two floats goes on to the one that is farther from 0. -/
def onw (m:Int) (neg A:Bool) (l:Nat):Bool:=if m=1 then l==3||(l==2&&A) else if m=2 then neg else if m=3 then !neg else false
def q1i (m:Int) (neg:Bool) (w:World) (e:Ending) (D:World):Prop:=∃ (F:Nat) (A:Array Value),e= .returned (.func (.func F) #[] A)∧G w D∧
 (∀ B,G D B→∀ (C:Bool) (l:Nat),l<4→Calls Tryz.prog F (#[.bool C,.int .i64 (l:Int)]++A) B fun e E=>e= .returned (.bool (onw m neg C l))∧G B E)∧
 (∀ args B,(callFunc F args).run Tryz.prog B= .ok (.enter F args) B)
theorem q0p (w:World) (A:Bool) (l:Nat) (C:l<4):Calls Tryz.prog 193 #[.bool A,.int .i64 (l:Int)] w fun e B=>e= .returned (.bool (l==3||(l==2&&A)))∧G w B:=by
 have h:l=0∨l=1∨l=2∨l=3:=by omega
 rcases h with rfl|rfl|rfl|rfl<;>cases A
 all_goals
  go_enter Tryz.func193,Tryz.ntmps193;go_wp2_with fail;go_ret;exact⟨rfl,ag _⟩
theorem rU (w:World) (b l:Nat) (neg A:Bool) (C:w.cell? ⟨b,0,none⟩=some (.bool neg)):Calls Tryz.prog 194 #[.bool A,.int .i64 (l:Int),.pointer (some ⟨b,0,none⟩)] w fun e B=>e= .returned (.bool neg)∧G w B:=by
 go_enter Tryz.func194,Tryz.ntmps194;go_wp2_with fail;go_ret;exact⟨rfl,ag _⟩
theorem q3A (w:World) (b l:Nat) (neg A:Bool) (C:w.cell? ⟨b,0,none⟩=some (.bool neg)):Calls Tryz.prog 195 #[.bool A,.int .i64 (l:Int),.pointer (some ⟨b,0,none⟩)] w fun e B=>e= .returned (.bool (!neg))∧G w B:=by
 go_enter Tryz.func195,Tryz.ntmps195;go_wp2_with fail;go_ret;exact⟨rfl,ag _⟩
theorem q2Q (w:World) (l:Nat) (A:Bool):Calls Tryz.prog 196 #[.bool A,.int .i64 (l:Int)] w fun e B=>e= .returned (.bool false)∧G w B:=by
 go_enter Tryz.func196,Tryz.ntmps196;go_wp2_with fail;go_ret;exact⟨rfl,ag _⟩
theorem q3n (w:World) (m:Int) (neg:Bool) (E:m=1∨m=2∨m=3∨m=4):
  Calls Tryz.prog 152 #[.int .i64 m,.bool neg] w (q1i m neg w):=by
 rcases E with rfl|rfl|rfl|rfl
 ·go_enter Tryz.func152,Tryz.ntmps152;go_wp2_with fail;go_ret;exact⟨193,#[],rfl,(ag _).alloc _,fun B _ A l C=>q0p B A l C,fun _ _=>by kernel_rfl⟩
 ·go_enter Tryz.func152,Tryz.ntmps152;go_wp2_with fail;go_ret;have D:(w.alloc (.cells #[.bool neg] 4)).cell? ⟨w.heap.size,0,none⟩=some (.bool neg):=by simp [go_sem]
  exact⟨194,#[.pointer (some ⟨w.heap.size,0,none⟩)],rfl,(ag _).alloc _,fun B g A l C=>rU B w.heap.size l neg A (g.cell (p:=⟨w.heap.size,0,none⟩) fI D),fun _ _=>by kernel_rfl⟩
 ·go_enter Tryz.func152,Tryz.ntmps152;go_wp2_with fail;go_ret;have D:(w.alloc (.cells #[.bool neg] 4)).cell? ⟨w.heap.size,0,none⟩=some (.bool neg):=by simp [go_sem]
  exact⟨195,#[.pointer (some ⟨w.heap.size,0,none⟩)],rfl,(ag _).alloc _,fun B g A l C=>q3A B w.heap.size l neg A (g.cell (p:=⟨w.heap.size,0,none⟩) fI D),fun _ _=>by kernel_rfl⟩
 ·go_enter Tryz.func152,Tryz.ntmps152;go_wp2_with fail;go_ret;exact⟨196,#[],rfl,(ag _).alloc _,fun B _ A l C=>q2Q B l A,fun _ _=>by kernel_rfl⟩
theorem sd (F:Nat) (A:Array Value) (w:World):(binOp BinOp.eql 173 (.func (.func F) #[] A) .nilFunc).run Tryz.prog w= .ok (.bool false) w:=by kernel_rfl
/-- The float that so many steps at a place make. -/
theorem oT {v:Nat} {P:Int} (hv:v≤2^53) (E: -1074≤P) (F:P≤971) (h:P= -1074∨2^52≤v):gV 11 52 v P=(P+1074).toNat*2^52+v:=by
 have hb:(P+1074).toNat≤2045:=by omega
 rcases Nat.lt_or_eq_of_le hv with h1|h1
 ·rw[nN h1 E h,bM];omega
 ·subst h1;have C:=pS (A:=2^53*2^P.toNat) (B:=2^(-P).toNat) (mag:=2^53) (e:=P) (bV eK (by have:=af P.toNat;omega)) (by have:=af (-P).toNat;omega) eK eK (by ac_rfl);have D:=pS (A:=2^53*2^P.toNat) (B:=2^(-P).toNat) (mag:=2^52) (e:=P+1) (bV eK (by have:=af P.toNat;omega)) (by have:=af (-P).toNat;omega) eK eK (by
   have:53+P.toNat+(-(P+1)).toNat=52+(-P).toNat+(P+1).toNat:=by omega
   rw[← ah,← ah,← ah,← ah,this])
  rw[C,← D,nN eK eK (Or.inr (az _))];rw[show (P+1+1074).toNat=(P+1074).toNat+1 from by omega];generalize (P+1074).toNat=k at *;rw[bM]
  ·omega
  ·omega
set_option maxRecDepth 10000 in
set_option maxHeartbeats 1000000 in
theorem rh (w:World) (v:Value) (x:Rat) (m:Int) (FR:Nat) (fv:Value) (C:Nat) (P:Int) (l:Nat) (hm:m=1∨m=2∨m=3∨m=4) (hx:QIs w v x) (h0:x≠0)
  (dl:C<2^53) (cs: -1074≤P) (cx:P≤971) (ed:P= -1074∨2^52≤C) (hl:l<4)
  (HQ:∀ B v1 v2,G w B→Num B v1 x.num.natAbs→Num B v2 x.den→Calls Tryz.prog FR #[v1,v2] B fun e w2=>e= .returned fv∧G B w2)
  (HE:∀ args w,(callFunc FR args).run Tryz.prog w= .ok (.enter FR args) w)
  (HC:∀ B,Calls Tryz.prog 153 #[fv] B fun r w'=>r= .returned (.tuple #[.int .u64 (C:Int),.int .i64 P,.int .i64 (l:Int)])∧G B w'):
  Calls Tryz.prog 96 #[v,.int .i64 m,.func (.func FR) #[] #[]] w fun r w'=>r= .returned (.tuple #[.float .f64 (FT.wrd (decide (x.num<0)) ((P+1074).toNat*2^52+C+if l≠0∧onw m (decide (x.num<0)) (C%2==1) l=true then 1 else 0)),.int .i64 0])∧G w w':=by
 have cl:Hid (∀ B,G w B→_):=fun B g=>kX B v x (hx.G g);have HB:Hid (∀ B,G w B→_):=fun B g=>iZ B v x (hx.G g);have hz:(x.num.sign==0)=false:=by rw[iL,decide_eq_false h0]
 obtain⟨a,k,c,a',k',c',rfl,y,fp⟩:=hx;obtain⟨s,hs⟩:∃ s,s=decide (x.num<0):=⟨_,rfl⟩;rw[← hs];rw[← hs] at cl HB;have HR:Hid (∀ B,_):=fun B=>q3n B m s hm;obtain⟨u,hu⟩:∃ u:Nat,u=if l≠0∧onw m s (C%2==1) l=true then 1 else 0:=⟨_,rfl⟩;rw[← hu];have gl:u≤1:=by rw[hu];split<;>omega
 have ca:gV 11 52 (C+u) P=(P+1074).toNat*2^52+C+u:=by
  rw[oT eK cs cx eK];omega
 have D:Hid (∀ B,Calls Tryz.prog 154 #[.int .i64 ((C+u:Nat):Int),.int .i64 P] B fun r w'=>r= .returned (.float .f64 ((P+1074).toNat*2^52+C+u))∧G B w'):=fun B=>by
  have h:=q2U ((C+u:Nat):Int) P B eK eK eK eK;rw[if_neg eK,ar,show iF P=P from by unfold iF;omega,ca] at h;exact h
 have cz:(P+1074).toNat*2^52+C+u<2^63:=by
  have:(P+1074).toNat≤2045:=by omega
  omega
 have dq:FT.wrd false ((P+1074).toNat*2^52+C+u)=(P+1074).toNat*2^52+C+u:=rfl;obtain⟨fl,dk⟩:∃ fl,fl=(P+1074).toNat*2^52+C+u:=⟨_,rfl⟩;rw[← dk] at D cz dq ⊢;clear ca dk;have R:=nP fl (by clear hu;omega);have cb:negV fl=FT.wrd true fl:=by
  have h1:FT.neg fl=false:=by unfold FT.neg;simp;clear hu;omega
  unfold negV;rw[if_neg (by rw[h1];simp)];rfl
 rw[cb] at R;clear cb;obtain⟨fn,j⟩:∃ fn,fn=FT.wrd true fl:=⟨_,rfl⟩;rw[← j] at R;have ce:Hid (Op.negFloat .f64 fl=fn):=R;have cd:Hid (Ending.returned (.tuple #[.float .f64 fn,.int .i64 0])= .returned (.tuple #[.float .f64 (FT.wrd true fl),.int .i64 0])):=by show Ending.returned (.tuple #[.float .f64 fn,.int .i64 0])= .returned (.tuple #[.float .f64 (FT.wrd true fl),.int .i64 0]);rw[j]
 have ci:Hid (∀ B v1 v2,G w B→Num B v1 x.num.natAbs→Num B v2 x.den→_):=HQ;have cm:Hid (∀ B,_):=HC;have cn:Hid (Num w (.slice a k c) x.num.natAbs):=y;have eb:Hid (∀ args w,(callFunc FR args).run Tryz.prog w= .ok (.enter FR args) w):=HE;have gd: -9223372036854775808≤P:=by omega
 have gf:P≤9223372036854775807:=by omega
 have ga:Hid (C<2^53):=dl;have ec:Hid (l<4):=hl;have HU:Hid (u=if l≠0∧onw m s (C%2==1) l=true then 1 else 0):=hu;have fs:(C:Int)<9007199254740992:=by omega
 have gg:(l:Int)<4:=by omega
 generalize x.num.sign=z at *;generalize x.num.natAbs=xn at *;obtain⟨d,hd⟩:∃ d,d=x.den:=⟨_,rfl⟩;rw[← hd] at HB ci;clear cz dq R j HQ HC HE y fp hs hd dl hl hu cs cx ed hm h0;go_enter Tryz.func96,Tryz.ntmps96;go_wp2_with fail;obtain⟨w0,ds,g0,gm,R0⟩:=fi w [.bool s,.slice a k c,.slice a' k' c'] 29;rw[ds];clear ds;refine eJ (HR.out w0) ?_;intro e1 B hs;obtain⟨F,Z,rfl,g1,bz,bv⟩:=hs;have ea:Hid (∀ args w2,(callFunc F args).run Tryz.prog w2= .ok (.enter F args) w2):=bv;clear bv;have cc:Hid (∀ w2,G B w2→∀ (N:Bool) (l:Nat),l<4→Calls Tryz.prog F (#[.bool N,.int .i64 (l:Int)]++Z) w2 fun e w3=>e= .returned (.bool (onw m s N l))∧G w2 w3):=bz;have cr:=aa g0 g1;have S0:Hid (Rec _ _ _):=aM R0.out (g1);clear bz g0 g1 R0 HR;obtain⟨an,ao,ap,bi,bl,bn⟩:=eX S0 (ag _);have j:=sd F Z B;go_wp2_with fail;clear j;refine eJ (cl.out B cr) ?_;rintro e1 w2 ⟨rfl,g2⟩;have i:=aa cr g2;have T0:Hid (Rec _ _ _):=aM S0.out (g2);clear an ao ap bi bl bn S0 cl;go_wp2_with fail
 refine jy 15 0 [.is (.func (.func FR) #[] #[]),.is (.pointer (some ⟨w.heap.size,0,none⟩)),.is (.pointer (some ⟨w.heap.size,1,none⟩)),.is (.slice a k c),.is (.agg #[.bool s,.slice a k c,.slice a' k' c']),.any (fun v w'=>Num w' v (d)),.is (fv),.is (.tuple #[.int .u64 (C:Int),.int .i64 P,.int .i64 (l:Int)]),.is (.tuple #[.int .u64 (C:Int),.int .i64 P,.int .i64 (l:Int)]),.is (.int .u64 (C:Int)),.is (.int .i64 P),.is (.int .i64 (l:Int)),.is (.int .u64 (C:Int)),.is (.int .i64 P),.is (.int .i64 (l:Int))] [some 24,some 25,some 26,some 27,some 28,some 29,some 30,some 31,some 23,some 32,some 33,some 34,some 9,some 10,some 11] ?_;intro v5 A hA;simp only[fg,Act.put,aj,au,av] at hA;subst hA;refine⟨?_,?_⟩
 ·skip
  refine ab rfl ?b0 (ab rfl ?b1 (ab rfl ?b2 (ab rfl ?b3 (ab rfl ?o1_4 (ab rfl ?b6 (ab rfl ?b7 (ab rfl ?b8 (ab rfl ?b4 (ab rfl ?b5 (ab rfl ?a1 (ab rfl ?a6 (ab rfl ?a7 (ab rfl ?a8 (ab rfl ?o1_14 (bQ)))))))))))))))
  case b0|b1|b2|b4|b5|a1|a6|a7|a8|o1_14=>
   exact iX
  case b3|o1_4=>
   intro W hW hD K hK;clear hD;have ⟨ee,em,en⟩:=rc39 T0 hW;go_simp;exact hK.out _ _ ⟨_,rfl,ag _,rfl⟩
  ·intro W hW hD K hK;have hc:=hi9 (HB.out W (aa i hW));exact gH
  ·intro W hW hD K hK;have h5:=gL v5 5 hD;clear hD;have cy:=eb.out #[.slice a k c,v5] W;go_simp;go_wp2_with (refine eJ (ci.out W (.slice a k c) v5 (aa i hW) (cn.out.G (aa i hW)) h5) ?_;intro e w9 hs;obtain⟨rfl,g9⟩:=hs);exact hK.out _ _ ⟨_,rfl,g9,rfl⟩
  ·intro W hW hD K hK;have hc:=hi9 (cm.out W);exact rX
 intro w3 g3 hH;clear hH;refine wpAny_done eM ?_ _;have am:=aa i g3;have g13:=aa g2 g3;have U0:Hid (Rec _ _ _):=aM T0.out (g3);clear T0 HB ci cm cn i g2 g3;by_cases Y:l=0
 ·have ep:((l:Int) != 0)=false:=by rw[Y];rfl
  have o:u=0:=by rw[HU.out,if_neg (by rintro⟨h,-⟩;exact h Y)]
  subst o;rw[aS] at D;have O:=am;have dr:IntKind.i64.wrap (C:Int)=C:=by rw[IntKind.wrap_i64];omega
  clear HU cc Y g13 am;obtain⟨S,U,X,E,I,J⟩:=eX U0 (ag _);clear E I J;go_wp2_with fail;refine eJ (D.out _) ?_;rintro e9 w9 ⟨rfl,g9⟩;have L:=aa O g9;have X0:Hid (Rec _ _ _):=aM U0.out (g9);have M:=Rec.f3 X0.out;have y:=M.1;clear D O g9 M;cases s
  ·go_wp2_with fail
   go_ret2
   exact⟨rfl,L⟩
  ·have R:=ce.out;go_wp2_with fail
   go_ret2
   exact⟨cd.out,L⟩
 ·have ep:((l:Int) != 0)=true:=by simp;exact Y
  obtain⟨N,ho⟩:∃ N,N=(C%2==1):=⟨_,rfl⟩;have gk:((C:Int)%2==1)=N:=by rw[ho,Bool.eq_iff_iff];simp;omega
  have fr:(0:Int)≤C:=by omega
  have bq:=cc.out w3 g13 N l ec.out;rw[ho] at bq;have hu:u=if onw m s (C%2==1) l=true then 1 else 0:=by rw[HU.out];simp [Y]
  generalize onw m s (C%2==1) l=ob at *;rw[← ho] at bq;have bs:=hi9 bq;have al:Hid (u=if ob=true then 1 else 0):=hu;have cy:=ea.out (#[.bool N,.int .i64 (l:Int)]++Z) w3;clear HU cc Y g13 ho bq hu;obtain⟨S,U,X,E,I,J⟩:=eX U0 (ag _);clear E I J;go_wp2_with fail;refine eJ bs.out ?_;rintro e8 w8 ⟨rfl,g8⟩;have O:=aa am g8;have V0:Hid (Rec _ _ _):=aM U0.out (g8);clear cy bs U0 am g8 S U X;have U0:Hid (Rec w8 w.heap.size [.bool s,.slice a k c,.slice a' k' c']):=V0.out;clear V0;cases ob
  ·have o:u=0:=al.out;subst o;rw[aS] at D;have dr:IntKind.i64.wrap (C:Int)=C:=by rw[IntKind.wrap_i64];omega
   clear al;go_wp2_with fail;refine eJ (D.out _) ?_;rintro e9 w9 ⟨rfl,g9⟩;have L:=aa O g9;have X0:Hid (Rec _ _ _):=aM U0.out (g9);have M:=Rec.f3 X0.out;have y:=M.1;clear D O g9 M;cases s
   ·go_wp2_with fail
    go_ret2
    exact⟨rfl,L⟩
   ·have R:=ce.out;go_wp2_with fail
    go_ret2
    exact⟨cd.out,L⟩
  ·have o:u=1:=al.out;subst o;have dr:IntKind.i64.wrap ((C:Int)+1)=(C:Int)+1:=by rw[IntKind.wrap_i64];omega
   have bu:Hid (∀ B,Calls Tryz.prog 154 #[.int .i64 ((C:Int)+1),.int .i64 P] B fun r w'=>r= .returned (.float .f64 fl)∧G B w'):=fun B=>by
    have h:=D.out B;rw[show ((C+1:Nat):Int)=(C:Int)+1 from by omega] at h;exact h
   clear al D;have D:=bu;clear bu;go_wp2_with fail;refine eJ (D.out _) ?_;rintro e9 w9 ⟨rfl,g9⟩;have L:=aa O g9;have X0:Hid (Rec _ _ _):=aM U0.out (g9);have M:=Rec.f3 X0.out;have y:=M.1;clear D O g9 M;cases s
   ·go_wp2_with fail
    go_ret2
    exact⟨rfl,L⟩
   ·have R:=ce.out;go_wp2_with fail
    go_ret2
    exact⟨cd.out,L⟩
end Go.Proofs.YtfnkkkcojnffdaaGreatDoor.EN
namespace Go.Proofs.YtfnkkkcojnffdaaGreatDoor.EN
open Go.ChangeShapes Go.WideShapes Go.ChangeAt Go.RowKit
/-- A fraction above 0 rounded: the float's place. -/
def rdV (m:Int) (neg:Bool) (A B:Nat):Nat:=tV A B+if lV A B≠0∧onw m neg (tV A B%2==1) (lV A B)=true then 1 else 0
theorem pT (w:World) (v:Value) (x:Rat) (m:Int) (K:Nat) (i:K≤15000) (N:1≤K) (X:m=1∨m=2∨m=3∨m=4) (Y:QIs w v x) (M:x≠0) (hb:QB x K):
  Calls Tryz.prog 41 #[v,.int .i64 m] w fun r S=>r= .returned (.tuple #[.float .f64 (FT.wrd (decide (x.num<0)) (rdV m (decide (x.num<0)) x.num.natAbs x.den)),.int .i64 0])∧G w S:=by
 have J:x.num.natAbs≠0:=by
  intro h;exact M (Rat.num_eq_zero.1 eK)
 have L:=x.den_nz;have lA:=jJ hb.1;have lB:=jJ hb.2;obtain⟨F,P,h1,h2,h3,D,I,h6,-⟩:=q2o w x.num.natAbs x.den J L eK eK;have A:(F%2==1)=(tV x.num.natAbs x.den%2==1):=by
  rw[I];have:((P+1074).toNat*2^52+F)%2=F%2:=by omega
  rw[this]
 have C:Hid (∀ B,G w B→Calls Tryz.prog 96 #[v,.int .i64 m,.func (.func 97) #[] #[]] B fun r S=>r= .returned (.tuple #[.float .f64 (FT.wrd (decide (x.num<0)) (rdV m (decide (x.num<0)) x.num.natAbs x.den)),.int .i64 0])∧G B S):=fun B g=>by
  have h:=rh B v x m 97 _ F P (lV x.num.natAbs x.den) X (Y.G g) M h1 h2 h3 D h6 (fun U v1 v2 _ k1 k2=>pk U v1 v2 _ _ K i N k1 k2 hb.1 hb.2 J L) (fun _ _=>by kernel_rfl) (fun U=>by
   obtain⟨R,Z,j1,j2,j3,O,y,j6,j⟩:=q2o U x.num.natAbs x.den J L eK eK;have W:Z=P∧R=F:=by
    rw[I] at y;rcases D with D|D<;>rcases O with O|O<;>(constructor<;>omega)
   obtain⟨rfl,rfl⟩:=W;exact j)
  rw[A,← I] at h;exact h
 unfold rdV at C ⊢;generalize tV x.num.natAbs x.den+(if lV x.num.natAbs x.den≠0∧onw m (decide (x.num<0)) (tV x.num.natAbs x.den%2==1) (lV x.num.natAbs x.den)=true then 1 else 0)=r at *;clear M hb J L lA lB h1 h2 h3 D I h6 A X;generalize FT.wrd (decide (x.num<0)) r=fl at *;obtain⟨a,k,c,d,e,c',rfl,-,-⟩:=Y;generalize decide (x.num<0)=s at *;go_enter Tryz.func41,Tryz.ntmps41;go_wp2_with fail;obtain⟨w0,E,g0,o,R0⟩:=fi w [.bool s,.slice a k c,.slice d e c'] 29;rw[E];clear E;refine Calls.mono (P:=Tryz.prog) (C.out w0 g0) ?_;rintro W B ⟨rfl,g1⟩;go_wp2_with fail
 go_ret2
 exact⟨rfl,aa g0 g1⟩
def fex (b:Nat):Nat:=b/2^52%2^11
def fmag (b:Nat):Nat:=if fex b=0 then b%2^52 else 2^52+b%2^52
/-- What a finite float is. -/
def FQ (b:Nat):Rat:=mkRat (frN (FT.neg b) (fmag b) (fex b)) (frD (fex b))
theorem q0v (w:World) (b:Nat) (D:b<2^64) (X:fex b=2047):
  Calls Tryz.prog 35 #[.float .f64 b] w (gM w 0 4):=by
 have Y:Hid (∀ B,_):=fun B=>oq b (b%2^52) B D X rfl;clear D X;go_enter Tryz.func35,Tryz.ntmps35;go_wp2_with fail;obtain⟨w0,A,g0,Z,C⟩:=fi w [.bool false,.slice none 0 0,.slice none 0 0] 29;rw[A];clear A;refine Calls.mono (P:=Tryz.prog) (Y.out w0) ?_;rintro d B ⟨rfl,g1⟩;obtain⟨M,N,O,R,S,U⟩:=eX C (((g1)));go_wp2_with fail;have W:Hid (Rec _ (w.heap.size) [.bool false,.slice none 0 0,.slice none 0 0]):=du (aM C.out (g1));have g9:=Rec.h3 W.out (aa g0 g1) eK;generalize (World.setCell (World.setCell (World.setCell B ⟨w.heap.size,0,none⟩ (.bool false)) ⟨w.heap.size,1,none⟩ (.slice none 0 0)) ⟨w.heap.size,2,none⟩ (.slice none 0 0))=c at *;obtain⟨E,F,I,J,K,L⟩:=eX W (((ag _)));refine bodyPost_ret (v:= .tuple #[.agg #[.bool false,.slice none 0 0,.slice none 0 0],.int .i64 4]) (by simp [results,Tryz.results35,go_sem, *]) rfl ?_;exact⟨_,rfl,g9,iS c⟩
theorem q2s (w:World) (b:Nat) (m e:Int) (q:Rat) (c:∀ A,G w A→Calls Tryz.prog 80 #[.float .f64 b] A fun r w'=>r= .returned (.tuple #[.int .i64 m,.int .i64 e,.int .i64 0])∧G A w')
  (Z:∀ A,Calls Tryz.prog 81 #[.int .i64 m,.int .i64 e] A (RetQ A q)):
  Calls Tryz.prog 35 #[.float .f64 b] w (gM w q 0):=by
 have M:Hid (∀ A,G w A→_):=c;have L:Hid (∀ A,_):=Z;clear c Z;go_enter Tryz.func35,Tryz.ntmps35;go_wp2_with fail;obtain⟨w0,R,g0,bi,S⟩:=fi w [.bool false,.slice none 0 0,.slice none 0 0] 29;rw[R];clear R;refine Calls.mono (P:=Tryz.prog) (M.out w0 g0) ?_;rintro e1 A ⟨rfl,g1⟩;go_wp2_with fail;refine Calls.mono (P:=Tryz.prog) (L.out A) ?_;intro e1 Y hs;obtain⟨v,rfl,g2,hv⟩:=hs;clear M L;obtain⟨B,F,C,a9,I,D,rfl,N,O⟩:=hv;have U:Hid (Num Y (.slice B F C) (q).num.natAbs):=N;have W:Hid (Num Y (.slice a9 I D) (fT (q).den)):=O;obtain⟨t9,E⟩:∃ t,t=decide ((q).num<0):=⟨_,rfl⟩;rw[← E];have X:Hid (t9=decide ((q).num<0)):=E;clear N O E;obtain⟨y,al,am,an,ao,ap⟩:=eX S (((aa g1 g2)));have J:Num _ _ _:=eT (u1:= .bool t9) (u2:= .slice B F C) (u3:= .slice a9 I D) U.out (aM S.out (aa g1 g2)) trivial trivial trivial;have K:Num _ _ _:=eT (u1:= .bool t9) (u2:= .slice B F C) (u3:= .slice a9 I D) W.out (aM S.out (aa g1 g2)) trivial trivial trivial;go_wp2_with fail;have hT:Hid (Rec _ (w.heap.size) [.bool t9,.slice B F C,.slice a9 I D]):=du (aM S.out (aa g1 g2));have g9:=Rec.h3 hT.out (aa g0 (aa g1 g2)) eK;generalize (World.setCell (World.setCell (World.setCell Y ⟨w.heap.size,0,none⟩ (.bool t9)) ⟨w.heap.size,1,none⟩ (.slice B F C)) ⟨w.heap.size,2,none⟩ (.slice a9 I D))=w9 at *;obtain⟨d,i,j,k,o,s⟩:=eX hT (((ag _)));refine bodyPost_ret (v:= .tuple #[.agg #[.bool t9,.slice B F C,.slice a9 I D],.int .i64 0]) (by simp [results,Tryz.results35,go_sem, *]) rfl ?_;exact⟨_,rfl,g9,B,F,C,a9,I,D,by rw[← X.out],J,K⟩
theorem q3I {s:Bool} {j k ex mag:Nat} (A:mag=(2*j+1)*2^k):mk2 (if s then -(2*(j:Int)+1) else 2*(j:Int)+1) ((max ex 1:Nat)-1075+k)=mkRat (frN s mag ex) (frD ex):=by
 unfold mk2 frN frD frS;rw[dX (by have:=af (-(((max ex 1:Nat):Int)-1075+k)).toNat;omega) (by have:=af (1075-max ex 1);omega)];have e:∀ X Y:Int,X*((2^k:Nat):Int)=Y→X*((2^(((max ex 1:Nat):Int)-1075+k).toNat:Nat):Int)*((2^(1075-max ex 1):Nat):Int)=Y*2^(max ex 1-1075)*((2^(-(((max ex 1:Nat):Int)-1075+k)).toNat:Nat):Int):=by
  intro X Y h;rw[← h,dK,dK,dK,FT.ipow,← aL,← aL,← aL,← ah,← ah,← ah]
  congr 3
  omega
 cases s
 ·simp only[aB,if_false];refine e _ _ ?_;rw[A];push_cast;rfl
 ·simp only[if_true];refine e _ _ ?_;rw[A];push_cast;rw[Int.neg_mul]
theorem of_c (w:World) (b:Nat) (I:Tab w) (F:b<2^64) (J:fex b<2047):
  Calls Tryz.prog 35 #[.float .f64 b] w (gM w (FQ b) 0):=by
 have hex:b/2^52%2^11=fex b:=rfl;have K:b%2^52<2^52:=aX _ eK;have D:fmag b<2^53:=by unfold fmag;split<;>omega
 by_cases B:fmag b=0
 ·have h1:fex b=0:=by
   unfold fmag at B;split at B
   ·assumption
   ·omega
  have h2:b%2^52=0:=by unfold fmag at B;rwa[if_pos h1] at B
  have E:FQ b=mk2 0 0:=by
   unfold FQ mk2;rw[B];unfold frN frS;simp
  rw[E];exact q2s w b 0 0 _ (fun A _=>nf b A F (hex.trans h1) h2) (fun A=>kB A 0 0 eK eK eK eK (Or.inl rfl))
 ·obtain⟨j,k,C⟩:=jU (fmag b) eK;have L:2*j+1≤fmag b:=by
   rw[C];exact Nat.le_mul_of_pos_right _ (af k)
  have M:k<53:=by
   have:2^k≤fmag b:=by rw[C];exact dP _ eK
   exact(aY (by omega:1<2)).1 (aq this D)
  have E:FQ b=mk2 (if FT.neg b then -(2*(j:Int)+1) else 2*(j:Int)+1) ((max (fex b) 1:Nat)-1075+k):=(q3I C).symm;rw[E];refine q2s w b _ _ _ (fun A g=>q2j b (fex b) (b%2^52) (fmag b) j k A (I.G g) F rfl rfl J rfl C) (fun A=>kB A _ _ ?_ ?_ ?_ ?_ ?_)
  ·split<;>omega
  ·split<;>omega
  ·omega
  ·omega
  ·right;split<;>omega
theorem rp:((1:Int):Rat)/((3:Int):Rat)=mkRat 1 3:=(Rat.mkRat_eq_div 1 3).symm
theorem third_parts:(((1:Int):Rat)/((3:Int):Rat)).num=1∧(((1:Int):Rat)/((3:Int):Rat)).den=3:=
 rat_low eK rfl (mk_cross eK rp)
theorem mZ (w:World) (v:Value) (h:QIs w v ((1:Int)/(3:Int):Rat)):
  Calls Tryz.prog 10 #[v] w fun e E=>e= .returned (.string ⟨#[49,47,51]⟩)∧G w E:=by
 have R:(((1:Int):Rat)/((3:Int):Rat)).num=1:=third_parts.1;have S:(((1:Int):Rat)/((3:Int):Rat)).den=3:=third_parts.2;obtain⟨a,k,c,N,O,c',rfl,h1,h2⟩:=h;rw[R] at h1 ⊢;rw[S] at h2;have C:Num w (.slice a k c) 1:=h1;have B:Num w (.slice N O c') 3:=h2;have d1:Lib.decDigits 1=[49]:=by rw[Lib.decDigits];rfl
 have d3:Lib.decDigits 3=[51]:=by rw[Lib.decDigits];rfl
 have W:Hid (∀ A,G w A→Calls Tryz.prog 47 #[.slice a k c] A fun e E=>e= .returned (.string ⟨#[49]⟩)∧G A E):=fun A g=>by
  have h:=q1b A _ 1 eK eK (C.G g);rw[d1] at h;exact h
 have X:Hid (∀ A,G w A→Calls Tryz.prog 47 #[.slice N O c'] A fun e E=>e= .returned (.string ⟨#[51]⟩)∧G A E):=fun A g=>by
  have h:=q1b A _ 3 eK eK (B.G g);rw[d3] at h;exact h
 obtain⟨s,o,y,e,-,m,-⟩:=gv B;injection e with d i j;subst d;subst i;subst j;have U:decide ((1:Int)<0)=false:=rfl;rw[U];clear h1 h2 C B d1 d3 R S U;go_enter Tryz.func10,Tryz.ntmps10;go_wp2_with fail;obtain⟨w0,D,g0,Z,Y⟩:=fi w [.bool false,.slice a k c,.slice N O c'] 29;rw[D];clear D;refine eJ (W.out w0 g0) ?_;rintro e A ⟨rfl,g1⟩;obtain⟨F,I,J,K,L,M⟩:=eX Y (g1);go_wp2_with fail;refine eJ (X.out A (aa g0 g1)) ?_;rintro e w2 ⟨rfl,g2⟩;go_wp2_with fail;go_ret;exact⟨rfl,aa g0 (aa g1 g2)⟩
theorem mR (w:World):Calls Tryz.prog 42 #[.float .f64 4599676419421066581,.float .f64 4607182418800017408] w fun e K=>e= .returned (.float .f64 4599676419421066582)∧G w K:=by
 have E:Hid _:=fun w=>mN 4599676419421066581 w;have F:Hid _:=fun w=>mN 4607182418800017408 w;rw[show FT.nan 4599676419421066581=false from by decide] at E;rw[show FT.nan 4607182418800017408=false from by decide] at F;have L:(FloatKind.f64.format.order 4599676419421066581 4607182418800017408==some .eq)=false:=by decide+kernel
 have M:(FloatKind.f64.format.order 4599676419421066581 0==some .eq)=false:=by decide+kernel
 have N:(FloatKind.f64.format.order 4607182418800017408 4599676419421066581==some .gt)=true:=by decide+kernel
 have O:(FloatKind.f64.format.order 4599676419421066581 0==some .gt)=true:=by decide+kernel
 have J:=fun w=>gy 4599676419421066581 w;have I:=fun w=>fL 4599676419421066582 w;go_enter Tryz.func42,Tryz.ntmps42;go_wp2_with fail;refine(E.out _).mono ?_;rintro e R ⟨rfl,C⟩;have A:=C.size
 try simp at A
 go_wp2_with fail;refine(F.out _).mono ?_;rintro e S ⟨rfl,D⟩;have B:=D.size
 try simp at B
 go_wp2_with fail;go_ret;exact⟨rfl,lT⟩
set_option maxRecDepth 10000 in
theorem q2e (w:World) (o:Tab w):Calls Tryz.prog 5 #[] w fun e N=>e= .returned (.bool true)∧G w N:=by
 have d:Hid (∀ A,G w A→Calls Tryz.prog 6 #[.int .i64 1,.int .i64 3] A (gM A ((1:Int)/(3:Int):Rat) 0)):=fun A g=>by
  have h:=jD A 1 3 (o.G g) eK eK eK eK;exact h
 have K:((1:Int)/(3:Int):Rat)≠0:=by
  intro h;have:=congrArg Rat.num h;rw[third_parts.1] at this;exact absurd this ff
 have L:QB ((1:Int)/(3:Int):Rat) 1:=by unfold QB;rw[third_parts.1,third_parts.2];exact⟨by decide,by decide⟩
 have O:Hid (∀ A v,QIs A v ((1:Int)/(3:Int):Rat)→Calls Tryz.prog 41 #[v,.int .i64 1] A fun r N=>r= .returned (.tuple #[.float .f64 4599676419421066581,.int .i64 0])∧G A N):=fun A v hv=>by
  have h:=pT A v _ 1 1 eK eK (Or.inl rfl) hv K L;rw[third_parts.1,third_parts.2,show FT.wrd (decide ((1:Int)<0)) (rdV 1 (decide ((1:Int)<0)) (Int.natAbs 1) 3)=4599676419421066581 from by decide+kernel] at h;exact h
 have R:Hid (∀ A v,QIs A v ((1:Int)/(3:Int):Rat)→Calls Tryz.prog 41 #[v,.int .i64 3] A fun r N=>r= .returned (.tuple #[.float .f64 4599676419421066582,.int .i64 0])∧G A N):=fun A v hv=>by
  have h:=pT A v _ 3 1 eK eK (Or.inr (Or.inr (Or.inl rfl))) hv K L;rw[third_parts.1,third_parts.2,show FT.wrd (decide ((1:Int)<0)) (rdV 3 (decide ((1:Int)<0)) (Int.natAbs 1) 3)=4599676419421066582 from by decide+kernel] at h;exact h
 have m:Hid (∀ A v,QIs A v ((1:Int)/(3:Int):Rat)→_):=fun A v hv=>mZ A v hv;clear K L;go_enter Tryz.func5,Tryz.ntmps5;go_wp2_with fail;refine eJ (d.out _ (by repeat' (first|exact ag _|refine G.alloc ?_ _))) ?_;intro e1 A s;obtain⟨v,rfl,g1,hv⟩:=s;obtain⟨a,k,c,U,X,c',rfl,Y,Z⟩:=hv;have W:decide ((((1:Int):Rat)/((3:Int):Rat)).num<0)=false:=by rw[third_parts.1];rfl
 have j:QIs A (.agg #[.bool false,.slice a k c,.slice U X c']) ((1:Int)/(3:Int):Rat):=⟨a,k,c,U,X,c',by rw[W],Y,Z⟩;have S:=hi9 j;rw[W];clear d Y Z W j;go_wp2_with fail;obtain⟨w2,M,g2,y,i⟩:=fi A [.bool false,.slice a k c,.slice U X c'] 29;rw[M];clear M;refine eJ (O.out w2 _ (QIs.G S.out g2)) ?_;rintro e w3 ⟨rfl,g3⟩;have g23:=aa g2 g3;obtain⟨B,C,D,E,F,I⟩:=eX i (g3);go_wp2_with fail;clear B C D E F I;refine eJ (R.out w3 _ (QIs.G S.out g23)) ?_;rintro e w4 ⟨rfl,g4⟩;have g24:=aa g3 g4;have Y:(FloatKind.f64.format.order 4599676419421066581 4599676419421066581==some .eq)=true:=by decide+kernel
 have Z:(FloatKind.f64.format.order 4599676419421066582 4599676419421066582==some .eq)=true:=by decide+kernel
 go_wp2_with fail;refine eJ (mR _) ?_;rintro e w5 ⟨rfl,g5⟩;have J:=aa g24 g5;obtain⟨B,C,D,E,F,I⟩:=eX i (J);go_wp2_with fail;refine eJ (m.out w5 _ (QIs.G S.out (aa g2 J))) ?_;rintro e w6 ⟨rfl,g6⟩;go_wp2_with fail;go_ret;exact⟨rfl,aa g1 (aa g2 (aa J g6))⟩
/-- A finite float as a ratio. -/
theorem fq_v (s:Bool) {V:Nat} (h:V<2047*2^52):FQ (FT.wrd s V)=mkRat (if s then -(FT.v V:Int) else FT.v V) (2^1074)∧fex (FT.wrd s V)<2047:=by
 have A:fex (FT.wrd s V)=V/2^52:=by
  unfold fex FT.wrd;cases s<;>simp only[if_true,aB,if_false]<;>omega
 have B:FT.wrd s V%2^52=V%2^52:=by
  unfold FT.wrd;cases s<;>simp only[if_true,aB,if_false]<;>omega
 have C:FT.neg (FT.wrd s V)=s:=by
  unfold FT.neg FT.wrd;cases s
  ·simp only[aB,if_false,beq_eq_false_iff_ne,ne_eq];omega
  ·simp only[if_true,beq_iff_eq];omega
 refine⟨?_,by rw[A];omega⟩;have D:fmag (FT.wrd s V)*2^(max (V/2^52) 1-1)=FT.v V:=by
  unfold fmag;rw[A,B];by_cases h1:V<2^52
  ·rw[FT.v_sub h1,if_pos eK,show max (V/2^52) 1-1=0 from by omega,bH,bJ];omega
  ·rw[FT.v_nor h1,if_neg eK,show max (V/2^52) 1=V/2^52 from by omega]
 unfold FQ;rw[A,C];rw[← D];clear D A B C;obtain⟨E,F⟩:∃ E:Nat,E=1074:=⟨_,rfl⟩;rw[← F];generalize fmag (FT.wrd s V)=m;generalize V/2^52=x;unfold frN frD frS;rw[dX (by have:=af (1075-max x 1);omega) (by have:=af E;omega)];have k:∀ z:Int,z*2^(max x 1-1075)*((2^E:Nat):Int)=z*((2^(max x 1-1):Nat):Int)*((2^(1075-max x 1):Nat):Int):=fun z=>by
  rw[dK,dK];refine congrArg (z*·) ?_;rw[FT.ipow,← aL,← aL,← ah,← ah,show max x 1-1075+E=max x 1-1+(1075-max x 1) from by omega]
 cases s
 ·simp only[aB,if_false];rw[aL];exact k (m:Int)
 ·simp only[if_true];rw[aL,← Int.neg_mul];exact k (-(m:Int))
end Go.Proofs.YtfnkkkcojnffdaaGreatDoor.EN
namespace Go.Proofs.YtfnkkkcojnffdaaGreatDoor
open Go.RowKit
/-- A ratio of whole numbers in lowest terms. -/
theorem nC {sa A:Int} (h:A≠0):((sa:Rat)/(A:Rat))=mkRat (if A<0 then -sa else sa) A.natAbs:=by
 rw[Rat.mkRat_eq_div];by_cases B:A<0
 ·rw[if_pos B];have e:((A.natAbs:Nat):Rat)= -((A:Int):Rat):=by
   have:((A.natAbs:Nat):Int)= -A:=by omega
   show (((A.natAbs:Nat):Int):Rat)=_;rw[this];rfl
  rw[e];rw[Rat.div_def,Rat.div_def];have E:((A:Int):Rat)≠0:=by intro C;have:=congrArg Rat.num C;exact h this
  have D:(-((A:Int):Rat))⁻¹ = -(((A:Int):Rat)⁻¹):=by
   refine Rat.inv_eq_of_mul_eq_one ?_;rw[Rat.neg_mul,Rat.mul_neg,Rat.neg_neg,Rat.mul_inv_cancel _ E]
  rw[D,Rat.mul_neg];show _= -((-(sa:Rat))*_);rw[Rat.neg_mul,Rat.neg_neg]
 ·rw[if_neg B];have e:((A.natAbs:Nat):Rat)=((A:Int):Rat):=by
   have:((A.natAbs:Nat):Int)=A:=by omega
   show (((A.natAbs:Nat):Int):Rat)=_;rw[this]
  rw[e]
theorem iP {z:Int} {d:Nat} (A:0<d) {q:Rat} (h:q=mkRat z d):q.num=Int.tdiv z (Nat.gcd z.natAbs d:Nat)∧q.den=d/Nat.gcd z.natAbs d:=by
 have F:0<Nat.gcd z.natAbs d:=ch _ A;obtain⟨a,J⟩:=bD z.natAbs d;have I:z=Int.tdiv z (Nat.gcd z.natAbs d:Nat)*((Nat.gcd z.natAbs d:Nat):Int):=by
  rw[Int.tdiv_mul_cancel (er.2 (bI _ _))]
 have D:d/Nat.gcd z.natAbs d*Nat.gcd z.natAbs d=d:=Nat.div_mul_cancel (bD _ _);have C:0<d/Nat.gcd z.natAbs d:=dM (Nat.le_of_dvd A (bD _ _)) F;have B:(Int.tdiv z (Nat.gcd z.natAbs d:Nat)).natAbs=z.natAbs/Nat.gcd z.natAbs d:=by
  rw[Int.natAbs_tdiv,ar];rfl
 refine EN.rat_low C (by rw[B];exact Nat.gcd_div_gcd_div_gcd_of_pos_right A) ?_;have h1:=EN.mk_cross A h;have E:((Nat.gcd z.natAbs d:Nat):Int)≠0:=by omega
 refine Int.eq_of_mul_eq_mul_right E ?_;rw[show Int.tdiv z (Nat.gcd z.natAbs d:Nat)*(q.den:Int)*((Nat.gcd z.natAbs d:Nat):Int)=Int.tdiv z (Nat.gcd z.natAbs d:Nat)*((Nat.gcd z.natAbs d:Nat):Int)*q.den from by ac_rfl,← I,h1,dK,← aL,D]
end Go.Proofs.YtfnkkkcojnffdaaGreatDoor
namespace Go.Proofs.YtfnkkkcojnffdaaGreatDoor.EN
open Go.RowKit
theorem lE {q:Rat} {z:Int} {d K:Nat} (C:0<d) (h:q=mkRat z d) (h1:z.natAbs<2^(64*K)) (h2:d<2^(64*K)):QB q K:=by
 obtain⟨A,B⟩:=iP C h;refine⟨?_,?_⟩
 ·rw[A,Int.natAbs_tdiv,ar];exact aq (aN _ _) h1
 ·rw[B];exact aq (aN _ _) h2
theorem q1Y {a b:Int} (hb:b≠0) (h1:a.natAbs<2^(64*1)) (h2:b.natAbs<2^(64*1)):QB ((a:Rat)/(b:Rat)) 1:=
 lE eK (nC hb) (by split<;>omega) h2
theorem pj {x y:Rat} {K L:Nat} (A:QB x K) (B:QB y L):QB (x*y) (K+L):=by
 refine lE (z:=x.num*y.num) (d:=x.den*y.den) (bF x.den_pos y.den_pos) ?_ ?_ (fW A.2 B.2)
 ·rw[← Rat.mkRat_mul_mkRat,dv,dv]
 ·rw[bG];exact fW A.1 B.1
theorem q3Q {b:Nat} (h:fex b<2047):QB (FQ b) 80:=by
 have B:fmag b<2^53:=by unfold fmag;split<;>omega
 obtain⟨K,A⟩:∃ K:Nat,K=80:=⟨_,rfl⟩;obtain⟨M,C⟩:∃ M:Nat,M=5000:=⟨_,rfl⟩;rw[← A];refine lE (mL _) rfl ?_ ?_
 ·rw[pU];have h1:2^(max (fex b) 1-1075)≤2^M:=ai eK eK;have h2:2^53*2^M<2^(64*K):=by rw[← ah];exact cF eK eK
  exact aq (bN (cj B) h1) h2
 ·unfold frD;exact cF eK eK
theorem mS {K:Nat} (h:1≤K):QB 0 K:=⟨af _,Nat.one_lt_two_pow eK⟩
end Go.Proofs.YtfnkkkcojnffdaaGreatDoor.EN
namespace Go.Proofs.YtfnkkkcojnffdaaGreatDoor
open Go.ChangeShapes Go.WideShapes Go.ChangeAt Go.RowKit
open BN
theorem Rec.new4 (w:World) (x y z u:Value) (t:TypeId):Rec (w.alloc (.cells #[x,y,z,u] t)) w.heap.size [x,y,z,u]:=Rec.new w [x,y,z,u] t
theorem Rec.f4 {w:World} {b:Nat} {x y z u:Value} (h:Rec w b [x,y,z,u]):w.cell? ⟨b,0,none⟩=some x∧w.cell? ⟨b,1,none⟩=some y∧w.cell? ⟨b,2,none⟩=some z∧w.cell? ⟨b,3,none⟩=some u∧w.frozen? ⟨b,0,none⟩=false∧w.frozen? ⟨b,1,none⟩=false∧w.frozen? ⟨b,2,none⟩=false∧w.frozen? ⟨b,3,none⟩=false:=
 ⟨h.cell 0,h.cell 1,h.cell 2,h.cell 3,h.frozen 0,h.frozen 1,h.frozen 2,h.frozen 3⟩
theorem ml {w:World} {v:Value} {n b:Nat} {x y z u u1 u2 u3 u4:Value} (h:Num w v n) (r:Rec w b [x,y,z,u]) (L:∀ c∈[x,y,z,u],∀ k i,c≠ .int k i):
  Num ((((w.setCell ⟨b,0,none⟩ u1).setCell ⟨b,1,none⟩ u2).setCell ⟨b,2,none⟩ u3).setCell ⟨b,3,none⟩ u4) v n:=by
 obtain⟨m,E,D,hv⟩:=h;refine⟨m,?_,D,hv⟩;rcases Sl.cases E with ⟨rfl,a,c,rfl⟩|⟨F,I,o,c,rfl,C,hb,K⟩
 ·exact⟨E.1,Or.inl ⟨rfl,a,c,rfl⟩⟩
 ·have A:I≠b:=by
   intro e;subst e;have J:=K 0 (bS.2 F);rw[r.cell] at J;exact L _ (cq J) _ _ rfl
  refine⟨E.1,Or.inr ⟨I,o,c,rfl,C,by simpa [World.setCell] using hb,fun i hi=> ?_⟩⟩;rw[World.cell?_setCell_other _ _ _ _ (by intro e;injection e with B;exact A B.symm),World.cell?_setCell_other _ _ _ _ (by intro e;injection e with B;exact A B.symm),World.cell?_setCell_other _ _ _ _ (by intro e;injection e with B;exact A B.symm),World.cell?_setCell_other _ _ _ _ (by intro e;injection e with B;exact A B.symm)];exact K i hi
set_option maxRecDepth 10000 in
set_option maxHeartbeats 2000000 in
theorem iI (w:World) (C ba oa bb ob:Nat) (sa F:Int) (K:Nat) (hK:K≤300000) (o:sa.natAbs<2^(32*K)) (s:F.natAbs<2^(32*K)) (cm:F≠0) (cz:ba<w.heap.size) (dk:bb<w.heap.size)
  (hz:Rec w C [.bool false,.slice none 0 0,.bool false,.slice none 0 0]) (ha:IntIs w ba oa sa) (hb:IntIs w bb ob F):
  Calls Tryz.prog 43 #[.pointer (some ⟨C,0,none⟩),.pointer (some ⟨ba,oa,none⟩),.pointer (some ⟨bb,ob,none⟩)] w (NormTo w C ((sa:Rat)/(F:Rat)).num ((sa:Rat)/(F:Rat)).den):=by
 have ee:=hz.lt;have bv:Hid (∀ S p,G w S→NI w S p 0→_):=fun S p g h=>jY S p 0 ba oa 0 sa K eK o h.2.1 (dp g cz) h.2.2 (ha.G cz g);have ca:Hid (∀ S p,G w S→NI w S p 0→_):=fun S p g h=>jY S p 0 bb ob 0 F K eK s h.2.1 (dp g dk) h.2.2 (hb.G dk g);have HZ:Hid (Rec w C [.bool false,.slice none 0 0,.bool false,.slice none 0 0]):=hz;have bi:Hid (sa.natAbs<2^(32*K)):=o;have bl:Hid (F.natAbs<2^(32*K)):=s;have d:Hid (F≠0):=cm;obtain⟨nb,vb,b',⟨-,c2,-,-⟩,fv,O,-⟩:=hb;obtain⟨m,hm,em,an⟩:=fv;obtain⟨pb,cb,rfl,-,-⟩:=fa hm;have dq:m.length≠0:=by
  intro h0;rw[aH h0] at an;have:b'=0:=an.symm;rw[this] at O;unfold sg at O;cases nb<;>simp at O<;>omega
 have gf:((m.length:Int)==0)=false:=by simp;intro h;exact dq (by rw[h];rfl)
 generalize m.length=j at *;clear hz ha hm em an O dq o s cm;go_enter Tryz.func43,Tryz.ntmps43;go_wp2_with fail;have L:=eu (ag w) 43;have J:=(ag w).alloc (.cells #[.bool false,.slice none 0 0] 43);refine Calls.mono (P:=Tryz.prog) (bv.out _ _ J L) ?_;intro e w3 hs;obtain⟨rfl,y,al,-,-⟩:=cf J L hs;clear hs L J c2;have gz:C<w.heap.size:=ee;generalize hh:w.heap.size=pn at *;go_wp2_with fail;have L:=eu y 43;have cx:=al.G ((ag w3).alloc (.cells #[.bool false,.slice none 0 0] 43));have J:=aa y ((ag w3).alloc (.cells #[.bool false,.slice none 0 0] 43));have fr:w3.heap.size≠pn:=by have:=al.2.1;omega
 refine Calls.mono (P:=Tryz.prog) (ca.out _ _ J L) ?_;intro e w4 hs;obtain⟨rfl,cs,cr,-,dl⟩:=cf J L hs;have cy:=dl pn sa fr.symm cx;clear hs L J dl cx al y bv ca;generalize w3.heap.size=pd at *;have hg:=cr.1;have gm:=cy.1;obtain⟨-,gn,n1,v1,a1,⟨c1,c2,-,-⟩,ao,h1,ce⟩:=cy;obtain⟨-,gl,R,v2,a2,⟨c3,c4,-,-⟩,ap,h2,ci⟩:=cr;have M:=aM HZ.out cs;have N:=Rec.f4 M;have z1:=N.1;have z2:=N.2.1;have z3:=N.2.2.1;have z4:=N.2.2.2.1;have f1:=N.2.2.2.2.1;have f2:=N.2.2.2.2.2.1;have f3:=N.2.2.2.2.2.2.1;have f4:=N.2.2.2.2.2.2.2;obtain⟨X,r1,t1,rfl⟩:=jb ao;obtain⟨Y,r2,t2,rfl⟩:=jb ap;simp only[aD] at c2 c4;have he:¬ C=pn:=by omega
 have hd:¬ C=pd:=by omega
 have gk:¬ pn=C:=by omega
 have gg:¬ pd=C:=by omega
 have am:∀ c∈[Value.bool false,.slice none 0 0,.bool false,.slice none 0 0],∀ k i,c≠ .int k i:=by
  intro c hc k i;simp at hc;rcases hc with rfl|rfl|rfl|rfl<;>(intro e;cases e)
 have cc:=hi9 (ml (u1:= .bool n1) (u2:= .slice X r1 t1) (u3:= .bool R) (u4:= .slice Y r2 t2) ao M am);have cd:=hi9 (ml (u1:= .bool n1) (u2:= .slice X r1 t1) (u3:= .bool R) (u4:= .slice Y r2 t2) ap M am);have bu:Hid (Rec ((((w4.setCell ⟨C,0,none⟩ (.bool n1)).setCell ⟨C,1,none⟩ (.slice X r1 t1)).setCell ⟨C,2,none⟩ (.bool R)).setCell ⟨C,3,none⟩ (.slice Y r2 t2)) C [.bool n1,.slice X r1 t1,.bool R,.slice Y r2 t2]):=(((M.set 0 _).set 1 _).set 2 _).set 3 _;have dr:Hid (GX C w ((((w4.setCell ⟨C,0,none⟩ (.bool n1)).setCell ⟨C,1,none⟩ (.slice X r1 t1)).setCell ⟨C,2,none⟩ (.bool R)).setCell ⟨C,3,none⟩ (.slice Y r2 t2))):=GX.set (GX.set (GX.set (GX.set (GX.of cs) _) _) _) _;have I:=Rec.f4 bu.out;have bn:Hid (IntIs ((((w4.setCell ⟨C,0,none⟩ (.bool n1)).setCell ⟨C,1,none⟩ (.slice X r1 t1)).setCell ⟨C,2,none⟩ (.bool R)).setCell ⟨C,3,none⟩ (.slice Y r2 t2)) C 0 sa):=⟨n1,_,a1,⟨I.1,I.2.1,I.2.2.2.2.1,I.2.2.2.2.2.1⟩,cc.out,h1,ce⟩;have bq:Hid (IntIs ((((w4.setCell ⟨C,0,none⟩ (.bool n1)).setCell ⟨C,1,none⟩ (.slice X r1 t1)).setCell ⟨C,2,none⟩ (.bool R)).setCell ⟨C,3,none⟩ (.slice Y r2 t2)) C 2 F):=⟨R,_,a2,⟨I.2.2.1,I.2.2.2.1,I.2.2.2.2.2.2.1,I.2.2.2.2.2.2.2⟩,cd.out,h2,ci⟩;have hq:=nC (sa:=sa) d.out;have E:=iP (by have:=d.out;omega) hq;have U:(if F<0 then -sa else sa).natAbs=sa.natAbs:=by split<;>omega
 rw[U] at E;obtain⟨P,hP⟩:∃ P,P=((sa:Rat)/(F:Rat)).num:=⟨_,rfl⟩;obtain⟨D,hD⟩:∃ D,D=((sa:Rat)/(F:Rat)).den:=⟨_,rfl⟩;rw[← hP,← hD] at E;have HN:Hid (∀ Z,C<Z.heap.size→IntIs Z C 0 sa→IntIs Z C 2 F→Calls Tryz.prog 102 #[.pointer (some ⟨C,0,none⟩)] Z (NormTo Z C P D)):=by
  intro Z k1 k2 k3;by_cases W:F<0
  ·have h:=oY Z C sa F.natAbs K hK bi.out bl.out eK k1 k2 (by rw[show -((F.natAbs:Nat):Int)=F from by omega];exact k3);rw[if_pos W] at E;rw[E.1,E.2];exact h
  ·obtain⟨n,va,A,ia,ga,ea,ep⟩:=k2;obtain⟨m2,vb,B,ib,gd,eb,fp⟩:=k3;have en:m2=false:=by
    cases m2
    ·rfl
    ·have h1:=fp rfl;unfold sg at eb;simp at eb;omega
   subst en;have cn:B=F.natAbs:=by unfold sg at eb;simp at eb;omega
   have cl:A=sa.natAbs:=fP ea;have h:=q0s Z C n va vb A B K hK (by rw[cl];exact bi.out) (by rw[cn];exact bl.out) (by have:=d.out;omega) ep k1 ⟨ia,ga,ib,gd⟩;rw[if_neg W] at E;rw[qg,ea,cl,cn,← E.1,← E.2] at h;exact h
 have fs:C<((((w4.setCell ⟨C,0,none⟩ (.bool n1)).setCell ⟨C,1,none⟩ (.slice X r1 t1)).setCell ⟨C,2,none⟩ (.bool R)).setCell ⟨C,3,none⟩ (.slice Y r2 t2)).heap.size:=by
  have:C<w4.heap.size:=by omega
  simpa [World.setCell] using this
 have ed:=hi9 (HN.out _ fs bn.out bq.out);have bs:Hid (P=((sa:Rat)/(F:Rat)).num∧D=((sa:Rat)/(F:Rat)).den):=⟨hP,hD⟩;clear ce h1 h2 ci ao ap HZ M N I am cc cd bu bn bq hq E U hP hD HN;go_wp2_with fail;refine Calls.mono (P:=Tryz.prog) ed.out ?_;intro e w6 hs;obtain⟨rfl,k1,k2⟩:=hs;have ec:Hid (RatIs w6 C P (D:Int)):=k2;have ds:Hid (GX C w w6):=GX.trans dr.out k1;clear k1 k2;go_wp2_with fail;go_ret;exact⟨rfl,ds.out,by rw[← bs.out.1,← bs.out.2];exact ec.out⟩
end Go.Proofs.YtfnkkkcojnffdaaGreatDoor
namespace Go.Proofs.YtfnkkkcojnffdaaGreatDoor.EN
open Go.ChangeShapes Go.WideShapes Go.ChangeAt Go.RowKit
/-- Rows of the reference stand where a record of fractions is written. -/
theorem qA {w:World} {v:Value} {n b:Nat} {x y z u1 u2 u3:Value} (h:BN.Num w v n) (r:Rec w b [x,y,z]) (L:∀ c∈[x,y,z],∀ k i,c≠ .int k i):
  BN.Num (((w.setCell ⟨b,0,none⟩ u1).setCell ⟨b,1,none⟩ u2).setCell ⟨b,2,none⟩ u3) v n:=by
 obtain⟨m,⟨K,J⟩,E,hv⟩:=h;refine⟨m,⟨K,?_⟩,E,hv⟩;rcases J with C|⟨F,o,c,rfl,D,hb,I⟩
 ·exact Or.inl C
 ·refine Or.inr ⟨F,o,c,rfl,D,by simpa [World.setCell] using hb,fun i hi=> ?_⟩;have A:F≠b:=by
   intro e;subst e;have C:=I i hi;rw[r.cell] at C;exact L _ (cq C) _ _ rfl
  rw[World.cell?_setCell_other _ _ _ _ (by intro e;injection e with B;exact A B.symm),World.cell?_setCell_other _ _ _ _ (by intro e;injection e with B;exact A B.symm),World.cell?_setCell_other _ _ _ _ (by intro e;injection e with B;exact A B.symm)];exact I i hi
theorem jQ {w:World} {p o:Nat} {s:Int} {b:Nat} {x y z u1 u2 u3:Value} (h:IntIs w p o s) (D:p≠b) (r:Rec w b [x,y,z]) (I:∀ c∈[x,y,z],∀ k i,c≠ .int k i):
  IntIs (((w.setCell ⟨b,0,none⟩ u1).setCell ⟨b,1,none⟩ u2).setCell ⟨b,2,none⟩ u3) p o s:=by
 obtain⟨n,v,a,⟨c1,E,f1,f2⟩,hv,h1,h2⟩:=h;have B:∀ (A:World) (i k:Nat) (u:Value),(A.setCell ⟨b,i,none⟩ u).cell? ⟨p,k,none⟩=A.cell? ⟨p,k,none⟩:=fun A i k u=>World.cell?_setCell_other _ _ _ _ (by intro e;injection e with F;exact D F.symm);have C:∀ (A:World) (i k:Nat) (u:Value),(A.setCell ⟨b,i,none⟩ u).frozen? ⟨p,k,none⟩=A.frozen? ⟨p,k,none⟩:=fun A i k u=>World.frozen?_setCell _ _ _ _;exact⟨n,v,a,⟨by rw[B,B,B];exact c1,by rw[B,B,B];exact E,by rw[C,C,C];exact f1,by rw[C,C,C];exact f2⟩,qA hv r I,h1,h2⟩
/-- A new Int of the reference. -/
def NewI (w0 w:World) (v:Value) (s:Int):Prop:=∃ p,v= .pointer (some ⟨p,0,none⟩)∧w0.heap.size≤p∧p<w.heap.size∧IntIs w p 0 s
theorem NewI.G {w0 w A:World} {v:Value} {s:Int} (h:NewI w0 w v s) (g:G w A):NewI w0 A v s:=by
 obtain⟨p,e,h1,h2,h3⟩:=h;exact⟨p,e,h1,ae h2 g.size,h3.G h2 g⟩
/-- A fraction and the same of the reference. -/
def mC (w:World) (q:Rat) (e:Ending) (A:World):Prop:=∃ v p,e= .returned (.tuple #[v,.pointer (some ⟨p,0,none⟩)])∧G w A∧QIs A v q∧w.heap.size≤p∧p<A.heap.size∧RatIs A p q.num q.den
theorem mi (w:World) (a b bb:Int) (d:bb=if b=0 then 1 else b) (hT:Tab w) (h1: -9223372036854775808≤a) (h2:a<9223372036854775808) (h3: -9223372036854775808≤b) (h4:b<9223372036854775808):
  Calls Tryz.prog 7 #[.int .i64 a,.int .i64 b] w (mC w ((a:Rat)/(bb:Rat))):=by
 have dk:bb≠0:=by rw[d];split<;>omega
 have cc: -9223372036854775808≤bb∧bb<9223372036854775808:=by rw[d];split<;>omega
 obtain⟨q,hq⟩:∃ q:Rat,q=(a:Rat)/(bb:Rat):=⟨_,rfl⟩;have HO:Hid (∀ B,G w B→Calls Tryz.prog 6 #[.int .i64 a,.int .i64 bb] B (gM B q 0)):=fun B g=>by
  have h:=jD B a bb (hT.G g) h1 h2 cc.1 cc.2;rw[if_neg dk,if_neg dk,← hq] at h;exact h
 have HN:∀ x:Int,-9223372036854775808≤x→x<9223372036854775808→∀ w0 B:World,G w0 B→Calls Tryz.prog 44 #[.int .i64 x] B fun e w'=>∃ v,e= .returned v∧G B w'∧NewI w0 w' v x:=fun x k1 k2 w0 B g=>by
  refine(gY B x ⟨k1,by omega⟩).mono ?_;rintro e w' ⟨p,rfl,g1,hp,Y,hi⟩;exact⟨_,rfl,g1,p,rfl,bk g.size hp,Y,hi⟩
 have HS:Hid (∀ B p pa pb,pa<B.heap.size→pb<B.heap.size→Rec B p [.bool false,.slice none 0 0,.bool false,.slice none 0 0]→IntIs B pa 0 a→IntIs B pb 0 bb→
   Calls Tryz.prog 43 #[.pointer (some ⟨p,0,none⟩),.pointer (some ⟨pa,0,none⟩),.pointer (some ⟨pb,0,none⟩)] B (NormTo B p q.num q.den)):=fun B p pa pb k1 k2 k3 k4 k5=>by
  have h:=iI B p pa 0 pb 0 a bb 3 eK (by have:(2:Nat)^(32*3)=79228162514264337593543950336:=rfl;omega) (by have:(2:Nat)^(32*3)=79228162514264337593543950336:=rfl;omega) dk k1 k2 k3 k4 k5;rw[← hq] at h;exact h
 have am:Hid (∀ w0 B:World,G w0 B→_):=HN a h1 h2;have an:Hid (∀ w0 B:World,G w0 B→_):=HN bb cc.1 cc.2;rw[← hq];clear HN cc dk hq hT;by_cases h0:b=0
 ·subst h0;rw[if_pos rfl] at d;go_enter Tryz.func7,Tryz.ntmps7;go_wp2_with fail;rw[← d];clear d;obtain⟨w0,M,g0,fp,R0⟩:=fi w [.bool false,.slice none 0 0,.slice none 0 0] 29;rw[M];clear M;have RA:Hid (Rec _ _ _):=R0;clear R0;refine eJ (HO.out w0 g0) ?_;intro e1 B Y;obtain⟨v,rfl,g1,hv⟩:=Y;obtain⟨E,J,F,a9,L,I,rfl,cd,ce⟩:=hv;have ao:Hid (Num B (.slice E J F) _):=cd;have ap:Hid (Num B (.slice a9 L I) _):=ce;obtain⟨t9,y⟩:∃ t,t=decide (q.num<0):=⟨_,rfl⟩;rw[← y];have dl:Hid (t9=decide (q.num<0)):=y;clear cd ce y;go_wp2_with fail;obtain⟨w2,M,g2,fr,R0⟩:=fi B [.bool t9,.slice E J F,.slice a9 L I] 29;rw[M];clear M;obtain⟨cn,cr,cs,cx,cy,cz⟩:=eX R0 (ag _);refine fN 7 (G w2) eM (by first|exact(ag _).drew|exact G.drew kg) ?_;intro ep;refine eL 0 (v:= ?_) rfl eM (fun _ _ _ h=>h) rfl ?_ ‹_› ?_;rotate_left
  ·intro wq al;have fs:=kh ⟨B.heap.size,0,none⟩ (.bool t9) al;have fv:=kh ⟨B.heap.size,1,none⟩ (.slice E J F) al;have ga:=kh ⟨B.heap.size,2,none⟩ (.slice a9 L I) al;exact fE
  try simp only[aput,List.set]
  refine ll (done:=#[true,false,false,false,false,false,false,false,false]) 6 3 5 #[true,true,true,true,true,true,false,false,false] [.is (undef),.any (fun v w'=>NewRec w2 w' v ([.bool false,.slice none 0 0,.bool false,.slice none 0 0])),.is (.int .i64 a),.any (fun v w'=>NewI w2 w' v a),.is (.int .i64 bb),.any (fun v w'=>NewI w2 w' v bb)] [none,some 17,some 18,some 19,some 20,some 21] rfl eM rfl (by repeat (first|exact trivial|refine⟨fun _ _ _ g h=>by first|exact h.G g|exact fun w3 g3=>h w3 (aa g g3),?_⟩)) eM eM eM eM eM eM eM eM eM kg ?_;intro v1 v3 v5 A hA;simp only[fg,Act.put,aj,au,av] at hA;subst hA;refine⟨?_,?_⟩
  ·skip
   refine EachesD.skip rfl eM ?_;refine EachesD.cons rfl ?_ ?_
   ·intro W hW hD K D;clear hD;go_simp;exact D.out _ _ ⟨_,rfl,(ag _).alloc _,_,rfl,hW.size,Rec.new4 _ _ _ _ _ _⟩
   refine EachesD.cons rfl ?_ ?_
   ·exact iX
   refine EachesD.cons rfl ?_ ?_
   ·intro W hW hD K D;clear hD;go_simp;go_wp2_with (go_at_call 44;refine eJ (am.out _ W hW) ?_;intro e w9 Y;obtain⟨u9,rfl,g9,o⟩:=Y);exact D.out _ _ ⟨_,rfl,g9,o⟩
   refine EachesD.cons rfl ?_ ?_
   ·exact iX
   refine EachesD.cons rfl ?_ ?_
   ·intro W hW hD K D;clear hD;go_simp;go_wp2_with (go_at_call 44;refine eJ (an.out _ W hW) ?_;intro e w9 Y;obtain⟨u9,rfl,g9,o⟩:=Y);exact D.out _ _ ⟨_,rfl,g9,o⟩
   exact EachesD.nil
  intro w3 g3 hH;have h1:=iW v1 1 hH;have h3:=iW v3 3 hH;have h5:=iW v5 5 hH;clear hH;obtain⟨p,rfl,ds,ci⟩:=h1;obtain⟨pa,rfl,dq,bv,bz⟩:=h3;obtain⟨pb,rfl,dr,ca,cb⟩:=h5;clear am an HO;have HP:Hid (Rec _ _ _):=ci;have bn:Hid (IntIs _ _ _ _):=bz;have bq:Hid (IntIs _ _ _ _):=cb;have HL:Hid (pa<w3.heap.size∧pb<w3.heap.size):=⟨bv,ca⟩;clear ci bz cb bv ca dq dr;refine eN (i:=6) eM rfl ?_;intro K D;go_simp;go_wp2_with (go_at_call 43;refine eJ (HS.out w3 p pa pb HL.out.1 HL.out.2 HP.out bn.out bq.out) ?_;intro e w4 Y;obtain⟨rfl,m,cm⟩:=Y);have g24:G w2 w4:=GX.fresh g3 m ds;have cl:p<w4.heap.size:=ae HP.out.lt m.size;have Z:Hid (RatIs _ _ _ _):=cm;clear m cm HP bn bq HL g3 HS;refine D.out _ _ (Or.inr g24) ?_;clear D K;have C:G w0 w4:=aa g1 (aa g2 g24);obtain⟨N,O,R,S,U,X⟩:=eX RA (C);refine eN (i:=7) eM rfl ?_;intro K D;go_simp;refine D.out _ _ (Or.inl ff) ?_;clear D K N O R S U X;refine eN (i:=8) eM rfl ?_;intro K D;go_simp;refine D.out _ _ (Or.inl ff) ?_;clear D K;refine fh eM ?_ _;have s:w.heap.size<p:=by
   have k1:=g1.size;have k2:=g2.size;omega
  have j:∀ c∈[Value.bool false,.slice none 0 0,.slice none 0 0],∀ k i,c≠ .int k i:=by
   intro c hc k i;simp at hc;rcases hc with rfl|rfl<;>(intro e;cases e)
  have bi:Num _ _ _:=eT (u1:= .bool t9) (u2:= .slice E J F) (u3:= .slice a9 L I) (ao.out.G (aa g2 g24)) (aM RA.out (C)) trivial trivial trivial;have bl:Num _ _ _:=eT (u1:= .bool t9) (u2:= .slice E J F) (u3:= .slice a9 L I) (ap.out.G (aa g2 g24)) (aM RA.out (C)) trivial trivial trivial;have bs:IntIs _ p 0 _:=jQ (u1:= .bool t9) (u2:= .slice E J F) (u3:= .slice a9 L I) Z.out.1 (dO s) (aM RA.out (C)) j;have bu:IntIs _ p 2 _:=jQ (u1:= .bool t9) (u2:= .slice E J F) (u3:= .slice a9 L I) Z.out.2 (dO s) (aM RA.out (C)) j;have ea:p<(((w4.setCell ⟨w.heap.size,0,none⟩ (.bool t9)).setCell ⟨w.heap.size,1,none⟩ (.slice E J F)).setCell ⟨w.heap.size,2,none⟩ (.slice a9 L I)).heap.size:=by simpa [World.setCell] using cl
  clear j Z ao ap cl;go_wp2_with fail;have hT:Hid (Rec _ (w.heap.size) [.bool t9,.slice E J F,.slice a9 L I]):=du (aM RA.out (C));have g9:=Rec.h3 hT.out (aa g0 C) eK;generalize (World.setCell (World.setCell (World.setCell w4 ⟨w.heap.size,0,none⟩ (.bool t9)) ⟨w.heap.size,1,none⟩ (.slice E J F)) ⟨w.heap.size,2,none⟩ (.slice a9 L I))=w9 at *;obtain⟨eb,ec,ed,ee,em,en⟩:=eX hT (((ag _)));refine bodyPost_ret (v:= .tuple #[.agg #[.bool t9,.slice E J F,.slice a9 L I],.pointer (some ⟨p,0,none⟩)]) (by simp [results,Tryz.results7,go_sem, *]) rfl ?_;exact⟨_,p,rfl,g9,⟨E,J,F,a9,L,I,by rw[← dl.out],bi,bl⟩,cj s,ea,bs,bu⟩
 ·rw[if_neg h0] at d;subst d;have hb:((bb:Int)==0)=false:=by simpa using h0
  clear h0;go_enter Tryz.func7,Tryz.ntmps7;go_wp2_with fail;obtain⟨w0,M,g0,fp,R0⟩:=fi w [.bool false,.slice none 0 0,.slice none 0 0] 29;rw[M];clear M;have RA:Hid (Rec _ _ _):=R0;clear R0;refine eJ (HO.out w0 g0) ?_;intro e1 B Y;obtain⟨v,rfl,g1,hv⟩:=Y;obtain⟨E,J,F,a9,L,I,rfl,cd,ce⟩:=hv;have ao:Hid (Num B (.slice E J F) _):=cd;have ap:Hid (Num B (.slice a9 L I) _):=ce;obtain⟨t9,y⟩:∃ t,t=decide (q.num<0):=⟨_,rfl⟩;rw[← y];have dl:Hid (t9=decide (q.num<0)):=y;clear cd ce y;go_wp2_with fail;obtain⟨w2,M,g2,fr,R0⟩:=fi B [.bool t9,.slice E J F,.slice a9 L I] 29;rw[M];clear M;obtain⟨cn,cr,cs,cx,cy,cz⟩:=eX R0 (ag _);refine fN 7 (G w2) eM (by first|exact(ag _).drew|exact G.drew kg) ?_;intro ep;refine eL 0 (v:= ?_) rfl eM (fun _ _ _ h=>h) rfl ?_ ‹_› ?_;rotate_left
  ·intro wq al;have gd:=kh ⟨B.heap.size,0,none⟩ (.bool t9) al;have gf:=kh ⟨B.heap.size,1,none⟩ (.slice E J F) al;have gg:=kh ⟨B.heap.size,2,none⟩ (.slice a9 L I) al;exact fE
  try simp only[aput,List.set]
  refine ll (done:=#[true,false,false,false,false,false,false,false,false]) 6 3 5 #[true,true,true,true,true,true,false,false,false] [.is (undef),.any (fun v w'=>NewRec w2 w' v ([.bool false,.slice none 0 0,.bool false,.slice none 0 0])),.is (.int .i64 a),.any (fun v w'=>NewI w2 w' v a),.is (.int .i64 bb),.any (fun v w'=>NewI w2 w' v bb)] [none,some 17,some 18,some 19,some 20,some 21] rfl eM rfl (by repeat (first|exact trivial|refine⟨fun _ _ _ g h=>by first|exact h.G g|exact fun w3 g3=>h w3 (aa g g3),?_⟩)) eM eM eM eM eM eM eM eM eM kg ?_;intro v1 v3 v5 A hA;simp only[fg,Act.put,aj,au,av] at hA;subst hA;refine⟨?_,?_⟩
  ·skip
   refine EachesD.skip rfl eM ?_;refine EachesD.cons rfl ?_ ?_
   ·intro W hW hD K D;clear hD;go_simp;exact D.out _ _ ⟨_,rfl,(ag _).alloc _,_,rfl,hW.size,Rec.new4 _ _ _ _ _ _⟩
   refine EachesD.cons rfl ?_ ?_
   ·exact iX
   refine EachesD.cons rfl ?_ ?_
   ·intro W hW hD K D;clear hD;go_simp;go_wp2_with (go_at_call 44;refine eJ (am.out _ W hW) ?_;intro e w9 Y;obtain⟨u9,rfl,g9,o⟩:=Y);exact D.out _ _ ⟨_,rfl,g9,o⟩
   refine EachesD.cons rfl ?_ ?_
   ·exact iX
   refine EachesD.cons rfl ?_ ?_
   ·intro W hW hD K D;clear hD;go_simp;go_wp2_with (go_at_call 44;refine eJ (an.out _ W hW) ?_;intro e w9 Y;obtain⟨u9,rfl,g9,o⟩:=Y);exact D.out _ _ ⟨_,rfl,g9,o⟩
   exact EachesD.nil
  intro w3 g3 hH;have h1:=iW v1 1 hH;have h3:=iW v3 3 hH;have h5:=iW v5 5 hH;clear hH;obtain⟨p,rfl,ds,ci⟩:=h1;obtain⟨pa,rfl,dq,bv,bz⟩:=h3;obtain⟨pb,rfl,dr,ca,cb⟩:=h5;clear am an HO;have HP:Hid (Rec _ _ _):=ci;have bn:Hid (IntIs _ _ _ _):=bz;have bq:Hid (IntIs _ _ _ _):=cb;have HL:Hid (pa<w3.heap.size∧pb<w3.heap.size):=⟨bv,ca⟩;clear ci bz cb bv ca dq dr;refine eN (i:=6) eM rfl ?_;intro K D;go_simp;go_wp2_with (go_at_call 43;refine eJ (HS.out w3 p pa pb HL.out.1 HL.out.2 HP.out bn.out bq.out) ?_;intro e w4 Y;obtain⟨rfl,m,cm⟩:=Y);have g24:G w2 w4:=GX.fresh g3 m ds;have cl:p<w4.heap.size:=ae HP.out.lt m.size;have Z:Hid (RatIs _ _ _ _):=cm;clear m cm HP bn bq HL g3 HS;refine D.out _ _ (Or.inr g24) ?_;clear D K;have C:G w0 w4:=aa g1 (aa g2 g24);obtain⟨N,O,R,S,U,X⟩:=eX RA (C);refine eN (i:=7) eM rfl ?_;intro K D;go_simp;refine D.out _ _ (Or.inl ff) ?_;clear D K N O R S U X;refine eN (i:=8) eM rfl ?_;intro K D;go_simp;refine D.out _ _ (Or.inl ff) ?_;clear D K;refine fh eM ?_ _;have s:w.heap.size<p:=by
   have k1:=g1.size;have k2:=g2.size;omega
  have j:∀ c∈[Value.bool false,.slice none 0 0,.slice none 0 0],∀ k i,c≠ .int k i:=by
   intro c hc k i;simp at hc;rcases hc with rfl|rfl<;>(intro e;cases e)
  have bi:Num _ _ _:=eT (u1:= .bool t9) (u2:= .slice E J F) (u3:= .slice a9 L I) (ao.out.G (aa g2 g24)) (aM RA.out (C)) trivial trivial trivial;have bl:Num _ _ _:=eT (u1:= .bool t9) (u2:= .slice E J F) (u3:= .slice a9 L I) (ap.out.G (aa g2 g24)) (aM RA.out (C)) trivial trivial trivial;have bs:IntIs _ p 0 _:=jQ (u1:= .bool t9) (u2:= .slice E J F) (u3:= .slice a9 L I) Z.out.1 (dO s) (aM RA.out (C)) j;have bu:IntIs _ p 2 _:=jQ (u1:= .bool t9) (u2:= .slice E J F) (u3:= .slice a9 L I) Z.out.2 (dO s) (aM RA.out (C)) j;have ea:p<(((w4.setCell ⟨w.heap.size,0,none⟩ (.bool t9)).setCell ⟨w.heap.size,1,none⟩ (.slice E J F)).setCell ⟨w.heap.size,2,none⟩ (.slice a9 L I)).heap.size:=by simpa [World.setCell] using cl
  clear j Z ao ap cl;go_wp2_with fail;have hT:Hid (Rec _ (w.heap.size) [.bool t9,.slice E J F,.slice a9 L I]):=du (aM RA.out (C));have g9:=Rec.h3 hT.out (aa g0 C) eK;generalize (World.setCell (World.setCell (World.setCell w4 ⟨w.heap.size,0,none⟩ (.bool t9)) ⟨w.heap.size,1,none⟩ (.slice E J F)) ⟨w.heap.size,2,none⟩ (.slice a9 L I))=w9 at *;obtain⟨eb,ec,ed,ee,em,en⟩:=eX hT (((ag _)));refine bodyPost_ret (v:= .tuple #[.agg #[.bool t9,.slice E J F,.slice a9 L I],.pointer (some ⟨p,0,none⟩)]) (by simp [results,Tryz.results7,go_sem, *]) rfl ?_;exact⟨_,p,rfl,g9,⟨E,J,F,a9,L,I,by rw[← dl.out],bi,bl⟩,cj s,ea,bs,bu⟩
end Go.Proofs.YtfnkkkcojnffdaaGreatDoor.EN
namespace Go.Proofs.YtfnkkkcojnffdaaGreatDoor
open Go.ChangeShapes Go.WideShapes Go.ChangeAt Go.RowKit
open BN
set_option maxHeartbeats 8000000 in
theorem q3c (w:World) (bz bx b2:Nat) (o ya:Int) (xb c:Nat) (k:Nat) (E:k≤100000) (dl:o.natAbs<2^(32*k)) (dq:ya.natAbs<2^(32*k)) (ci:xb<2^(32*k)) (cl:c<2^(32*k)) (gf:0<xb) (gg:0<c) (en:ya≠0)
  (bl:bx<w.heap.size) (y:b2<w.heap.size) (hz:Rec w bz [.bool false,.slice none 0 0,.bool false,.slice none 0 0]) (hx:RatIs w bx o xb) (hy:RatIs w b2 ya c):
  Calls Tryz.prog 31 #[.pointer (some ⟨bz,0,none⟩),.pointer (some ⟨bx,0,none⟩),.pointer (some ⟨b2,0,none⟩)] w (NormTo w bz (((o*c:Int):Rat)/((xb*ya:Int):Rat)).num (((o*c:Int):Rat)/((xb*ya:Int):Rat)).den):=by
 have cn:Hid (o.natAbs<2^(32*k)):=dl;have ds:Hid (ya.natAbs<2^(32*k)):=dq;have ea:Hid ((xb:Int).natAbs<2^(32*k)):=by show (xb:Int).natAbs<2^(32*k);rw[ar];exact ci
 have cr:Hid ((c:Int).natAbs<2^(32*k)):=by show (c:Int).natAbs<2^(32*k);rw[ar];exact cl
 have ec:Hid (IntIs w bx 0 o):=hx.1;have ga:Hid (IntIs w b2 0 ya):=hy.1;have fv:Hid (IntIs w bx 2 xb):=hx.2;have ee:Hid (IntIs w b2 2 c):=hy.2;have ed:Hid (RatIs w bx o xb):=hx;have cm:Hid (RatIs w b2 ya c):=hy;have gd:Hid (Rec w bz [.bool false,.slice none 0 0,.bool false,.slice none 0 0]):=hz;have ce:(xb:Int)≠0:=by omega
 have bu:(c:Int)≠0:=by omega
 have fs:Hid ((o*c).natAbs<2^(32*(2*k))):=by
  show (o*c).natAbs<2^(32*(2*k));rw[bG,ar,show 32*(2*k)=32*k+32*k from by omega,ah];exact bE dl cl
 have fp:Hid (((xb:Int)*ya).natAbs<2^(32*(2*k))):=by
  show ((xb:Int)*ya).natAbs<2^(32*(2*k));rw[bG,ar,show 32*(2*k)=32*k+32*k from by omega,ah];exact bE ci dq
 have ep:Hid ((xb:Int)*ya≠0):=Int.mul_ne_zero ce en;clear hx hy hz dl dq ci cl gf gg en;go_enter Tryz.func31,Tryz.ntmps31;go_wp2_with fail;refine fN 15 (G w) eM (by first|exact(ag _).drew|exact G.drew kg) ?_;intro em;refine eL 0 (v:= ?_) rfl eM (fun _ _ _ h=>h) rfl ?_ ‹_› ?_;rotate_left
 ·exact kQ
 try simp only[aput,List.set]
 refine eL 2 (v:= ?_) rfl eM (fun _ _ _ h=>h) rfl ?_ ‹_› ?_;rotate_left
 ·exact kQ
 try simp only[aput,List.set]
 refine eL 3 (v:= ?_) rfl eM (fun _ _ _ h=>h) rfl ?_ ‹_› ?_;rotate_left
 ·exact kQ
 try simp only[aput,List.set]
 refine eL 4 (v:= ?_) rfl eM (fun _ _ _ h=>h) rfl ?_ ‹_› ?_;rotate_left
 ·exact kQ
 try simp only[aput,List.set]
 refine eL 5 (v:= ?_) rfl eM (fun _ _ _ h=>h) rfl ?_ ‹_› ?_;rotate_left
 ·exact kQ
 try simp only[aput,List.set]
 refine eL 9 (v:= ?_) rfl eM (fun _ _ _ h=>h) rfl ?_ ‹_› ?_;rotate_left
 ·exact kQ
 try simp only[aput,List.set]
 refine eL 11 (v:= ?_) rfl eM (fun _ _ _ h=>h) rfl ?_ ‹_› ?_;rotate_left
 ·exact kQ
 try simp only[aput,List.set]
 refine eL 12 (v:= ?_) rfl eM (fun _ _ _ h=>h) rfl ?_ ‹_› ?_;rotate_left
 ·exact kQ
 try simp only[aput,List.set]
 refine eL 13 (v:= ?_) rfl eM (fun _ _ _ h=>h) rfl ?_ ‹_› ?_;rotate_left
 ·exact kQ
 try simp only[aput,List.set]
 show fD _ _ _ _ _ _ _ _ _ w.drew;have am:=em;generalize w.drew=w5 at *;clear em;apply share;intro bi;apply share;intro bs;apply share;intro bn;apply share;intro cy;apply share;intro cz;apply share;intro dk;refine kd (i:=1) (j:=6) (l:=8) eM rfl rfl rfl ?_ ?_ ?_
 ·skip
  intro K E;go_simp;refine E.out _ _ (Or.inr (am.alloc _)) ?_;clear E K;have Z:=eu am 43;have C:=(ag w5).alloc (.cells #[.bool false,.slice none 0 0] 43);have J:=aa am C;generalize w5.heap.size=I at *;generalize w5.alloc (.cells #[.bool false,.slice none 0 0] 43)=w6 at *;have ca:Hid (NI w w6 I 0):=Z;clear Z C;refine fX (i:=6) (j:=8) eM rfl rfl ?_ ?_
  ·skip
   intro K E;go_simp;go_wp2_with (go_at_call 55;refine eJ (j0 w6 b2 ya c bu (cm.out.G y J)) ?_;rintro e S ⟨rfl,W⟩);refine E.out _ _ (Or.inr (aa J W)) ?_;clear E K;have D:=aa J W;have N:Hid (NI w S I 0):=ca.out.G W;clear W J ca;refine eW (l':=#[true,true,true,true,true,true,true,false,false,true,false,true,true,true,false,false,false]) eM ?_;revert N;revert D;revert I;revert S;exact cz.out
  ·skip
   intro K E;go_simp;refine E.out _ _ (Or.inr (J.alloc _)) ?_;clear E K;have Z:=eu J 43;have C:=(ag w6).alloc (.cells #[.bool false,.slice none 0 0] 43);have D:=aa J C;have m:=ca.out.G C;have F:w6.heap.size≠I:=by have:=ca.out.2.1;omega
   generalize w6.heap.size=L at *;generalize w6.alloc (.cells #[.bool false,.slice none 0 0] 43)=S at *;have X:Hid (NI w S L 0):=Z;have N:Hid (NI w S I 0):=m;have B:Hid (I≠L):=F.symm;have A:Hid (L≠I):=F;clear Z C J ca m F;refine eW (l':=#[true,true,true,true,true,true,false,false,true,true,false,true,true,true,false,false,false]) eM ?_;revert B;revert A;revert X;revert N;revert D;revert L;revert I;revert S;exact cy.out
 ·skip
  intro K E;go_simp;go_wp2_with (go_at_call 55;refine eJ (j0 w5 b2 ya c bu (cm.out.G y am)) ?_;rintro e w6 ⟨rfl,W⟩);refine E.out _ _ (Or.inr (aa am W)) ?_;clear E K;have J:=aa am W;clear W;refine fX (i:=1) (j:=8) eM rfl rfl ?_ ?_
  ·skip
   intro K E;go_simp;refine E.out _ _ (Or.inr (J.alloc _)) ?_;clear E K;have Z:=eu J 43;have C:=(ag w6).alloc (.cells #[.bool false,.slice none 0 0] 43);have D:=aa J C;generalize w6.heap.size=I at *;generalize w6.alloc (.cells #[.bool false,.slice none 0 0] 43)=S at *;have N:Hid (NI w S I 0):=Z;clear Z C J;refine eW (l':=#[true,true,true,true,true,true,true,false,false,true,false,true,true,true,false,false,false]) eM ?_;revert N;revert D;revert I;revert S;exact cz.out
  ·skip
   intro K E;go_simp;refine E.out _ _ (Or.inr (J.alloc _)) ?_;clear E K;have Z:=eu J 43;have C:=(ag w6).alloc (.cells #[.bool false,.slice none 0 0] 43);have D:=aa J C;generalize w6.heap.size=L at *;generalize w6.alloc (.cells #[.bool false,.slice none 0 0] 43)=S at *;have X:Hid (NI w S L 0):=Z;clear Z C J;refine eW (l':=#[true,false,true,true,true,true,true,false,true,true,false,true,true,true,false,false,false]) eM ?_;revert X;revert D;revert L;revert S;exact dk.out
 ·skip
  intro K E;go_simp;refine E.out _ _ (Or.inr (am.alloc _)) ?_;clear E K;have Z:=eu am 43;have C:=(ag w5).alloc (.cells #[.bool false,.slice none 0 0] 43);have J:=aa am C;generalize w5.heap.size=L at *;generalize w5.alloc (.cells #[.bool false,.slice none 0 0] 43)=w6 at *;have cb:Hid (NI w w6 L 0):=Z;clear Z C;refine fX (i:=1) (j:=6) eM rfl rfl ?_ ?_
  ·skip
   intro K E;go_simp;refine E.out _ _ (Or.inr (J.alloc _)) ?_;clear E K;have Z:=eu J 43;have C:=(ag w6).alloc (.cells #[.bool false,.slice none 0 0] 43);have D:=aa J C;have cc:=cb.out.G C;have U:w6.heap.size≠L:=by have:=cb.out.2.1;omega
   generalize w6.heap.size=I at *;generalize w6.alloc (.cells #[.bool false,.slice none 0 0] 43)=S at *;have N:Hid (NI w S I 0):=Z;have X:Hid (NI w S L 0):=cc;have A:Hid (L≠I):=U.symm;have B:Hid (I≠L):=U;clear Z C J cb cc U;refine eW (l':=#[true,true,true,true,true,true,false,false,true,true,false,true,true,true,false,false,false]) eM ?_;revert B;revert A;revert X;revert N;revert D;revert L;revert I;revert S;exact cy.out
  ·skip
   intro K E;go_simp;go_wp2_with (go_at_call 55;refine eJ (j0 w6 b2 ya c bu (cm.out.G y J)) ?_;rintro e S ⟨rfl,W⟩);refine E.out _ _ (Or.inr (aa J W)) ?_;clear E K;have D:=aa J W;have X:Hid (NI w S L 0):=cb.out.G W;clear W J cb;refine eW (l':=#[true,false,true,true,true,true,true,false,true,true,false,true,true,true,false,false,false]) eM ?_;revert X;revert D;revert L;revert S;exact dk.out
 refine Later.mk ?_;intro S L D X;refine eN (i:=1) eM rfl ?_;intro K E;go_simp;refine E.out _ _ (Or.inr (D.alloc _)) ?_;clear E K;have Z:=eu D 43;have C:=(ag S).alloc (.cells #[.bool false,.slice none 0 0] 43);have M:=aa D C;have cc:=X.out.G C;have U:S.heap.size≠L:=by have:=X.out.2.1;omega
 generalize S.heap.size=I at *;generalize S.alloc (.cells #[.bool false,.slice none 0 0] 43)=w8 at *;have O:Hid (NI w w8 I 0):=Z;have ap:Hid (NI w w8 L 0):=cc;have A:Hid (L≠I):=U.symm;have B:Hid (I≠L):=U;clear Z C D X cc U;refine eW (l':=#[true,true,true,true,true,true,true,false,true,true,false,true,true,true,false,false,false]) eM ?_;revert B;revert A;revert ap;revert O;revert M;revert L;revert I;revert w8;exact bn.out;refine Later.mk ?_;intro S I D N;refine fX (i:=7) (j:=8) eM rfl rfl ?_ ?_
 ·skip
  intro K E;go_simp;have ao:=hi9 (gX S I 0 bx 0 b2 2 0 o c k eK cn.out cr.out N.out.2.1 (dp D bl) (dp D y) N.out.2.2 (cD ec.out bl D) (cD ee.out y D));go_wp2_with (go_at_call 54;refine eJ ao.out ?_;intro e w8 hx;obtain⟨rfl,M,hl,-,bq⟩:=cf D N.out hx);have O:Hid (NI w w8 I (o*(c:Int))):=hl;refine E.out _ _ (Or.inr M) ?_;clear E K hx hl bq ao D N;refine fX (i:=8) (j:=10) eM rfl rfl ?_ ?_
  ·skip
   intro K E;go_simp;refine E.out _ _ (Or.inr (M.alloc _)) ?_;clear E K;have Z:=eu M 43;have C:=(ag w8).alloc (.cells #[.bool false,.slice none 0 0] 43);have Y:=aa M C;have m:=O.out.G C;have F:w8.heap.size≠I:=by have:=O.out.2.1;omega
   generalize w8.heap.size=L at *;generalize w8.alloc (.cells #[.bool false,.slice none 0 0] 43)=w9 at *;have bv:Hid (NI w w9 L 0):=Z;have s:Hid (NI w w9 I (o*(c:Int))):=m;have B:Hid (I≠L):=F.symm;have A:Hid (L≠I):=F;clear Z C M O m F;refine eW (l':=#[true,true,true,true,true,true,true,true,true,true,false,true,true,true,false,false,false]) eM ?_;revert B;revert A;revert bv;revert s;revert Y;revert L;revert I;revert w9;exact bs.out
  ·skip
   intro K E;go_simp;go_wp2_with (go_at_call 55;refine eJ (j0 w8 bx o xb ce (ed.out.G bl M)) ?_;rintro e w9 ⟨rfl,W⟩);refine E.out _ _ (Or.inr (aa M W)) ?_;clear E K;have Y:=aa M W;have s:Hid (NI w w9 I (o*(c:Int))):=O.out.G W;clear W M O;refine eN (i:=8) eM rfl ?_;intro K E;go_simp;refine E.out _ _ (Or.inr (Y.alloc _)) ?_;clear E K;have Z:=eu Y 43;have C:=(ag w9).alloc (.cells #[.bool false,.slice none 0 0] 43);have R:=aa Y C;have m:=s.out.G C;have F:w9.heap.size≠I:=by have:=s.out.2.1;omega
   generalize w9.heap.size=L at *;generalize w9.alloc (.cells #[.bool false,.slice none 0 0] 43)=an at *;have d:Hid (NI w an L 0):=Z;have al:Hid (NI w an I (o*(c:Int))):=m;have B:Hid (I≠L):=F.symm;have A:Hid (L≠I):=F;clear Z C Y s m F;refine eW (l':=#[true,true,true,true,true,true,true,true,true,true,true,true,true,true,false,false,false]) eM ?_;revert B;revert A;revert d;revert al;revert R;revert L;revert I;revert an;exact bi.out
 ·skip
  intro K E;go_simp;refine E.out _ _ (Or.inr (D.alloc _)) ?_;clear E K;have Z:=eu D 43;have C:=(ag S).alloc (.cells #[.bool false,.slice none 0 0] 43);have M:=aa D C;have m:=N.out.G C;have F:S.heap.size≠I:=by have:=N.out.2.1;omega
  generalize S.heap.size=L at *;generalize S.alloc (.cells #[.bool false,.slice none 0 0] 43)=w8 at *;have ap:Hid (NI w w8 L 0):=Z;have O:Hid (NI w w8 I 0):=m;have B:Hid (I≠L):=F.symm;have A:Hid (L≠I):=F;clear Z C D N m F;refine eW (l':=#[true,true,true,true,true,true,true,false,true,true,false,true,true,true,false,false,false]) eM ?_;revert B;revert A;revert ap;revert O;revert M;revert L;revert I;revert w8;exact bn.out
 refine Later.mk ?_;intro S I L D N X A B;refine eN (i:=6) eM rfl ?_;intro K E;go_simp;go_wp2_with (go_at_call 55;refine eJ (j0 S b2 ya c bu (cm.out.G y D)) ?_;rintro e w8 ⟨rfl,W⟩);refine E.out _ _ (Or.inr (aa D W)) ?_;clear E K;have M:=aa D W;have O:Hid (NI w w8 I 0):=N.out.G W;have ap:Hid (NI w w8 L 0):=X.out.G W;clear W D N X;refine eW (l':=#[true,true,true,true,true,true,true,false,true,true,false,true,true,true,false,false,false]) eM ?_;revert B;revert A;revert ap;revert O;revert M;revert L;revert I;revert w8;exact bn.out;refine Later.mk ?_;intro w8 I L M O ap A B;refine eN (i:=7) eM rfl ?_;intro K E;go_simp;have ao:=hi9 (gX w8 I 0 bx 0 b2 2 0 o c k eK cn.out cr.out O.out.2.1 (dp M bl) (dp M y) O.out.2.2 (cD ec.out bl M) (cD ee.out y M));go_wp2_with (go_at_call 54;refine eJ ao.out ?_;intro e w9 hx;obtain⟨rfl,Y,hl,-,bq⟩:=cf M O.out hx);have s:Hid (NI w w9 I (o*(c:Int))):=hl;have bv:Hid (NI w w9 L 0):=bq L 0 A.out ap.out;refine E.out _ _ (Or.inr Y) ?_;clear E K hx hl bq ao M O ap;refine eW (l':=#[true,true,true,true,true,true,true,true,true,true,false,true,true,true,false,false,false]) eM ?_;revert B;revert A;revert bv;revert s;revert Y;revert L;revert I;revert w9;exact bs.out;refine Later.mk ?_;intro w9 I L Y s bv A B;refine eN (i:=10) eM rfl ?_;intro K E;go_simp;go_wp2_with (go_at_call 55;refine eJ (j0 w9 bx o xb ce (ed.out.G bl Y)) ?_;rintro e an ⟨rfl,W⟩);refine E.out _ _ (Or.inr (aa Y W)) ?_;clear E K;have R:=aa Y W;have al:Hid (NI w an I (o*(c:Int))):=s.out.G W
 have d:Hid (NI w an L 0):=bv.out.G W;clear W Y s bv;refine eW (l':=#[true,true,true,true,true,true,true,true,true,true,true,true,true,true,false,false,false]) eM ?_;revert B;revert A;revert d;revert al;revert R;revert L;revert I;revert an;exact bi.out;refine Later.mk ?_;intro an I L R al d A B;refine eN (i:=14) eM rfl ?_;intro K E;go_simp;have ao:=hi9 (gX an L 0 bx 2 b2 0 0 xb ya k eK ea.out ds.out d.out.2.1 (dp R bl) (dp R y) d.out.2.2 (cD fv.out bl R) (cD ga.out y R));go_wp2_with (go_at_call 54;refine eJ ao.out ?_;intro e dr hx;obtain⟨rfl,cd,hl,-,bq⟩:=cf R d.out hx);have cx:Hid (NI w dr L ((xb:Int)*ya)):=hl;have cs:Hid (NI w dr I (o*(c:Int))):=bq I (o*(c:Int)) B.out al.out;refine E.out _ _ (Or.inr cd) ?_;clear E K hx hl bq ao R al d;refine eN (i:=15) eM rfl ?_;intro K E;go_simp;have eb:=hi9 (iI dr bz I 0 L 0 (o*c) (xb*ya) (2*k) eK fs.out fp.out ep.out cs.out.2.1 cx.out.2.1 (gd.out.G cd) cs.out.2.2 cx.out.2.2);go_wp2_with (go_at_call 43;refine eJ eb.out ?_;intro e gk hx;obtain⟨rfl,k1,k2⟩:=NormTo.after cd hx);have fr:=hi9 k2;refine E.out _ _ (Or.inl ff) ?_;clear hx k2 E K eb;refine eN (i:=16) eM rfl ?_;intro K E;go_simp;refine E.out _ _ (Or.inl ff) ?_;clear E K;refine fh eM ?_ _;go_wp2_with fail;go_ret;exact⟨rfl,k1,fr.out⟩
end Go.Proofs.YtfnkkkcojnffdaaGreatDoor
namespace Go.Proofs.YtfnkkkcojnffdaaGreatDoor.EN
open Go.RowKit
/-- A finite float in units. -/
def fz (b:Nat):Int:=if FT.neg b then -(FT.v (FT.rung b):Int) else FT.v (FT.rung b)
/-- So many units. -/
def Uz (z:Int):Rat:=mkRat z (2^1074)
theorem q1g {b:Nat} (h:b<2^64):FT.wrd (FT.neg b) (FT.rung b)=b:=by
 unfold FT.wrd FT.neg FT.rung;by_cases h1:b/2^63%2=1
 ·simp only[h1,beq_self_eq_true,if_true];omega
 ·have A:b/2^63%2=0:=by omega
  simp only[A,show ((0:Nat)==1)=false from rfl,aB,if_false];omega
theorem rung_lt (b:Nat):FT.rung b<2^63:=aX _ (af _)
theorem rZ (b:Nat):fex b=FT.rung b/2^52:=by
 unfold fex FT.rung;omega
theorem pR (b:Nat):fex b<2047↔FT.rung b<2047*2^52:=by
 rw[rZ];have:=rung_lt b;omega
theorem q2q {b:Nat} (h:b<2^64) (A:fex b<2047):FQ b=Uz (fz b):=by
 have h1:=(fq_v (FT.neg b) ((pR b).1 A)).1;rw[q1g h] at h1;exact h1
/-- The place of a number's nearest float, and its word. -/
def rV (q:Rat):Nat:=rdV 1 (decide (q.num<0)) q.num.natAbs q.den
def nR (q:Rat):Nat:=FT.wrd (decide (q.num<0)) (rV q)
/-- What comes of a number whose floats are taken off, so many at most. -/
inductive Fr:Nat→Rat→List Nat→Bool→Prop where
 |zero (k:Nat):Fr k 0 [] true
 |most (v:Rat):Fr 0 v [] true
 |bad (k:Nat) (v:Rat) (h0:v≠0) (hq:QB v 80) (h:fex (nR v)=2047∨FQ (nR v)=0):Fr (k+1) v [] false
 |step (k:Nat) (v:Rat) (l:List Nat) (o:Bool) (h0:v≠0) (hq:QB v 80) (h1:fex (nR v)<2047) (h2:FQ (nR v)≠0) (h:Fr k (v-FQ (nR v)) l o):Fr (k+1) v (nR v::l) o
/-- Half of the gap above a float of this exponent. -/
def hv (e:Nat):Nat:=gV 11 52 1 (((e-1:Nat):Int)-1075)
/-- Each entry is no more than half of the gap above the one ahead. -/
def Steep:List Nat→Prop
 |a::b::l=>(2≤fex a∧FT.rung b≤hv (fex a))∧Steep (b::l)
 |_=>True
theorem Steep.at:∀ {l:List Nat},Steep l→∀ i,i+1<l.length→2≤fex (l.getD i 0)∧FT.rung (l.getD (i+1) 0)≤hv (fex (l.getD i 0))
 |[],_,i,hi=>by simp at hi
 |[_],_,i,hi=>by simp at hi
 |a::b::l,h,0,_=>h.1
 |a::b::l,h,i+1,hi=>by
  have:=Steep.at (l:=b::l) h.2 i (by simpa using hi);simpa using this
/-- A list tells so many units. -/
structure Tells (z:Int) (l:List Nat):Prop where
 sum:(l.map fz).sum=z
 fin:∀ b∈l,b<2^64∧fex b<2047
 steep:Steep l
 head:∀ a m,l=a::m→FT.rung a=rV (Uz z)∧z≠0
/-- The three floats whose sum is told. -/
def l3:List Nat:=[4607182418800017408,4861130398305394688,4307583784117748259]
end Go.Proofs.YtfnkkkcojnffdaaGreatDoor.EN
namespace Go.Proofs.YtfnkkkcojnffdaaGreatDoor.EN
open Go.ChangeShapes Go.WideShapes Go.ChangeAt Go.RowKit
/-- A slice of floats. -/
def FSl (w:World) (v:Value) (l:List Nat):Prop:=
 ∃ a c,v= .slice a l.length c∧l.length≤c∧∀ i,i<l.length→∃ b o,a=some ⟨b,o,none⟩∧b<w.heap.size∧w.cell? ⟨b,o+i,none⟩=some (.float .f64 (l.getD i 0))
theorem FSl.G {w A:World} {v:Value} {l:List Nat} (h:FSl w v l) (g:G w A):FSl A v l:=by
 obtain⟨a,c,e,C,h⟩:=h;refine⟨a,c,e,C,fun i hi=> ?_⟩;obtain⟨b,o,B,h1,h2⟩:=h i hi;exact⟨b,o,B,ae h1 g.size,g.cell (p:=⟨b,o+i,none⟩) h1 h2⟩
/-- A fraction that lies in three cells. -/
def QAt (w:World) (b o:Nat) (q:Rat):Prop:=∃ t a k c A B c',w.cell? ⟨b,o,none⟩=some (.bool t)∧w.cell? ⟨b,o+1,none⟩=some (.slice a k c)∧w.cell? ⟨b,o+2,none⟩=some (.slice A B c')∧QIs w (.agg #[.bool t,.slice a k c,.slice A B c']) q
theorem QAt.G {w A:World} {b o:Nat} {q:Rat} (h:QAt w b o q) (hb:b<w.heap.size) (g:G w A):QAt A b o q:=by
 obtain⟨t,a,k,c,B,D,c',h1,h2,h3,C⟩:=h;exact⟨t,a,k,c,B,D,c',g.cell (p:=⟨b,o,none⟩) hb h1,g.cell (p:=⟨b,o+1,none⟩) hb h2,g.cell (p:=⟨b,o+2,none⟩) hb h3,C.G g⟩
/-- A slice of fractions, told in units. -/
def NSl (w:World) (v:Value) (l:List Int):Prop:=
 ∃ a c,v= .slice a l.length c∧l.length≤c∧∀ i,i<l.length→∃ b o,a=some ⟨b,o,none⟩∧b<w.heap.size∧QAt w b (o+i*3) (Uz (l.getD i 0))
theorem NSl.G {w A:World} {v:Value} {l:List Int} (h:NSl w v l) (g:G w A):NSl A v l:=by
 obtain⟨a,c,e,C,h⟩:=h;refine⟨a,c,e,C,fun i hi=> ?_⟩;obtain⟨b,o,B,h1,h2⟩:=h i hi;exact⟨b,o,B,ae h1 g.size,h2.G h1 g⟩
/-- No word of 64 bits. -/
def noU (x:Value):Prop:=∀ m,x≠ .int .u64 m
theorem q0r {x:Value} (h:gW x):noU x:=fun m e=>by rw[e] at h;exact h
theorem lC {w:World} {v:Value} {n b:Nat} {l:List Value} (h:Num w v n) (r:Rec w b l) (M:∀ x∈l,noU x):∀ A:World,(∀ i k,i≠b→A.cell? ⟨i,k,none⟩=w.cell? ⟨i,k,none⟩)→w.heap.size≤A.heap.size→Num A v n:=by
 intro A L N;obtain⟨m,E,D,hv⟩:=h;refine⟨m,?_,D,hv⟩;rcases Sl.cases E with ⟨rfl,a,c,rfl⟩|⟨F,I,o,c,rfl,C,hb,K⟩
 ·exact⟨E.1,Or.inl ⟨rfl,a,c,rfl⟩⟩
 ·have B:I≠b:=by
   intro e;subst e;have J:=K 0 (bS.2 F);rw[r.cell] at J;exact M _ (cq J) _ rfl
  exact⟨E.1,Or.inr ⟨I,o,c,rfl,C,by omega,fun i hi=>by rw[L _ _ B];exact K i hi⟩⟩
/-- A fraction stands where a block without words is written. -/
theorem QIs.apart {w A:World} {v:Value} {q:Rat} {b:Nat} {l:List Value} (h:QIs w v q) (r:Rec w b l) (C:∀ x∈l,noU x)
  (B:∀ i k,i≠b→A.cell? ⟨i,k,none⟩=w.cell? ⟨i,k,none⟩) (D:w.heap.size≤A.heap.size):QIs A v q:=by
 obtain⟨a,k,c,E,F,c',e,h1,h2⟩:=h;exact⟨a,k,c,E,F,c',e,lC h1 r C A B D,lC h2 r C A B D⟩
/-- Block b is fractions, told in units, and may be written. -/
def NOwn (w:World) (b:Nat) (l:List Int):Prop:=
 ∃ L:List Value,Rec w b L∧L.length=3*l.length∧(∀ x∈L,gW x)∧
  ∀ i,i<l.length→∃ t a k c A B c',L[i*3]? =some (.bool t)∧L[i*3+1]? =some (.slice a k c)∧L[i*3+2]? =some (.slice A B c')∧QIs w (.agg #[.bool t,.slice a k c,.slice A B c']) (Uz (l.getD i 0))
theorem NOwn.G {w A:World} {b:Nat} {l:List Int} (h:NOwn w b l) (g:Go.Proofs.YtfnkkkcojnffdaaGreatDoor.G w A):NOwn A b l:=by
 obtain⟨L,h1,h2,h3,I⟩:=h;refine⟨L,h1.G g,h2,h3,fun i hi=> ?_⟩;obtain⟨t,a,k,c,B,J,c',C,D,E,F⟩:=I i hi;exact⟨t,a,k,c,B,J,c',C,D,E,F.G g⟩
theorem NOwn.free {w:World} {b:Nat} {l:List Int} (h:NOwn w b l) (i:Nat):w.frozen? ⟨b,i,none⟩=false:=by
 obtain⟨L,h1,-⟩:=h;exact h1.frozen i
theorem NOwn.lt {w:World} {b:Nat} {l:List Int} (h:NOwn w b l):b<w.heap.size:=by
 obtain⟨L,h1,-⟩:=h;exact h1.lt
theorem NOwn.cells {w:World} {b:Nat} {l:List Int} (h:NOwn w b l) {i:Nat} (hi:i<l.length):QAt w b (i*3) (Uz (l.getD i 0)):=by
 obtain⟨L,h1,h2,h3,F⟩:=h;obtain⟨t,a,k,c,A,I,c',B,C,D,E⟩:=F i hi;exact⟨t,a,k,c,A,I,c',by rw[h1.cell];exact B,by rw[h1.cell];exact C,by rw[h1.cell];exact D,E⟩
theorem NOwn.sl {w:World} {b:Nat} {l:List Int} (h:NOwn w b l) (c:Nat) (A:l.length≤c):NSl w (.slice (some ⟨b,0,none⟩) l.length c) l:=
 ⟨_,c,rfl,A,fun i hi=>⟨b,0,rfl,h.lt,by rw[aD];exact h.cells hi⟩⟩
theorem NOwn.set {w:World} {b:Nat} {l:List Int} (h:NOwn w b l) {i:Nat} (hi:i<l.length) {z:Int} {t:Bool} {a D:Option Addr} {k c F c':Nat} (S:QIs w (.agg #[.bool t,.slice a k c,.slice D F c']) (Uz z)):
  NOwn (((w.setCell ⟨b,i*3,none⟩ (.bool t)).setCell ⟨b,i*3+1,none⟩ (.slice a k c)).setCell ⟨b,i*3+2,none⟩ (.slice D F c')) b (l.set i z):=by
 obtain⟨L,h1,h2,h3,O⟩:=h;have E:∀ {v:Value} {q:Rat},QIs w v q→QIs (((w.setCell ⟨b,i*3,none⟩ (.bool t)).setCell ⟨b,i*3+1,none⟩ (.slice a k c)).setCell ⟨b,i*3+2,none⟩ (.slice D F c')) v q:=fun hv=>hv.apart h1 (fun x A=>q0r (h3 x A)) (fun j m C=>by
  rw[World.cell?_setCell_other _ _ _ _ (by intro e;injection e with B;exact C B.symm),World.cell?_setCell_other _ _ _ _ (by intro e;injection e with B;exact C B.symm),World.cell?_setCell_other _ _ _ _ (by intro e;injection e with B;exact C B.symm)]) (by simp [World.setCell])
 refine⟨((L.set (i*3) (.bool t)).set (i*3+1) (.slice a k c)).set (i*3+2) (.slice D F c'),((h1.set _ _).set _ _).set _ _,by simp only[ax];exact h2,?_,?_⟩
 ·intro x A;rcases dc A with A|rfl
  ·rcases dc A with A|rfl
   ·rcases dc A with A|rfl
    ·exact h3 x A
    ·trivial
   ·trivial
  ·trivial
 ·intro j C;rw[ax] at C;by_cases R:j=i
  ·subst R;refine⟨t,a,k,c,D,F,c',?_,?_,?_,?_⟩
   ·rw[aT eK,aT eK,List.getElem?_set_self eK]
   ·rw[aT eK,List.getElem?_set_self (by simp only[ax];omega)]
   ·rw[List.getElem?_set_self (by simp only[ax];omega)]
   ·have:(l.set j z).getD j 0=z:=by simp [List.getD_eq_getElem?_getD,C]
    rw[this];exact E S
  ·obtain⟨t1,I,U,c1,a2,W,J,B,K,M,N⟩:=O j C;refine⟨t1,I,U,c1,a2,W,J,?_,?_,?_,?_⟩
   ·rw[aT eK,aT eK,aT eK];exact B
   ·rw[aT eK,aT eK,aT eK];exact K
   ·rw[aT eK,aT eK,aT eK];exact M
   ·have:(l.set i z).getD j 0=l.getD j 0:=by simp only[ad];rw[aT eK]
    rw[this];exact E N
/-- Each float of a list is finite. -/
def Fin (l:List Nat):Prop:=∀ b∈l,fex b<2047
theorem mK {l:List Nat} (h:∀ i,i<l.length→fex (l.getD i 0)<2047):Fin l:=by
 intro b hb;obtain⟨i,hi,rfl⟩:=List.mem_iff_getElem.1 hb;have:=h i hi
 rwa[ad,aE hi] at this
/-- Floats as cells. -/
def fl (l:List Nat):List Value:=l.map fun b=> .float .f64 b
/-- A slice of floats whose block is our own (from block base on). -/
def FOwn (w:World) (B:Nat) (v:Value) (l:List Nat):Prop:=
 (v= .slice none 0 0∧l=[])∨∃ g cap A,v= .slice (some ⟨g,0,none⟩) l.length cap∧B≤g∧w.heap[g]? =some (.cells A 22 (0,0))∧l.length≤cap∧cap≤maxLen∧A.size=cap∧A.toList.take l.length=fl l∧∀ x∈A.toList,gW x
theorem heap_lt {w:World} {g:Nat} {o:Obj} (h:w.heap[g]? =some o):g<w.heap.size:=(bg.1 h).1
theorem FOwn.G {w C:World} {A:Nat} {v:Value} {l:List Nat} (h:FOwn w A v l) (g:Go.Proofs.YtfnkkkcojnffdaaGreatDoor.G w C):FOwn C A v l:=by
 rcases h with h|⟨b,cap,B,e,h1,h2,h3⟩
 ·exact Or.inl h
 ·refine Or.inr ⟨b,cap,B,e,h1,?_,h3⟩;obtain⟨-,-,-,-,g5⟩:=g;exact(g5 b (heap_lt h2)).trans h2
theorem FOwn.set {w:World} {A b i x n cap:Nat} {l:List Nat} (h:FOwn w A (.slice (some ⟨b,0,none⟩) n cap) l):FOwn (w.setCell ⟨b,i,none⟩ (.float .f64 x)) A (.slice (some ⟨b,0,none⟩) n cap) (l.set i x):=by
 rcases h with ⟨e,-⟩|⟨L,D,C,e,h1,h2,h3,I,J,h6,K⟩
 ·cases e
 ·injection e with B E F;injection B with B;injection B with B;subst B;subst F;refine Or.inr ⟨b,cap,C.setIfInBounds i (.float .f64 x),by rw[ax,E],h1,?_,by rw[ax];exact h3,I,by simpa using J,?_,?_⟩
  ·simp only[World.setCell,dC,if_true,h2,ct];simp
  ·rw[Array.toList_setIfInBounds,ax];rw[List.take_set,h6];unfold fl;rw[List.map_set]
  ·intro u hu;rw[Array.toList_setIfInBounds] at hu;rcases dc hu with hu|rfl
   ·exact K u hu
   ·trivial
theorem FOwn.own {w:World} {A:Nat} {v:Value} {l:List Nat} (h:FOwn w A v l) {b:Nat} (hb:b<A∨w.heap.size≤b):v.ownBlock≠some b:=by
 rcases h with ⟨rfl,-⟩|⟨g,cap,B,rfl,h1,h2,-⟩
 ·intro e;cases e
 ·intro e;have C:g=b:=bO e;have:=heap_lt h2;omega
theorem FOwn.oth {w C:World} {A:Nat} {v:Value} {l:List Nat} (h:FOwn w A v l) {b:Nat} (hb:v.ownBlock≠some b) (D:∀ k,k≠b→C.heap[k]? =w.heap[k]?):FOwn C A v l:=by
 rcases h with h|⟨g,cap,B,rfl,h1,h2,h3⟩
 ·exact Or.inl h
 ·exact Or.inr ⟨g,cap,B,rfl,h1,by rw[D g (by intro e;exact hb (by rw[← e];rfl))];exact h2,h3⟩
/-- What appending to a slice of our own leaves standing. -/
structure Onto (base:Nat) (v:Value) (w w':World):Prop where
 q:∀ (u:Value) (x:Rat),QIs w u x→QIs w' u x
 r:∀ (b:Nat) (L:List Value),Rec w b L→v.ownBlock≠some b→Rec w' b L
 g:∀ w0:World,w0.heap.size≤base→G w0 w→G w0 w'
/-- An append whose run is known. -/
theorem wpList_app {P:Program} (w:World) {ops:Array Oper} {rest:List Oper} {o:Oper} {a:Act} {Q:Exit→Act→World→Prop} (A:o.guard=none) (s x:Operand) (t:TypeId)
  (E:o.op= .call {callee:= .builtin .append,args:=#[s,x],argTypes:=#[t,t]}) (v sl:Value) (I:a.eval s=v) (J:a.eval x=sl) {B:Value} {C:World}
  (F:(Builtin.append_ #[t,t] o.type #[v,sl]).run P w= .ok B C) (h:wpList P ops Q rest (a.put o.dst B) C):wpList P ops Q (o::rest) a w:=
 wpList_plain A fun _ D=>by
  unfold Oper.wp execOp;simp only[E,resolve,invoke,builtin,Sem.run_bind,Sem.run_pure,Result.andThen_ok,List.map_toArray,dj,List.map_nil,I,J,F];exact D _ _ h
end Go.Proofs.YtfnkkkcojnffdaaGreatDoor.EN
namespace Go.Proofs.YtfnkkkcojnffdaaGreatDoor.EN
open Go.RowKit
/-- Two entries change places. -/
def swap (l:List Nat) (p q:Nat):List Nat:=(l.set p (l.getD q 0)).set q (l.getD p 0)
/-- 1 for what is no number or infinite. -/
def bad (b:Nat):Int:=if fex b<2047 then 0 else 1
end Go.Proofs.YtfnkkkcojnffdaaGreatDoor.EN
namespace Go.Proofs.YtfnkkkcojnffdaaGreatDoor
theorem Rec.new6 (w:World) (a b c d e f:Value) (t:TypeId):Rec (w.alloc (.cells #[a,b,c,d,e,f] t)) w.heap.size [a,b,c,d,e,f]:=Rec.new w [a,b,c,d,e,f] t
end Go.Proofs.YtfnkkkcojnffdaaGreatDoor
namespace Go.Proofs.YtfnkkkcojnffdaaGreatDoor.EN
open Go.ChangeShapes Go.WideShapes Go.ChangeAt Go.RowKit
/-- Six cells written. -/
def set6 (w:World) (b:Nat) (A B C D E F:Value):World:=(((((w.setCell ⟨b,0,none⟩ A).setCell ⟨b,1,none⟩ B).setCell ⟨b,2,none⟩ C).setCell ⟨b,3,none⟩ D).setCell ⟨b,4,none⟩ E).setCell ⟨b,5,none⟩ F
theorem q0R {w:World} {b:Nat} {v:Value} {q:Rat} {C D E F I J M N O R S U:Value} (h:QIs w v q) (r:Rec w b [C,D,E,F,I,J]) (L:∀ x∈[C,D,E,F,I,J],noU x):QIs (set6 w b M N O R S U) v q:=
 h.apart r L (fun i k hi=>by
  have A:∀ (B:World) (j:Nat) (x:Value),(B.setCell ⟨b,j,none⟩ x).cell? ⟨i,k,none⟩=B.cell? ⟨i,k,none⟩:=fun B j x=>World.cell?_setCell_other _ _ _ _ (by intro e;injection e with K;exact hi K.symm);unfold set6;rw[A,A,A,A,A,A]) (by simp [set6,World.setCell])
/-- A step's two parts. -/
def StepIs (w:World) (v:Value) (p q:Rat):Prop:=∃ t a k c A D c' t2 b j d B C d',v= .agg #[.bool t,.slice a k c,.slice A D c',.bool t2,.slice b j d,.slice B C d']∧QIs w (.agg #[.bool t,.slice a k c,.slice A D c']) p∧QIs w (.agg #[.bool t2,.slice b j d,.slice B C d']) q
theorem StepIs.G {w A:World} {v:Value} {p q:Rat} (h:StepIs w v p q) (g:Go.Proofs.YtfnkkkcojnffdaaGreatDoor.G w A):StepIs A v p q:=by
 obtain⟨t,a,k,c,B,E,c',t2,b,j,d,C,D,d',e,h1,h2⟩:=h;exact⟨t,a,k,c,B,E,c',t2,b,j,d,C,D,d',e,h1.G g,h2.G g⟩
/-- At block p lies the reference's ratio of a fraction. -/
def RIs (w:World) (p:Nat) (q:Rat):Prop:=RatIs w p q.num (q.den:Int)
theorem RIs.G {w A:World} {p:Nat} {q:Rat} (h:RIs w p q) (B:p<w.heap.size) (g:G w A):RIs A p q:=RatIs.G h B g
/-- A call hands back a new ratio. -/
def RetRat (w:World) (q:Rat) (e:Ending) (A:World):Prop:=∃ p,e= .returned (.pointer (some ⟨p,0,none⟩))∧G w A∧w.heap.size≤p∧p<A.heap.size∧RIs A p q
/-- A call sets a ratio. -/
def SetRat (w:World) (b:Nat) (q:Rat) (e:Ending) (A:World):Prop:=e= .returned (.pointer (some ⟨b,0,none⟩))∧GX b w A∧RIs A b q
theorem SetRat.ret {w0 w:World} {b:Nat} {q:Rat} {e:Ending} {A:World} (g:G w0 w) (hb:w0.heap.size≤b) (B:b<w.heap.size) (h:SetRat w b q e A):RetRat w0 q e A:=
 ⟨b,h.1,GX.fresh g h.2.1 hb,hb,ae B h.2.1.size,h.2.2⟩
theorem q3g (w:World) (b:Nat) (h:b<2^64) (A:fex b<2047):Calls Tryz.prog 37 #[.float .f64 b] w (RetRat w (Uz (fz b))):=by
 have D:FQ b=Uz (fz b):=q2q h A;obtain⟨B,C⟩:=iP (mL (fex b)) (q:=FQ b) rfl;refine(q3f w b (fex b) (b%2^52) (fmag b) h rfl rfl A rfl).mono ?_;rintro e J ⟨p,rfl,g,E,F,I⟩;refine⟨p,rfl,g,E,F,?_⟩;rw[← D];unfold RIs;rw[B,C];exact I
theorem qb32 {q:Rat} {K:Nat} (h:QB q K):q.num.natAbs<2^(32*(2*K))∧q.den<2^(32*(2*K)):=by
 have e:32*(2*K)=64*K:=by omega
 rw[e];exact h
theorem q3w (w:World) (A bx B:Nat) (J L:Int) (x y:Rat) (K:Nat) (Y:K≤40000) (F:QB x K) (I:QB y K)
  (E:A<w.heap.size) (C:bx<w.heap.size) (D:B<w.heap.size) (S:RatIs w A J L) (O:RIs w bx x) (R:RIs w B y):
  Calls Tryz.prog 16 #[.pointer (some ⟨A,0,none⟩),.pointer (some ⟨bx,0,none⟩),.pointer (some ⟨B,0,none⟩)] w (SetRat w A (x-y)):=by
 obtain⟨M,N⟩:=iP (bF x.den_pos y.den_pos) (q:=x-y) (Rat.sub_def' x y);refine(q3v w A bx B J L x.num y.num x.den y.den (2*K) eK (qb32 F).1 (qb32 I).1 (qb32 F).2 (qb32 I).2 x.den_pos y.den_pos E C D S O R).mono ?_;rintro e Z ⟨U,W,X⟩;refine⟨U,W,?_⟩;unfold RIs;rw[M,N];exact X
/-- The same, or a new ratio, which stands for 0. -/
def RV (w:World) (p:Nat) (q:Rat):Prop:=RIs w p q∨(q=0∧RatIs w p 0 0)
theorem RV.G {w B:World} {p:Nat} {q:Rat} (h:RV w p q) (A:p<w.heap.size) (g:G w B):RV B p q:=by
 rcases h with h|⟨h1,h⟩
 ·exact Or.inl (h.G A g)
 ·exact Or.inr ⟨h1,RatIs.G h A g⟩
theorem RV.v {w:World} {p:Nat} {q:Rat} (h:RV w p q):RatV w p q.num q.den:=by
 rcases h with h|⟨rfl,h⟩
 ·exact Or.inl h
 ·exact Or.inr ⟨rfl,rfl,h⟩
theorem q2G (w:World) (A bx B:Nat) (J L:Int) (x y:Rat) (K:Nat) (Y:K≤40000) (F:QB x K) (I:QB y K)
  (E:A<w.heap.size) (C:bx<w.heap.size) (D:B<w.heap.size) (S:RatIs w A J L) (O:RV w bx x) (R:RV w B y):
  Calls Tryz.prog 14 #[.pointer (some ⟨A,0,none⟩),.pointer (some ⟨bx,0,none⟩),.pointer (some ⟨B,0,none⟩)] w (SetRat w A (x+y)):=by
 obtain⟨M,N⟩:=iP (bF x.den_pos y.den_pos) (q:=x+y) (Rat.add_def' x y);refine(q2F w A bx B J L x.num y.num x.den y.den (2*K) eK (qb32 F).1 (qb32 I).1 (qb32 F).2 (qb32 I).2 x.den_pos y.den_pos E C D S O.v R.v).mono ?_;rintro e Z ⟨U,W,X⟩;refine⟨U,W,?_⟩;unfold RIs;rw[M,N];exact X
theorem q2H (w:World) (A bx B:Nat) (F I:Int) (x y:Rat) (K:Nat) (J:K≤40000) (O:QB x K) (R:QB y K)
  (E:A<w.heap.size) (C:bx<w.heap.size) (D:B<w.heap.size) (N:RatIs w A F I) (L:RIs w bx x) (M:RIs w B y):
  Calls Tryz.prog 14 #[.pointer (some ⟨A,0,none⟩),.pointer (some ⟨bx,0,none⟩),.pointer (some ⟨B,0,none⟩)] w (SetRat w A (x+y)):=
 q2G w A bx B F I x y K J O R E C D N (Or.inl L) (Or.inl M)
theorem q2W (w:World) (A bx B:Nat) (J L:Int) (x y:Rat) (K:Nat) (Y:K≤40000) (F:QB x K) (I:QB y K)
  (E:A<w.heap.size) (C:bx<w.heap.size) (D:B<w.heap.size) (S:RatIs w A J L) (O:RV w bx x) (R:RV w B y):
  Calls Tryz.prog 18 #[.pointer (some ⟨A,0,none⟩),.pointer (some ⟨bx,0,none⟩),.pointer (some ⟨B,0,none⟩)] w (SetRat w A (x*y)):=by
 obtain⟨M,N⟩:=iP (bF x.den_pos y.den_pos) (q:=x*y) (Rat.mul_def' x y);refine(q2V w A bx B J L x.num y.num x.den y.den (2*K) eK (qb32 F).1 (qb32 I).1 (qb32 F).2 (qb32 I).2 x.den_pos y.den_pos E C D S O.v R.v).mono ?_;rintro e Z ⟨U,W,X⟩;refine⟨U,W,?_⟩;unfold RIs;rw[M,N];exact X
theorem q0j (w:World) (A bx B:Nat) (F I:Int) (x y:Rat) (K:Nat) (J:K≤40000) (O:QB x K) (R:QB y K)
  (E:A<w.heap.size) (C:bx<w.heap.size) (D:B<w.heap.size) (N:RatIs w A F I) (L:RIs w bx x) (M:RIs w B y):
  Calls Tryz.prog 18 #[.pointer (some ⟨A,0,none⟩),.pointer (some ⟨bx,0,none⟩),.pointer (some ⟨B,0,none⟩)] w (SetRat w A (x*y)):=
 q2W w A bx B F I x y K J O R E C D N (Or.inl L) (Or.inl M)
theorem rL (w:World) (bx C:Nat) (x y:Rat) (K:Nat) (M:K≤40000) (F:QB x K) (I:QB y K)
  (D:bx<w.heap.size) (E:C<w.heap.size) (J:RV w bx x) (L:RV w C y):
  Calls Tryz.prog 24 #[.pointer (some ⟨bx,0,none⟩),.pointer (some ⟨C,0,none⟩)] w fun e B=>e= .returned (.int .i64 (x.num*y.den-y.num*x.den).sign)∧G w B:=by
 have A:∀ (e:Ending) (B:World),(e= .returned (.int .i64 (cmpI (x.num*(y.den:Int)) (y.num*(x.den:Int))))∧G w B)→(e= .returned (.int .i64 (x.num*y.den-y.num*x.den).sign)∧G w B):=by
  rintro e B ⟨rfl,g⟩;exact⟨by rw[mF],g⟩
 exact Calls.mono (P:=Tryz.prog) (q2I w bx C x.num y.num x.den y.den (2*K) eK (qb32 F).1 (qb32 I).1 (qb32 F).2 (qb32 I).2 x.den_pos y.den_pos D E J.v L.v) A
theorem kN (w:World) (b:Nat) (h:b<2^64):Calls Tryz.prog 36 #[.float .f64 b] w fun e A=>e= .returned (.bool (decide (fex b<2047)))∧G w A:=by
 have e:decide (fex b<2047)=decide (FT.rung b<FT.infR):=by
  have:=pR b;exact decide_eq_decide.2 this
 rw[e];exact sc b w h
theorem q1Z (x y:Rat):((x.num*y.den:Int):Rat)/((x.den*y.num:Int):Rat)=x/y:=by
 have h1:x=Rat.divInt x.num x.den:=(Rat.num_divInt_den x).symm;have h2:y=Rat.divInt y.num y.den:=(Rat.num_divInt_den y).symm;have h3:x/y=Rat.divInt x.num x.den*(Rat.divInt y.num y.den)⁻¹ :=by rw[← h1,← h2,Rat.div_def]
 rw[h3,Rat.inv_divInt,Rat.divInt_mul_divInt,Rat.divInt_eq_div]
/-- The reference's quotient of two ratios, to a new one. -/
theorem q3d (w:World) (A bx B:Nat) (x y:Rat) (K:Nat) (W:K≤40000) (F:QB x K) (I:QB y K) (J:y≠0)
  (_:A<w.heap.size) (C:bx<w.heap.size) (D:B<w.heap.size) (O:Rec w A [.bool false,.slice none 0 0,.bool false,.slice none 0 0]) (M:RIs w bx x) (N:RIs w B y):
  Calls Tryz.prog 31 #[.pointer (some ⟨A,0,none⟩),.pointer (some ⟨bx,0,none⟩),.pointer (some ⟨B,0,none⟩)] w (SetRat w A (x/y)):=by
 have L:y.num≠0:=fun h=>J (Rat.num_eq_zero.1 h);have E:=q3c w A bx B x.num y.num x.den y.den (2*K) eK (qb32 F).1 (qb32 I).1 (qb32 F).2 (qb32 I).2 x.den_pos y.den_pos L C D O M N;rw[q1Z] at E;refine Calls.mono (P:=Tryz.prog) E ?_;rintro e X ⟨R,S,U⟩;exact⟨R,S,U⟩
set_option maxRecDepth 10000 in
theorem q0P (w:World) (D bx:Nat) (x:Rat) (K:Nat) (hK:K≤40000) (J:QB x K) (C:bx<w.heap.size) (X:Rec w D [.bool false,.slice none 0 0,.bool false,.slice none 0 0]) (F:RIs w bx x):
  Calls Tryz.prog 65 #[.pointer (some ⟨D,0,none⟩),.pointer (some ⟨bx,0,none⟩)] w (SetRat w D x):=by
 have I:=x.den_pos;have M:Hid (∀ B,G w B→_):=fun B g=>j0 B bx x.num (x.den:Int) eK (RatIs.G F C g);have N:Hid (∀ B,G w B→Calls Tryz.prog 43 #[.pointer (some ⟨D,0,none⟩),.pointer (some ⟨bx,0,none⟩),.pointer (some ⟨bx,2,none⟩)] B (NormTo B D x.num x.den)):=fun B g=>by
  have h:=iI B D bx 0 bx 2 x.num (x.den:Int) (2*K) eK (qb32 J).1 (by rw[ar];exact(qb32 J).2) eK (dp g C) (dp g C) (aM X g) (RatIs.G F C g).1 (RatIs.G F C g).2;rw[show ((x.num:Rat)/(((x.den:Int):Int):Rat))=x from by rw[show ((((x.den:Nat):Int):Rat))=(x.den:Rat) from rfl,← Rat.mkRat_eq_div,dv]] at h;exact h
 have E:Hid (∀ B e L,G w B→NormTo B D x.num x.den e L→SetRat w D x e L):=fun B e L g ⟨h1,h2,h3⟩=>⟨h1,GX.trans (GX.of g) h2,h3⟩;generalize x.num=sa at *;generalize x.den=d at *;clear F X J I;go_enter Tryz.func65,Tryz.ntmps65;go_wp2_with fail;refine jy 6 2 [.is (.pointer (some ⟨D,0,none⟩)),.is (.pointer (some ⟨bx,0,none⟩)),.is (.pointer (some ⟨bx,0,none⟩)),.is (.pointer (some ⟨bx,0,none⟩)),.is (.pointer (some ⟨bx,0,none⟩)),.is (.pointer (some ⟨bx,2,none⟩))] [some 5,some 6,some 7,some 8,some 9,some 10] ?_;intro A O;simp only[fg,Act.put,aj,au,av] at O;subst O;refine⟨?_,?_⟩
 ·skip
  refine ab rfl ?a1 (ab rfl ?a6 (ab rfl ?a7 (ab rfl ?a8 (ab rfl ?o1_4 (ab rfl ?b0 (bQ))))))
  case a1|a6|a7|a8|o1_4=>
   exact iX
  ·intro W j hD K hK;have hc:=hi9 (M.out W j);exact rX
 intro B g1 i;clear i;refine wpAny_ready (rs:=[6]) eM fI ?_;refine AllReady.cons rfl (fun K hK=> ?_) AllReady.nil;go_simp;refine eJ (N.out B g1) ?_;intro e Y U;obtain⟨rfl,R,S⟩:=E.out B e Y g1 U;have Z:=hi9 R;have c:Hid (RIs Y D x):=S;clear R S U N E M;refine hK _ _ ?_;clear hK K;refine wpAny_ready (rs:=[7]) eM fI ?_;refine AllReady.cons rfl (fun K hK=> ?_) AllReady.nil;go_simp;refine hK _ _ ?_;clear hK K;refine wpAny_done eM ?_ _;go_wp2_with fail;go_ret;exact⟨rfl,Z.out,c.out⟩
/-- A fraction without its sign. -/
def absQ (x:Rat):Rat:=if x.num<0 then -x else x
theorem ld (x:Rat):(absQ x).num=(x.num.natAbs:Int)∧(absQ x).den=x.den:=by
 unfold absQ;split
 ·exact⟨by show -x.num=_;omega,rfl⟩
 ·exact⟨by omega,rfl⟩
set_option maxRecDepth 10000 in
theorem q3l (w:World) (B bx:Nat) (x y:Rat) (o:y= -x) (K:Nat) (O:K≤40000) (Y:QB x K) (J:bx<w.heap.size) (X:Rec w B [.bool false,.slice none 0 0,.bool false,.slice none 0 0]) (m:RIs w bx x):
  Calls Tryz.prog 20 #[.pointer (some ⟨B,0,none⟩),.pointer (some ⟨bx,0,none⟩)] w (SetRat w B y):=by
 have d:=hi9 (q0P w B bx x K O Y J X m);have F:y.num= -x.num∧y.den=x.den:=by subst o;exact⟨rfl,rfl⟩
 have i:Hid (y.den=x.den):=F.2;have c:Hid (∀ C,B<C.heap.size→IntIs C B 0 x.num→Calls Tryz.prog 66 #[.pointer (some ⟨B,0,none⟩),.pointer (some ⟨B,0,none⟩)] C (SetTo C B 0 y.num)):=fun C hb hi=>by
  rw[F.1];exact kz C B 0 B 0 x.num x.num (2*K) eK (qb32 Y).1 hb hb hi hi
 clear o F Y J m;go_enter Tryz.func20,Tryz.ntmps20;go_wp2_with fail;refine eJ d.out ?_;intro e Z N;obtain⟨rfl,W,R⟩:=N;have D:B<Z.heap.size:=ae X.lt W.size;have I:Hid (∀ C,G Z C→_):=fun C g=>c.out C (dp g D) (cD R.1 D g);have E:Hid (∀ C e S,G Z C→SetTo C B 0 y.num e S→GX B w S∧RIs S B y):=fun C e S g h=>by
  have k:=SetTo.keep (cD R.1 D g) h (cD R.2 D g) (dp g D) (Or.inr (Or.inr (az 2)));exact⟨GX.trans W (GX.trans (GX.of g) h.2.1),h.2.2.2,by rw[i.out];exact k⟩
 clear X W R D d c i;go_wp2_with fail;refine jy 6 1 [.is (.pointer (some ⟨B,0,none⟩)),.is (.pointer (some ⟨B,0,none⟩)),.is (.pointer (some ⟨B,0,none⟩)),.is (.pointer (some ⟨B,0,none⟩)),.is (.pointer (some ⟨B,0,none⟩)),.is (.pointer (some ⟨B,0,none⟩))] [some 8,some 9,some 10,some 11,some 12,some 13] ?_;intro A j;simp only[fg,Act.put,aj,au,av] at j;subst j;refine⟨?_,?_⟩
 ·skip
  refine ab rfl ?a1 (ab rfl ?a6 (ab rfl ?a7 (ab rfl ?a8 (ab rfl ?b0 (ab rfl ?o2_5 (bQ))))))
  case a1|a6|a7|a8|b0|o2_5=>
   exact iX
 intro s g3 hH;clear hH;refine wpAny_ready (rs:=[6]) eM fI ?_;refine AllReady.cons rfl (fun K O=> ?_) AllReady.nil;go_simp;refine eJ (I.out s g3) ?_;intro e w4 N;have U:=N.1;subst U;obtain⟨L,M⟩:=E.out s _ w4 g3 N;have HG:=hi9 L;have HR:Hid (RIs w4 B y):=M;clear L M N E I;refine O _ _ ?_;clear O K;refine wpAny_done eM ?_ _;go_wp2_with fail;go_ret;exact⟨rfl,HG.out,HR.out⟩
set_option maxRecDepth 10000 in
theorem q3e (w:World) (B bx:Nat) (x y:Rat) (o:y=absQ x) (K:Nat) (O:K≤40000) (Y:QB x K) (J:bx<w.heap.size) (X:Rec w B [.bool false,.slice none 0 0,.bool false,.slice none 0 0]) (m:RIs w bx x):
  Calls Tryz.prog 34 #[.pointer (some ⟨B,0,none⟩),.pointer (some ⟨bx,0,none⟩)] w (SetRat w B y):=by
 have d:=hi9 (q0P w B bx x K O Y J X m);have F:y.num=(x.num.natAbs:Int)∧y.den=x.den:=by subst o;exact ld x
 have i:Hid (y.den=x.den):=F.2;have c:Hid (∀ C,B<C.heap.size→IntIs C B 0 x.num→Calls Tryz.prog 79 #[.pointer (some ⟨B,0,none⟩),.pointer (some ⟨B,0,none⟩)] C (SetTo C B 0 y.num)):=fun C hb hi=>by
  rw[F.1];exact q2E C B 0 B 0 x.num x.num (2*K) eK (qb32 Y).1 hb hi hi
 clear o F Y J m;go_enter Tryz.func34,Tryz.ntmps34;go_wp2_with fail;refine eJ d.out ?_;intro e Z N;obtain⟨rfl,W,R⟩:=N;have D:B<Z.heap.size:=ae X.lt W.size;have I:Hid (∀ C,G Z C→_):=fun C g=>c.out C (dp g D) (cD R.1 D g);have E:Hid (∀ C e S,G Z C→SetTo C B 0 y.num e S→GX B w S∧RIs S B y):=fun C e S g h=>by
  have k:=SetTo.keep (cD R.1 D g) h (cD R.2 D g) (dp g D) (Or.inr (Or.inr (az 2)));exact⟨GX.trans W (GX.trans (GX.of g) h.2.1),h.2.2.2,by rw[i.out];exact k⟩
 clear X W R D d c i;go_wp2_with fail;refine jy 6 1 [.is (.pointer (some ⟨B,0,none⟩)),.is (.pointer (some ⟨B,0,none⟩)),.is (.pointer (some ⟨B,0,none⟩)),.is (.pointer (some ⟨B,0,none⟩)),.is (.pointer (some ⟨B,0,none⟩)),.is (.pointer (some ⟨B,0,none⟩))] [some 8,some 9,some 10,some 11,some 12,some 13] ?_;intro A j;simp only[fg,Act.put,aj,au,av] at j;subst j;refine⟨?_,?_⟩
 ·skip
  refine ab rfl ?a1 (ab rfl ?a6 (ab rfl ?a7 (ab rfl ?a8 (ab rfl ?b0 (ab rfl ?o3_5 (bQ))))))
  case a1|a6|a7|a8|b0|o3_5=>
   exact iX
 intro s g3 hH;clear hH;refine wpAny_ready (rs:=[6]) eM fI ?_;refine AllReady.cons rfl (fun K O=> ?_) AllReady.nil;go_simp;refine eJ (I.out s g3) ?_;intro e w4 N;have U:=N.1;subst U;obtain⟨L,M⟩:=E.out s _ w4 g3 N;have HG:=hi9 L;have HR:Hid (RIs w4 B y):=M;clear L M N E I;refine O _ _ ?_;clear O K;refine wpAny_done eM ?_ _;go_wp2_with fail;go_ret;exact⟨rfl,HG.out,HR.out⟩
/-- A number's float in a mode. -/
def flW (m:Int) (q:Rat):Nat:=if q=0 then 0 else FT.wrd (decide (q.num<0)) (rdV m (decide (q.num<0)) q.num.natAbs q.den)
/-- A call hands back a sum's float, or what is at fault. -/
def ry (w:World) (l:List Nat) (m:Int) (e:Ending) (A:World):Prop:=∃ (b:Nat) (c a:Int),e= .returned (.tuple #[.float .f64 b,.agg #[.int .i64 c,.int .i64 a]])∧G w A∧
 ((Fin l∧b=flW m (Uz (l.map fz).sum)∧c=0∧a=0)∨(∃ i:Nat,b=0∧c=4∧a=i∧i<l.length∧fex (l.getD i 0)=2047∧∀ j,j<i→fex (l.getD j 0)<2047))
/-- A store of a float. -/
theorem iK (P:Program) (w:World) (a:Addr) (m:Mode) (k:FloatKind) (n:Nat):(store a (.float k n) m).run P w=stored P w a (.float k n) m:=run_store P w a _ m rfl
attribute [local go_sem] iK
end Go.Proofs.YtfnkkkcojnffdaaGreatDoor.EN
namespace Go.Proofs.YtfnkkkcojnffdaaGreatDoor.EN
open Go.ChangeShapes Go.WideShapes Go.ChangeAt Go.RowKit
attribute [local go_sem] iK
/-- A slice of points. -/
def PSl (w:World) (v:Value) (l:List (Nat×Nat)):Prop:=
 ∃ a c,v= .slice a l.length c∧l.length≤c∧∀ i,i<l.length→∃ b o,a=some ⟨b,o,none⟩∧b<w.heap.size∧w.cell? ⟨b,o+i*2,none⟩=some (.float .f64 (l.getD i (0,0)).1)∧w.cell? ⟨b,o+i*2+1,none⟩=some (.float .f64 (l.getD i (0,0)).2)
theorem PSl.G {w A:World} {v:Value} {l:List (Nat×Nat)} (h:PSl w v l) (g:G w A):PSl A v l:=by
 obtain⟨a,c,e,C,h⟩:=h;refine⟨a,c,e,C,fun i hi=> ?_⟩;obtain⟨b,o,B,h1,h2,h3⟩:=h i hi;exact⟨b,o,B,ae h1 g.size,g.cell (p:=⟨b,o+i*2,none⟩) h1 h2,g.cell (p:=⟨b,o+i*2+1,none⟩) h1 h3⟩
end Go.Proofs.YtfnkkkcojnffdaaGreatDoor.EN
namespace Go.Proofs.YtfnkkkcojnffdaaGreatDoor.EN
open Go.ChangeShapes Go.WideShapes Go.ChangeAt Go.RowKit
theorem StepIs.set6 {w:World} {b:Nat} {v:Value} {p q:Rat} {J K L M N O:Value} (h:StepIs w v p q) (r:Rec w b [.bool false,.slice none 0 0,.slice none 0 0,.bool false,.slice none 0 0,.slice none 0 0]):StepIs (set6 w b J K L M N O) v p q:=by
 have A:∀ x∈[Value.bool false,.slice none 0 0,.slice none 0 0,.bool false,.slice none 0 0,.slice none 0 0],noU x:=by
  intro x E m e;subst e;simp at E
 obtain⟨t,a,k,c,B,I,c',t2,C,j,d,D,F,d',e,h1,h2⟩:=h;exact⟨t,a,k,c,B,I,c',t2,C,j,d,D,F,d',e,q0R h1 r A,q0R h2 r A⟩
/-- A step that lies in a block of its own. -/
def StepAt (w:World) (b:Nat) (p q:Rat):Prop:=∃ t a k c A E c' t2 C j d B D d',Rec w b [.bool t,.slice a k c,.slice A E c',.bool t2,.slice C j d,.slice B D d']∧StepIs w (.agg #[.bool t,.slice a k c,.slice A E c',.bool t2,.slice C j d,.slice B D d']) p q
theorem StepAt.G {w A:World} {b:Nat} {p q:Rat} (h:StepAt w b p q) (g:Go.Proofs.YtfnkkkcojnffdaaGreatDoor.G w A):StepAt A b p q:=by
 obtain⟨t,a,k,c,B,F,c',t2,D,j,d,C,E,d',h1,h2⟩:=h;exact⟨t,a,k,c,B,F,c',t2,D,j,d,C,E,d',aM h1 g,h2.G g⟩
end Go.Proofs.YtfnkkkcojnffdaaGreatDoor.EN
namespace Go.Proofs.YtfnkkkcojnffdaaGreatDoor
end Go.Proofs.YtfnkkkcojnffdaaGreatDoor
namespace Go.Proofs.YtfnkkkcojnffdaaGreatDoor.EN
open Go.ChangeShapes Go.WideShapes Go.ChangeAt Go.RowKit
theorem q0Q {w:World} {b c:Nat} {l:List Value} {B C D E F I:Value} (h:Rec w b l) (A:c≠b):Rec (set6 w c B C D E F I) b l:=
 Rec.oth (Rec.oth (Rec.oth (Rec.oth (Rec.oth (Rec.oth h _ A) _ A) _ A) _ A) _ A) _ A
theorem StepAt.set6 {w:World} {b c:Nat} {p q:Rat} {J K L M N O:Value} (h:StepAt w b p q) (r:Rec w c [.bool false,.slice none 0 0,.slice none 0 0,.bool false,.slice none 0 0,.slice none 0 0]) (A:c≠b):StepAt (EN.set6 w c J K L M N O) b p q:=by
 obtain⟨t,a,k,c',B,I,E,t2,D,j,d,C,F,d',h1,h2⟩:=h;exact⟨t,a,k,c',B,I,E,t2,D,j,d,C,F,d',q0Q h1 A,h2.set6 r⟩
end Go.Proofs.YtfnkkkcojnffdaaGreatDoor.EN
