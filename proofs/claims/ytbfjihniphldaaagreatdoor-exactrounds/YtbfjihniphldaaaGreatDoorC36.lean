/- What is proved here: how a fraction is cut to a float, its arithmetic (no program).
What is proved here: contracts of package exact: quotient, over this seat's translation.
What is proved here: contracts of package exact: rounding, over this seat's translation.
What is proved here: contracts of package exact: Float, over this seat's translation.
What is proved here: contracts of package exact: Of, over this seat's translation.
What is proved here: the closed fact on one third, over this seat's translation.
What is proved here: the float at or below a ratio, by its size; floats around a ratio, over this seat's translation.
What is proved here: the four floats around a ratio: what the law asks of them, over this seat's translation.
What is proved here: lowest terms and bounds of fractions (no program), over this seat's translation.
What is proved here: contracts of the reference's ratios: SetFrac of a new ratio, whatever sign the lower part has, over this seat's translation.
What is proved here: the law's own fraction of two whole numbers, over this seat's translation.
What is proved here: contracts of the reference's ratios: Quo of Rat (to a new one, by one of any sign but 0), over this seat's translation.
What is proved here: sums of floats in units of 2 to the power of -1074; how near the nearest float is, over this seat's translation (no program).
What is proved here: the list of a sum: what is taken off it, float by float (no program), over this seat's translation.
What is proved here: the reference's nearest float is package exact's (no program), over this seat's translation.
What is proved here: the numbers of the closed fact on sums told by several floats (no program), over this seat's translation.
What is proved here: slices of floats and of fractions in memory, over this seat's translation (no program).
What is proved here: contracts of package expan: read, over this seat's translation.
What is proved here: a slice of floats of our own that grows, over this seat's translation (no program).
What is proved here: sums of lists in which entries change places; bounds of sums (no program), over this seat's translation.
What is proved here: contracts of package geom: steps from point to point, over this seat's translation.
What is proved here: the reference's ratios told by core's fractions: a float's, sums, differences, products, over this seat's translation.
What is proved here: the reference's ratios told by core's fractions, new ones too: products, Cmp, over this seat's translation.
What is proved here: contracts of the reference: F, CheckList, over this seat's translation.
What is proved here: contracts of the reference: add, over this seat's translation.
What is proved here: contracts of package expan: Sum, Cmp, over this seat's translation.
What is proved here: contracts of package expan: the pair of a number, over this seat's translation.
What is proved here: contracts of package geom: finite, unfit, Turn, over this seat's translation.
What is proved here: contracts of package geom: norm, Circle, over this seat's translation.
What is proved here: the closed fact on sums told by several floats, over this seat's translation. -/
import Derived.Test.YtbfjihniphldaaaGreatDoorC20
import Derived.Test.YtbfjihniphldaaaGreatDoorC35
import Derived.Test.YtbfjihniphldaaaGreatDoorC14
import Derived.Test.YtbfjihniphldaaaGreatDoorC21
import Derived.Test.YtbfjihniphldaaaGreatDoorC11
import Derived.Test.YtbfjihniphldaaaGreatDoorC11
import Derived.Test.YtbfjihniphldaaaGreatDoorC30
import Derived.Test.YtbfjihniphldaaaGreatDoorC29
import Derived.Test.YtbfjihniphldaaaGreatDoorC7
import Derived.Test.YtbfjihniphldaaaGreatDoorC32
import Derived.Test.YtbfjihniphldaaaGreatDoorC27
import Derived.Test.YtbfjihniphldaaaGreatDoorC2
import Derived.Laws.IdiomCopy
namespace Go.Proofs.YtbfjihniphldaaaGreatDoor.EN
open Go.RowKit
/-- What is left behind a step: nothing, less than half of it, half, more. -/
def q27 (R D:Nat):Nat:=if R=0 then 0 else if 2*R<D then 1 else if 2*R=D then 2 else 3
/-- The float at or below A / B (its place among the floats from 0 on), and what is left. -/
def tV (A B:Nat):Nat:=if 971<q0D A B then 2047*2^52-1 else (q0D A B+1074).toNat*2^52+upP A (q0D A B)/loP B (q0D A B)
def lV (A B:Nat):Nat:=if 971<q0D A B then 3 else q27 (upP A (q0D A B)%loP B (q0D A B)) (loP B (q0D A B))
theorem q3q {N D N' D':Nat} (hD:0<D) (hD':0<D') (h:N*D'=N'*D):N/D=N'/D':=by
 rw[← Nat.mul_div_mul_right N D hD',h,Nat.mul_comm D D',Nat.mul_div_mul_right _ _ hD]
theorem q3n {N D N' D':Nat} (hD:0<D) (hD':0<D') (h:N*D'=N'*D):q27 (N%D) D=q27 (N'%D') D':=by
 have hq:=q3q hD hD' h;have e1:=Nat.div_add_mod N D;have e2:=Nat.div_add_mod N' D';rw[← hq] at e2;have key:N%D*D'=N'%D'*D:=by
  have h1:(D*(N/D)+N%D)*D'=(D'*(N/D)+N'%D')*D:=by rw[e1,e2];exact h
  rw[Nat.add_mul,Nat.add_mul,show D*(N/D)*D'=D'*(N/D)*D from by ac_rfl] at h1;exact Nat.add_left_cancel h1
 generalize N%D=R at *;generalize N'%D'=R' at *;have k0:R=0↔R'=0:=by
  constructor
  ·rintro rfl;rw[Nat.zero_mul] at key;exact(Nat.mul_eq_zero.1 key.symm).resolve_right (by omega)
  ·rintro rfl;rw[Nat.zero_mul] at key;exact(Nat.mul_eq_zero.1 key).resolve_right (by omega)
 have k1:2*R<D↔2*R'<D':=by
  have a1:2*R*D'=2*R'*D:=by rw[Nat.mul_assoc,key,Nat.mul_assoc]
  constructor
  ·intro h;have h2:2*R*D'<D*D':=Nat.mul_lt_mul_of_pos_right h hD';rw[a1,Nat.mul_comm D D'] at h2;exact Nat.lt_of_mul_lt_mul_right h2
  ·intro h;have h2:2*R'*D<D'*D:=Nat.mul_lt_mul_of_pos_right h hD;rw[← a1,Nat.mul_comm D' D] at h2;exact Nat.lt_of_mul_lt_mul_right h2
 have k2:2*R=D↔2*R'=D':=by
  have a1:2*R*D'=2*R'*D:=by rw[Nat.mul_assoc,key,Nat.mul_assoc]
  constructor
  ·intro h;rw[h,Nat.mul_comm D D'] at a1;exact(Nat.eq_of_mul_eq_mul_right hD a1).symm
  ·intro h;rw[h,Nat.mul_comm D' D] at a1;exact Nat.eq_of_mul_eq_mul_right hD' a1
 unfold q27;simp only[k0,k1,k2]
theorem q3e (X D n:Nat) (hD:0<D) (hn:1≤n):q27 (X%(D*2^n)) (D*2^n)=
  if X/D%2^n=0∧X%D=0 then 0 else if X/D%2^n<2^(n-1) then 1 else if X/D%2^n=2^(n-1)∧X%D=0 then 2 else 3:=by
 rw[Nat.mod_mul];have hR:=Nat.mod_lt X hD;generalize X%D=R at *;generalize X/D%2^n=b at *;have e:2^n=2*2^(n-1):=by
  obtain⟨k,rfl⟩:∃ k,n=k+1:=⟨n-1,by omega⟩;simp [Nat.pow_succ,Nat.mul_comm]
 rw[e];generalize 2^(n-1)=m at *;unfold q27;have e1:D*(2*m)=2*(D*m):=by ac_rfl
 rw[e1];have h0:R+D*b=0↔b=0∧R=0:=by
  constructor
  ·intro h;have h1:D*b=0:=by omega
   exact⟨(Nat.mul_eq_zero.1 h1).resolve_left (by omega),by omega⟩
  ·rintro⟨rfl,rfl⟩;simp
 have h1:2*(R+D*b)<2*(D*m)↔b<m:=by
  constructor
  ·intro h;have h2:D*b<D*m:=by omega
   exact Nat.lt_of_mul_lt_mul_left h2
  ·intro h;have h2:D*(b+1)≤D*m:=Nat.mul_le_mul_left _ h;rw[Nat.mul_add,Nat.mul_one] at h2;omega
 have h2:2*(R+D*b)=2*(D*m)↔b=m∧R=0:=by
  constructor
  ·intro h;have h3:R+D*b=D*m:=by omega
   have h4:b=m:=by
    rcases Nat.lt_trichotomy b m with h5|h5|h5
    ·have:D*(b+1)≤D*m:=Nat.mul_le_mul_left _ h5;rw[Nat.mul_add,Nat.mul_one] at this;omega
    ·exact h5
    ·have:D*(m+1)≤D*b:=Nat.mul_le_mul_left _ h5;rw[Nat.mul_add,Nat.mul_one] at this;omega
   subst h4;exact⟨rfl,by omega⟩
  ·rintro⟨rfl,rfl⟩;omega
 simp only[h0,h1,h2]
theorem q5S (a:Nat):EN.blen a=Go.Proofs.YtbfjihniphldaaaGreatDoor.blen a:=rfl
theorem q1k {a:Nat} (h:a≠0):2^(EN.blen a-1)≤a∧a<2^EN.blen a∧1≤EN.blen a:=by
 unfold EN.blen;rw[if_neg h];exact⟨Nat.log2_self_le h,Nat.lt_log2_self,by omega⟩
/-- The front of A / B: its first 62 or 63 digits in twos. -/
theorem q31 {A B:Nat} {e:Int} (hA:A≠0) (hB:B≠0) (he:e=(EN.blen A:Int)-EN.blen B-62):
  2^61≤upP A e/loP B e∧upP A e/loP B e<2^63∧expo A B=e+EN.blen (upP A e/loP B e)-1:=by
 obtain⟨a1,a2,a3⟩:=q1k hA;obtain⟨b1,b2,b3⟩:=q1k hB;have hD:0<loP B e:=by unfold loP;exact Nat.mul_pos (by omega) (Nat.two_pow_pos _)
 obtain⟨K,hK⟩:∃ K:Nat,-(K:Int)≤e∧ -(K:Int)≤expo A B∧EN.blen B+200≤K:=⟨(-e).toNat+(-(expo A B)).toNat+EN.blen B+200,by omega,by omega,by omega⟩;obtain⟨hK1,hK2,hK3⟩:=hK;have g1:2^61*B*2^e.toNat≤A*2^(-e).toNat:=by
  rw[q2c K hK1];have h1:2^61*B*2^((K:Int)+e).toNat≤2^61*2^EN.blen B*2^((K:Int)+e).toNat:=Nat.mul_le_mul_right _ (Nat.mul_le_mul_left _ (by omega));have h2:2^(EN.blen A-1)*2^K≤A*2^K:=Nat.mul_le_mul_right _ a1;rw[← Nat.pow_add,← Nat.pow_add,show 61+EN.blen B+((K:Int)+e).toNat=EN.blen A-1+K from by omega,Nat.pow_add] at h1;omega
 have g2:A*2^(-e).toNat<2^63*B*2^e.toNat:=by
  rw[q2d K hK1];have h1:2^63*2^(EN.blen B-1)*2^((K:Int)+e).toNat≤2^63*B*2^((K:Int)+e).toNat:=Nat.mul_le_mul_right _ (Nat.mul_le_mul_left _ b1);have h2:A*2^K<2^EN.blen A*2^K:=Nat.mul_lt_mul_of_pos_right a2 (Nat.two_pow_pos _);rw[← Nat.pow_add,← Nat.pow_add,show 63+(EN.blen B-1)+((K:Int)+e).toNat=EN.blen A+K from by omega,Nat.pow_add] at h1;omega
 have q1:2^61≤upP A e/loP B e:=(Nat.le_div_iff_mul_le hD).2 (by unfold upP loP;rw[← Nat.mul_assoc];exact g1);have q2:upP A e/loP B e<2^63:=(Nat.div_lt_iff_lt_mul hD).2 (by unfold upP loP;rw[← Nat.mul_assoc];exact g2);refine⟨q1,q2,?_⟩;have hq0:upP A e/loP B e≠0:=by omega
 obtain⟨l1,l2,l3⟩:=q1k hq0;have f1:2^(EN.blen (upP A e/loP B e)-1)*loP B e≤upP A e:=(Nat.le_div_iff_mul_le hD).1 l1;have f2:upP A e<2^EN.blen (upP A e/loP B e)*loP B e:=(Nat.div_lt_iff_lt_mul hD).1 l2;generalize EN.blen (upP A e/loP B e)=L at *;unfold upP loP at f1 f2;rw[← Nat.mul_assoc,q2c K hK1] at f1;rw[← Nat.mul_assoc,q2d K hK1] at f2;have x1:=q23 hA hB K hK2;have x2:=q3d hA hB K hK2;have y1:B*2^((K:Int)+expo A B).toNat<B*2^(L+((K:Int)+e).toNat):=by
  rw[Nat.pow_add,← Nat.mul_assoc,Nat.mul_comm B (2^L)];omega
 have y2:B*2^(L-1+((K:Int)+e).toNat)<B*2^((K:Int)+(expo A B+1)).toNat:=by
  rw[Nat.pow_add,← Nat.mul_assoc,Nat.mul_comm B (2^(L-1))];omega
 have z1:=q0O (Nat.lt_of_mul_lt_mul_left y1);have z2:=q0O (Nat.lt_of_mul_lt_mul_left y2);omega
/-- Steps of 2^P, and steps of 2^e that are parted: P = e + n. -/
theorem q4N {A B n:Nat} {e P:Int} (h:P=e+n):upP A P*(loP B e*2^n)=upP A e*loP B P:=by
 unfold upP loP;have e1:2^(-P).toNat*(2^e.toNat*2^n)=2^(-e).toNat*2^P.toNat:=by
  rw[← Nat.pow_add,← Nat.pow_add,← Nat.pow_add];congr 1;omega
 have e2:A*2^(-P).toNat*(B*2^e.toNat*2^n)=A*B*(2^(-P).toNat*(2^e.toNat*2^n)):=by ac_rfl
 have e3:A*2^(-e).toNat*(B*2^P.toNat)=A*B*(2^(-e).toNat*2^P.toNat):=by ac_rfl
 rw[e2,e3,e1]
end Go.Proofs.YtbfjihniphldaaaGreatDoor.EN
namespace Go.Proofs.YtbfjihniphldaaaGreatDoor.EN
open Go.ChangeShapes Go.WideShapes Go.ChangeAt Go.RowKit
def q0c (A B:Nat):Int:=(EN.blen A:Int)-EN.blen B-62
theorem q1H {a K:Nat} (h:a<2^(64*K)):EN.blen a≤64*K:=by
 unfold EN.blen;split
 ·omega
 ·have:=(Nat.log2_lt (by omega)).2 h;omega
set_option maxRecDepth 10000 in
theorem q6X (w:World) (va vb:Value) (A B K:Nat) (hK:K≤15000) (hK1:1≤K) (ha:Num w va A) (hb:Num w vb B) (ha2:A<2^(64*K)) (hb2:B<2^(64*K)) (hA:A≠0) (hB:B≠0):
  Calls Tryz.prog 60 #[va,vb] w fun r w'=>r= .returned (.agg #[.int .u64 ((upP A (q0c A B)/loP B (q0c A B):Nat):Int),.int .i64 (q0c A B),.bool (decide (0<upP A (q0c A B)%loP B (q0c A B)))])∧G w w':=by
 obtain⟨q1,q2,-⟩:=q31 hA hB (e:=q0c A B) rfl;have lA:=q1H ha2;have lB:=q1H hb2;have mr:Hid (∀ w1,G w w1→_):=fun w1 g=>q2C w1 va A K (by omega) (ha.G g) ha2;have jT:Hid (∀ w1,G w w1→_):=fun w1 g=>q2C w1 vb B K (by omega) (hb.G g) hb2;have he:q0c A B=(EN.blen A:Int)-EN.blen B-62:=rfl;have lY:Hid (∀ w1,G w w1→Calls Tryz.prog 136 #[va,.int .i64 (-(q0c A B))] w1 (q0e w1 (upP A (q0c A B)))):=fun w1 g=>q1S w1 va A K (-(q0c A B)) (by omega) (by omega) (by omega) (ha.G g) ha2;have iQ:Hid (∀ w1,G w w1→Calls Tryz.prog 136 #[vb,.int .i64 (q0c A B)] w1 (q0e w1 (loP B (q0c A B)))):=fun w1 g=>q1S w1 vb B K (q0c A B) (by omega) (by omega) (by omega) (hb.G g) hb2;have hX:upP A (q0c A B)<2^(64*(2*K+1)):=by
  unfold upP;have h1:2^(-(q0c A B)).toNat≤2^(64*K+62):=Nat.pow_le_pow_right (by omega) (by omega);have h2:A*2^(-(q0c A B)).toNat<2^(64*K)*2^(64*K+62):=Nat.lt_of_lt_of_le (Nat.mul_lt_mul_of_pos_right ha2 (Nat.two_pow_pos _)) (Nat.mul_le_mul_left _ h1);rw[← Nat.pow_add] at h2;exact Nat.lt_of_lt_of_le h2 (Nat.pow_le_pow_right (by omega) (by omega))
 have hD:loP B (q0c A B)<2^(64*(2*K+1)):=by
  unfold loP;have h1:2^(q0c A B).toNat≤2^(64*K+62):=Nat.pow_le_pow_right (by omega) (by omega);have h2:B*2^(q0c A B).toNat<2^(64*K)*2^(64*K+62):=Nat.lt_of_lt_of_le (Nat.mul_lt_mul_of_pos_right hb2 (Nat.two_pow_pos _)) (Nat.mul_le_mul_left _ h1);rw[← Nat.pow_add] at h2;exact Nat.lt_of_lt_of_le h2 (Nat.pow_le_pow_right (by omega) (by omega))
 have hD0:0<loP B (q0c A B):=by unfold loP;exact Nat.mul_pos (by omega) (Nat.two_pow_pos _)
 have Rl: -10000000≤q0c A B:=by omega
 have Rm:q0c A B≤10000000:=by omega
 have he2:(EN.blen A:Int)-EN.blen B-62=q0c A B:=rfl;generalize q0c A B=e at *;generalize upP A e=X at *;generalize loP B e=D at *;have qz:Hid (∀ w1 v1 v2,Num w1 v1 X→Num w1 v2 D→_):=fun w1 v1 v2 h1 h2=>q2y w1 v1 v2 X D (2*K+1) (by omega) (by omega) h1 h2 hX hD hD0;generalize X/D=Q at *;generalize X%D=R at *;generalize EN.blen A=bA at *;generalize EN.blen B=bB at *;have Rn:Q<18446744073709551616:=by omega
 have gY:Q≠0:=by omega
 have lA2:(bA:Int)≤960000:=by omega
 have lB2:(bB:Int)≤960000:=by omega
 obtain⟨tl,htl⟩:∃ tl,tl=decide (0<R):=⟨_,rfl⟩;rw[← htl];have Gb:Hid (tl=decide (0<R)):=htl;clear htl;clear hX hD hD0 q1 q2 ha hb ha2 hb2 hA hB lA lB he;go_enter Tryz.func60,Tryz.ntmps60;go_wp2_with fail;obtain⟨w0,aK,g0,hz0,R0⟩:=q0y w [.int .u64 0,.int .i64 0,.bool false] 146;rw[aK];clear aK;refine q00 (mr.out w0 g0) ?_;rintro e1 w1 ⟨rfl,g1⟩;go_wp2_with fail;refine q00 (jT.out w1 (G.trans g0 g1)) ?_;rintro e1 w2 ⟨rfl,g2⟩;have g12:=G.trans g1 g2;go_wp2_with fail;refine q00 (lY.out w2 (G.trans g0 g12)) ?_;intro e1 w3 hs;obtain⟨v1,rfl,g3,hv1⟩:=hs;have oK:Hid (Num w3 v1 X):=hv1;have g13:=G.trans g12 g3;clear mr jT lY hv1 g1 g2 g12;go_wp2_with fail;refine q00 (iQ.out w3 (G.trans g0 g13)) ?_;intro e1 w4 hs;obtain⟨v2,rfl,g4,hv2⟩:=hs;have HD4:Hid _:=qz.out w4 v1 v2 (oK.out.G g4) hv2;have g14:=G.trans g13 g4;clear iQ qz oK hv2 g3 g13 g4;go_wp2_with fail;refine q00 HD4.out ?_;intro e1 w5 hs;obtain⟨v3,v4,rfl,g5,hv3,hv4⟩:=hs;have g15:=G.trans g14 g5;clear HD4 g14 g5;rcases q0S hv3 with ⟨h,-⟩|⟨-,-,nb,no,nc,rfl,hnc,hnb,hcell⟩|⟨h,-⟩
 ·exact absurd h gY
 ·obtain⟨pr,kr,cr,rfl,-,hk,-⟩:=q1F hv4;clear hv3 hv4;rw[← Gb.out] at hk;obtain⟨bM,bN,bO,bP,bQ,bR⟩:=Rec.f3 (Rec.G R0.out (g15));go_wp2_with fail;have hT:Hid (Rec (World.setCell (World.setCell (World.setCell w5 ⟨w.heap.size,0,none⟩ (.int .u64 (Q:Int))) ⟨w.heap.size,1,none⟩ (.int .i64 e)) ⟨w.heap.size,2,none⟩ (.bool tl)) (w.heap.size) [.int .u64 (Q:Int),.int .i64 e,.bool tl]):=Rec.set3 (Rec.G R0.out (g15));have g9:=Rec.g3 (b:=w.heap.size) (u:= .int .u64 (Q:Int)) (v:= .int .i64 e) (x:= .bool tl) (G.trans g0 g15) (by omega);generalize (World.setCell (World.setCell (World.setCell w5 ⟨w.heap.size,0,none⟩ (.int .u64 (Q:Int))) ⟨w.heap.size,1,none⟩ (.int .i64 e)) ⟨w.heap.size,2,none⟩ (.bool tl))=w9 at *;obtain⟨dS,dU,dV,dW,iq,iw⟩:=Rec.f3 (Rec.G hT.out ((G.refl _)));refine bodyPost_ret (v:= .agg #[.int .u64 (Q:Int),.int .i64 e,.bool tl]) (by simp [results,Tryz.results60,go_sem, *]) rfl ?_;exact⟨rfl,g9⟩
 ·omega
/-- What a fraction above 0 comes to: steps, their place, what is left. -/
theorem qbu (w:World) (A B:Nat) (hA:A≠0) (hB:B≠0) (U8:EN.blen A≤960000) (U9:EN.blen B≤960000):
  ∃ st:Nat,∃ P:Int,st<2^53∧ -1074≤P∧P≤971∧(P= -1074∨2^52≤st)∧tV A B=(P+1074).toNat*2^52+st∧lV A B<4∧
  Calls Tryz.prog 134 #[.agg #[.int .u64 ((upP A (q0c A B)/loP B (q0c A B):Nat):Int),.int .i64 (q0c A B),.bool (decide (0<upP A (q0c A B)%loP B (q0c A B)))]] w fun r w'=>r= .returned (.tuple #[.int .u64 (st:Int),.int .i64 P,.int .i64 ((lV A B:Nat):Int)])∧G w w':=by
 obtain⟨q1,q2,q3⟩:=q31 hA hB (e:=q0c A B) rfl;have he:q0c A B=(EN.blen A:Int)-EN.blen B-62:=rfl;have hcr:∀ n:Nat,∀ P:Int,P=q0c A B+n→upP A P*(loP B (q0c A B)*2^n)=upP A (q0c A B)*loP B P:=fun n P h=>q4N h;have hD0:0<loP B (q0c A B):=by unfold loP;exact Nat.mul_pos (by omega) (Nat.two_pow_pos _)
 have Db:∀ P:Int,0<loP B P:=fun P=>by unfold loP;exact Nat.mul_pos (by omega) (Nat.two_pow_pos _)
 have gY:upP A (q0c A B)/loP B (q0c A B)≠0:=by omega
 obtain⟨l1,l2,l3⟩:=q1k gY;have hL:EN.blen (upP A (q0c A B)/loP B (q0c A B))≤63:=by
  have:2^(EN.blen (upP A (q0c A B)/loP B (q0c A B))-1)<2^63:=Nat.lt_of_le_of_lt l1 q2;have:=q0O this;omega
 have hL2:62≤EN.blen (upP A (q0c A B)/loP B (q0c A B)):=by
  have:2^61<2^EN.blen (upP A (q0c A B)/loP B (q0c A B)):=Nat.lt_of_le_of_lt q1 l2;have:=q0O this;omega
 have hlp:q0D A B=max (q0c A B+EN.blen (upP A (q0c A B)/loP B (q0c A B))-53) (-1074):=by
  unfold q0D;rw[q3];omega
 obtain⟨P,hP⟩:∃ P,P=q0D A B:=⟨_,rfl⟩;have hT:tV A B=if 971<P then 2047*2^52-1 else (P+1074).toNat*2^52+upP A P/loP B P:=by unfold tV;rw[hP]
 have hV:lV A B=if 971<P then 3 else q27 (upP A P%loP B P) (loP B P):=by unfold lV;rw[hP]
 rw[← hP] at hlp;have nV:=Db P;clear Db;by_cases hf:971<P
 ·rw[if_pos hf] at hT hV;refine⟨9007199254740991,971,by omega,by omega,by omega,Or.inr (by omega),by rw[hT];rfl,by omega,?_⟩;rw[hV];exact q52 w _ (q0c A B) P _ gY q2 (by omega) (by omega) hlp hf
 ·rw[if_neg hf] at hT hV;obtain⟨n,hn⟩:∃ n:Nat,P=q0c A B+n∧9≤n:=⟨(P-q0c A B).toNat,by omega,by omega⟩;obtain⟨hn,aL⟩:=hn;have hc:=hcr n P hn;have hd2:0<loP B (q0c A B)*2^n:=Nat.mul_pos hD0 (Nat.two_pow_pos n);have e1:upP A P/loP B P=upP A (q0c A B)/loP B (q0c A B)/2^n:=by
   rw[q3q nV hd2 hc,Nat.div_div_eq_div_mul]
  have e2:q27 (upP A P%loP B P) (loP B P)=lv (upP A (q0c A B)/loP B (q0c A B)%2^n) (2^(n-1)) (decide (0<upP A (q0c A B)%loP B (q0c A B))):=by
   rw[q3n nV hd2 hc,q3e _ _ n hD0 (by omega)];unfold lv;have e3:(decide (0<upP A (q0c A B)%loP B (q0c A B))=false)=(upP A (q0c A B)%loP B (q0c A B)=0):=by
    apply propext;rw[decide_eq_false_iff_not];omega
   simp only[e3]
  rw[e1] at hT;rw[e2] at hV;clear e1 e2 hc hcr hd2 hD0 nV q3;generalize decide (0<upP A (q0c A B)%loP B (q0c A B))=tl at *;generalize upP A (q0c A B)/loP B (q0c A B)=Q at *;generalize q0c A B=e at *;have hlv:∀ b m:Nat,lv b m tl<4:=fun b m=>by unfold lv;split;omega;split;omega;split<;>omega
  by_cases hnb:63<P-e
  ·have hp:2^63≤2^(n-1):=q0Q (by omega);have hp2:2^n=2*2^(n-1):=by
    obtain⟨k,rfl⟩:∃ k,n=k+1:=⟨n-1,by omega⟩;simp [Nat.pow_succ,Nat.mul_comm]
   have e4:Q/2^n=0:=Nat.div_eq_of_lt (by omega);have e5:Q%2^n=Q:=Nat.mod_eq_of_lt (by omega);have e6:lV A B=1:=by
    rw[hV,e5];unfold lv;rw[if_neg (by omega),if_pos (by omega)]
   have zi:P= -1074:=by omega
   refine⟨0,P,by omega,by omega,by omega,Or.inl zi,by rw[hT,e4],by omega,?_⟩;rw[e6];exact q4K w Q e P tl gY q2 (by omega) (by omega) hlp (by omega) hnb
  ·obtain⟨k,hk⟩:∃ k,n=k+1:=⟨n-1,by omega⟩;have hst:Q/2^n<2^53:=by
    rw[Nat.div_lt_iff_lt_mul (Nat.two_pow_pos n),← Nat.pow_add];exact Nat.lt_of_lt_of_le l2 (q0Q (by omega))
   refine⟨Q/2^n,P,hst,by omega,by omega,?_,hT,by rw[hV];exact hlv _ _,?_⟩
   ·by_cases zi:P= -1074
    ·exact Or.inl zi
    ·right;rw[Nat.le_div_iff_mul_le (Nat.two_pow_pos n),← Nat.pow_add];exact Nat.le_trans (q0Q (by omega)) l1
   ·rw[hV,hk];exact q3Q w Q k e P tl gY q2 (by omega) (by omega) hlp (by omega) (by omega) (by omega)
attribute [local go_sem] q0P
/-- Whether a number between two floats goes on to the one that is farther from 0. -/
def onw (m:Int) (neg odd:Bool) (l:Nat):Bool:=if m=1 then l==3||(l==2&&odd) else if m=2 then neg else if m=3 then !neg else false
def qa4 (m:Int) (neg:Bool) (w:World) (e:Ending) (w':World):Prop:=∃ (F:Nat) (kz:Array Value),e= .returned (.func (.func F) #[] kz)∧G w w'∧
 (∀ w2,G w' w2→∀ (odd:Bool) (l:Nat),l<4→Calls Tryz.prog F (#[.bool odd,.int .i64 (l:Int)]++kz) w2 fun e w3=>e= .returned (.bool (onw m neg odd l))∧G w2 w3)∧
 (∀ args w2,(callFunc F args).run Tryz.prog w2= .ok (.enter F args) w2)
theorem q8u (w:World) (odd:Bool) (l:Nat) (hl:l<4):Calls Tryz.prog 193 #[.bool odd,.int .i64 (l:Int)] w fun e w3=>e= .returned (.bool (l==3||(l==2&&odd)))∧G w w3:=by
 have h:l=0∨l=1∨l=2∨l=3:=by omega
 rcases h with rfl|rfl|rfl|rfl<;>cases odd
 all_goals
  go_enter Tryz.func193,Tryz.ntmps193;go_wp2_with fail;go_ret;exact⟨rfl,G.refl _⟩
theorem q8y (w:World) (b l:Nat) (neg odd:Bool) (hr:w.cell? ⟨b,0,none⟩=some (.bool neg)):Calls Tryz.prog 194 #[.bool odd,.int .i64 (l:Int),.pointer (some ⟨b,0,none⟩)] w fun e w3=>e= .returned (.bool neg)∧G w w3:=by
 go_enter Tryz.func194,Tryz.ntmps194;go_wp2_with fail;go_ret;exact⟨rfl,G.refl _⟩
theorem qbv (w:World) (b l:Nat) (neg odd:Bool) (hr:w.cell? ⟨b,0,none⟩=some (.bool neg)):Calls Tryz.prog 195 #[.bool odd,.int .i64 (l:Int),.pointer (some ⟨b,0,none⟩)] w fun e w3=>e= .returned (.bool (!neg))∧G w w3:=by
 go_enter Tryz.func195,Tryz.ntmps195;go_wp2_with fail;go_ret;exact⟨rfl,G.refl _⟩
theorem qbl (w:World) (l:Nat) (odd:Bool):Calls Tryz.prog 196 #[.bool odd,.int .i64 (l:Int)] w fun e w3=>e= .returned (.bool false)∧G w w3:=by
 go_enter Tryz.func196,Tryz.ntmps196;go_wp2_with fail;go_ret;exact⟨rfl,G.refl _⟩
theorem q9I (w:World) (m:Int) (neg:Bool) (hm:m=1∨m=2∨m=3∨m=4):
  Calls Tryz.prog 133 #[.int .i64 m,.bool neg] w (qa4 m neg w):=by
 rcases hm with rfl|rfl|rfl|rfl
 ·go_enter Tryz.func133,Tryz.ntmps133;go_wp2_with fail;go_ret;exact⟨193,#[],rfl,(G.refl _).alloc _,fun w2 _ odd l hl=>q8u w2 odd l hl,fun _ _=>by kernel_rfl⟩
 ·go_enter Tryz.func133,Tryz.ntmps133;go_wp2_with fail;go_ret;have hc:(w.alloc (.cells #[.bool neg] 4)).cell? ⟨w.heap.size,0,none⟩=some (.bool neg):=by simp [go_sem]
  exact⟨194,#[.pointer (some ⟨w.heap.size,0,none⟩)],rfl,(G.refl _).alloc _,fun w2 g odd l hl=>q8y w2 w.heap.size l neg odd (g.cell (p:=⟨w.heap.size,0,none⟩) (by simp) hc),fun _ _=>by kernel_rfl⟩
 ·go_enter Tryz.func133,Tryz.ntmps133;go_wp2_with fail;go_ret;have hc:(w.alloc (.cells #[.bool neg] 4)).cell? ⟨w.heap.size,0,none⟩=some (.bool neg):=by simp [go_sem]
  exact⟨195,#[.pointer (some ⟨w.heap.size,0,none⟩)],rfl,(G.refl _).alloc _,fun w2 g odd l hl=>qbv w2 w.heap.size l neg odd (g.cell (p:=⟨w.heap.size,0,none⟩) (by simp) hc),fun _ _=>by kernel_rfl⟩
 ·go_enter Tryz.func133,Tryz.ntmps133;go_wp2_with fail;go_ret;exact⟨196,#[],rfl,(G.refl _).alloc _,fun w2 _ odd l hl=>qbl w2 l odd,fun _ _=>by kernel_rfl⟩
theorem q5G (w:World) (m:Int) (neg:Bool) (hm:m<1∨4<m):
  Calls Tryz.prog 133 #[.int .i64 m,.bool neg] w fun e w'=>e= .returned .nilFunc∧G w w':=by
 have t1:(m==1)=false:=by simp;omega
 have t2:(m==2)=false:=by simp;omega
 have t3:(m==3)=false:=by simp;omega
 have t4:(m==4)=false:=by simp;omega
 clear hm;go_enter Tryz.func133,Tryz.ntmps133;go_wp2_with fail;go_ret;exact⟨rfl,(G.refl _).alloc _⟩
theorem q6f (F:Nat) (kz:Array Value) (w:World):(binOp BinOp.eql 142 (.func (.func F) #[] kz) .nilFunc).run Tryz.prog w= .ok (.bool false) w:=by kernel_rfl
/-- The float that so many steps at a place make. -/
theorem q6K {v:Nat} {P:Int} (hv:v≤2^53) (hP: -1074≤P) (hP2:P≤971) (h:P= -1074∨2^52≤v):q17 11 52 v P=(P+1074).toNat*2^52+v:=by
 have hb:(P+1074).toNat≤2045:=by omega
 rcases Nat.lt_or_eq_of_le hv with h1|h1
 ·rw[q2F h1 hP h,Nat.min_eq_left];omega
 ·subst h1;have e1:=q7k (A:=2^53*2^P.toNat) (B:=2^(-P).toNat) (mag:=2^53) (e:=P) (Nat.mul_ne_zero (by omega) (by have:=Nat.two_pow_pos P.toNat;omega)) (by have:=Nat.two_pow_pos (-P).toNat;omega) (by omega) (by omega) (by ac_rfl);have e2:=q7k (A:=2^53*2^P.toNat) (B:=2^(-P).toNat) (mag:=2^52) (e:=P+1) (Nat.mul_ne_zero (by omega) (by have:=Nat.two_pow_pos P.toNat;omega)) (by have:=Nat.two_pow_pos (-P).toNat;omega) (by omega) (by omega) (by
   have:53+P.toNat+(-(P+1)).toNat=52+(-P).toNat+(P+1).toNat:=by omega
   rw[← Nat.pow_add,← Nat.pow_add,← Nat.pow_add,← Nat.pow_add,this])
  rw[e1,← e2,q2F (by omega) (by omega) (Or.inr (Nat.le_refl _))];rw[show (P+1+1074).toNat=(P+1074).toNat+1 from by omega];generalize (P+1074).toNat=k at *;rw[Nat.min_eq_left]
  ·omega
  ·omega
set_option maxRecDepth 10000 in
set_option maxHeartbeats 1000000 in
theorem q5c (w:World) (v:Value) (x:Rat) (m:Int) (FR:Nat) (fv:Value) (st:Nat) (P:Int) (l:Nat) (hm:m=1∨m=2∨m=3∨m=4) (hx:QIs w v x) (h0:x≠0)
  (hst:st<2^53) (hP1: -1074≤P) (hP2:P≤971) (hP3:P= -1074∨2^52≤st) (hl:l<4)
  (HQ:∀ w1 v1 v2,G w w1→Num w1 v1 x.num.natAbs→Num w1 v2 x.den→Calls Tryz.prog FR #[v1,v2] w1 fun e w2=>e= .returned fv∧G w1 w2)
  (HE:∀ args w,(callFunc FR args).run Tryz.prog w= .ok (.enter FR args) w)
  (HC:∀ w1,Calls Tryz.prog 134 #[fv] w1 fun r w'=>r= .returned (.tuple #[.int .u64 (st:Int),.int .i64 P,.int .i64 (l:Int)])∧G w1 w'):
  Calls Tryz.prog 59 #[v,.int .i64 m,.func (.func FR) #[] #[]] w fun r w'=>r= .returned (.tuple #[.float .f64 (FT.wrd (decide (x.num<0)) ((P+1074).toNat*2^52+st+if l≠0∧onw m (decide (x.num<0)) (st%2==1) l=true then 1 else 0)),.int .i64 0])∧G w w':=by
 have gN:Hid (∀ w1,G w w1→_):=fun w1 g=>q2o w1 v x (hx.G g);have HB:Hid (∀ w1,G w w1→_):=fun w1 g=>q6L w1 v x (hx.G g);have hz:(x.num.sign==0)=false:=by rw[q1T,decide_eq_false h0]
 obtain⟨a,k,c,a',k',c',rfl,hx1,hx2⟩:=hx;obtain⟨s,hs⟩:∃ s,s=decide (x.num<0):=⟨_,rfl⟩;rw[← hs];rw[← hs] at gN HB;have HR:Hid (∀ w1,_):=fun w1=>q9I w1 m s hm;obtain⟨u,hu⟩:∃ u:Nat,u=if l≠0∧onw m s (st%2==1) l=true then 1 else 0:=⟨_,rfl⟩;rw[← hu];have hu1:u≤1:=by rw[hu];split<;>omega
 have hfin:q17 11 52 (st+u) P=(P+1074).toNat*2^52+st+u:=by
  rw[q6K (by omega) hP1 hP2 (by omega)];omega
 have qF:Hid (∀ w1,Calls Tryz.prog 135 #[.int .i64 ((st+u:Nat):Int),.int .i64 P] w1 fun r w'=>r= .returned (.float .f64 ((P+1074).toNat*2^52+st+u))∧G w1 w'):=fun w1=>by
  have h:=qb5 ((st+u:Nat):Int) P w1 (by omega) (by omega) (by omega) (by omega);rw[if_neg (by omega),Int.natAbs_natCast,show q2A P=P from by unfold q2A;omega,hfin] at h;exact h
 have Jo:(P+1074).toNat*2^52+st+u<2^63:=by
  have:(P+1074).toNat≤2045:=by omega
  omega
 have hw0:FT.wrd false ((P+1074).toNat*2^52+st+u)=(P+1074).toNat*2^52+st+u:=rfl;obtain⟨fl,hfl⟩:∃ fl,fl=(P+1074).toNat*2^52+st+u:=⟨_,rfl⟩;rw[← hfl] at qF Jo hw0 ⊢;clear hfin hfl;have sj:=q2m fl (by clear hu;omega);have vE:negV fl=FT.wrd true fl:=by
  have h1:FT.neg fl=false:=by unfold FT.neg;simp;clear hu;omega
  unfold negV;rw[if_neg (by rw[h1];simp)];rfl
 rw[vE] at sj;clear vE;obtain⟨fn,hfn⟩:∃ fn,fn=FT.wrd true fl:=⟨_,rfl⟩;rw[← hfn] at sj;have Jp:Hid (Op.negFloat .f64 fl=fn):=sj;have gJ:Hid (Ending.returned (.tuple #[.float .f64 fn,.int .i64 0])= .returned (.tuple #[.float .f64 (FT.wrd true fl),.int .i64 0])):=by show Ending.returned (.tuple #[.float .f64 fn,.int .i64 0])= .returned (.tuple #[.float .f64 (FT.wrd true fl),.int .i64 0]);rw[hfn]
 have Jq:Hid (∀ w1 v1 v2,G w w1→Num w1 v1 x.num.natAbs→Num w1 v2 x.den→_):=HQ;have lY:Hid (∀ w1,_):=HC;have yS:Hid (Num w (.slice a k c) x.num.natAbs):=hx1;have Rf:Hid (∀ args w,(callFunc FR args).run Tryz.prog w= .ok (.enter FR args) w):=HE;have AJ: -9223372036854775808≤P:=by omega
 have U7:P≤9223372036854775807:=by omega
 have HST:Hid (st<2^53):=hst;have FC:Hid (l<4):=hl;have HU:Hid (u=if l≠0∧onw m s (st%2==1) l=true then 1 else 0):=hu;have Rh:(st:Int)<9007199254740992:=by omega
 have Ri:(l:Int)<4:=by omega
 generalize x.num.sign=z at *;generalize x.num.natAbs=xn at *;obtain⟨d,hd⟩:∃ d,d=x.den:=⟨_,rfl⟩;rw[← hd] at HB Jq;clear Jo hw0 sj hfn HQ HC HE hx1 hx2 hs hd hst hl hu hP1 hP2 hP3 hm h0;go_enter Tryz.func59,Tryz.ntmps59;go_wp2_with fail;obtain⟨w0,aK,g0,hz0,R0⟩:=q0y w [.bool s,.slice a k c,.slice a' k' c'] 30;rw[aK];clear aK;refine q00 (HR.out w0) ?_;intro e1 w1 hs;obtain⟨F,kz,rfl,g1,D7,D8⟩:=hs;have Rj:Hid (∀ args w2,(callFunc F args).run Tryz.prog w2= .ok (.enter F args) w2):=D8;clear D8;have Ct:Hid (∀ w2,G w1 w2→∀ (odd:Bool) (l:Nat),l<4→Calls Tryz.prog F (#[.bool odd,.int .i64 (l:Int)]++kz) w2 fun e w3=>e= .returned (.bool (onw m s odd l))∧G w2 w3):=D7;have gP:=G.trans g0 g1;have S0:Hid (Rec _ _ _):=Rec.G R0.out (g1);clear D7 g0 g1 R0 HR;obtain⟨lh,ll,lq,lu,lC,lD⟩:=Rec.f3 (Rec.G S0.out (G.refl _));have hfn:=q6f F kz w1;go_wp2_with fail;clear hfn;refine q00 (gN.out w1 gP) ?_;rintro e1 w2 ⟨rfl,g2⟩;have iH:=G.trans gP g2;have T0:Hid (Rec _ _ _):=Rec.G S0.out (g2);clear lh ll lq lu lC lD S0 gN;go_wp2_with fail
 refine q09 15 0 #[true,true,true,true,true,true,true,true,true,true,true,true,true,true,true] [.is (.func (.func FR) #[] #[]),.is (.pointer (some ⟨w.heap.size,0,none⟩)),.is (.pointer (some ⟨w.heap.size,1,none⟩)),.is (.slice a k c),.is (.agg #[.bool s,.slice a k c,.slice a' k' c']),.any (fun v w'=>Num w' v (d)),.is (fv),.is (.tuple #[.int .u64 (st:Int),.int .i64 P,.int .i64 (l:Int)]),.is (.tuple #[.int .u64 (st:Int),.int .i64 P,.int .i64 (l:Int)]),.is (.int .u64 (st:Int)),.is (.int .i64 P),.is (.int .i64 (l:Int)),.is (.int .u64 (st:Int)),.is (.int .i64 P),.is (.int .i64 (l:Int))] [some 24,some 25,some 26,some 27,some 28,some 29,some 30,some 31,some 23,some 32,some 33,some 34,some 9,some 10,some 11] (by kernel_rfl) (by kernel_rfl) rfl (by kernel_rfl) (by repeat (first|exact trivial|refine⟨fun _ _ _ g h=>by first|exact h.G g|exact fun w3 g3=>h w3 (G.trans g g3),?_⟩)) (by kernel_rfl) (by kernel_rfl) ?_;refine Letters.is ?_;refine Letters.is ?_;refine Letters.is ?_;refine Letters.is ?_;refine Letters.is ?_;refine Letters.any fun v5=> ?_;refine Letters.is ?_;refine Letters.is ?_;refine Letters.is ?_;refine Letters.is ?_;refine Letters.is ?_;refine Letters.is ?_;refine Letters.is ?_;refine Letters.is ?_;refine Letters.is ?_;refine Letters.nil ?_;intro A hA;simp only[q0W,Act.put,List.setIfInBounds_toArray,List.set_cons_zero,List.set_cons_succ] at hA;subst hA;refine⟨?_,?_⟩
 ·skip
  refine Eaches.cons rfl ?gy (Eaches.cons rfl ?gQ (Eaches.cons rfl ?gz (Eaches.cons rfl ?gT (Eaches.cons rfl ?jh (Eaches.cons rfl ?ji (Eaches.cons rfl ?jE (Eaches.cons rfl ?kC (Eaches.cons rfl ?jF (Eaches.cons rfl ?mI (Eaches.cons rfl ?kQ (Eaches.cons rfl ?mJ (Eaches.cons rfl ?mK (Eaches.cons rfl ?oM (Eaches.cons rfl ?su (Eaches.nil)))))))))))))))
  case gy|gQ|gz|jF|mI|kQ|mJ|mK|oM|su=>
   intro W hW hD K hK;clear hD;go_simp;exact hK.out _ _ ⟨_,rfl,G.refl _,rfl⟩
  case gT|jh=>
   intro W hW hD K hK;clear hD;have hT0:=Rec.f3 (Rec.G T0.out hW);have wJ:=hT0.1;have wK:=hT0.2.1;have wL:=hT0.2.2.1;clear hT0;go_simp;exact hK.out _ _ ⟨_,rfl,G.refl _,rfl⟩
  ·intro W hW hD K hK;clear hD;go_simp;go_wp2_with (go_at_call 48;refine q00 (HB.out W (G.trans iH hW)) ?_;intro e w9 hs;obtain⟨u9,rfl,g9,aL⟩:=hs);exact hK.out _ _ ⟨_,rfl,g9,aL⟩
  ·intro W hW hD K hK;have h5:=Deps.get (v:=v5) 5 hD rfl rfl (by kernel_rfl);clear hD;have hcf:=Rf.out #[.slice a k c,v5] W;go_simp;go_wp2_with (refine q00 (Jq.out W (.slice a k c) v5 (G.trans iH hW) (yS.out.G (G.trans iH hW)) h5) ?_;intro e w9 hs;obtain⟨rfl,g9⟩:=hs);exact hK.out _ _ ⟨_,rfl,g9,rfl⟩
  ·intro W hW hD K hK;clear hD;go_simp;go_wp2_with (go_at_call 134;refine q00 (lY.out W) ?_;intro e w9 hs;obtain⟨rfl,g9⟩:=hs);exact hK.out _ _ ⟨_,rfl,g9,rfl⟩
 intro w3 g3 hH;clear hH;refine wpAny_done (by kernel_rfl) ?_ _;have vF:=G.trans iH g3;have g13:=G.trans g2 g3;have U0:Hid (Rec _ _ _):=Rec.G T0.out (g3);clear T0 HB Jq lY yS iH g2 g3;by_cases hl0:l=0
 ·have hl1:((l:Int) != 0)=false:=by rw[hl0];rfl
  have hu0:u=0:=by rw[HU.out,if_neg (by rintro⟨h,-⟩;exact h hl0)]
  subst hu0;rw[Nat.add_zero] at qF;have qG:=vF;have mG:IntKind.i64.wrap (st:Int)=st:=by rw[IntKind.wrap_i64];omega
  clear HU Ct hl0 g13 vF;obtain⟨dz,dA,dB,bY,bZ,cu⟩:=Rec.f3 (Rec.G U0.out (G.refl _));clear bY bZ cu;go_wp2_with fail;refine q00 (qF.out _) ?_;rintro e9 w9 ⟨rfl,g9⟩;have wM:=G.trans qG g9;have X0:Hid (Rec _ _ _):=Rec.G U0.out (g9);have hx0:=Rec.f3 X0.out;have hx1:=hx0.1;clear qF qG g9 hx0;cases s
  ·go_wp2_with fail
   go_ret2
   exact⟨rfl,wM⟩
  ·have sj:=Jp.out;go_wp2_with fail
   go_ret2
   exact⟨gJ.out,wM⟩
 ·have hl1:((l:Int) != 0)=true:=by simp;exact hl0
  obtain⟨odd,ho⟩:∃ odd,odd=(st%2==1):=⟨_,rfl⟩;have hod:((st:Int)%2==1)=odd:=by rw[ho,Bool.eq_iff_iff];simp;omega
  have Rk:(0:Int)≤st:=by omega
  have hcl:=Ct.out w3 g13 odd l FC.out;rw[ho] at hcl;have hu:u=if onw m s (st%2==1) l=true then 1 else 0:=by rw[HU.out];simp [hl0]
  generalize onw m s (st%2==1) l=ob at *;rw[← ho] at hcl;have D9:Hid _:=hcl;have AO:Hid (u=if ob=true then 1 else 0):=hu;have hcf:=Rj.out (#[.bool odd,.int .i64 (l:Int)]++kz) w3;clear HU Ct hl0 g13 ho hcl hu;obtain⟨dz,dA,dB,bY,bZ,cu⟩:=Rec.f3 (Rec.G U0.out (G.refl _));clear bY bZ cu;go_wp2_with fail;refine q00 D9.out ?_;rintro e8 w8 ⟨rfl,g8⟩;have qG:=G.trans vF g8;have V0:Hid (Rec _ _ _):=Rec.G U0.out (g8);clear hcf D9 U0 vF g8 dz dA dB;have U0:Hid (Rec w8 w.heap.size [.bool s,.slice a k c,.slice a' k' c']):=V0.out;clear V0;cases ob
  ·have hu0:u=0:=AO.out;subst hu0;rw[Nat.add_zero] at qF;have mG:IntKind.i64.wrap (st:Int)=st:=by rw[IntKind.wrap_i64];omega
   clear AO;go_wp2_with fail;refine q00 (qF.out _) ?_;rintro e9 w9 ⟨rfl,g9⟩;have wM:=G.trans qG g9;have X0:Hid (Rec _ _ _):=Rec.G U0.out (g9);have hx0:=Rec.f3 X0.out;have hx1:=hx0.1;clear qF qG g9 hx0;cases s
   ·go_wp2_with fail
    go_ret2
    exact⟨rfl,wM⟩
   ·have sj:=Jp.out;go_wp2_with fail
    go_ret2
    exact⟨gJ.out,wM⟩
  ·have hu0:u=1:=AO.out;subst hu0;have mG:IntKind.i64.wrap ((st:Int)+1)=(st:Int)+1:=by rw[IntKind.wrap_i64];omega
   have Da:Hid (∀ w1,Calls Tryz.prog 135 #[.int .i64 ((st:Int)+1),.int .i64 P] w1 fun r w'=>r= .returned (.float .f64 fl)∧G w1 w'):=fun w1=>by
    have h:=qF.out w1;rw[show ((st+1:Nat):Int)=(st:Int)+1 from by omega] at h;exact h
   clear AO qF;have qF:=Da;clear Da;go_wp2_with fail;refine q00 (qF.out _) ?_;rintro e9 w9 ⟨rfl,g9⟩;have wM:=G.trans qG g9;have X0:Hid (Rec _ _ _):=Rec.G U0.out (g9);have hx0:=Rec.f3 X0.out;have hx1:=hx0.1;clear qF qG g9 hx0;cases s
   ·go_wp2_with fail
    go_ret2
    exact⟨rfl,wM⟩
   ·have sj:=Jp.out;go_wp2_with fail
    go_ret2
    exact⟨gJ.out,wM⟩
end Go.Proofs.YtbfjihniphldaaaGreatDoor.EN
namespace Go.Proofs.YtbfjihniphldaaaGreatDoor.EN
open Go.ChangeShapes Go.WideShapes Go.ChangeAt Go.RowKit
/-- A fraction above 0 rounded: the float's place. -/
def rdV (m:Int) (neg:Bool) (A B:Nat):Nat:=tV A B+if lV A B≠0∧onw m neg (tV A B%2==1) (lV A B)=true then 1 else 0
set_option maxRecDepth 10000 in
theorem q2k (w:World) (v:Value) (m:Int) (FR:Nat) (hm:m=1∨m=2∨m=3∨m=4) (hx:QIs w v 0):
  Calls Tryz.prog 59 #[v,.int .i64 m,.func (.func FR) #[] #[]] w fun r w'=>r= .returned (.tuple #[.float .f64 0,.int .i64 0])∧G w w':=by
 have gN:Hid (∀ w1,G w w1→_):=fun w1 g=>q2o w1 v 0 (hx.G g);have hz:((0:Rat).num.sign==0)=true:=rfl;obtain⟨a,k,c,a',k',c',rfl,-,-⟩:=hx;have HR:Hid (∀ w1,_):=fun w1=>q9I w1 m (decide ((0:Rat).num<0)) hm;generalize decide ((0:Rat).num<0)=s at *;generalize (0:Rat).num.sign=z at *;clear hm;go_enter Tryz.func59,Tryz.ntmps59;go_wp2_with fail;obtain⟨w0,aK,g0,hz0,R0⟩:=q0y w [.bool s,.slice a k c,.slice a' k' c'] 30;rw[aK];clear aK;refine q00 (HR.out w0) ?_;intro e1 w1 hs;obtain⟨F,kz,rfl,g1,-,-⟩:=hs;have gP:=G.trans g0 g1;have S0:Hid (Rec _ _ _):=Rec.G R0.out (g1);clear g0 g1 R0 HR;obtain⟨lh,ll,lq,lu,lC,lD⟩:=Rec.f3 (Rec.G S0.out (G.refl _));have hfn:=q6f F kz w1;go_wp2_with fail;clear hfn;refine q00 (gN.out w1 gP) ?_;rintro e1 w2 ⟨rfl,g2⟩;go_wp2_with fail
 go_ret2
 exact⟨rfl,G.trans gP g2⟩
set_option maxRecDepth 10000 in
theorem q2i (w:World) (v:Value) (x:Rat) (m:Int) (FR:Nat) (hm:m<1∨4<m) (hx:QIs w v x):
  Calls Tryz.prog 59 #[v,.int .i64 m,.func (.func FR) #[] #[]] w fun r w'=>r= .returned (.tuple #[.float .f64 0,.int .i64 3])∧G w w':=by
 obtain⟨a,k,c,a',k',c',rfl,-,-⟩:=hx;have HR:Hid (∀ w1,_):=fun w1=>q5G w1 m (decide (x.num<0)) hm;generalize decide (x.num<0)=s at *;clear hm;go_enter Tryz.func59,Tryz.ntmps59;go_wp2_with fail;obtain⟨w0,aK,g0,hz0,R0⟩:=q0y w [.bool s,.slice a k c,.slice a' k' c'] 30;rw[aK];clear aK;refine q00 (HR.out w0) ?_;rintro e1 w1 ⟨rfl,g1⟩;have hnn:(binOp BinOp.eql 142 .nilFunc .nilFunc).run Tryz.prog w1= .ok (.bool true) w1:=by kernel_rfl
 go_wp2_with fail
 go_ret2
 exact⟨rfl,G.trans g0 g1⟩
theorem q49 (w:World) (v:Value) (x:Rat) (m:Int) (K:Nat) (hK:K≤15000) (hK1:1≤K) (hm:m=1∨m=2∨m=3∨m=4) (hx:QIs w v x) (h0:x≠0) (hb:QB x K):
  Calls Tryz.prog 15 #[v,.int .i64 m] w fun r w'=>r= .returned (.tuple #[.float .f64 (FT.wrd (decide (x.num<0)) (rdV m (decide (x.num<0)) x.num.natAbs x.den)),.int .i64 0])∧G w w':=by
 have hA:x.num.natAbs≠0:=by
  intro h;exact h0 (Rat.num_eq_zero.1 (by omega))
 have hB:=x.den_nz;have lA:=q1H hb.1;have lB:=q1H hb.2;obtain⟨st,P,h1,h2,h3,h4,h5,h6,-⟩:=qbu w x.num.natAbs x.den hA hB (by omega) (by omega);have hodd:(st%2==1)=(tV x.num.natAbs x.den%2==1):=by
  rw[h5];have:((P+1074).toNat*2^52+st)%2=st%2:=by omega
  rw[this]
 have qE:Hid (∀ w1,G w w1→Calls Tryz.prog 59 #[v,.int .i64 m,.func (.func 60) #[] #[]] w1 fun r w'=>r= .returned (.tuple #[.float .f64 (FT.wrd (decide (x.num<0)) (rdV m (decide (x.num<0)) x.num.natAbs x.den)),.int .i64 0])∧G w1 w'):=fun w1 g=>by
  have h:=q5c w1 v x m 60 _ st P (lV x.num.natAbs x.den) hm (hx.G g) h0 h1 h2 h3 h4 h6 (fun w2 v1 v2 _ k1 k2=>q6X w2 v1 v2 _ _ K hK hK1 k1 k2 hb.1 hb.2 hA hB) (fun _ _=>by kernel_rfl) (fun w2=>by
   obtain⟨st',P',j1,j2,j3,j4,j5,j6,hc⟩:=qbu w2 x.num.natAbs x.den hA hB (by omega) (by omega);have e1:P'=P∧st'=st:=by
    rw[h5] at j5;rcases h4 with h4|h4<;>rcases j4 with j4|j4<;>(constructor<;>omega)
   obtain⟨rfl,rfl⟩:=e1;exact hc)
  rw[hodd,← h5] at h;exact h
 unfold rdV at qE ⊢;generalize tV x.num.natAbs x.den+(if lV x.num.natAbs x.den≠0∧onw m (decide (x.num<0)) (tV x.num.natAbs x.den%2==1) (lV x.num.natAbs x.den)=true then 1 else 0)=r at *;clear h0 hb hA hB lA lB h1 h2 h3 h4 h5 h6 hodd hm;generalize FT.wrd (decide (x.num<0)) r=fl at *;obtain⟨a,k,c,a',k',c',rfl,-,-⟩:=hx;generalize decide (x.num<0)=s at *;go_enter Tryz.func15,Tryz.ntmps15;go_wp2_with fail;obtain⟨w0,aK,g0,hz0,R0⟩:=q0y w [.bool s,.slice a k c,.slice a' k' c'] 30;rw[aK];clear aK;refine q00 (qE.out w0 g0) ?_;rintro e1 w1 ⟨rfl,g1⟩;go_wp2_with fail
 go_ret2
 exact⟨rfl,G.trans g0 g1⟩
theorem q4u (w:World) (v:Value) (m:Int) (hm:m=1∨m=2∨m=3∨m=4) (hx:QIs w v 0):
  Calls Tryz.prog 15 #[v,.int .i64 m] w fun r w'=>r= .returned (.tuple #[.float .f64 0,.int .i64 0])∧G w w':=by
 have qE:Hid (∀ w1,G w w1→_):=fun w1 g=>q2k w1 v m 60 hm (hx.G g);obtain⟨x,h⟩:∃ x:Rat,x=0:=⟨_,rfl⟩;rw[← h] at hx;clear h hm;obtain⟨a,k,c,a',k',c',rfl,-,-⟩:=hx;generalize decide (x.num<0)=s at *;go_enter Tryz.func15,Tryz.ntmps15;go_wp2_with fail;obtain⟨w0,aK,g0,hz0,R0⟩:=q0y w [.bool s,.slice a k c,.slice a' k' c'] 30;rw[aK];clear aK;refine q00 (qE.out w0 g0) ?_;rintro e1 w1 ⟨rfl,g1⟩;go_wp2_with fail
 go_ret2
 exact⟨rfl,G.trans g0 g1⟩
theorem q4T (w:World) (v:Value) (x:Rat) (m:Int) (hm:m<1∨4<m) (hx:QIs w v x):
  Calls Tryz.prog 15 #[v,.int .i64 m] w fun r w'=>r= .returned (.tuple #[.float .f64 0,.int .i64 3])∧G w w':=by
 have qE:Hid (∀ w1,G w w1→_):=fun w1 g=>q2i w1 v x m 60 hm (hx.G g);clear hm;obtain⟨a,k,c,a',k',c',rfl,-,-⟩:=hx;generalize decide (x.num<0)=s at *;go_enter Tryz.func15,Tryz.ntmps15;go_wp2_with fail;obtain⟨w0,aK,g0,hz0,R0⟩:=q0y w [.bool s,.slice a k c,.slice a' k' c'] 30;rw[aK];clear aK;refine q00 (qE.out w0 g0) ?_;rintro e1 w1 ⟨rfl,g1⟩;go_wp2_with fail
 go_ret2
 exact⟨rfl,G.trans g0 g1⟩
def fex (b:Nat):Nat:=b/2^52%2^11
def fmag (b:Nat):Nat:=if fex b=0 then b%2^52 else 2^52+b%2^52
/-- What a finite float is. -/
def FQ (b:Nat):Rat:=mkRat (frN (FT.neg b) (fmag b) (fex b)) (frD (fex b))
theorem qbR (w:World) (b:Nat) (m e:Int) (q:Rat) (HW:∀ w1,G w w1→Calls Tryz.prog 43 #[.float .f64 b] w1 fun r w'=>r= .returned (.tuple #[.int .i64 m,.int .i64 e,.int .i64 0])∧G w1 w')
  (HS:∀ w1,Calls Tryz.prog 44 #[.int .i64 m,.int .i64 e] w1 (RetQ w1 q)):
  Calls Tryz.prog 7 #[.float .f64 b] w (q2K w q 0):=by
 have HW1:Hid (∀ w1,G w w1→_):=HW;have iZ:Hid (∀ w1,_):=HS;clear HW HS;go_enter Tryz.func7,Tryz.ntmps7;go_wp2_with fail;obtain⟨w0,aK,g0,hz0,R0⟩:=q0y w [.bool false,.slice none 0 0,.slice none 0 0] 30;rw[aK];clear aK;refine Calls.mono (P:=Tryz.prog) (HW1.out w0 g0) ?_;rintro e1 w1 ⟨rfl,g1⟩;go_wp2_with fail;refine Calls.mono (P:=Tryz.prog) (iZ.out w1) ?_;intro e1 w2 hs;obtain⟨v,rfl,g2,hv⟩:=hs;clear HW1 iZ;obtain⟨a8,k8,c8,a9,k9,c9,rfl,fK,dw⟩:=hv;have iY:Hid (Num w2 (.slice a8 k8 c8) (q).num.natAbs):=fK;have gM:Hid (Num w2 (.slice a9 k9 c9) (q20 (q).den)):=dw;obtain⟨t9,bH⟩:∃ t,t=decide ((q).num<0):=⟨_,rfl⟩;rw[← bH];have iK:Hid (t9=decide ((q).num<0)):=bH;clear fK dw bH;obtain⟨bC,bD,bE,bF,dP,dQ⟩:=Rec.f3 (Rec.G R0.out ((G.trans g1 g2)));have dR:Num _ _ _:=q0p (u1:= .bool t9) (u2:= .slice a8 k8 c8) (u3:= .slice a9 k9 c9) iY.out (Rec.G R0.out (G.trans g1 g2)) trivial trivial trivial;have bG:Num _ _ _:=q0p (u1:= .bool t9) (u2:= .slice a8 k8 c8) (u3:= .slice a9 k9 c9) gM.out (Rec.G R0.out (G.trans g1 g2)) trivial trivial trivial;go_wp2_with fail;have hT:Hid (Rec (World.setCell (World.setCell (World.setCell w2 ⟨w.heap.size,0,none⟩ (.bool t9)) ⟨w.heap.size,1,none⟩ (.slice a8 k8 c8)) ⟨w.heap.size,2,none⟩ (.slice a9 k9 c9)) (w.heap.size) [.bool t9,.slice a8 k8 c8,.slice a9 k9 c9]):=Rec.set3 (Rec.G R0.out (G.trans g1 g2));have g9:=Rec.g3 (b:=w.heap.size) (u:= .bool t9) (v:= .slice a8 k8 c8) (x:= .slice a9 k9 c9) (G.trans g0 (G.trans g1 g2)) (by omega)
 generalize (World.setCell (World.setCell (World.setCell w2 ⟨w.heap.size,0,none⟩ (.bool t9)) ⟨w.heap.size,1,none⟩ (.slice a8 k8 c8)) ⟨w.heap.size,2,none⟩ (.slice a9 k9 c9))=w9 at *;obtain⟨dS,dU,dV,dW,iq,iw⟩:=Rec.f3 (Rec.G hT.out ((G.refl _)));refine bodyPost_ret (v:= .tuple #[.agg #[.bool t9,.slice a8 k8 c8,.slice a9 k9 c9],.int .i64 0]) (by simp [results,Tryz.results7,go_sem, *]) rfl ?_;exact⟨_,rfl,g9,a8,k8,c8,a9,k9,c9,by rw[← iK.out],dR,bG⟩
theorem qch {s:Bool} {j k ex mag:Nat} (hm:mag=(2*j+1)*2^k):mk2 (if s then -(2*(j:Int)+1) else 2*(j:Int)+1) ((max ex 1:Nat)-1075+k)=mkRat (frN s mag ex) (frD ex):=by
 unfold mk2 frN frD frS;rw[Rat.mkRat_eq_iff (by have:=Nat.two_pow_pos (-(((max ex 1:Nat):Int)-1075+k)).toNat;omega) (by have:=Nat.two_pow_pos (1075-max ex 1);omega)];have e:∀ X Y:Int,X*((2^k:Nat):Int)=Y→X*((2^(((max ex 1:Nat):Int)-1075+k).toNat:Nat):Int)*((2^(1075-max ex 1):Nat):Int)=Y*2^(max ex 1-1075)*((2^(-(((max ex 1:Nat):Int)-1075+k)).toNat:Nat):Int):=by
  intro X Y h;rw[← h,Int.mul_assoc,Int.mul_assoc,Int.mul_assoc,FT.ipow,← Int.natCast_mul,← Int.natCast_mul,← Int.natCast_mul,← Nat.pow_add,← Nat.pow_add,← Nat.pow_add]
  congr 3
  omega
 cases s
 ·simp only[Bool.false_eq_true,if_false];refine e _ _ ?_;rw[hm];push_cast;rfl
 ·simp only[if_true];refine e _ _ ?_;rw[hm];push_cast;rw[Int.neg_mul]
theorem of_c (w:World) (b:Nat) (hT:Tab w) (h0:b<2^64) (he:fex b<2047):
  Calls Tryz.prog 7 #[.float .f64 b] w (q2K w (FQ b) 0):=by
 have hex:b/2^52%2^11=fex b:=rfl;have hfr:b%2^52<2^52:=Nat.mod_lt _ (by omega);have hmb:fmag b<2^53:=by unfold fmag;split<;>omega
 by_cases hm:fmag b=0
 ·have h1:fex b=0:=by
   unfold fmag at hm;split at hm
   ·assumption
   ·omega
  have h2:b%2^52=0:=by unfold fmag at hm;rwa[if_pos h1] at hm
  have hq:FQ b=mk2 0 0:=by
   unfold FQ mk2;rw[hm];unfold frN frS;simp
  rw[hq];exact qbR w b 0 0 _ (fun w1 _=>q4F b w1 h0 (hex.trans h1) h2) (fun w1=>q4w w1 0 0 (by omega) (by omega) (by omega) (by omega) (Or.inl rfl))
 ·obtain⟨j,k,hj⟩:=q38 (fmag b) (by omega);have hj2:2*j+1≤fmag b:=by
   rw[hj];exact Nat.le_mul_of_pos_right _ (Nat.two_pow_pos k)
  have hk:k<53:=by
   have:2^k≤fmag b:=by rw[hj];exact Nat.le_mul_of_pos_left _ (by omega)
   exact(Nat.pow_lt_pow_iff_right (by omega:1<2)).1 (Nat.lt_of_le_of_lt this hmb)
  have hq:FQ b=mk2 (if FT.neg b then -(2*(j:Int)+1) else 2*(j:Int)+1) ((max (fex b) 1:Nat)-1075+k):=(qch hj).symm;rw[hq];refine qbR w b _ _ _ (fun w1 g=>qaP b (fex b) (b%2^52) (fmag b) j k w1 (hT.G g) h0 rfl rfl he rfl hj) (fun w1=>q4w w1 _ _ ?_ ?_ ?_ ?_ ?_)
  ·split<;>omega
  ·split<;>omega
  ·omega
  ·omega
  ·right;split<;>omega
theorem q7F:((1:Int):Rat)/((3:Int):Rat)=mkRat 1 3:=(Rat.mkRat_eq_div 1 3).symm
theorem third_parts:(((1:Int):Rat)/((3:Int):Rat)).num=1∧(((1:Int):Rat)/((3:Int):Rat)).den=3:=
 rat_low (by omega) rfl (mk_cross (by omega) q7F)
theorem q4X (w:World) (v:Value) (h:QIs w v ((1:Int)/(3:Int):Rat)):
  Calls Tryz.prog 40 #[v] w fun e w'=>e= .returned (.string ⟨#[49,47,51]⟩)∧G w w':=by
 have e1:(((1:Int):Rat)/((3:Int):Rat)).num=1:=third_parts.1;have e2:(((1:Int):Rat)/((3:Int):Rat)).den=3:=third_parts.2;obtain⟨a,k,c,a',k',c',rfl,h1,h2⟩:=h;rw[e1] at h1 ⊢;rw[e2] at h2;have h1':Num w (.slice a k c) 1:=h1;have h2':Num w (.slice a' k' c') 3:=h2;have d1:Lib.decDigits 1=[49]:=by rw[Lib.decDigits];rfl
 have d3:Lib.decDigits 3=[51]:=by rw[Lib.decDigits];rfl
 have H1:Hid (∀ w1,G w w1→Calls Tryz.prog 104 #[.slice a k c] w1 fun e w'=>e= .returned (.string ⟨#[49]⟩)∧G w1 w'):=fun w1 g=>by
  have h:=q9r w1 _ 1 (by omega) (by omega) (h1'.G g);rw[d1] at h;exact h
 have H2:Hid (∀ w1,G w w1→Calls Tryz.prog 104 #[.slice a' k' c'] w1 fun e w'=>e= .returned (.string ⟨#[51]⟩)∧G w1 w'):=fun w1 g=>by
  have h:=q9r w1 _ 3 (by omega) (by omega) (h2'.G g);rw[d3] at h;exact h
 obtain⟨p2,j2,q2,e,-,hk,-⟩:=q1F h2';injection e with x1 x2 x3;subst x1;subst x2;subst x3;have hd:decide ((1:Int)<0)=false:=rfl;rw[hd];clear h1 h2 h1' h2' d1 d3 e1 e2 hd;go_enter Tryz.func40,Tryz.ntmps40;go_wp2_with fail;obtain⟨w0,aK,g0,hz0,R0⟩:=q0y w [.bool false,.slice a k c,.slice a' k' c'] 30;rw[aK];clear aK;refine q00 (H1.out w0 g0) ?_;rintro e w1 ⟨rfl,g1⟩;obtain⟨bM,bN,bO,bP,bQ,bR⟩:=Rec.f3 (Rec.G R0.out (g1));go_wp2_with fail;refine q00 (H2.out w1 (G.trans g0 g1)) ?_;rintro e w2 ⟨rfl,g2⟩;go_wp2_with fail;go_ret;exact⟨rfl,G.trans g0 (G.trans g1 g2)⟩
theorem q5a (w:World):Calls Tryz.prog 39 #[.float .f64 4599676419421066581,.float .f64 4607182418800017408] w fun e w'=>e= .returned (.float .f64 4599676419421066582)∧G w w':=by
 have K1:Hid _:=fun w=>q1K 4599676419421066581 w;have K2:Hid _:=fun w=>q1K 4607182418800017408 w;rw[show FT.nan 4599676419421066581=false from by decide] at K1;rw[show FT.nan 4607182418800017408=false from by decide] at K2;have e1:(FloatKind.f64.format.order 4599676419421066581 4607182418800017408==some .eq)=false:=by decide+kernel
 have e2:(FloatKind.f64.format.order 4599676419421066581 0==some .eq)=false:=by decide+kernel
 have e3:(FloatKind.f64.format.order 4607182418800017408 4599676419421066581==some .gt)=true:=by decide+kernel
 have e4:(FloatKind.f64.format.order 4599676419421066581 0==some .gt)=true:=by decide+kernel
 have htb:=fun w=>q0q 4599676419421066581 w;have Jo:=fun w=>q0i 4599676419421066582 w;go_enter Tryz.func39,Tryz.ntmps39;go_wp2_with fail;refine(K1.out _).mono ?_;rintro e w1 ⟨rfl,hb1⟩;have aQ:=hb1.size
 try simp at aQ
 go_wp2_with fail;refine(K2.out _).mono ?_;rintro e w2 ⟨rfl,hb2⟩;have aT:=hb2.size
 try simp at aT
 go_wp2_with fail;go_ret;exact⟨rfl,(by repeat' (first|exact G.refl _|assumption|refine G.alloc ?_ _|refine G.drew ?_ |refine G.drewN ?_ _|(refine G.trans ?_ (by assumption))))⟩
set_option maxRecDepth 10000 in
theorem qaS (w:World) (hT:Tab w):Calls Tryz.prog 5 #[] w fun e w'=>e= .returned (.bool true)∧G w w':=by
 have HO:Hid (∀ w1,G w w1→Calls Tryz.prog 38 #[.int .i64 1,.int .i64 3] w1 (q2K w1 ((1:Int)/(3:Int):Rat) 0)):=fun w1 g=>by
  have h:=q71 w1 1 3 (hT.G g) (by omega) (by omega) (by omega) (by omega);exact h
 have hq0:((1:Int)/(3:Int):Rat)≠0:=by
  intro h;have:=congrArg Rat.num h;rw[third_parts.1] at this;exact absurd this (by decide)
 have uj:QB ((1:Int)/(3:Int):Rat) 1:=by unfold QB;rw[third_parts.1,third_parts.2];exact⟨by decide,by decide⟩
 have yQ:Hid (∀ w1 v,QIs w1 v ((1:Int)/(3:Int):Rat)→Calls Tryz.prog 15 #[v,.int .i64 1] w1 fun r w'=>r= .returned (.tuple #[.float .f64 4599676419421066581,.int .i64 0])∧G w1 w'):=fun w1 v hv=>by
  have h:=q49 w1 v _ 1 1 (by omega) (by omega) (Or.inl rfl) hv hq0 uj;rw[third_parts.1,third_parts.2,show FT.wrd (decide ((1:Int)<0)) (rdV 1 (decide ((1:Int)<0)) (Int.natAbs 1) 3)=4599676419421066581 from by decide+kernel] at h;exact h
 have yR:Hid (∀ w1 v,QIs w1 v ((1:Int)/(3:Int):Rat)→Calls Tryz.prog 15 #[v,.int .i64 3] w1 fun r w'=>r= .returned (.tuple #[.float .f64 4599676419421066582,.int .i64 0])∧G w1 w'):=fun w1 v hv=>by
  have h:=q49 w1 v _ 3 1 (by omega) (by omega) (Or.inr (Or.inr (Or.inl rfl))) hv hq0 uj;rw[third_parts.1,third_parts.2,show FT.wrd (decide ((1:Int)<0)) (rdV 3 (decide ((1:Int)<0)) (Int.natAbs 1) 3)=4599676419421066582 from by decide+kernel] at h;exact h
 have HX:Hid (∀ w1 v,QIs w1 v ((1:Int)/(3:Int):Rat)→_):=fun w1 v hv=>q4X w1 v hv;clear hq0 uj;go_enter Tryz.func5,Tryz.ntmps5;go_wp2_with fail;refine q00 (HO.out _ (by repeat' (first|exact G.refl _|refine G.alloc ?_ _))) ?_;intro e1 w1 hs;obtain⟨v,rfl,g1,hv⟩:=hs;obtain⟨a,k,c,a',k',c',rfl,x1,x2⟩:=hv;have hd:decide ((((1:Int):Rat)/((3:Int):Rat)).num<0)=false:=by rw[third_parts.1];rfl
 have hq:QIs w1 (.agg #[.bool false,.slice a k c,.slice a' k' c']) ((1:Int)/(3:Int):Rat):=⟨a,k,c,a',k',c',by rw[hd],x1,x2⟩;have HV:Hid _:=hq;rw[hd];clear HO x1 x2 hd hq;go_wp2_with fail;obtain⟨w2,aK,g2,hz2,R0⟩:=q0y w1 [.bool false,.slice a k c,.slice a' k' c'] 30;rw[aK];clear aK;refine q00 (yQ.out w2 _ (QIs.G HV.out g2)) ?_;rintro e w3 ⟨rfl,g3⟩;have g23:=G.trans g2 g3;obtain⟨bM,bN,bO,bP,bQ,bR⟩:=Rec.f3 (Rec.G R0.out (g3));go_wp2_with fail;clear bM bN bO bP bQ bR;refine q00 (yR.out w3 _ (QIs.G HV.out g23)) ?_;rintro e w4 ⟨rfl,g4⟩;have g24:=G.trans g3 g4;have x1:(FloatKind.f64.format.order 4599676419421066581 4599676419421066581==some .eq)=true:=by decide+kernel
 have x2:(FloatKind.f64.format.order 4599676419421066582 4599676419421066582==some .eq)=true:=by decide+kernel
 go_wp2_with fail;refine q00 (q5a _) ?_;rintro e w5 ⟨rfl,g5⟩;have Lg:=G.trans g24 g5;obtain⟨bM,bN,bO,bP,bQ,bR⟩:=Rec.f3 (Rec.G R0.out (Lg));go_wp2_with fail;refine q00 (HX.out w5 _ (QIs.G HV.out (G.trans g2 Lg))) ?_;rintro e w6 ⟨rfl,g6⟩;go_wp2_with fail;go_ret;exact⟨rfl,G.trans g1 (G.trans g2 (G.trans Lg g6))⟩
theorem q26 {p Q:Nat} (h:Q≤2^53) (h2:2^52≤Q∨p=0):FT.v (p*2^52+Q)=Q*2^p:=by
 by_cases h3:Q<2^52
 ·have hp:p=0:=by omega
  subst hp;rw[Nat.zero_mul,Nat.zero_add,FT.v_sub h3,Nat.pow_zero,Nat.mul_one]
 ·by_cases h4:Q<2^53
  ·rw[show p*2^52+Q=(p+1)*2^52+(Q-2^52) from by omega,FT.v_nor' _ _ (by omega) (by omega),Nat.add_sub_cancel,show 2^52+(Q-2^52)=Q from by omega]
  ·have hQ:Q=2^53:=by omega
   subst hQ;rw[show p*2^52+2^53=(p+2)*2^52+0 from by omega,FT.v_nor' _ _ (by omega) (by omega),show p+2-1=p+1 from by omega,Nat.pow_succ 2 p,Nat.add_zero,show (2:Nat)^53=2^52*2 from rfl]
   ac_rfl
theorem q1D {A B:Nat} (hA:A≠0) (hB:B≠0) {P:Int} (hP:P=q0D A B):
  upP A P<2^53*loP B P∧(P= -1074∨2^52*loP B P≤upP A P):=by
 have hP':P=max (expo A B-52) (-1074):=hP;have k1:=q3d hA hB ((-P).toNat+(-expo A B).toNat) (by omega);have k2:=q23 hA hB ((-P).toNat+(-expo A B).toNat) (by omega);generalize expo A B=x at *;unfold upP loP;constructor
 ·have h1:((((-P).toNat+(-x).toNat:Nat):Int)+(x+1)).toNat≤P.toNat+53+(-x).toNat:=by omega
  have h2:=Nat.lt_of_lt_of_le k1 (Nat.mul_le_mul_left B (Nat.pow_le_pow_right (by omega:0<2) h1));rw[Nat.pow_add,Nat.pow_add 2 _ (-x).toNat,← Nat.mul_assoc,← Nat.mul_assoc] at h2;have h3:=Nat.lt_of_mul_lt_mul_right h2;rw[Nat.pow_add] at h3
  calc _<_:=h3
   _=_:=by ac_rfl
 ·by_cases h0:P= -1074
  ·exact Or.inl h0
  ·refine Or.inr ?_;have h1:P.toNat+52+(-x).toNat≤((((-P).toNat+(-x).toNat:Nat):Int)+x).toNat:=by omega
   have h2:=Nat.le_trans (Nat.mul_le_mul_left B (Nat.pow_le_pow_right (by omega:0<2) h1)) k2;rw[Nat.pow_add 2 (-P).toNat,Nat.pow_add 2 _ (-x).toNat,← Nat.mul_assoc,← Nat.mul_assoc] at h2;have h3:=Nat.le_of_mul_le_mul_right h2 (Nat.two_pow_pos _);rw[Nat.pow_add] at h3
   calc _=_:=by ac_rfl
    _≤_:=h3
theorem q7Y {R D:Nat} (h:q27 R D=0):R=0:=by
 unfold q27 at h;split at h
 ·assumption
 ·split at h
  ·omega
  ·split at h<;>omega
/-- Where a ratio lies among the floats. -/
theorem q1V {A B:Nat} (hA:A≠0) (hB:B≠0):
  tV A B<2047*2^52∧FT.v (tV A B)*B≤A*2^1074∧(lV A B=0→FT.v (tV A B)*B=A*2^1074)∧(tV A B+1<2047*2^52→A*2^1074≤FT.v (tV A B+1)*B):=by
 obtain⟨P,hP⟩:∃ P,P=q0D A B:=⟨_,rfl⟩;have hlo: -1074≤P:=by rw[hP];unfold q0D;omega
 unfold tV lV;rw[← hP];by_cases hbig:971<P
 ·rw[if_pos hbig,if_pos hbig];refine⟨by omega,?_,fun h=>by omega,fun h=>by omega⟩;have k2:=q23 hA hB 1074 (by have:P=max (expo A B-52) (-1074):=hP;omega);obtain⟨n,hn⟩:∃ n:Nat,n=2045:=⟨_,rfl⟩;have hx:53+n≤(((1074:Nat):Int)+expo A B).toNat:=by have:P=max (expo A B-52) (-1074):=hP;omega
  have h1:FT.v (2047*2^52-1)≤2^(((1074:Nat):Int)+expo A B).toNat:=by
   rw[show 2047*2^52-1=2046*2^52+(2^52-1) from rfl,FT.v_nor' _ _ (by omega) (by omega)];refine Nat.le_trans ?_ (Nat.pow_le_pow_right (by omega:0<2) hx);rw[show 2046-1=n from by omega,Nat.pow_add];exact Nat.mul_le_mul_right _ (by omega)
  refine Nat.le_trans (Nat.mul_le_mul_right B h1) ?_;rw[Nat.mul_comm];exact k2
 ·rw[if_neg hbig,if_neg hbig];obtain⟨b1,b2⟩:=q1D hA hB hP;have hD:0<loP B P:=Nat.mul_pos (Nat.pos_of_ne_zero hB) (Nat.two_pow_pos _);have rZ:upP A P/loP B P<2^53:=(Nat.div_lt_iff_lt_mul hD).2 b1;have zh:2^52≤upP A P/loP B P∨(P+1074).toNat=0:=by
   rcases b2 with h|h
   ·exact Or.inr (by omega)
   ·exact Or.inl ((Nat.le_div_iff_mul_le hD).2 h)
  have hm:=Nat.div_add_mod (upP A P) (loP B P);have hl:=Nat.mod_lt (upP A P) hD;have hv:FT.v ((P+1074).toNat*2^52+upP A P/loP B P)=upP A P/loP B P*2^(P+1074).toNat:=q26 (Nat.le_of_lt rZ) zh;have hv1:FT.v ((P+1074).toNat*2^52+upP A P/loP B P+1)=(upP A P/loP B P+1)*2^(P+1074).toNat:=by
   rw[Nat.add_assoc];exact q26 rZ (by omega)
  rw[hv,hv1];have scale:∀ X:Nat,X*2^(P+1074).toNat*B=X*loP B P*2^(1074-(-P).toNat):=fun X=>by
   unfold loP;rw[show (P+1074).toNat=P.toNat+(1074-(-P).toNat) from by omega,Nat.pow_add]
   ac_rfl
  have hup:A*2^1074=upP A P*2^(1074-(-P).toNat):=by
   unfold upP;rw[Nat.mul_assoc,← Nat.pow_add,show (-P).toNat+(1074-(-P).toNat)=1074 from by omega]
  rw[scale,scale,hup];generalize 2^(1074-(-P).toNat)=S;have e1:upP A P/loP B P*loP B P=loP B P*(upP A P/loP B P):=Nat.mul_comm _ _;refine⟨?_,Nat.mul_le_mul_right _ (by omega),fun h=> ?_,fun _=>Nat.mul_le_mul_right _ (by rw[Nat.add_mul,Nat.one_mul];omega)⟩
  ·have h3:(P+1074).toNat≤2045:=by omega
   generalize upP A P/loP B P=Q at *;generalize (P+1074).toNat=p at *;omega
  ·have h0:=q7Y h;rw[h0] at hm;have h4:upP A P/loP B P*loP B P=upP A P:=by omega
   rw[h4]
/-- A finite float as a ratio. -/
theorem fq_v (s:Bool) {V:Nat} (h:V<2047*2^52):FQ (FT.wrd s V)=mkRat (if s then -(FT.v V:Int) else FT.v V) (2^1074)∧fex (FT.wrd s V)<2047:=by
 have e1:fex (FT.wrd s V)=V/2^52:=by
  unfold fex FT.wrd;cases s<;>simp only[if_true,Bool.false_eq_true,if_false]<;>omega
 have e2:FT.wrd s V%2^52=V%2^52:=by
  unfold FT.wrd;cases s<;>simp only[if_true,Bool.false_eq_true,if_false]<;>omega
 have e3:FT.neg (FT.wrd s V)=s:=by
  unfold FT.neg FT.wrd;cases s
  ·simp only[Bool.false_eq_true,if_false,beq_eq_false_iff_ne,ne_eq];omega
  ·simp only[if_true,beq_iff_eq];omega
 refine⟨?_,by rw[e1];omega⟩;have hm:fmag (FT.wrd s V)*2^(max (V/2^52) 1-1)=FT.v V:=by
  unfold fmag;rw[e1,e2];by_cases h1:V<2^52
  ·rw[FT.v_sub h1,if_pos (by omega),show max (V/2^52) 1-1=0 from by omega,Nat.pow_zero,Nat.mul_one];omega
  ·rw[FT.v_nor h1,if_neg (by omega),show max (V/2^52) 1=V/2^52 from by omega]
 unfold FQ;rw[e1,e3];rw[← hm];clear hm e1 e2 e3;obtain⟨E,hE⟩:∃ E:Nat,E=1074:=⟨_,rfl⟩;rw[← hE];generalize fmag (FT.wrd s V)=m;generalize V/2^52=x;unfold frN frD frS;rw[Rat.mkRat_eq_iff (by have:=Nat.two_pow_pos (1075-max x 1);omega) (by have:=Nat.two_pow_pos E;omega)];have k:∀ z:Int,z*2^(max x 1-1075)*((2^E:Nat):Int)=z*((2^(max x 1-1):Nat):Int)*((2^(1075-max x 1):Nat):Int):=fun z=>by
  rw[Int.mul_assoc,Int.mul_assoc];refine congrArg (z*·) ?_;rw[FT.ipow,← Int.natCast_mul,← Int.natCast_mul,← Nat.pow_add,← Nat.pow_add,show max x 1-1075+E=max x 1-1+(1075-max x 1) from by omega]
 cases s
 ·simp only[Bool.false_eq_true,if_false];rw[Int.natCast_mul];exact k (m:Int)
 ·simp only[if_true];rw[Int.natCast_mul,← Int.neg_mul];exact k (-(m:Int))
theorem q2P (s:Bool) {V:Nat} (h:V≤2047*2^52):FT.nan (FT.wrd s V)=false:=by
 unfold FT.nan;rw[FT.wrd_rung s V (by omega)];exact decide_eq_false (by unfold FT.infR;omega)
/-- The place of a number's float that is rounded so. -/
theorem qbI (m:Int) (s:Bool) {A B:Nat} (hA:A≠0) (hB:B≠0):rdV m s A B≤2047*2^52:=by
 have:=(q1V hA hB).1;unfold rdV;split<;>omega
theorem qak (m:Int) (s:Bool) (A B:Nat):rdV m s A B=tV A B∨(rdV m s A B=tV A B+1∧lV A B≠0):=by
 unfold rdV;split
 ·rename_i h;exact Or.inr ⟨rfl,h.1⟩
 ·exact Or.inl rfl
theorem q5W (s:Bool) (A B:Nat):rdV 2 s A B=if lV A B≠0∧s=true then tV A B+1 else tV A B:=by
 unfold rdV onw;simp only[show ((2:Int)=1)=False from by simp,if_false,if_true];split<;>rfl
theorem qbT (s:Bool) (A B:Nat):rdV 3 s A B=if lV A B≠0∧s=false then tV A B+1 else tV A B:=by
 unfold rdV onw;simp only[show ((3:Int)=1)=False from by simp,show ((3:Int)=2)=False from by simp,if_false,if_true,Bool.not_eq_true'];split<;>rfl
theorem qc0 (s:Bool) (A B:Nat):rdV 4 s A B=tV A B:=by
 unfold rdV onw;simp only[show ((4:Int)=1)=False from by simp,show ((4:Int)=2)=False from by simp,show ((4:Int)=3)=False from by simp,if_false,Bool.false_eq_true,and_false,Nat.add_zero]
end Go.Proofs.YtbfjihniphldaaaGreatDoor.EN
namespace Go.Proofs.YtbfjihniphldaaaGreatDoor
open Go.RowKit
/-- A ratio of whole numbers in lowest terms. -/
theorem q6k {sa sb:Int} (h:sb≠0):((sa:Rat)/(sb:Rat))=mkRat (if sb<0 then -sa else sa) sb.natAbs:=by
 rw[Rat.mkRat_eq_div];by_cases h0:sb<0
 ·rw[if_pos h0];have e:((sb.natAbs:Nat):Rat)= -((sb:Int):Rat):=by
   have:((sb.natAbs:Nat):Int)= -sb:=by omega
   show (((sb.natAbs:Nat):Int):Rat)=_;rw[this];rfl
  rw[e];rw[Rat.div_def,Rat.div_def];have hn:((sb:Int):Rat)≠0:=by intro e2;have:=congrArg Rat.num e2;exact h this
  have e3:(-((sb:Int):Rat))⁻¹ = -(((sb:Int):Rat)⁻¹):=by
   refine Rat.inv_eq_of_mul_eq_one ?_;rw[Rat.neg_mul,Rat.mul_neg,Rat.neg_neg,Rat.mul_inv_cancel _ hn]
  rw[e3,Rat.mul_neg];show _= -((-(sa:Rat))*_);rw[Rat.neg_mul,Rat.neg_neg]
 ·rw[if_neg h0];have e:((sb.natAbs:Nat):Rat)=((sb:Int):Rat):=by
   have:((sb.natAbs:Nat):Int)=sb:=by omega
   show (((sb.natAbs:Nat):Int):Rat)=_;rw[this]
  rw[e]
theorem q2L {z:Int} {d:Nat} (hd:0<d) {q:Rat} (h:q=mkRat z d):q.num=Int.tdiv z (Nat.gcd z.natAbs d:Nat)∧q.den=d/Nat.gcd z.natAbs d:=by
 have hg:0<Nat.gcd z.natAbs d:=Nat.gcd_pos_of_pos_right _ hd;obtain⟨a,ha⟩:=Nat.gcd_dvd_right z.natAbs d;have hz:z=Int.tdiv z (Nat.gcd z.natAbs d:Nat)*((Nat.gcd z.natAbs d:Nat):Int):=by
  rw[Int.tdiv_mul_cancel (Int.ofNat_dvd_left.2 (Nat.gcd_dvd_left _ _))]
 have Gd:d/Nat.gcd z.natAbs d*Nat.gcd z.natAbs d=d:=Nat.div_mul_cancel (Nat.gcd_dvd_right _ _);have hd2:0<d/Nat.gcd z.natAbs d:=Nat.div_pos (Nat.le_of_dvd hd (Nat.gcd_dvd_right _ _)) hg;have hab:(Int.tdiv z (Nat.gcd z.natAbs d:Nat)).natAbs=z.natAbs/Nat.gcd z.natAbs d:=by
  rw[Int.natAbs_tdiv,Int.natAbs_natCast];rfl
 refine EN.rat_low hd2 (by rw[hab];exact Nat.gcd_div_gcd_div_gcd_of_pos_right hd) ?_;have h1:=EN.mk_cross hd h;have hgi:((Nat.gcd z.natAbs d:Nat):Int)≠0:=by omega
 refine Int.eq_of_mul_eq_mul_right hgi ?_;rw[show Int.tdiv z (Nat.gcd z.natAbs d:Nat)*(q.den:Int)*((Nat.gcd z.natAbs d:Nat):Int)=Int.tdiv z (Nat.gcd z.natAbs d:Nat)*((Nat.gcd z.natAbs d:Nat):Int)*q.den from by ac_rfl,← hz,h1,Int.mul_assoc,← Int.natCast_mul,Gd]
end Go.Proofs.YtbfjihniphldaaaGreatDoor
namespace Go.Proofs.YtbfjihniphldaaaGreatDoor.EN
open Go.RowKit
theorem q3C {q:Rat} {z:Int} {d K:Nat} (hd:0<d) (h:q=mkRat z d) (h1:z.natAbs<2^(64*K)) (h2:d<2^(64*K)):QB q K:=by
 obtain⟨e1,e2⟩:=q2L hd h;refine⟨?_,?_⟩
 ·rw[e1,Int.natAbs_tdiv,Int.natAbs_natCast];exact Nat.lt_of_le_of_lt (Nat.div_le_self _ _) h1
 ·rw[e2];exact Nat.lt_of_le_of_lt (Nat.div_le_self _ _) h2
theorem qbw {x y:Rat} {K L:Nat} (hx:QB x K) (hy:QB y L):QB (x*y) (K+L):=by
 refine q3C (z:=x.num*y.num) (d:=x.den*y.den) (Nat.mul_pos x.den_pos y.den_pos) ?_ ?_ (q1i hx.2 hy.2)
 ·rw[← Rat.mkRat_mul_mkRat,Rat.mkRat_self,Rat.mkRat_self]
 ·rw[Int.natAbs_mul];exact q1i hx.1 hy.1
theorem qbg {b:Nat} (h:fex b<2047):QB (FQ b) 80:=by
 have hm:fmag b<2^53:=by unfold fmag;split<;>omega
 obtain⟨K,hK⟩:∃ K:Nat,K=80:=⟨_,rfl⟩;obtain⟨M,hM⟩:∃ M:Nat,M=5000:=⟨_,rfl⟩;rw[← hK];refine q3C (q5P _) rfl ?_ ?_
 ·rw[q7v];have h1:2^(max (fex b) 1-1075)≤2^M:=Nat.pow_le_pow_right (by omega) (by omega);have h2:2^53*2^M<2^(64*K):=by rw[← Nat.pow_add];exact Nat.pow_lt_pow_right (by omega) (by omega)
  exact Nat.lt_of_le_of_lt (Nat.mul_le_mul (Nat.le_of_lt hm) h1) h2
 ·unfold frD;exact Nat.pow_lt_pow_right (by omega) (by omega)
end Go.Proofs.YtbfjihniphldaaaGreatDoor.EN
namespace Go.Proofs.YtbfjihniphldaaaGreatDoor
open Go.ChangeShapes Go.WideShapes Go.ChangeAt Go.RowKit
open BN
theorem Rec.f4 {w:World} {b:Nat} {x y z u:Value} (h:Rec w b [x,y,z,u]):w.cell? ⟨b,0,none⟩=some x∧w.cell? ⟨b,1,none⟩=some y∧w.cell? ⟨b,2,none⟩=some z∧w.cell? ⟨b,3,none⟩=some u∧w.frozen? ⟨b,0,none⟩=false∧w.frozen? ⟨b,1,none⟩=false∧w.frozen? ⟨b,2,none⟩=false∧w.frozen? ⟨b,3,none⟩=false:=
 ⟨h.cell 0,h.cell 1,h.cell 2,h.cell 3,h.frozen 0,h.frozen 1,h.frozen 2,h.frozen 3⟩
theorem q4W {w:World} {v:Value} {n b:Nat} {x y z u u1 u2 u3 u4:Value} (h:Num w v n) (r:Rec w b [x,y,z,u]) (hx:∀ c∈[x,y,z,u],∀ k i,c≠ .int k i):
  Num ((((w.setCell ⟨b,0,none⟩ u1).setCell ⟨b,1,none⟩ u2).setCell ⟨b,2,none⟩ u3).setCell ⟨b,3,none⟩ u4) v n:=by
 obtain⟨m,hm,hcm,hv⟩:=h;refine⟨m,?_,hcm,hv⟩;rcases Sl.cases hm with ⟨rfl,a,c,rfl⟩|⟨hne,b2,o,c,rfl,hcc,hb,hr⟩
 ·exact⟨hm.1,Or.inl ⟨rfl,a,c,rfl⟩⟩
 ·have hbb:b2≠b:=by
   intro e;subst e;have h0:=hr 0 (List.length_pos_iff.2 hne);rw[r.cell] at h0;exact hx _ (List.mem_of_getElem? h0) _ _ rfl
  refine⟨hm.1,Or.inr ⟨b2,o,c,rfl,hcc,by simpa [World.setCell] using hb,fun i hi=> ?_⟩⟩;rw[World.cell?_setCell_other _ _ _ _ (by intro e;injection e with e1;exact hbb e1.symm),World.cell?_setCell_other _ _ _ _ (by intro e;injection e with e1;exact hbb e1.symm),World.cell?_setCell_other _ _ _ _ (by intro e;injection e with e1;exact hbb e1.symm),World.cell?_setCell_other _ _ _ _ (by intro e;injection e with e1;exact hbb e1.symm)];exact hr i hi
set_option maxRecDepth 10000 in
set_option maxHeartbeats 2000000 in
theorem q2q (w:World) (bz ba oa bb ob:Nat) (sa sb:Int) (K:Nat) (hK:K≤300000) (hA2:sa.natAbs<2^(32*K)) (hB2:sb.natAbs<2^(32*K)) (hB0:sb≠0) (gX:ba<w.heap.size) (hbb:bb<w.heap.size)
  (hz:Rec w bz [.bool false,.slice none 0 0,.bool false,.slice none 0 0]) (ha:IntIs w ba oa sa) (hb:IntIs w bb ob sb):
  Calls Tryz.prog 49 #[.pointer (some ⟨bz,0,none⟩),.pointer (some ⟨ba,oa,none⟩),.pointer (some ⟨bb,ob,none⟩)] w (NormTo w bz ((sa:Rat)/(sb:Rat)).num ((sa:Rat)/(sb:Rat)).den):=by
 have hbz:=hz.lt;have mr:Hid (∀ w1 p,G w w1→NI w w1 p 0→_):=fun w1 p g h=>q5j w1 p 0 ba oa 0 sa K (by omega) hA2 h.2.1 (G.lt g gX) h.2.2 (ha.G gX g);have jT:Hid (∀ w1 p,G w w1→NI w w1 p 0→_):=fun w1 p g h=>q5j w1 p 0 bb ob 0 sb K (by omega) hB2 h.2.1 (G.lt g hbb) h.2.2 (hb.G hbb g);have HZ:Hid (Rec w bz [.bool false,.slice none 0 0,.bool false,.slice none 0 0]):=hz;have HA2:Hid (sa.natAbs<2^(32*K)):=hA2;have HB2:Hid (sb.natAbs<2^(32*K)):=hB2;have HB0:Hid (sb≠0):=hB0;obtain⟨nb,vb,b',⟨-,c2,-,-⟩,hvb,hsb,-⟩:=hb;obtain⟨m,hm,hcm,hmv⟩:=hvb;obtain⟨pb,cb,rfl,-,-⟩:=q0n hm;have hm0:m.length≠0:=by
  intro h0;rw[List.eq_nil_of_length_eq_zero h0] at hmv;have:b'=0:=hmv.symm;rw[this] at hsb;unfold sg at hsb;cases nb<;>simp at hsb<;>omega
 have jr:((m.length:Int)==0)=false:=by simp;intro h;exact hm0 (by rw[h];rfl)
 generalize m.length=j at *;clear hz ha hm hcm hmv hsb hm0 hA2 hB2 hB0;go_enter Tryz.func49,Tryz.ntmps49;go_wp2_with fail;have hn0:=NI.new (G.refl w) 38;have bK:=(G.refl w).alloc (.cells #[.bool false,.slice none 0 0] 38);refine Calls.mono (P:=Tryz.prog) (mr.out _ _ bK hn0) ?_;intro e w3 hs;obtain⟨rfl,hG3,fV,-,-⟩:=SetTo.step bK hn0 hs;clear hs hn0 bK c2;have hlt:bz<w.heap.size:=hbz;generalize hpn:w.heap.size=pn at *;go_wp2_with fail;have hn0:=NI.new hG3 38;have nz:=fV.G ((G.refl w3).alloc (.cells #[.bool false,.slice none 0 0] 38));have bK:=G.trans hG3 ((G.refl w3).alloc (.cells #[.bool false,.slice none 0 0] 38));have hne:w3.heap.size≠pn:=by have:=fV.2.1;omega
 refine Calls.mono (P:=Tryz.prog) (jT.out _ _ bK hn0) ?_;intro e w4 hs;obtain⟨rfl,hG4,hD4,-,hkp⟩:=SetTo.step bK hn0 hs;have AJ:=hkp pn sa hne.symm nz;clear hs hn0 bK hkp nz fV hG3 mr jT;generalize w3.heap.size=pd at *;have ru:=hD4.1;have Hy:=AJ.1;obtain⟨-,Hz,n1,v1,a1,⟨c1,c2,-,-⟩,hv1,h1,Ch⟩:=AJ;obtain⟨-,I1,n2,v2,a2,⟨c3,c4,-,-⟩,hv2,h2,Ci⟩:=hD4;have F8:=Rec.G HZ.out hG4;have hf:=Rec.f4 F8;have z1:=hf.1;have z2:=hf.2.1;have z3:=hf.2.2.1;have z4:=hf.2.2.2.1;have f1:=hf.2.2.2.2.1;have f2:=hf.2.2.2.2.2.1;have f3:=hf.2.2.2.2.2.2.1;have f4:=hf.2.2.2.2.2.2.2;obtain⟨q1,r1,t1,rfl⟩:=q1Z hv1;obtain⟨q2,r2,t2,rfl⟩:=q1Z hv2;simp only[Nat.zero_add] at c2 c4;have uw:¬ bz=pn:=by omega
 have hnd:¬ bz=pd:=by omega
 have I4:¬ pn=bz:=by omega
 have hnd':¬ pd=bz:=by omega
 have hci:∀ c∈[Value.bool false,.slice none 0 0,.bool false,.slice none 0 0],∀ k i,c≠ .int k i:=by
  intro c hc k i;simp at hc;rcases hc with rfl|rfl|rfl|rfl<;>(intro e;cases e)
 have oK:Hid _:=q4W (u1:= .bool n1) (u2:= .slice q1 r1 t1) (u3:= .bool n2) (u4:= .slice q2 r2 t2) hv1 F8 hci;have vv:Hid _:=q4W (u1:= .bool n1) (u2:= .slice q1 r1 t1) (u3:= .bool n2) (u4:= .slice q2 r2 t2) hv2 F8 hci;have Ot:Hid (Rec ((((w4.setCell ⟨bz,0,none⟩ (.bool n1)).setCell ⟨bz,1,none⟩ (.slice q1 r1 t1)).setCell ⟨bz,2,none⟩ (.bool n2)).setCell ⟨bz,3,none⟩ (.slice q2 r2 t2)) bz [.bool n1,.slice q1 r1 t1,.bool n2,.slice q2 r2 t2]):=(((F8.set 0 _).set 1 _).set 2 _).set 3 _;have ry:Hid (GX bz w ((((w4.setCell ⟨bz,0,none⟩ (.bool n1)).setCell ⟨bz,1,none⟩ (.slice q1 r1 t1)).setCell ⟨bz,2,none⟩ (.bool n2)).setCell ⟨bz,3,none⟩ (.slice q2 r2 t2))):=GX.set (GX.set (GX.set (GX.set (GX.of hG4) _) _) _) _;have hf2:=Rec.f4 Ot.out;have F9:Hid (IntIs ((((w4.setCell ⟨bz,0,none⟩ (.bool n1)).setCell ⟨bz,1,none⟩ (.slice q1 r1 t1)).setCell ⟨bz,2,none⟩ (.bool n2)).setCell ⟨bz,3,none⟩ (.slice q2 r2 t2)) bz 0 sa):=⟨n1,_,a1,⟨hf2.1,hf2.2.1,hf2.2.2.2.2.1,hf2.2.2.2.2.2.1⟩,oK.out,h1,Ch⟩;have xg:Hid (IntIs ((((w4.setCell ⟨bz,0,none⟩ (.bool n1)).setCell ⟨bz,1,none⟩ (.slice q1 r1 t1)).setCell ⟨bz,2,none⟩ (.bool n2)).setCell ⟨bz,3,none⟩ (.slice q2 r2 t2)) bz 2 sb):=⟨n2,_,a2,⟨hf2.2.2.1,hf2.2.2.2.1,hf2.2.2.2.2.2.2.1,hf2.2.2.2.2.2.2.2⟩,vv.out,h2,Ci⟩;have hq:=q6k (sa:=sa) HB0.out;have hlow:=q2L (by have:=HB0.out;omega) hq;have Fa:(if sb<0 then -sa else sa).natAbs=sa.natAbs:=by split<;>omega
 rw[Fa] at hlow;obtain⟨P,hP⟩:∃ P,P=((sa:Rat)/(sb:Rat)).num:=⟨_,rfl⟩;obtain⟨D,hD⟩:∃ D,D=((sa:Rat)/(sb:Rat)).den:=⟨_,rfl⟩;rw[← hP,← hD] at hlow;have HN:Hid (∀ w5,bz<w5.heap.size→IntIs w5 bz 0 sa→IntIs w5 bz 2 sb→Calls Tryz.prog 116 #[.pointer (some ⟨bz,0,none⟩)] w5 (NormTo w5 bz P D)):=by
  intro w5 k1 k2 k3;by_cases hneg:sb<0
  ·have h:=q74 w5 bz sa sb.natAbs K hK HA2.out HB2.out (by omega) k1 k2 (by rw[show -((sb.natAbs:Nat):Int)=sb from by omega];exact k3);rw[if_pos hneg] at hlow;rw[hlow.1,hlow.2];exact h
  ·obtain⟨n,va,A,ia,Gr,ea,jY⟩:=k2;obtain⟨m2,vb,B,ib,Gs,eb,Gt⟩:=k3;have hm2:m2=false:=by
    cases m2
    ·rfl
    ·have h1:=Gt rfl;unfold sg at eb;simp at eb;omega
   subst hm2;have AY:B=sb.natAbs:=by unfold sg at eb;simp at eb;omega
   have hAs:A=sa.natAbs:=q0R ea;have h:=q9w w5 bz n va vb A B K hK (by rw[hAs];exact HA2.out) (by rw[AY];exact HB2.out) (by have:=HB0.out;omega) jY k1 ⟨ia,Gr,ib,Gs⟩;rw[if_neg hneg] at hlow;rw[q7u,ea,hAs,AY,← hlow.1,← hlow.2] at h;exact h
 have hsz:bz<((((w4.setCell ⟨bz,0,none⟩ (.bool n1)).setCell ⟨bz,1,none⟩ (.slice q1 r1 t1)).setCell ⟨bz,2,none⟩ (.bool n2)).setCell ⟨bz,3,none⟩ (.slice q2 r2 t2)).heap.size:=by
  have:bz<w4.heap.size:=by omega
  simpa [World.setCell] using this
 have fZ:Hid _:=HN.out _ hsz F9.out xg.out;have Ou:Hid (P=((sa:Rat)/(sb:Rat)).num∧D=((sa:Rat)/(sb:Rat)).den):=⟨hP,hD⟩;clear Ch h1 h2 Ci hv1 hv2 HZ F8 hf hf2 hci oK vv Ot F9 xg hq hlow Fa hP hD HN;go_wp2_with fail;refine Calls.mono (P:=Tryz.prog) fZ.out ?_;intro e w6 hs;obtain⟨rfl,k1,k2⟩:=hs;have iP:Hid (RatIs w6 bz P (D:Int)):=k2;have oI:Hid (GX bz w w6):=GX.trans ry.out k1;clear k1 k2;go_wp2_with fail;go_ret;exact⟨rfl,oI.out,by rw[← Ou.out.1,← Ou.out.2];exact iP.out⟩
end Go.Proofs.YtbfjihniphldaaaGreatDoor
namespace Go.Proofs.YtbfjihniphldaaaGreatDoor.EN
open Go.ChangeShapes Go.WideShapes Go.ChangeAt Go.RowKit
/-- A new Int of the reference. -/
def NewI (w0 w:World) (v:Value) (s:Int):Prop:=∃ p,v= .pointer (some ⟨p,0,none⟩)∧w0.heap.size≤p∧p<w.heap.size∧IntIs w p 0 s
theorem NewI.G {w0 w w':World} {v:Value} {s:Int} (h:NewI w0 w v s) (g:G w w'):NewI w0 w' v s:=by
 obtain⟨p,e,h1,h2,h3⟩:=h;exact⟨p,e,h1,Nat.lt_of_lt_of_le h2 g.size,h3.G h2 g⟩
end Go.Proofs.YtbfjihniphldaaaGreatDoor.EN
namespace Go.Proofs.YtbfjihniphldaaaGreatDoor
open Go.ChangeShapes Go.WideShapes Go.ChangeAt Go.RowKit
open BN
set_option maxHeartbeats 8000000 in
theorem qb1 (w:World) (bz bx b2:Nat) (xa ya:Int) (xb yb:Nat) (KB:Nat) (hK:KB≤100000) (hx2:xa.natAbs<2^(32*KB)) (hy2:ya.natAbs<2^(32*KB)) (fP:xb<2^(32*KB)) (gF:yb<2^(32*KB)) (hxb:0<xb) (hyb:0<yb) (hya:ya≠0)
  (hbx:bx<w.heap.size) (hby:b2<w.heap.size) (hz:Rec w bz [.bool false,.slice none 0 0,.bool false,.slice none 0 0]) (hx:RatIs w bx xa xb) (hy:RatIs w b2 ya yb):
  Calls Tryz.prog 9 #[.pointer (some ⟨bz,0,none⟩),.pointer (some ⟨bx,0,none⟩),.pointer (some ⟨b2,0,none⟩)] w (NormTo w bz (((xa*yb:Int):Rat)/((xb*ya:Int):Rat)).num (((xa*yb:Int):Rat)/((xb*ya:Int):Rat)).den):=by
 have iL:Hid (xa.natAbs<2^(32*KB)):=hx2;have kJ:Hid (ya.natAbs<2^(32*KB)):=hy2;have kK:Hid ((xb:Int).natAbs<2^(32*KB)):=by show (xb:Int).natAbs<2^(32*KB);rw[Int.natAbs_natCast];exact fP
 have iM:Hid ((yb:Int).natAbs<2^(32*KB)):=by show (yb:Int).natAbs<2^(32*KB);rw[Int.natAbs_natCast];exact gF
 have HX0:Hid (IntIs w bx 0 xa):=hx.1;have qK:Hid (IntIs w b2 0 ya):=hy.1;have IP:Hid (IntIs w bx 2 xb):=hx.2;have Oq:Hid (IntIs w b2 2 yb):=hy.2;have nC:Hid (RatIs w bx xa xb):=hx;have jW:Hid (RatIs w b2 ya yb):=hy;have EY:Hid (Rec w bz [.bool false,.slice none 0 0,.bool false,.slice none 0 0]):=hz;have gG:(xb:Int)≠0:=by omega
 have dF:(yb:Int)≠0:=by omega
 have bW:Hid ((xa*yb).natAbs<2^(32*(2*KB))):=by
  show (xa*yb).natAbs<2^(32*(2*KB));rw[Int.natAbs_mul,Int.natAbs_natCast,show 32*(2*KB)=32*KB+32*KB from by omega,Nat.pow_add];exact Nat.mul_lt_mul'' hx2 gF
 have HD2:Hid (((xb:Int)*ya).natAbs<2^(32*(2*KB))):=by
  show ((xb:Int)*ya).natAbs<2^(32*(2*KB));rw[Int.natAbs_mul,Int.natAbs_natCast,show 32*(2*KB)=32*KB+32*KB from by omega,Nat.pow_add];exact Nat.mul_lt_mul'' fP hy2
 have HD0:Hid ((xb:Int)*ya≠0):=Int.mul_ne_zero gG hya;clear hx hy hz hx2 hy2 fP gF hxb hyb hya;go_enter Tryz.func9,Tryz.ntmps9;go_wp2_with fail;refine q0L 15 (G w) (by kernel_rfl) (by first|exact(G.refl _).drew|exact G.drew (by assumption)) ?_;intro bn;refine q02 0 (v:= ?_) rfl (by kernel_rfl) (fun _ _ _ h=>h) rfl ?_ ‹_› ?_;rotate_left
 ·intro wq hwq
  first|(go_simp;done)|(go_simp;with_reducible rfl)
 try simp only[aput,List.set]
 refine q02 2 (v:= ?_) rfl (by kernel_rfl) (fun _ _ _ h=>h) rfl ?_ ‹_› ?_;rotate_left
 ·intro wq hwq
  first|(go_simp;done)|(go_simp;with_reducible rfl)
 try simp only[aput,List.set]
 refine q02 3 (v:= ?_) rfl (by kernel_rfl) (fun _ _ _ h=>h) rfl ?_ ‹_› ?_;rotate_left
 ·intro wq hwq
  first|(go_simp;done)|(go_simp;with_reducible rfl)
 try simp only[aput,List.set]
 refine q02 4 (v:= ?_) rfl (by kernel_rfl) (fun _ _ _ h=>h) rfl ?_ ‹_› ?_;rotate_left
 ·intro wq hwq
  first|(go_simp;done)|(go_simp;with_reducible rfl)
 try simp only[aput,List.set]
 refine q02 5 (v:= ?_) rfl (by kernel_rfl) (fun _ _ _ h=>h) rfl ?_ ‹_› ?_;rotate_left
 ·intro wq hwq
  first|(go_simp;done)|(go_simp;with_reducible rfl)
 try simp only[aput,List.set]
 refine q02 9 (v:= ?_) rfl (by kernel_rfl) (fun _ _ _ h=>h) rfl ?_ ‹_› ?_;rotate_left
 ·intro wq hwq
  first|(go_simp;done)|(go_simp;with_reducible rfl)
 try simp only[aput,List.set]
 refine q02 11 (v:= ?_) rfl (by kernel_rfl) (fun _ _ _ h=>h) rfl ?_ ‹_› ?_;rotate_left
 ·intro wq hwq
  first|(go_simp;done)|(go_simp;with_reducible rfl)
 try simp only[aput,List.set]
 refine q02 12 (v:= ?_) rfl (by kernel_rfl) (fun _ _ _ h=>h) rfl ?_ ‹_› ?_;rotate_left
 ·intro wq hwq
  first|(go_simp;done)|(go_simp;with_reducible rfl)
 try simp only[aput,List.set]
 refine q02 13 (v:= ?_) rfl (by kernel_rfl) (fun _ _ _ h=>h) rfl ?_ ‹_› ?_;rotate_left
 ·intro wq hwq
  first|(go_simp;done)|(go_simp;with_reducible rfl)
 try simp only[aput,List.set]
 show q0F _ _ _ _ _ _ _ _ _ w.drew;have hS5:=bn;generalize w.drew=w5 at *;clear bn;apply share;intro bS;apply share;intro dJ;apply share;intro gH;apply share;intro jN;apply share;intro mW;apply share;intro mX;refine q0I (i:=1) (j:=6) (l:=8) (by kernel_rfl) rfl rfl rfl ?_ ?_ ?_
 ·skip
  intro K hK;go_simp;refine hK.out _ _ (Or.inr (hS5.alloc _)) ?_;clear hK K;have hn:=NI.new hS5 38;have hal:=(G.refl w5).alloc (.cells #[.bool false,.slice none 0 0] 38);have aM:=G.trans hS5 hal;generalize w5.heap.size=pn at *;generalize w5.alloc (.cells #[.bool false,.slice none 0 0] 38)=w6 at *;have qi:Hid (NI w w6 pn 0):=hn;clear hn hal;refine q0d (i:=6) (j:=8) (by kernel_rfl) rfl rfl ?_ ?_
  ·skip
   intro K hK;go_simp;go_wp2_with (go_at_call 51;refine q00 (q4q w6 b2 ya yb dF (jW.out.G hby aM)) ?_;rintro e w7 ⟨rfl,hg⟩);refine hK.out _ _ (Or.inr (G.trans aM hg)) ?_;clear hK K;have aC:=G.trans aM hg;have dC:Hid (NI w w7 pn 0):=qi.out.G hg;clear hg aM qi;refine q03 (l':=#[true,true,true,true,true,true,true,false,false,true,false,true,true,true,false,false,false]) (by kernel_rfl) ?_;revert dC;revert aC;revert pn;revert w7;exact mW.out
  ·skip
   intro K hK;go_simp;refine hK.out _ _ (Or.inr (aM.alloc _)) ?_;clear hK K;have hn:=NI.new aM 38;have hal:=(G.refl w6).alloc (.cells #[.bool false,.slice none 0 0] 38);have aC:=G.trans aM hal;have tZ:=qi.out.G hal;have aJ:w6.heap.size≠pn:=by have:=qi.out.2.1;omega
   generalize w6.heap.size=pd at *;generalize w6.alloc (.cells #[.bool false,.slice none 0 0] 38)=w7 at *;have jD:Hid (NI w w7 pd 0):=hn;have dC:Hid (NI w w7 pn 0):=tZ;have aA:Hid (pn≠pd):=aJ.symm;have aB:Hid (pd≠pn):=aJ;clear hn hal aM qi tZ aJ;refine q03 (l':=#[true,true,true,true,true,true,false,false,true,true,false,true,true,true,false,false,false]) (by kernel_rfl) ?_;revert aA;revert aB;revert jD;revert dC;revert aC;revert pd;revert pn;revert w7;exact jN.out
 ·skip
  intro K hK;go_simp;go_wp2_with (go_at_call 51;refine q00 (q4q w5 b2 ya yb dF (jW.out.G hby hS5)) ?_;rintro e w6 ⟨rfl,hg⟩);refine hK.out _ _ (Or.inr (G.trans hS5 hg)) ?_;clear hK K;have aM:=G.trans hS5 hg;clear hg;refine q0d (i:=1) (j:=8) (by kernel_rfl) rfl rfl ?_ ?_
  ·skip
   intro K hK;go_simp;refine hK.out _ _ (Or.inr (aM.alloc _)) ?_;clear hK K;have hn:=NI.new aM 38;have hal:=(G.refl w6).alloc (.cells #[.bool false,.slice none 0 0] 38);have aC:=G.trans aM hal;generalize w6.heap.size=pn at *;generalize w6.alloc (.cells #[.bool false,.slice none 0 0] 38)=w7 at *;have dC:Hid (NI w w7 pn 0):=hn;clear hn hal aM;refine q03 (l':=#[true,true,true,true,true,true,true,false,false,true,false,true,true,true,false,false,false]) (by kernel_rfl) ?_;revert dC;revert aC;revert pn;revert w7;exact mW.out
  ·skip
   intro K hK;go_simp;refine hK.out _ _ (Or.inr (aM.alloc _)) ?_;clear hK K;have hn:=NI.new aM 38;have hal:=(G.refl w6).alloc (.cells #[.bool false,.slice none 0 0] 38);have aC:=G.trans aM hal;generalize w6.heap.size=pd at *;generalize w6.alloc (.cells #[.bool false,.slice none 0 0] 38)=w7 at *;have jD:Hid (NI w w7 pd 0):=hn;clear hn hal aM;refine q03 (l':=#[true,false,true,true,true,true,true,false,true,true,false,true,true,true,false,false,false]) (by kernel_rfl) ?_;revert jD;revert aC;revert pd;revert w7;exact mX.out
 ·skip
  intro K hK;go_simp;refine hK.out _ _ (Or.inr (hS5.alloc _)) ?_;clear hK K;have hn:=NI.new hS5 38;have hal:=(G.refl w5).alloc (.cells #[.bool false,.slice none 0 0] 38);have aM:=G.trans hS5 hal;generalize w5.heap.size=pd at *;generalize w5.alloc (.cells #[.bool false,.slice none 0 0] 38)=w6 at *;have tX:Hid (NI w w6 pd 0):=hn;clear hn hal;refine q0d (i:=1) (j:=6) (by kernel_rfl) rfl rfl ?_ ?_
  ·skip
   intro K hK;go_simp;refine hK.out _ _ (Or.inr (aM.alloc _)) ?_;clear hK K;have hn:=NI.new aM 38;have hal:=(G.refl w6).alloc (.cells #[.bool false,.slice none 0 0] 38);have aC:=G.trans aM hal;have F7:=tX.out.G hal;have dh:w6.heap.size≠pd:=by have:=tX.out.2.1;omega
   generalize w6.heap.size=pn at *;generalize w6.alloc (.cells #[.bool false,.slice none 0 0] 38)=w7 at *;have dC:Hid (NI w w7 pn 0):=hn;have jD:Hid (NI w w7 pd 0):=F7;have aB:Hid (pd≠pn):=dh.symm;have aA:Hid (pn≠pd):=dh;clear hn hal aM tX F7 dh;refine q03 (l':=#[true,true,true,true,true,true,false,false,true,true,false,true,true,true,false,false,false]) (by kernel_rfl) ?_;revert aA;revert aB;revert jD;revert dC;revert aC;revert pd;revert pn;revert w7;exact jN.out
  ·skip
   intro K hK;go_simp;go_wp2_with (go_at_call 51;refine q00 (q4q w6 b2 ya yb dF (jW.out.G hby aM)) ?_;rintro e w7 ⟨rfl,hg⟩);refine hK.out _ _ (Or.inr (G.trans aM hg)) ?_;clear hK K;have aC:=G.trans aM hg;have jD:Hid (NI w w7 pd 0):=tX.out.G hg;clear hg aM tX;refine q03 (l':=#[true,false,true,true,true,true,true,false,true,true,false,true,true,true,false,false,false]) (by kernel_rfl) ?_;revert jD;revert aC;revert pd;revert w7;exact mX.out
 refine Later.mk ?_;intro w7 pd aC jD;refine q04 (i:=1) (by kernel_rfl) rfl ?_;intro K hK;go_simp;refine hK.out _ _ (Or.inr (aC.alloc _)) ?_;clear hK K;have hn:=NI.new aC 38;have hal:=(G.refl w7).alloc (.cells #[.bool false,.slice none 0 0] 38);have aG:=G.trans aC hal;have F7:=jD.out.G hal;have dh:w7.heap.size≠pd:=by have:=jD.out.2.1;omega
 generalize w7.heap.size=pn at *;generalize w7.alloc (.cells #[.bool false,.slice none 0 0] 38)=w8 at *;have gV:Hid (NI w w8 pn 0):=hn;have kS:Hid (NI w w8 pd 0):=F7;have aB:Hid (pd≠pn):=dh.symm;have aA:Hid (pn≠pd):=dh;clear hn hal aC jD F7 dh;refine q03 (l':=#[true,true,true,true,true,true,true,false,true,true,false,true,true,true,false,false,false]) (by kernel_rfl) ?_;revert aA;revert aB;revert kS;revert gV;revert aG;revert pd;revert pn;revert w8;exact gH.out;refine Later.mk ?_;intro w7 pn aC dC;refine q0d (i:=7) (j:=8) (by kernel_rfl) rfl rfl ?_ ?_
 ·skip
  intro K hK;go_simp;have dK:Hid _:=q1p w7 pn 0 bx 0 b2 2 0 xa yb KB (by omega) iL.out iM.out dC.out.2.1 (G.lt aC hbx) (G.lt aC hby) dC.out.2.2 (IntIs.G HX0.out hbx aC) (IntIs.G Oq.out hby aC);go_wp2_with (go_at_call 50;refine q00 dK.out ?_;intro e w8 hx;obtain⟨rfl,aG,hl,-,hkp⟩:=SetTo.step aC dC.out hx);have gV:Hid (NI w w8 pn (xa*(yb:Int))):=hl;refine hK.out _ _ (Or.inr aG) ?_;clear hK K hx hl hkp dK aC dC;refine q0d (i:=8) (j:=10) (by kernel_rfl) rfl rfl ?_ ?_
  ·skip
   intro K hK;go_simp;refine hK.out _ _ (Or.inr (aG.alloc _)) ?_;clear hK K;have hn:=NI.new aG 38;have hal:=(G.refl w8).alloc (.cells #[.bool false,.slice none 0 0] 38);have aO:=G.trans aG hal;have tZ:=gV.out.G hal;have aJ:w8.heap.size≠pn:=by have:=gV.out.2.1;omega
   generalize w8.heap.size=pd at *;generalize w8.alloc (.cells #[.bool false,.slice none 0 0] 38)=w9 at *;have lM:Hid (NI w w9 pd 0):=hn;have jP:Hid (NI w w9 pn (xa*(yb:Int))):=tZ;have aA:Hid (pn≠pd):=aJ.symm;have aB:Hid (pd≠pn):=aJ;clear hn hal aG gV tZ aJ;refine q03 (l':=#[true,true,true,true,true,true,true,true,true,true,false,true,true,true,false,false,false]) (by kernel_rfl) ?_;revert aA;revert aB;revert lM;revert jP;revert aO;revert pd;revert pn;revert w9;exact dJ.out
  ·skip
   intro K hK;go_simp;go_wp2_with (go_at_call 51;refine q00 (q4q w8 bx xa xb gG (nC.out.G hbx aG)) ?_;rintro e w9 ⟨rfl,hg⟩);refine hK.out _ _ (Or.inr (G.trans aG hg)) ?_;clear hK K;have aO:=G.trans aG hg;have jP:Hid (NI w w9 pn (xa*(yb:Int))):=gV.out.G hg;clear hg aG gV;refine q04 (i:=8) (by kernel_rfl) rfl ?_;intro K hK;go_simp;refine hK.out _ _ (Or.inr (aO.alloc _)) ?_;clear hK K;have hn:=NI.new aO 38;have hal:=(G.refl w9).alloc (.cells #[.bool false,.slice none 0 0] 38);have aF:=G.trans aO hal;have tZ:=jP.out.G hal;have aJ:w9.heap.size≠pn:=by have:=jP.out.2.1;omega
   generalize w9.heap.size=pd at *;generalize w9.alloc (.cells #[.bool false,.slice none 0 0] 38)=aR at *;have dO:Hid (NI w aR pd 0):=hn;have iV:Hid (NI w aR pn (xa*(yb:Int))):=tZ;have aA:Hid (pn≠pd):=aJ.symm;have aB:Hid (pd≠pn):=aJ;clear hn hal aO jP tZ aJ;refine q03 (l':=#[true,true,true,true,true,true,true,true,true,true,true,true,true,true,false,false,false]) (by kernel_rfl) ?_;revert aA;revert aB;revert dO;revert iV;revert aF;revert pd;revert pn;revert aR;exact bS.out
 ·skip
  intro K hK;go_simp;refine hK.out _ _ (Or.inr (aC.alloc _)) ?_;clear hK K;have hn:=NI.new aC 38;have hal:=(G.refl w7).alloc (.cells #[.bool false,.slice none 0 0] 38);have aG:=G.trans aC hal;have tZ:=dC.out.G hal;have aJ:w7.heap.size≠pn:=by have:=dC.out.2.1;omega
  generalize w7.heap.size=pd at *;generalize w7.alloc (.cells #[.bool false,.slice none 0 0] 38)=w8 at *;have kS:Hid (NI w w8 pd 0):=hn;have gV:Hid (NI w w8 pn 0):=tZ;have aA:Hid (pn≠pd):=aJ.symm;have aB:Hid (pd≠pn):=aJ;clear hn hal aC dC tZ aJ;refine q03 (l':=#[true,true,true,true,true,true,true,false,true,true,false,true,true,true,false,false,false]) (by kernel_rfl) ?_;revert aA;revert aB;revert kS;revert gV;revert aG;revert pd;revert pn;revert w8;exact gH.out
 refine Later.mk ?_;intro w7 pn pd aC dC jD aB aA;refine q04 (i:=6) (by kernel_rfl) rfl ?_;intro K hK;go_simp;go_wp2_with (go_at_call 51;refine q00 (q4q w7 b2 ya yb dF (jW.out.G hby aC)) ?_;rintro e w8 ⟨rfl,hg⟩);refine hK.out _ _ (Or.inr (G.trans aC hg)) ?_;clear hK K;have aG:=G.trans aC hg;have gV:Hid (NI w w8 pn 0):=dC.out.G hg;have kS:Hid (NI w w8 pd 0):=jD.out.G hg;clear hg aC dC jD;refine q03 (l':=#[true,true,true,true,true,true,true,false,true,true,false,true,true,true,false,false,false]) (by kernel_rfl) ?_;revert aA;revert aB;revert kS;revert gV;revert aG;revert pd;revert pn;revert w8;exact gH.out;refine Later.mk ?_;intro w8 pn pd aG gV kS aB aA;refine q04 (i:=7) (by kernel_rfl) rfl ?_;intro K hK;go_simp;have dK:Hid _:=q1p w8 pn 0 bx 0 b2 2 0 xa yb KB (by omega) iL.out iM.out gV.out.2.1 (G.lt aG hbx) (G.lt aG hby) gV.out.2.2 (IntIs.G HX0.out hbx aG) (IntIs.G Oq.out hby aG);go_wp2_with (go_at_call 50;refine q00 dK.out ?_;intro e w9 hx;obtain⟨rfl,aO,hl,-,hkp⟩:=SetTo.step aG gV.out hx);have jP:Hid (NI w w9 pn (xa*(yb:Int))):=hl;have lM:Hid (NI w w9 pd 0):=hkp pd 0 aB.out kS.out;refine hK.out _ _ (Or.inr aO) ?_;clear hK K hx hl hkp dK aG gV kS;refine q03 (l':=#[true,true,true,true,true,true,true,true,true,true,false,true,true,true,false,false,false]) (by kernel_rfl) ?_;revert aA;revert aB;revert lM;revert jP;revert aO;revert pd;revert pn;revert w9;exact dJ.out;refine Later.mk ?_;intro w9 pn pd aO jP lM aB aA;refine q04 (i:=10) (by kernel_rfl) rfl ?_;intro K hK;go_simp
 go_wp2_with (go_at_call 51;refine q00 (q4q w9 bx xa xb gG (nC.out.G hbx aO)) ?_;rintro e aR ⟨rfl,hg⟩);refine hK.out _ _ (Or.inr (G.trans aO hg)) ?_;clear hK K;have aF:=G.trans aO hg;have iV:Hid (NI w aR pn (xa*(yb:Int))):=jP.out.G hg;have dO:Hid (NI w aR pd 0):=lM.out.G hg;clear hg aO jP lM;refine q03 (l':=#[true,true,true,true,true,true,true,true,true,true,true,true,true,true,false,false,false]) (by kernel_rfl) ?_;revert aA;revert aB;revert dO;revert iV;revert aF;revert pd;revert pn;revert aR;exact bS.out;refine Later.mk ?_;intro aR pn pd aF iV dO aB aA;refine q04 (i:=14) (by kernel_rfl) rfl ?_;intro K hK;go_simp;have dK:Hid _:=q1p aR pd 0 bx 2 b2 0 0 xb ya KB (by omega) kK.out kJ.out dO.out.2.1 (G.lt aF hbx) (G.lt aF hby) dO.out.2.2 (IntIs.G IP.out hbx aF) (IntIs.G qK.out hby aF);go_wp2_with (go_at_call 50;refine q00 dK.out ?_;intro e dH hx;obtain⟨rfl,aV,hl,-,hkp⟩:=SetTo.step aF dO.out hx);have jg:Hid (NI w dH pd ((xb:Int)*ya)):=hl;have tY:Hid (NI w dH pn (xa*(yb:Int))):=hkp pn (xa*(yb:Int)) aA.out iV.out;refine hK.out _ _ (Or.inr aV) ?_;clear hK K hx hl hkp dK aF iV dO;refine q04 (i:=15) (by kernel_rfl) rfl ?_;intro K hK;go_simp;have wo:Hid _:=q2q dH bz pn 0 pd 0 (xa*yb) (xb*ya) (2*KB) (by omega) bW.out HD2.out HD0.out tY.out.2.1 jg.out.2.1 (EY.out.G aV) tY.out.2.2 jg.out.2.2;go_wp2_with (go_at_call 49;refine q00 wo.out ?_;intro e fT hx;obtain⟨rfl,k1,k2⟩:=NormTo.after aV hx);have iP:Hid _:=k2;refine hK.out _ _ (Or.inl (by decide)) ?_;clear hx k2 hK K wo
 refine q04 (i:=16) (by kernel_rfl) rfl ?_;intro K hK;go_simp;refine hK.out _ _ (Or.inl (by decide)) ?_;clear hK K;refine q0m (by kernel_rfl) ?_ _;go_wp2_with fail;go_ret;exact⟨rfl,k1,iP.out⟩
end Go.Proofs.YtbfjihniphldaaaGreatDoor
namespace Go.Proofs.YtbfjihniphldaaaGreatDoor.EN
open Go.RowKit
/-- A finite float in units. -/
def fz (b:Nat):Int:=if FT.neg b then -(FT.v (FT.rung b):Int) else FT.v (FT.rung b)
/-- So many units. -/
def Uz (z:Int):Rat:=mkRat z (2^1074)
theorem q63 {b:Nat} (h:b<2^64):FT.wrd (FT.neg b) (FT.rung b)=b:=by
 unfold FT.wrd FT.neg FT.rung;by_cases h1:b/2^63%2=1
 ·simp only[h1,beq_self_eq_true,if_true];omega
 ·have h0:b/2^63%2=0:=by omega
  simp only[h0,show ((0:Nat)==1)=false from rfl,Bool.false_eq_true,if_false];omega
theorem rung_lt (b:Nat):FT.rung b<2^63:=Nat.mod_lt _ (Nat.two_pow_pos _)
theorem q91 (b:Nat):fex b=FT.rung b/2^52:=by
 unfold fex FT.rung;omega
theorem q5o (b:Nat):fex b<2047↔FT.rung b<2047*2^52:=by
 rw[q91];have:=rung_lt b;omega
theorem q5x {b:Nat} (h:b<2^64) (hf:fex b<2047):FQ b=Uz (fz b):=by
 have h1:=(fq_v (FT.neg b) ((q5o b).1 hf)).1;rw[q63 h] at h1;exact h1
theorem q1R:0<2^1074:=by
 obtain⟨n,hn⟩:∃ n:Nat,n=1074:=⟨_,rfl⟩;rw[← hn];exact Nat.two_pow_pos _
theorem q8H (z:Int):z*(Uz z).den=(Uz z).num*((2^1074:Nat):Int):=mk_cross q1R rfl
theorem qam:Uz 0=0:=by unfold Uz;exact Rat.zero_mkRat _
theorem qaF (z:Int):(Uz z).num.sign=z.sign:=by
 have h:=q8H z;have h1:=(Uz z).den_pos;have h2:=q1R;generalize 2^1074=D at *;generalize (Uz z).den=d at *;generalize (Uz z).num=n at *;have h3:=congrArg Int.sign h;rw[Int.sign_mul,Int.sign_mul,Int.sign_eq_one_of_pos (a:=(d:Int)) (by omega),Int.sign_eq_one_of_pos (a:=(D:Int)) (by omega),Int.mul_one,Int.mul_one] at h3;exact h3.symm
theorem uz_eq_zero {z:Int}:Uz z=0↔z=0:=by
 constructor
 ·intro h;have h2:=qaF z;rw[h] at h2;exact Int.sign_eq_zero_iff_zero.1 h2.symm
 ·rintro rfl;exact qam
/-- The place of a number's nearest float, and its word. -/
def rV (q:Rat):Nat:=rdV 1 (decide (q.num<0)) q.num.natAbs q.den
def nR (q:Rat):Nat:=FT.wrd (decide (q.num<0)) (rV q)
/-- What comes of a number whose floats are taken off, so many at most. -/
inductive Fr:Nat→Rat→List Nat→Bool→Prop where
 |zero (k:Nat):Fr k 0 [] true
 |most (v:Rat):Fr 0 v [] true
 |bad (k:Nat) (v:Rat) (h0:v≠0) (hq:QB v 80) (h:fex (nR v)=2047∨FQ (nR v)=0):Fr (k+1) v [] false
 |step (k:Nat) (v:Rat) (l:List Nat) (o:Bool) (h0:v≠0) (hq:QB v 80) (h1:fex (nR v)<2047) (h2:FQ (nR v)≠0) (h:Fr k (v-FQ (nR v)) l o):Fr (k+1) v (nR v::l) o
/-- Half of the gap above a float of this exponent. -/
def hv (e:Nat):Nat:=q17 11 52 1 (((e-1:Nat):Int)-1075)
/-- Each entry is no more than half of the gap above the one ahead. -/
def Steep:List Nat→Prop
 |a::b::l=>(2≤fex a∧FT.rung b≤hv (fex a))∧Steep (b::l)
 |_=>True
theorem Steep.at:∀ {l:List Nat},Steep l→∀ i,i+1<l.length→2≤fex (l.getD i 0)∧FT.rung (l.getD (i+1) 0)≤hv (fex (l.getD i 0))
 |[],_,i,hi=>by simp at hi
 |[_],_,i,hi=>by simp at hi
 |a::b::l,h,0,_=>h.1
 |a::b::l,h,i+1,hi=>by
  have:=Steep.at (l:=b::l) h.2 i (by simpa using hi);simpa using this
/-- A list tells so many units. -/
structure Tells (z:Int) (l:List Nat):Prop where
 sum:(l.map fz).sum=z
 fin:∀ b∈l,b<2^64∧fex b<2047
 steep:Steep l
 head:∀ a m,l=a::m→FT.rung a=rV (Uz z)∧z≠0
theorem q5N (N D:Nat) (hD:0<D):q0w N D=N/D+if q27 (N%D) D=3∨(q27 (N%D) D=2∧N/D%2=1) then 1 else 0:=by
 unfold q0w q27;have hl:=Nat.mod_lt N hD;generalize N%D=R at *;generalize N/D=Q at *
 congr 1
 by_cases h0:R=0
 ·rw[if_pos h0,if_neg (by omega),if_neg (by omega)]
 ·rw[if_neg h0];by_cases h1:2*R<D
  ·rw[if_pos h1,if_neg (by omega),if_neg (by omega)]
  ·rw[if_neg h1];by_cases h2:2*R=D
   ·rw[if_pos h2];by_cases h3:Q%2=1
    ·rw[if_pos (Or.inr ⟨h2,h3⟩),if_pos (Or.inr ⟨rfl,h3⟩)]
    ·rw[if_neg (by omega),if_neg (by omega)]
   ·rw[if_neg h2,if_pos (Or.inl (by omega)),if_pos (Or.inl rfl)]
theorem qci {A B:Nat} (s:Bool) (hA:A≠0) (hB:B≠0):flV A B=rdV 1 s A B:=by
 have hlt:=(q1V hA hB).1;obtain⟨P,hP⟩:∃ P,P=q0D A B:=⟨_,rfl⟩;have hlo: -1074≤P:=by rw[hP];unfold q0D;omega
 obtain⟨b1,b2⟩:=q1D hA hB hP;have hD:0<loP B P:=Nat.mul_pos (Nat.pos_of_ne_zero hB) (Nat.two_pow_pos _);unfold rdV tV lV at *;unfold flV q1C;rw[← hP] at hlt ⊢;rw[q5N _ _ hD];by_cases hbig:971<P
 ·rw[if_pos hbig,if_pos hbig];have hQ:2^52≤upP A P/loP B P:=by
   rcases b2 with h|h
   ·omega
   ·exact(Nat.le_div_iff_mul_le hD).2 h
  have hk:2046≤(P+1074).toNat:=by omega
  have h1:2046*2^52≤(P+1074).toNat*2^52:=Nat.mul_le_mul_right _ hk;have ho:(3≠0∧onw 1 s ((2047*2^52-1)%2==1) 3=true):=⟨by omega,rfl⟩;rw[if_pos ho];refine Nat.min_eq_right ?_;refine Nat.le_trans ?_ (Nat.add_le_add h1 (Nat.le_trans hQ (Nat.le_add_right _ _)));omega
 ·rw[if_neg hbig,if_neg hbig] at *;generalize upP A P/loP B P=Q at *;generalize q27 (upP A P%loP B P) (loP B P)=L at *;have hodd:((P+1074).toNat*2^52+Q)%2=Q%2:=by omega
  have e:(L≠0∧onw 1 s (((P+1074).toNat*2^52+Q)%2==1) L=true)↔(L=3∨(L=2∧Q%2=1)):=by
   unfold onw;rw[if_pos rfl,hodd];simp only[Bool.or_eq_true,Bool.and_eq_true,beq_iff_eq];omega
  simp only[e];by_cases h:L=3∨(L=2∧Q%2=1)
  ·rw[if_pos h];omega
  ·rw[if_neg h];omega
/-- The three floats whose sum is told. -/
def l3:List Nat:=[4607182418800017408,4861130398305394688,4307583784117748259]
end Go.Proofs.YtbfjihniphldaaaGreatDoor.EN
namespace Go.Proofs.YtbfjihniphldaaaGreatDoor.EN
open Go.ChangeShapes Go.WideShapes Go.ChangeAt Go.RowKit
/-- A slice of floats. -/
def FSl (w:World) (v:Value) (l:List Nat):Prop:=
 ∃ a c,v= .slice a l.length c∧l.length≤c∧∀ i,i<l.length→∃ b o,a=some ⟨b,o,none⟩∧b<w.heap.size∧w.cell? ⟨b,o+i,none⟩=some (.float .f64 (l.getD i 0))
theorem FSl.G {w w':World} {v:Value} {l:List Nat} (h:FSl w v l) (g:G w w'):FSl w' v l:=by
 obtain⟨a,c,e,hc,h⟩:=h;refine⟨a,c,e,hc,fun i hi=> ?_⟩;obtain⟨b,o,e1,h1,h2⟩:=h i hi;exact⟨b,o,e1,Nat.lt_of_lt_of_le h1 g.size,g.cell (p:=⟨b,o+i,none⟩) h1 h2⟩
/-- A fraction that lies in three cells. -/
def QAt (w:World) (b o:Nat) (q:Rat):Prop:=∃ t a k c a' k' c',w.cell? ⟨b,o,none⟩=some (.bool t)∧w.cell? ⟨b,o+1,none⟩=some (.slice a k c)∧w.cell? ⟨b,o+2,none⟩=some (.slice a' k' c')∧QIs w (.agg #[.bool t,.slice a k c,.slice a' k' c']) q
theorem QAt.G {w w':World} {b o:Nat} {q:Rat} (h:QAt w b o q) (hb:b<w.heap.size) (g:G w w'):QAt w' b o q:=by
 obtain⟨t,a,k,c,a',k',c',h1,h2,h3,h4⟩:=h;exact⟨t,a,k,c,a',k',c',g.cell (p:=⟨b,o,none⟩) hb h1,g.cell (p:=⟨b,o+1,none⟩) hb h2,g.cell (p:=⟨b,o+2,none⟩) hb h3,h4.G g⟩
/-- A slice of fractions, told in units. -/
def NSl (w:World) (v:Value) (l:List Int):Prop:=
 ∃ a c,v= .slice a l.length c∧l.length≤c∧∀ i,i<l.length→∃ b o,a=some ⟨b,o,none⟩∧b<w.heap.size∧QAt w b (o+i*3) (Uz (l.getD i 0))
theorem NSl.G {w w':World} {v:Value} {l:List Int} (h:NSl w v l) (g:G w w'):NSl w' v l:=by
 obtain⟨a,c,e,hc,h⟩:=h;refine⟨a,c,e,hc,fun i hi=> ?_⟩;obtain⟨b,o,e1,h1,h2⟩:=h i hi;exact⟨b,o,e1,Nat.lt_of_lt_of_le h1 g.size,h2.G h1 g⟩
/-- No word of 64 bits. -/
def noU (x:Value):Prop:=∀ m,x≠ .int .u64 m
theorem qaX {x:Value} (h:q2E x):noU x:=fun m e=>by rw[e] at h;exact h
theorem q3W {w:World} {v:Value} {n b:Nat} {l:List Value} (h:Num w v n) (r:Rec w b l) (hl:∀ x∈l,noU x):∀ w':World,(∀ i k,i≠b→w'.cell? ⟨i,k,none⟩=w.cell? ⟨i,k,none⟩)→w.heap.size≤w'.heap.size→Num w' v n:=by
 intro w' hc hs;obtain⟨m,hm,hcm,hv⟩:=h;refine⟨m,?_,hcm,hv⟩;rcases Sl.cases hm with ⟨rfl,a,c,rfl⟩|⟨hne,b2,o,c,rfl,hcc,hb,hr⟩
 ·exact⟨hm.1,Or.inl ⟨rfl,a,c,rfl⟩⟩
 ·have hbb:b2≠b:=by
   intro e;subst e;have h0:=hr 0 (List.length_pos_iff.2 hne);rw[r.cell] at h0;exact hl _ (List.mem_of_getElem? h0) _ rfl
  exact⟨hm.1,Or.inr ⟨b2,o,c,rfl,hcc,by omega,fun i hi=>by rw[hc _ _ hbb];exact hr i hi⟩⟩
/-- A fraction stands where a block without words is written. -/
theorem QIs.apart {w w':World} {v:Value} {q:Rat} {b:Nat} {l:List Value} (h:QIs w v q) (r:Rec w b l) (hl:∀ x∈l,noU x)
  (hc:∀ i k,i≠b→w'.cell? ⟨i,k,none⟩=w.cell? ⟨i,k,none⟩) (hs:w.heap.size≤w'.heap.size):QIs w' v q:=by
 obtain⟨a,k,c,a',k',c',e,h1,h2⟩:=h;exact⟨a,k,c,a',k',c',e,q3W h1 r hl w' hc hs,q3W h2 r hl w' hc hs⟩
/-- Block b is fractions, told in units, and may be written. -/
def NOwn (w:World) (b:Nat) (l:List Int):Prop:=
 ∃ L:List Value,Rec w b L∧L.length=3*l.length∧(∀ x∈L,q2E x)∧
  ∀ i,i<l.length→∃ t a k c a' k' c',L[i*3]? =some (.bool t)∧L[i*3+1]? =some (.slice a k c)∧L[i*3+2]? =some (.slice a' k' c')∧QIs w (.agg #[.bool t,.slice a k c,.slice a' k' c']) (Uz (l.getD i 0))
theorem NOwn.G {w w':World} {b:Nat} {l:List Int} (h:NOwn w b l) (g:Go.Proofs.YtbfjihniphldaaaGreatDoor.G w w'):NOwn w' b l:=by
 obtain⟨L,h1,h2,h3,h4⟩:=h;refine⟨L,h1.G g,h2,h3,fun i hi=> ?_⟩;obtain⟨t,a,k,c,a',k',c',e1,e2,e3,e4⟩:=h4 i hi;exact⟨t,a,k,c,a',k',c',e1,e2,e3,e4.G g⟩
theorem NOwn.free {w:World} {b:Nat} {l:List Int} (h:NOwn w b l) (i:Nat):w.frozen? ⟨b,i,none⟩=false:=by
 obtain⟨L,h1,-⟩:=h;exact h1.frozen i
theorem NOwn.lt {w:World} {b:Nat} {l:List Int} (h:NOwn w b l):b<w.heap.size:=by
 obtain⟨L,h1,-⟩:=h;exact h1.lt
theorem NOwn.cells {w:World} {b:Nat} {l:List Int} (h:NOwn w b l) {i:Nat} (hi:i<l.length):QAt w b (i*3) (Uz (l.getD i 0)):=by
 obtain⟨L,h1,h2,h3,h4⟩:=h;obtain⟨t,a,k,c,a',k',c',e1,e2,e3,e4⟩:=h4 i hi;exact⟨t,a,k,c,a',k',c',by rw[h1.cell];exact e1,by rw[h1.cell];exact e2,by rw[h1.cell];exact e3,e4⟩
theorem NOwn.sl {w:World} {b:Nat} {l:List Int} (h:NOwn w b l) (c:Nat) (hc:l.length≤c):NSl w (.slice (some ⟨b,0,none⟩) l.length c) l:=
 ⟨_,c,rfl,hc,fun i hi=>⟨b,0,rfl,h.lt,by rw[Nat.zero_add];exact h.cells hi⟩⟩
theorem NOwn.set {w:World} {b:Nat} {l:List Int} (h:NOwn w b l) {i:Nat} (hi:i<l.length) {z:Int} {t:Bool} {a a':Option Addr} {k c k' c':Nat} (hq:QIs w (.agg #[.bool t,.slice a k c,.slice a' k' c']) (Uz z)):
  NOwn (((w.setCell ⟨b,i*3,none⟩ (.bool t)).setCell ⟨b,i*3+1,none⟩ (.slice a k c)).setCell ⟨b,i*3+2,none⟩ (.slice a' k' c')) b (l.set i z):=by
 obtain⟨L,h1,h2,h3,h4⟩:=h;have hap:∀ {v:Value} {q:Rat},QIs w v q→QIs (((w.setCell ⟨b,i*3,none⟩ (.bool t)).setCell ⟨b,i*3+1,none⟩ (.slice a k c)).setCell ⟨b,i*3+2,none⟩ (.slice a' k' c')) v q:=fun hv=>hv.apart h1 (fun x hx=>qaX (h3 x hx)) (fun j m hj=>by
  rw[World.cell?_setCell_other _ _ _ _ (by intro e;injection e with e1;exact hj e1.symm),World.cell?_setCell_other _ _ _ _ (by intro e;injection e with e1;exact hj e1.symm),World.cell?_setCell_other _ _ _ _ (by intro e;injection e with e1;exact hj e1.symm)]) (by simp [World.setCell])
 refine⟨((L.set (i*3) (.bool t)).set (i*3+1) (.slice a k c)).set (i*3+2) (.slice a' k' c'),((h1.set _ _).set _ _).set _ _,by simp only[List.length_set];exact h2,?_,?_⟩
 ·intro x hx;rcases List.mem_or_eq_of_mem_set hx with hx|rfl
  ·rcases List.mem_or_eq_of_mem_set hx with hx|rfl
   ·rcases List.mem_or_eq_of_mem_set hx with hx|rfl
    ·exact h3 x hx
    ·trivial
   ·trivial
  ·trivial
 ·intro j hj;rw[List.length_set] at hj;by_cases he:j=i
  ·subst he;refine⟨t,a,k,c,a',k',c',?_,?_,?_,?_⟩
   ·rw[List.getElem?_set_ne (by omega),List.getElem?_set_ne (by omega),List.getElem?_set_self (by omega)]
   ·rw[List.getElem?_set_ne (by omega),List.getElem?_set_self (by simp only[List.length_set];omega)]
   ·rw[List.getElem?_set_self (by simp only[List.length_set];omega)]
   ·have:(l.set j z).getD j 0=z:=by simp [List.getD_eq_getElem?_getD,hj]
    rw[this];exact hap hq
  ·obtain⟨t1,a1,k1,c1,a2,k2,c2,e1,e2,e3,e4⟩:=h4 j hj;refine⟨t1,a1,k1,c1,a2,k2,c2,?_,?_,?_,?_⟩
   ·rw[List.getElem?_set_ne (by omega),List.getElem?_set_ne (by omega),List.getElem?_set_ne (by omega)];exact e1
   ·rw[List.getElem?_set_ne (by omega),List.getElem?_set_ne (by omega),List.getElem?_set_ne (by omega)];exact e2
   ·rw[List.getElem?_set_ne (by omega),List.getElem?_set_ne (by omega),List.getElem?_set_ne (by omega)];exact e3
   ·have:(l.set i z).getD j 0=l.getD j 0:=by simp only[List.getD_eq_getElem?_getD];rw[List.getElem?_set_ne (by omega)]
    rw[this];exact hap e4
/-- Each float of a list is finite. -/
def Fin (l:List Nat):Prop:=∀ b∈l,fex b<2047
theorem q6i {l:List Nat} (h:∀ i,i<l.length→fex (l.getD i 0)<2047):Fin l:=by
 intro b hb;obtain⟨i,hi,rfl⟩:=List.mem_iff_getElem.1 hb;have:=h i hi
 rwa[List.getD_eq_getElem?_getD,List.getElem?_eq_getElem hi] at this
/-- Floats as cells. -/
def fl (l:List Nat):List Value:=l.map fun b=> .float .f64 b
/-- A slice of floats whose block is our own (from block base on). -/
def FOwn (w:World) (base:Nat) (v:Value) (l:List Nat):Prop:=
 (v= .slice none 0 0∧l=[])∨∃ g cap cur,v= .slice (some ⟨g,0,none⟩) l.length cap∧base≤g∧w.heap[g]? =some (.cells cur 22 (0,0))∧l.length≤cap∧cap≤maxLen∧cur.size=cap∧cur.toList.take l.length=fl l∧∀ x∈cur.toList,q2E x
theorem q8d {w:World} {g:Nat} {o:Obj} (h:w.heap[g]? =some o):g<w.heap.size:=(Array.getElem?_eq_some_iff.1 h).1
theorem FOwn.G {w w':World} {base:Nat} {v:Value} {l:List Nat} (h:FOwn w base v l) (g:Go.Proofs.YtbfjihniphldaaaGreatDoor.G w w'):FOwn w' base v l:=by
 rcases h with h|⟨b,cap,cur,e,h1,h2,h3⟩
 ·exact Or.inl h
 ·refine Or.inr ⟨b,cap,cur,e,h1,?_,h3⟩;obtain⟨-,-,-,-,g5⟩:=g;exact(g5 b (q8d h2)).trans h2
theorem FOwn.set {w:World} {base b i x n cap:Nat} {l:List Nat} (h:FOwn w base (.slice (some ⟨b,0,none⟩) n cap) l):FOwn (w.setCell ⟨b,i,none⟩ (.float .f64 x)) base (.slice (some ⟨b,0,none⟩) n cap) (l.set i x):=by
 rcases h with ⟨e,-⟩|⟨b',cap',cur,e,h1,h2,h3,h4,h5,h6,h7⟩
 ·cases e
 ·injection e with e1 e2 e3;injection e1 with e1;injection e1 with e1;subst e1;subst e3;refine Or.inr ⟨b,cap,cur.setIfInBounds i (.float .f64 x),by rw[List.length_set,e2],h1,?_,by rw[List.length_set];exact h3,h4,by simpa using h5,?_,?_⟩
  ·simp only[World.setCell,Array.getElem?_modify,if_true,h2,Option.map_some];simp
  ·rw[Array.toList_setIfInBounds,List.length_set];rw[List.take_set,h6];unfold fl;rw[List.map_set]
  ·intro u hu;rw[Array.toList_setIfInBounds] at hu;rcases List.mem_or_eq_of_mem_set hu with hu|rfl
   ·exact h7 u hu
   ·trivial
theorem FOwn.own {w:World} {base:Nat} {v:Value} {l:List Nat} (h:FOwn w base v l) {b:Nat} (hb:b<base∨w.heap.size≤b):v.ownBlock≠some b:=by
 rcases h with ⟨rfl,-⟩|⟨g,cap,cur,rfl,h1,h2,-⟩
 ·intro e;cases e
 ·intro e;have e1:g=b:=Option.some.inj e;have:=q8d h2;omega
theorem FOwn.oth {w w':World} {base:Nat} {v:Value} {l:List Nat} (h:FOwn w base v l) {b:Nat} (hb:v.ownBlock≠some b) (hw:∀ k,k≠b→w'.heap[k]? =w.heap[k]?):FOwn w' base v l:=by
 rcases h with h|⟨g,cap,cur,rfl,h1,h2,h3⟩
 ·exact Or.inl h
 ·exact Or.inr ⟨g,cap,cur,rfl,h1,by rw[hw g (by intro e;exact hb (by rw[← e];rfl))];exact h2,h3⟩
/-- What appending to a slice of our own leaves standing. -/
structure Onto (base:Nat) (v:Value) (w w':World):Prop where
 q:∀ (u:Value) (x:Rat),QIs w u x→QIs w' u x
 r:∀ (b:Nat) (L:List Value),Rec w b L→v.ownBlock≠some b→Rec w' b L
 g:∀ w0:World,w0.heap.size≤base→G w0 w→G w0 w'
end Go.Proofs.YtbfjihniphldaaaGreatDoor.EN
namespace Go.Proofs.YtbfjihniphldaaaGreatDoor.EN
open Go.RowKit
/-- Two entries change places. -/
def swap (l:List Nat) (p q:Nat):List Nat:=(l.set p (l.getD q 0)).set q (l.getD p 0)
/-- 1 for what is no number or infinite. -/
def bad (b:Nat):Int:=if fex b<2047 then 0 else 1
end Go.Proofs.YtbfjihniphldaaaGreatDoor.EN
namespace Go.Proofs.YtbfjihniphldaaaGreatDoor
theorem Rec.new6 (w:World) (a b c d e f:Value) (t:TypeId):Rec (w.alloc (.cells #[a,b,c,d,e,f] t)) w.heap.size [a,b,c,d,e,f]:=Rec.new w [a,b,c,d,e,f] t
end Go.Proofs.YtbfjihniphldaaaGreatDoor
namespace Go.Proofs.YtbfjihniphldaaaGreatDoor.EN
open Go.ChangeShapes Go.WideShapes Go.ChangeAt Go.RowKit
/-- A step's two parts. -/
def StepIs (w:World) (v:Value) (p q:Rat):Prop:=∃ t a k c a' k' c' t2 b j d b' j' d',v= .agg #[.bool t,.slice a k c,.slice a' k' c',.bool t2,.slice b j d,.slice b' j' d']∧QIs w (.agg #[.bool t,.slice a k c,.slice a' k' c']) p∧QIs w (.agg #[.bool t2,.slice b j d,.slice b' j' d']) q
theorem StepIs.G {w w':World} {v:Value} {p q:Rat} (h:StepIs w v p q) (g:Go.Proofs.YtbfjihniphldaaaGreatDoor.G w w'):StepIs w' v p q:=by
 obtain⟨t,a,k,c,a',k',c',t2,b,j,d,b',j',d',e,h1,h2⟩:=h;exact⟨t,a,k,c,a',k',c',t2,b,j,d,b',j',d',e,h1.G g,h2.G g⟩
/-- At block p lies the reference's ratio of a fraction. -/
def RIs (w:World) (p:Nat) (q:Rat):Prop:=RatIs w p q.num (q.den:Int)
theorem RIs.G {w w':World} {p:Nat} {q:Rat} (h:RIs w p q) (hp:p<w.heap.size) (g:G w w'):RIs w' p q:=RatIs.G h hp g
/-- A call hands back a new ratio. -/
def RetRat (w:World) (q:Rat) (e:Ending) (w':World):Prop:=∃ p,e= .returned (.pointer (some ⟨p,0,none⟩))∧G w w'∧w.heap.size≤p∧p<w'.heap.size∧RIs w' p q
/-- A call sets a ratio. -/
def SetRat (w:World) (b:Nat) (q:Rat) (e:Ending) (w':World):Prop:=e= .returned (.pointer (some ⟨b,0,none⟩))∧GX b w w'∧RIs w' b q
theorem SetRat.ret {w0 w:World} {b:Nat} {q:Rat} {e:Ending} {w':World} (g:G w0 w) (hb:w0.heap.size≤b) (hs:b<w.heap.size) (h:SetRat w b q e w'):RetRat w0 q e w':=
 ⟨b,h.1,GX.fresh g h.2.1 hb,hb,Nat.lt_of_lt_of_le hs h.2.1.size,h.2.2⟩
theorem qbH (w:World) (b:Nat) (h:b<2^64) (hf:fex b<2047):Calls Tryz.prog 10 #[.float .f64 b] w (RetRat w (Uz (fz b))):=by
 have hq:FQ b=Uz (fz b):=q5x h hf;obtain⟨e1,e2⟩:=q2L (q5P (fex b)) (q:=FQ b) rfl;refine(qb9 w b (fex b) (b%2^52) (fmag b) h rfl rfl hf rfl).mono ?_;rintro e w' ⟨p,rfl,g,k1,k2,k3⟩;refine⟨p,rfl,g,k1,k2,?_⟩;rw[← hq];unfold RIs;rw[e1,e2];exact k3
theorem qb32 {q:Rat} {K:Nat} (h:QB q K):q.num.natAbs<2^(32*(2*K))∧q.den<2^(32*(2*K)):=by
 have e:32*(2*K)=64*K:=by omega
 rw[e];exact h
/-- The same, or a new ratio, which stands for 0. -/
def RV (w:World) (p:Nat) (q:Rat):Prop:=RIs w p q∨(q=0∧RatIs w p 0 0)
theorem RV.G {w w':World} {p:Nat} {q:Rat} (h:RV w p q) (hp:p<w.heap.size) (g:G w w'):RV w' p q:=by
 rcases h with h|⟨h1,h⟩
 ·exact Or.inl (h.G hp g)
 ·exact Or.inr ⟨h1,RatIs.G h hp g⟩
theorem RV.v {w:World} {p:Nat} {q:Rat} (h:RV w p q):RatV w p q.num q.den:=by
 rcases h with h|⟨rfl,h⟩
 ·exact Or.inl h
 ·exact Or.inr ⟨rfl,rfl,h⟩
theorem qc7 (w:World) (bz bx b2:Nat) (s1 s2:Int) (x y:Rat) (K:Nat) (hK:K≤40000) (qx:QB x K) (qy:QB y K)
  (hbz:bz<w.heap.size) (hbx:bx<w.heap.size) (hby:b2<w.heap.size) (hz:RatIs w bz s1 s2) (hx:RV w bx x) (hy:RV w b2 y):
  Calls Tryz.prog 12 #[.pointer (some ⟨bz,0,none⟩),.pointer (some ⟨bx,0,none⟩),.pointer (some ⟨b2,0,none⟩)] w (SetRat w bz (x+y)):=by
 obtain⟨e1,e2⟩:=q2L (Nat.mul_pos x.den_pos y.den_pos) (q:=x+y) (Rat.add_def' x y);refine(qbL w bz bx b2 s1 s2 x.num y.num x.den y.den (2*K) (by omega) (qb32 qx).1 (qb32 qy).1 (qb32 qx).2 (qb32 qy).2 x.den_pos y.den_pos hbz hbx hby hz hx.v hy.v).mono ?_;rintro e w' ⟨k1,k2,k3⟩;refine⟨k1,k2,?_⟩;unfold RIs;rw[e1,e2];exact k3
theorem q9A (w:World) (bz bx b2:Nat) (s1 s2:Int) (x y:Rat) (K:Nat) (hK:K≤40000) (qx:QB x K) (qy:QB y K)
  (hbz:bz<w.heap.size) (hbx:bx<w.heap.size) (hby:b2<w.heap.size) (hz:RatIs w bz s1 s2) (hx:RIs w bx x) (hy:RIs w b2 y):
  Calls Tryz.prog 12 #[.pointer (some ⟨bz,0,none⟩),.pointer (some ⟨bx,0,none⟩),.pointer (some ⟨b2,0,none⟩)] w (SetRat w bz (x+y)):=
 qc7 w bz bx b2 s1 s2 x y K hK qx qy hbz hbx hby hz (Or.inl hx) (Or.inl hy)
theorem qcb (w:World) (bz bx b2:Nat) (s1 s2:Int) (x y:Rat) (K:Nat) (hK:K≤40000) (qx:QB x K) (qy:QB y K)
  (hbz:bz<w.heap.size) (hbx:bx<w.heap.size) (hby:b2<w.heap.size) (hz:RatIs w bz s1 s2) (hx:RV w bx x) (hy:RV w b2 y):
  Calls Tryz.prog 14 #[.pointer (some ⟨bz,0,none⟩),.pointer (some ⟨bx,0,none⟩),.pointer (some ⟨b2,0,none⟩)] w (SetRat w bz (x*y)):=by
 obtain⟨e1,e2⟩:=q2L (Nat.mul_pos x.den_pos y.den_pos) (q:=x*y) (Rat.mul_def' x y);refine(qcc w bz bx b2 s1 s2 x.num y.num x.den y.den (2*K) (by omega) (qb32 qx).1 (qb32 qy).1 (qb32 qx).2 (qb32 qy).2 x.den_pos y.den_pos hbz hbx hby hz hx.v hy.v).mono ?_;rintro e w' ⟨k1,k2,k3⟩;refine⟨k1,k2,?_⟩;unfold RIs;rw[e1,e2];exact k3
theorem q82 (w:World) (bz bx b2:Nat) (s1 s2:Int) (x y:Rat) (K:Nat) (hK:K≤40000) (qx:QB x K) (qy:QB y K)
  (hbz:bz<w.heap.size) (hbx:bx<w.heap.size) (hby:b2<w.heap.size) (hz:RatIs w bz s1 s2) (hx:RIs w bx x) (hy:RIs w b2 y):
  Calls Tryz.prog 14 #[.pointer (some ⟨bz,0,none⟩),.pointer (some ⟨bx,0,none⟩),.pointer (some ⟨b2,0,none⟩)] w (SetRat w bz (x*y)):=
 qcb w bz bx b2 s1 s2 x y K hK qx qy hbz hbx hby hz (Or.inl hx) (Or.inl hy)
theorem qbs (w:World) (bx b2:Nat) (x y:Rat) (K:Nat) (hK:K≤40000) (qx:QB x K) (qy:QB y K)
  (hbx:bx<w.heap.size) (hby:b2<w.heap.size) (hx:RV w bx x) (hy:RV w b2 y):
  Calls Tryz.prog 65 #[.pointer (some ⟨bx,0,none⟩),.pointer (some ⟨b2,0,none⟩)] w fun e w'=>e= .returned (.int .i64 (x.num*y.den-y.num*x.den).sign)∧G w w':=by
 have hfin:∀ (e:Ending) (w':World),(e= .returned (.int .i64 (cmpI (x.num*(y.den:Int)) (y.num*(x.den:Int))))∧G w w')→(e= .returned (.int .i64 (x.num*y.den-y.num*x.den).sign)∧G w w'):=by
  rintro e w' ⟨rfl,g⟩;exact⟨by rw[q5q],g⟩
 exact Calls.mono (P:=Tryz.prog) (qbb w bx b2 x.num y.num x.den y.den (2*K) (by omega) (qb32 qx).1 (qb32 qy).1 (qb32 qx).2 (qb32 qy).2 x.den_pos y.den_pos hbx hby hx.v hy.v) hfin
theorem q2n (w:World) (b:Nat) (h:b<2^64):Calls Tryz.prog 6 #[.float .f64 b] w fun e w'=>e= .returned (.bool (decide (fex b<2047)))∧G w w':=by
 have e:decide (fex b<2047)=decide (FT.rung b<FT.infR):=by
  have:=q5o b;exact decide_eq_decide.2 this
 rw[e];exact q8V b w h
theorem q7t (w:World) (t:TypeId):Rec (w.alloc (.cells #[.bool false,.slice none 0 0,.bool false,.slice none 0 0] t)) w.heap.size [.bool false,.slice none 0 0,.bool false,.slice none 0 0]:=Rec.new w [.bool false,.slice none 0 0,.bool false,.slice none 0 0] t
theorem qaH (x y:Rat):((x.num*y.den:Int):Rat)/((x.den*y.num:Int):Rat)=x/y:=by
 have h1:x=Rat.divInt x.num x.den:=(Rat.num_divInt_den x).symm;have h2:y=Rat.divInt y.num y.den:=(Rat.num_divInt_den y).symm;have h3:x/y=Rat.divInt x.num x.den*(Rat.divInt y.num y.den)⁻¹ :=by rw[← h1,← h2,Rat.div_def]
 rw[h3,Rat.inv_divInt,Rat.divInt_mul_divInt,Rat.divInt_eq_div]
/-- The reference's quotient of two ratios, to a new one. -/
theorem qbm (w:World) (bz bx b2:Nat) (x y:Rat) (K:Nat) (hK:K≤40000) (qx:QB x K) (qy:QB y K) (h0:y≠0)
  (_:bz<w.heap.size) (hbx:bx<w.heap.size) (hby:b2<w.heap.size) (hz:Rec w bz [.bool false,.slice none 0 0,.bool false,.slice none 0 0]) (hx:RIs w bx x) (hy:RIs w b2 y):
  Calls Tryz.prog 9 #[.pointer (some ⟨bz,0,none⟩),.pointer (some ⟨bx,0,none⟩),.pointer (some ⟨b2,0,none⟩)] w (SetRat w bz (x/y)):=by
 have hn:y.num≠0:=fun h=>h0 (Rat.num_eq_zero.1 h);have hq:=qb1 w bz bx b2 x.num y.num x.den y.den (2*K) (by omega) (qb32 qx).1 (qb32 qy).1 (qb32 qx).2 (qb32 qy).2 x.den_pos y.den_pos hn hbx hby hz hx hy;rw[qaH] at hq;refine Calls.mono (P:=Tryz.prog) hq ?_;rintro e w' ⟨k1,k2,k3⟩;exact⟨k1,k2,k3⟩
/-- A number's float in a mode. -/
def flW (m:Int) (q:Rat):Nat:=if q=0 then 0 else FT.wrd (decide (q.num<0)) (rdV m (decide (q.num<0)) q.num.natAbs q.den)
/-- A call hands back a sum's float, or what is at fault. -/
def q9L (w:World) (l:List Nat) (m:Int) (e:Ending) (w':World):Prop:=∃ (b:Nat) (c a:Int),e= .returned (.tuple #[.float .f64 b,.agg #[.int .i64 c,.int .i64 a]])∧G w w'∧
 ((Fin l∧b=flW m (Uz (l.map fz).sum)∧c=0∧a=0)∨(∃ i:Nat,b=0∧c=4∧a=i∧i<l.length∧fex (l.getD i 0)=2047∧∀ j,j<i→fex (l.getD j 0)<2047))
/-- A store of a float. -/
theorem q1W (P:Program) (w:World) (a:Addr) (m:Mode) (k:FloatKind) (n:Nat):(store a (.float k n) m).run P w=stored P w a (.float k n) m:=run_store P w a _ m rfl
attribute [local go_sem] q1W
end Go.Proofs.YtbfjihniphldaaaGreatDoor.EN
namespace Go.Proofs.YtbfjihniphldaaaGreatDoor.EN
open Go.ChangeShapes Go.WideShapes Go.ChangeAt Go.RowKit
attribute [local go_sem] q1W
/-- A slice of points. -/
def PSl (w:World) (v:Value) (l:List (Nat×Nat)):Prop:=
 ∃ a c,v= .slice a l.length c∧l.length≤c∧∀ i,i<l.length→∃ b o,a=some ⟨b,o,none⟩∧b<w.heap.size∧w.cell? ⟨b,o+i*2,none⟩=some (.float .f64 (l.getD i (0,0)).1)∧w.cell? ⟨b,o+i*2+1,none⟩=some (.float .f64 (l.getD i (0,0)).2)
theorem PSl.G {w w':World} {v:Value} {l:List (Nat×Nat)} (h:PSl w v l) (g:G w w'):PSl w' v l:=by
 obtain⟨a,c,e,hc,h⟩:=h;refine⟨a,c,e,hc,fun i hi=> ?_⟩;obtain⟨b,o,e1,h1,h2,h3⟩:=h i hi;exact⟨b,o,e1,Nat.lt_of_lt_of_le h1 g.size,g.cell (p:=⟨b,o+i*2,none⟩) h1 h2,g.cell (p:=⟨b,o+i*2+1,none⟩) h1 h3⟩
end Go.Proofs.YtbfjihniphldaaaGreatDoor.EN
namespace Go.Proofs.YtbfjihniphldaaaGreatDoor.EN
open Go.ChangeShapes Go.WideShapes Go.ChangeAt Go.RowKit
/-- A step that lies in a block of its own. -/
def StepAt (w:World) (b:Nat) (p q:Rat):Prop:=∃ t a k c a' k' c' t2 b1 j d b' j' d',Rec w b [.bool t,.slice a k c,.slice a' k' c',.bool t2,.slice b1 j d,.slice b' j' d']∧StepIs w (.agg #[.bool t,.slice a k c,.slice a' k' c',.bool t2,.slice b1 j d,.slice b' j' d']) p q
theorem StepAt.G {w w':World} {b:Nat} {p q:Rat} (h:StepAt w b p q) (g:Go.Proofs.YtbfjihniphldaaaGreatDoor.G w w'):StepAt w' b p q:=by
 obtain⟨t,a,k,c,a',k',c',t2,b1,j,d,b',j',d',h1,h2⟩:=h;exact⟨t,a,k,c,a',k',c',t2,b1,j,d,b',j',d',Rec.G h1 g,h2.G g⟩
attribute [local go_sem] q1W
theorem q3Y (w:World) (b:Nat):Calls Tryz.prog 17 #[.float .f64 b,.float .f64 b] w fun e w'=>e= .returned (.bool true)∧G w w':=by
 have htb:=fun w=>q0q b w;go_enter Tryz.func17,Tryz.ntmps17;go_wp2_with fail;go_ret;exact⟨rfl,G.refl _⟩
end Go.Proofs.YtbfjihniphldaaaGreatDoor.EN
