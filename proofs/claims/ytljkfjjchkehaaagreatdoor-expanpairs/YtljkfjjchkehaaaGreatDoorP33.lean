/- What is proved here: how a fraction is cut to a float, its arithmetic (no program).
What is proved here: contracts of package exact: quotient, over this seat's translation.
What is proved here: contracts of package exact: rounding, over this seat's translation.
What is proved here: contracts of package exact: Float, over this seat's translation.
What is proved here: contracts of package exact: Of, over this seat's translation.
What is proved here: the float at or below a ratio, by its size; floats around a ratio, over this seat's translation.
What is proved here: the four floats around a ratio: what the law asks of them, over this seat's translation.
What is proved here: lowest terms and bounds of fractions (no program), over this seat's translation.
What is proved here: contracts of the reference's ratios: SetFrac of a new ratio, whatever sign the lower part has, over this seat's translation.
What is proved here: contracts of the reference's ratios: Quo of Rat (to a new one, by one of any sign but 0), over this seat's translation.
What is proved here: sums of floats in units of 2 to the power of -1074; how near the nearest float is, over this seat's translation (no program).
What is proved here: the list of a sum: what is taken off it, float by float (no program), over this seat's translation.
What is proved here: the reference's nearest float is package exact's (no program), over this seat's translation.
What is proved here: the numbers of the closed fact on sums told by several floats (no program), over this seat's translation.
What is proved here: slices of floats and of fractions in memory, over this seat's translation (no program).
What is proved here: contracts of package expan: read, over this seat's translation.
What is proved here: a slice of floats of our own that grows, over this seat's translation (no program). -/
import Derived.Test.YtljkfjjchkehaaaGreatDoorP31
import Derived.Test.YtljkfjjchkehaaaGreatDoorP25
import Derived.Test.YtljkfjjchkehaaaGreatDoorP32
import Derived.Test.YtljkfjjchkehaaaGreatDoorP10
import Derived.Test.YtljkfjjchkehaaaGreatDoorP10
import Derived.Test.YtljkfjjchkehaaaGreatDoorP22
import Derived.Test.YtljkfjjchkehaaaGreatDoorP21
import Derived.Test.YtljkfjjchkehaaaGreatDoorP13
import Derived.Test.YtljkfjjchkehaaaGreatDoorP24
namespace Go.Proofs.YtljkfjjchkehaaaGreatDoor.EN
open Go.RowKit
/-- What is left behind a step: nothing, less than half of it, half, more. -/
def q1x (R D:Nat):Nat:=if R=0 then 0 else if 2*R<D then 1 else if 2*R=D then 2 else 3
/-- The float at or below A / B (its place among the floats from 0 on), and what is left. -/
def tV (A B:Nat):Nat:=if 971<q0M A B then 2047*2^52-1 else (q0M A B+1074).toNat*2^52+upP A (q0M A B)/loP B (q0M A B)
def lV (A B:Nat):Nat:=if 971<q0M A B then 3 else q1x (upP A (q0M A B)%loP B (q0M A B)) (loP B (q0M A B))
theorem q4G {N D N' D':Nat} (hD:0<D) (hD':0<D') (h:N*D'=N'*D):N/D=N'/D':=by
 rw[← Nat.mul_div_mul_right N D hD',h,Nat.mul_comm D D',Nat.mul_div_mul_right _ _ hD]
theorem q5f {N D N' D':Nat} (hD:0<D) (hD':0<D') (h:N*D'=N'*D):q1x (N%D) D=q1x (N'%D') D':=by
 have hq:=q4G hD hD' h
 have e1:=Nat.div_add_mod N D
 have e2:=Nat.div_add_mod N' D'
 rw[← hq] at e2
 have key:N%D*D'=N'%D'*D:=by
  have h1:(D*(N/D)+N%D)*D'=(D'*(N/D)+N'%D')*D:=by rw[e1,e2];exact h
  rw[Nat.add_mul,Nat.add_mul,show D*(N/D)*D'=D'*(N/D)*D from by ac_rfl] at h1
  exact Nat.add_left_cancel h1
 generalize N%D=R at *
 generalize N'%D'=R' at *
 have k0:R=0↔R'=0:=by
  constructor
  ·rintro rfl
   rw[Nat.zero_mul] at key
   exact(Nat.mul_eq_zero.1 key.symm).resolve_right (by omega)
  ·rintro rfl
   rw[Nat.zero_mul] at key
   exact(Nat.mul_eq_zero.1 key).resolve_right (by omega)
 have k1:2*R<D↔2*R'<D':=by
  have a1:2*R*D'=2*R'*D:=by rw[Nat.mul_assoc,key,Nat.mul_assoc]
  constructor
  ·intro h
   have h2:2*R*D'<D*D':=Nat.mul_lt_mul_of_pos_right h hD'
   rw[a1,Nat.mul_comm D D'] at h2
   exact Nat.lt_of_mul_lt_mul_right h2
  ·intro h
   have h2:2*R'*D<D'*D:=Nat.mul_lt_mul_of_pos_right h hD
   rw[← a1,Nat.mul_comm D' D] at h2
   exact Nat.lt_of_mul_lt_mul_right h2
 have k2:2*R=D↔2*R'=D':=by
  have a1:2*R*D'=2*R'*D:=by rw[Nat.mul_assoc,key,Nat.mul_assoc]
  constructor
  ·intro h
   rw[h,Nat.mul_comm D D'] at a1
   exact(Nat.eq_of_mul_eq_mul_right hD a1).symm
  ·intro h
   rw[h,Nat.mul_comm D' D] at a1
   exact Nat.eq_of_mul_eq_mul_right hD' a1
 unfold q1x
 simp only[k0,k1,k2]
theorem q5R (X D n:Nat) (hD:0<D) (hn:1≤n):q1x (X%(D*2^n)) (D*2^n)=
  if X/D%2^n=0∧X%D=0 then 0 else if X/D%2^n<2^(n-1) then 1 else if X/D%2^n=2^(n-1)∧X%D=0 then 2 else 3:=by
 rw[Nat.mod_mul]
 have hR:=Nat.mod_lt X hD
 generalize X%D=R at *
 generalize X/D%2^n=b at *
 have e:2^n=2*2^(n-1):=by
  obtain⟨k,rfl⟩:∃ k,n=k+1:=⟨n-1,by omega⟩
  simp [Nat.pow_succ,Nat.mul_comm]
 rw[e]
 generalize 2^(n-1)=m at *
 unfold q1x
 have e1:D*(2*m)=2*(D*m):=by ac_rfl
 rw[e1]
 have h0:R+D*b=0↔b=0∧R=0:=by
  constructor
  ·intro h
   have h1:D*b=0:=by omega
   exact⟨(Nat.mul_eq_zero.1 h1).resolve_left (by omega),by omega⟩
  ·rintro⟨rfl,rfl⟩;simp
 have h1:2*(R+D*b)<2*(D*m)↔b<m:=by
  constructor
  ·intro h
   have h2:D*b<D*m:=by omega
   exact Nat.lt_of_mul_lt_mul_left h2
  ·intro h
   have h2:D*(b+1)≤D*m:=Nat.mul_le_mul_left _ h
   rw[Nat.mul_add,Nat.mul_one] at h2
   omega
 have h2:2*(R+D*b)=2*(D*m)↔b=m∧R=0:=by
  constructor
  ·intro h
   have h3:R+D*b=D*m:=by omega
   have h4:b=m:=by
    rcases Nat.lt_trichotomy b m with h5|h5|h5
    ·have:D*(b+1)≤D*m:=Nat.mul_le_mul_left _ h5
     rw[Nat.mul_add,Nat.mul_one] at this
     omega
    ·exact h5
    ·have:D*(m+1)≤D*b:=Nat.mul_le_mul_left _ h5
     rw[Nat.mul_add,Nat.mul_one] at this
     omega
   subst h4
   exact⟨rfl,by omega⟩
  ·rintro⟨rfl,rfl⟩;omega
 simp only[h0,h1,h2]
theorem q5g (a:Nat):EN.blen a=Go.Proofs.YtljkfjjchkehaaaGreatDoor.blen a:=rfl
theorem q38 {a:Nat} (h:a≠0):2^(EN.blen a-1)≤a∧a<2^EN.blen a∧1≤EN.blen a:=by
 unfold EN.blen
 rw[if_neg h]
 exact⟨Nat.log2_self_le h,Nat.lt_log2_self,by omega⟩
/-- The front of A / B: its first 62 or 63 digits in twos. -/
theorem q2U {A B:Nat} {e:Int} (hA:A≠0) (hB:B≠0) (he:e=(EN.blen A:Int)-EN.blen B-62):
  2^61≤upP A e/loP B e∧upP A e/loP B e<2^63∧expo A B=e+EN.blen (upP A e/loP B e)-1:=by
 obtain⟨a1,a2,a3⟩:=q38 hA
 obtain⟨b1,b2,b3⟩:=q38 hB
 have hD:0<loP B e:=by unfold loP;exact Nat.mul_pos (by omega) (Nat.two_pow_pos _)
 obtain⟨K,hK⟩:∃ K:Nat,-(K:Int)≤e∧ -(K:Int)≤expo A B∧EN.blen B+200≤K:=⟨(-e).toNat+(-(expo A B)).toNat+EN.blen B+200,by omega,by omega,by omega⟩
 obtain⟨hK1,hK2,hK3⟩:=hK
 have g1:2^61*B*2^e.toNat≤A*2^(-e).toNat:=by
  rw[q39 K hK1]
  have h1:2^61*B*2^((K:Int)+e).toNat≤2^61*2^EN.blen B*2^((K:Int)+e).toNat:=Nat.mul_le_mul_right _ (Nat.mul_le_mul_left _ (by omega))
  have h2:2^(EN.blen A-1)*2^K≤A*2^K:=Nat.mul_le_mul_right _ a1
  rw[← Nat.pow_add,← Nat.pow_add,show 61+EN.blen B+((K:Int)+e).toNat=EN.blen A-1+K from by omega,Nat.pow_add] at h1
  omega
 have g2:A*2^(-e).toNat<2^63*B*2^e.toNat:=by
  rw[q36 K hK1]
  have h1:2^63*2^(EN.blen B-1)*2^((K:Int)+e).toNat≤2^63*B*2^((K:Int)+e).toNat:=Nat.mul_le_mul_right _ (Nat.mul_le_mul_left _ b1)
  have h2:A*2^K<2^EN.blen A*2^K:=Nat.mul_lt_mul_of_pos_right a2 (Nat.two_pow_pos _)
  rw[← Nat.pow_add,← Nat.pow_add,show 63+(EN.blen B-1)+((K:Int)+e).toNat=EN.blen A+K from by omega,Nat.pow_add] at h1
  omega
 have q1:2^61≤upP A e/loP B e:=(Nat.le_div_iff_mul_le hD).2 (by unfold upP loP;rw[← Nat.mul_assoc];exact g1)
 have q2:upP A e/loP B e<2^63:=(Nat.div_lt_iff_lt_mul hD).2 (by unfold upP loP;rw[← Nat.mul_assoc];exact g2)
 refine⟨q1,q2,?_⟩
 have hq0:upP A e/loP B e≠0:=by omega
 obtain⟨l1,l2,l3⟩:=q38 hq0
 have f1:2^(EN.blen (upP A e/loP B e)-1)*loP B e≤upP A e:=(Nat.le_div_iff_mul_le hD).1 l1
 have f2:upP A e<2^EN.blen (upP A e/loP B e)*loP B e:=(Nat.div_lt_iff_lt_mul hD).1 l2
 generalize EN.blen (upP A e/loP B e)=L at *
 unfold upP loP at f1 f2
 rw[← Nat.mul_assoc,q39 K hK1] at f1
 rw[← Nat.mul_assoc,q36 K hK1] at f2
 have x1:=q2E hA hB K hK2
 have x2:=q42 hA hB K hK2
 have y1:B*2^((K:Int)+expo A B).toNat<B*2^(L+((K:Int)+e).toNat):=by
  rw[Nat.pow_add,← Nat.mul_assoc,Nat.mul_comm B (2^L)];omega
 have y2:B*2^(L-1+((K:Int)+e).toNat)<B*2^((K:Int)+(expo A B+1)).toNat:=by
  rw[Nat.pow_add,← Nat.mul_assoc,Nat.mul_comm B (2^(L-1))];omega
 have z1:=q1I (Nat.lt_of_mul_lt_mul_left y1)
 have z2:=q1I (Nat.lt_of_mul_lt_mul_left y2)
 omega
/-- Steps of 2^P, and steps of 2^e that are parted: P = e + n. -/
theorem q77 {A B n:Nat} {e P:Int} (h:P=e+n):upP A P*(loP B e*2^n)=upP A e*loP B P:=by
 unfold upP loP
 have e1:2^(-P).toNat*(2^e.toNat*2^n)=2^(-e).toNat*2^P.toNat:=by
  rw[← Nat.pow_add,← Nat.pow_add,← Nat.pow_add];congr 1;omega
 have e2:A*2^(-P).toNat*(B*2^e.toNat*2^n)=A*B*(2^(-P).toNat*(2^e.toNat*2^n)):=by ac_rfl
 have e3:A*2^(-e).toNat*(B*2^P.toNat)=A*B*(2^(-e).toNat*2^P.toNat):=by ac_rfl
 rw[e2,e3,e1]
end Go.Proofs.YtljkfjjchkehaaaGreatDoor.EN
namespace Go.Proofs.YtljkfjjchkehaaaGreatDoor.EN
open Go.ChangeShapes Go.WideShapes Go.ChangeAt Go.RowKit
def q0c (A B:Nat):Int:=(EN.blen A:Int)-EN.blen B-62
theorem q31 {a K:Nat} (h:a<2^(64*K)):EN.blen a≤64*K:=by
 unfold EN.blen
 split
 ·omega
 ·have:=(Nat.log2_lt (by omega)).2 h;omega
set_option maxRecDepth 10000 in
theorem q6S (w:World) (va vb:Value) (A B K:Nat) (hK:K≤15000) (hK1:1≤K) (ha:Num w va A) (hb:Num w vb B) (ha2:A<2^(64*K)) (hb2:B<2^(64*K)) (hA:A≠0) (hB:B≠0):
  Calls Tryz.prog 175 #[va,vb] w fun r w'=>r= .returned (.agg #[.int .u64 ((upP A (q0c A B)/loP B (q0c A B):Nat):Int),.int .i64 (q0c A B),.bool (decide (0<upP A (q0c A B)%loP B (q0c A B)))])∧G w w':=by
 obtain⟨q1,q2,-⟩:=q2U hA hB (e:=q0c A B) rfl
 have lA:=q31 ha2
 have lB:=q31 hb2
 have sD:Hid (∀ w1,G w w1→_):=fun w1 g=>q7j w1 va A K (by omega) (ha.G g) ha2
 have o9:Hid (∀ w1,G w w1→_):=fun w1 g=>q7j w1 vb B K (by omega) (hb.G g) hb2
 have he:q0c A B=(EN.blen A:Int)-EN.blen B-62:=rfl
 have uC:Hid (∀ w1,G w w1→Calls Tryz.prog 200 #[va,.int .i64 (-(q0c A B))] w1 (q0e w1 (upP A (q0c A B)))):=fun w1 g=>q2r w1 va A K (-(q0c A B)) (by omega) (by omega) (by omega) (ha.G g) ha2
 have jf:Hid (∀ w1,G w w1→Calls Tryz.prog 200 #[vb,.int .i64 (q0c A B)] w1 (q0e w1 (loP B (q0c A B)))):=fun w1 g=>q2r w1 vb B K (q0c A B) (by omega) (by omega) (by omega) (hb.G g) hb2
 have hX:upP A (q0c A B)<2^(64*(2*K+1)):=by
  unfold upP
  have h1:2^(-(q0c A B)).toNat≤2^(64*K+62):=Nat.pow_le_pow_right (by omega) (by omega)
  have h2:A*2^(-(q0c A B)).toNat<2^(64*K)*2^(64*K+62):=Nat.lt_of_lt_of_le (Nat.mul_lt_mul_of_pos_right ha2 (Nat.two_pow_pos _)) (Nat.mul_le_mul_left _ h1)
  rw[← Nat.pow_add] at h2
  exact Nat.lt_of_lt_of_le h2 (Nat.pow_le_pow_right (by omega) (by omega))
 have hD:loP B (q0c A B)<2^(64*(2*K+1)):=by
  unfold loP
  have h1:2^(q0c A B).toNat≤2^(64*K+62):=Nat.pow_le_pow_right (by omega) (by omega)
  have h2:B*2^(q0c A B).toNat<2^(64*K)*2^(64*K+62):=Nat.lt_of_lt_of_le (Nat.mul_lt_mul_of_pos_right hb2 (Nat.two_pow_pos _)) (Nat.mul_le_mul_left _ h1)
  rw[← Nat.pow_add] at h2
  exact Nat.lt_of_lt_of_le h2 (Nat.pow_le_pow_right (by omega) (by omega))
 have hD0:0<loP B (q0c A B):=by unfold loP;exact Nat.mul_pos (by omega) (Nat.two_pow_pos _)
 have SI: -10000000≤q0c A B:=by omega
 have SK:q0c A B≤10000000:=by omega
 have he2:(EN.blen A:Int)-EN.blen B-62=q0c A B:=rfl
 generalize q0c A B=e at *
 generalize upP A e=X at *
 generalize loP B e=D at *
 have xE:Hid (∀ w1 v1 v2,Num w1 v1 X→Num w1 v2 D→_):=fun w1 v1 v2 h1 h2=>q45 w1 v1 v2 X D (2*K+1) (by omega) (by omega) h1 h2 hX hD hD0
 generalize X/D=Q at *
 generalize X%D=R at *
 generalize EN.blen A=bA at *
 generalize EN.blen B=bB at *
 have Po:Q<18446744073709551616:=by omega
 have kR:Q≠0:=by omega
 have lA2:(bA:Int)≤960000:=by omega
 have lB2:(bB:Int)≤960000:=by omega
 obtain⟨tl,htl⟩:∃ tl,tl=decide (0<R):=⟨_,rfl⟩
 rw[← htl]
 have Pp:Hid (tl=decide (0<R)):=htl
 clear htl
 clear hX hD hD0 q1 q2 ha hb ha2 hb2 hA hB lA lB he
 go_enter Tryz.func175,Tryz.ntmps175
 go_wp2_with fail
 obtain⟨w0,aD,g0,hz0,R0⟩:=q0l w [.int .u64 0,.int .i64 0,.bool false] 239
 rw[aD]
 clear aD
 refine Calls.mono (P:=Tryz.prog) (sD.out w0 g0) ?_
 rintro e1 w1 ⟨rfl,g1⟩
 go_wp2_with fail
 refine Calls.mono (P:=Tryz.prog) (o9.out w1 (G.trans g0 g1)) ?_
 rintro e1 w2 ⟨rfl,g2⟩
 have g12:=G.trans g1 g2
 go_wp2_with fail
 refine Calls.mono (P:=Tryz.prog) (uC.out w2 (G.trans g0 g12)) ?_
 intro e1 w3 hs
 obtain⟨v1,rfl,g3,hv1⟩:=hs
 have lL:Hid (Num w3 v1 X):=hv1
 have g13:=G.trans g12 g3
 clear sD o9 uC hv1 g1 g2 g12
 go_wp2_with fail
 refine Calls.mono (P:=Tryz.prog) (jf.out w3 (G.trans g0 g13)) ?_
 intro e1 w4 hs
 obtain⟨v2,rfl,g4,hv2⟩:=hs
 have HD4:Hid _:=xE.out w4 v1 v2 (lL.out.G g4) hv2
 have g14:=G.trans g13 g4
 clear jf xE lL hv2 g3 g13 g4
 go_wp2_with fail
 refine Calls.mono (P:=Tryz.prog) HD4.out ?_
 intro e1 w5 hs
 obtain⟨v3,v4,rfl,g5,hv3,hv4⟩:=hs
 have g15:=G.trans g14 g5
 clear HD4 g14 g5
 rcases q1j hv3 with ⟨h,-⟩|⟨-,-,nb,no,nc,rfl,hnc,hnb,hcell⟩|⟨h,-⟩
 ·exact absurd h kR
 ·obtain⟨pr,kr,cr,rfl,-,hk,-⟩:=q25 hv4
  clear hv3 hv4
  rw[← Pp.out] at hk
  have qG:=Rec.f3 (Rec.G R0.out (g15))
  have Hu:=qG.1
  have Hw:=qG.2.1
  have Hy:=qG.2.2.1
  have Hz:=qG.2.2.2.1
  have I1:=qG.2.2.2.2.1
  have I4:=qG.2.2.2.2.2
  clear qG
  go_wp2_with fail
  have hT:Hid (Rec (World.setCell (World.setCell (World.setCell w5 ⟨w.heap.size,0,none⟩ (.int .u64 (Q:Int))) ⟨w.heap.size,1,none⟩ (.int .i64 e)) ⟨w.heap.size,2,none⟩ (.bool tl)) (w.heap.size) [.int .u64 (Q:Int),.int .i64 e,.bool tl]):=Rec.set3 (Rec.G R0.out (g15))
  have g9:=Rec.g3 (b:=w.heap.size) (u:= .int .u64 (Q:Int)) (v:= .int .i64 e) (x:= .bool tl) (G.trans g0 g15) (by omega)
  generalize (World.setCell (World.setCell (World.setCell w5 ⟨w.heap.size,0,none⟩ (.int .u64 (Q:Int))) ⟨w.heap.size,1,none⟩ (.int .i64 e)) ⟨w.heap.size,2,none⟩ (.bool tl))=w9 at *
  have hF:=Rec.f3 (Rec.G hT.out ((G.refl _)))
  have bS:=hF.1
  have bU:=hF.2.1
  have bV:=hF.2.2.1
  have bW:=hF.2.2.2.1
  have il:=hF.2.2.2.2.1
  have iq:=hF.2.2.2.2.2
  clear hF
  refine bodyPost_ret (v:= .agg #[.int .u64 (Q:Int),.int .i64 e,.bool tl]) (by simp [results,Tryz.results175,go_sem, *]) rfl ?_
  exact⟨rfl,g9⟩
 ·omega
/-- What a fraction above 0 comes to: steps, their place, what is left. -/
theorem qc9 (w:World) (A B:Nat) (hA:A≠0) (hB:B≠0) (SL:EN.blen A≤960000) (SN:EN.blen B≤960000):
  ∃ st:Nat,∃ P:Int,st<2^53∧ -1074≤P∧P≤971∧(P= -1074∨2^52≤st)∧tV A B=(P+1074).toNat*2^52+st∧lV A B<4∧
  Calls Tryz.prog 197 #[.agg #[.int .u64 ((upP A (q0c A B)/loP B (q0c A B):Nat):Int),.int .i64 (q0c A B),.bool (decide (0<upP A (q0c A B)%loP B (q0c A B)))]] w fun r w'=>r= .returned (.tuple #[.int .u64 (st:Int),.int .i64 P,.int .i64 ((lV A B:Nat):Int)])∧G w w':=by
 obtain⟨q1,q2,q3⟩:=q2U hA hB (e:=q0c A B) rfl
 have he:q0c A B=(EN.blen A:Int)-EN.blen B-62:=rfl
 have hcr:∀ n:Nat,∀ P:Int,P=q0c A B+n→upP A P*(loP B (q0c A B)*2^n)=upP A (q0c A B)*loP B P:=fun n P h=>q77 h
 have hD0:0<loP B (q0c A B):=by unfold loP;exact Nat.mul_pos (by omega) (Nat.two_pow_pos _)
 have MX:∀ P:Int,0<loP B P:=fun P=>by unfold loP;exact Nat.mul_pos (by omega) (Nat.two_pow_pos _)
 have kR:upP A (q0c A B)/loP B (q0c A B)≠0:=by omega
 obtain⟨l1,l2,l3⟩:=q38 kR
 have hL:EN.blen (upP A (q0c A B)/loP B (q0c A B))≤63:=by
  have:2^(EN.blen (upP A (q0c A B)/loP B (q0c A B))-1)<2^63:=Nat.lt_of_le_of_lt l1 q2
  have:=q1I this
  omega
 have hL2:62≤EN.blen (upP A (q0c A B)/loP B (q0c A B)):=by
  have:2^61<2^EN.blen (upP A (q0c A B)/loP B (q0c A B)):=Nat.lt_of_le_of_lt q1 l2
  have:=q1I this
  omega
 have hlp:q0M A B=max (q0c A B+EN.blen (upP A (q0c A B)/loP B (q0c A B))-53) (-1074):=by
  unfold q0M;rw[q3];omega
 obtain⟨P,hP⟩:∃ P,P=q0M A B:=⟨_,rfl⟩
 have hT:tV A B=if 971<P then 2047*2^52-1 else (P+1074).toNat*2^52+upP A P/loP B P:=by unfold tV;rw[hP]
 have hV:lV A B=if 971<P then 3 else q1x (upP A P%loP B P) (loP B P):=by unfold lV;rw[hP]
 rw[← hP] at hlp
 have zL:=MX P
 clear MX
 by_cases hf:971<P
 ·rw[if_pos hf] at hT hV
  refine⟨9007199254740991,971,by omega,by omega,by omega,Or.inr (by omega),by rw[hT];rfl,by omega,?_⟩
  rw[hV]
  exact q7O w _ (q0c A B) P _ kR q2 (by omega) (by omega) hlp hf
 ·rw[if_neg hf] at hT hV
  obtain⟨n,hn⟩:∃ n:Nat,P=q0c A B+n∧9≤n:=⟨(P-q0c A B).toNat,by omega,by omega⟩
  obtain⟨hn,bL⟩:=hn
  have hc:=hcr n P hn
  have hd2:0<loP B (q0c A B)*2^n:=Nat.mul_pos hD0 (Nat.two_pow_pos n)
  have e1:upP A P/loP B P=upP A (q0c A B)/loP B (q0c A B)/2^n:=by
   rw[q4G zL hd2 hc,Nat.div_div_eq_div_mul]
  have e2:q1x (upP A P%loP B P) (loP B P)=lv (upP A (q0c A B)/loP B (q0c A B)%2^n) (2^(n-1)) (decide (0<upP A (q0c A B)%loP B (q0c A B))):=by
   rw[q5f zL hd2 hc,q5R _ _ n hD0 (by omega)]
   unfold lv
   have e3:(decide (0<upP A (q0c A B)%loP B (q0c A B))=false)=(upP A (q0c A B)%loP B (q0c A B)=0):=by
    apply propext
    rw[decide_eq_false_iff_not]
    omega
   simp only[e3]
  rw[e1] at hT
  rw[e2] at hV
  clear e1 e2 hc hcr hd2 hD0 zL q3
  generalize decide (0<upP A (q0c A B)%loP B (q0c A B))=tl at *
  generalize upP A (q0c A B)/loP B (q0c A B)=Q at *
  generalize q0c A B=e at *
  have hlv:∀ b m:Nat,lv b m tl<4:=fun b m=>by unfold lv;split;omega;split;omega;split<;>omega
  by_cases hnb:63<P-e
  ·have hp:2^63≤2^(n-1):=q0Y (by omega)
   have hp2:2^n=2*2^(n-1):=by
    obtain⟨k,rfl⟩:∃ k,n=k+1:=⟨n-1,by omega⟩
    simp [Nat.pow_succ,Nat.mul_comm]
   have e4:Q/2^n=0:=Nat.div_eq_of_lt (by omega)
   have e5:Q%2^n=Q:=Nat.mod_eq_of_lt (by omega)
   have e6:lV A B=1:=by
    rw[hV,e5];unfold lv
    rw[if_neg (by omega),if_pos (by omega)]
   have I5:P= -1074:=by omega
   refine⟨0,P,by omega,by omega,by omega,Or.inl I5,by rw[hT,e4],by omega,?_⟩
   rw[e6]
   exact q7X w Q e P tl kR q2 (by omega) (by omega) hlp (by omega) hnb
  ·obtain⟨k,hk⟩:∃ k,n=k+1:=⟨n-1,by omega⟩
   have hst:Q/2^n<2^53:=by
    rw[Nat.div_lt_iff_lt_mul (Nat.two_pow_pos n),← Nat.pow_add]
    exact Nat.lt_of_lt_of_le l2 (q0Y (by omega))
   refine⟨Q/2^n,P,hst,by omega,by omega,?_,hT,by rw[hV];exact hlv _ _,?_⟩
   ·by_cases I5:P= -1074
    ·exact Or.inl I5
    ·right
     rw[Nat.le_div_iff_mul_le (Nat.two_pow_pos n),← Nat.pow_add]
     exact Nat.le_trans (q0Y (by omega)) l1
   ·rw[hV,hk]
    exact q6u w Q k e P tl kR q2 (by omega) (by omega) hlp (by omega) (by omega) (by omega)
attribute [local go_sem] q0Q
/-- Whether a number between two floats goes on to the one that is farther from 0. -/
def onw (m:Int) (neg odd:Bool) (l:Nat):Bool:=if m=1 then l==3||(l==2&&odd) else if m=2 then neg else if m=3 then !neg else false
def qb5 (m:Int) (neg:Bool) (w:World) (e:Ending) (w':World):Prop:=∃ (F:Nat) (kI:Array Value),e= .returned (.func (.func F) #[] kI)∧G w w'∧
 (∀ w2,G w' w2→∀ (odd:Bool) (l:Nat),l<4→Calls Tryz.prog F (#[.bool odd,.int .i64 (l:Int)]++kI) w2 fun e w3=>e= .returned (.bool (onw m neg odd l))∧G w2 w3)∧
 (∀ args w2,(callFunc F args).run Tryz.prog w2= .ok (.enter F args) w2)
theorem q9j (w:World) (odd:Bool) (l:Nat) (hl:l<4):Calls Tryz.prog 219 #[.bool odd,.int .i64 (l:Int)] w fun e w3=>e= .returned (.bool (l==3||(l==2&&odd)))∧G w w3:=by
 have h:l=0∨l=1∨l=2∨l=3:=by omega
 rcases h with rfl|rfl|rfl|rfl<;>cases odd
 all_goals
  go_enter Tryz.func219,Tryz.ntmps219
  go_wp2_with fail
  go_ret
  exact⟨rfl,G.refl _⟩
theorem q8X (w:World) (b l:Nat) (neg odd:Bool) (hr:w.cell? ⟨b,0,none⟩=some (.bool neg)):Calls Tryz.prog 220 #[.bool odd,.int .i64 (l:Int),.pointer (some ⟨b,0,none⟩)] w fun e w3=>e= .returned (.bool neg)∧G w w3:=by
 go_enter Tryz.func220,Tryz.ntmps220
 go_wp2_with fail
 go_ret
 exact⟨rfl,G.refl _⟩
theorem qc8 (w:World) (b l:Nat) (neg odd:Bool) (hr:w.cell? ⟨b,0,none⟩=some (.bool neg)):Calls Tryz.prog 221 #[.bool odd,.int .i64 (l:Int),.pointer (some ⟨b,0,none⟩)] w fun e w3=>e= .returned (.bool (!neg))∧G w w3:=by
 go_enter Tryz.func221,Tryz.ntmps221
 go_wp2_with fail
 go_ret
 exact⟨rfl,G.refl _⟩
theorem qbD (w:World) (l:Nat) (odd:Bool):Calls Tryz.prog 222 #[.bool odd,.int .i64 (l:Int)] w fun e w3=>e= .returned (.bool false)∧G w w3:=by
 go_enter Tryz.func222,Tryz.ntmps222
 go_wp2_with fail
 go_ret
 exact⟨rfl,G.refl _⟩
theorem qbe (w:World) (m:Int) (neg:Bool) (hm:m=1∨m=2∨m=3∨m=4):
  Calls Tryz.prog 196 #[.int .i64 m,.bool neg] w (qb5 m neg w):=by
 rcases hm with rfl|rfl|rfl|rfl
 ·go_enter Tryz.func196,Tryz.ntmps196
  go_wp2_with fail
  go_ret
  exact⟨219,#[],rfl,(G.refl _).alloc _,fun w2 _ odd l hl=>q9j w2 odd l hl,fun _ _=>by kernel_rfl⟩
 ·go_enter Tryz.func196,Tryz.ntmps196
  go_wp2_with fail
  go_ret
  have hc:(w.alloc (.cells #[.bool neg] 4)).cell? ⟨w.heap.size,0,none⟩=some (.bool neg):=by simp [go_sem]
  exact⟨220,#[.pointer (some ⟨w.heap.size,0,none⟩)],rfl,(G.refl _).alloc _,fun w2 g odd l hl=>q8X w2 w.heap.size l neg odd (g.cell (p:=⟨w.heap.size,0,none⟩) (by simp) hc),fun _ _=>by kernel_rfl⟩
 ·go_enter Tryz.func196,Tryz.ntmps196
  go_wp2_with fail
  go_ret
  have hc:(w.alloc (.cells #[.bool neg] 4)).cell? ⟨w.heap.size,0,none⟩=some (.bool neg):=by simp [go_sem]
  exact⟨221,#[.pointer (some ⟨w.heap.size,0,none⟩)],rfl,(G.refl _).alloc _,fun w2 g odd l hl=>qc8 w2 w.heap.size l neg odd (g.cell (p:=⟨w.heap.size,0,none⟩) (by simp) hc),fun _ _=>by kernel_rfl⟩
 ·go_enter Tryz.func196,Tryz.ntmps196
  go_wp2_with fail
  go_ret
  exact⟨222,#[],rfl,(G.refl _).alloc _,fun w2 _ odd l hl=>qbD w2 l odd,fun _ _=>by kernel_rfl⟩
theorem q8M (F:Nat) (kI:Array Value) (w:World):(binOp BinOp.eql 235 (.func (.func F) #[] kI) .nilFunc).run Tryz.prog w= .ok (.bool false) w:=by kernel_rfl
/-- The float that so many steps at a place make. -/
theorem q71 {v:Nat} {P:Int} (hv:v≤2^53) (hP: -1074≤P) (hP2:P≤971) (h:P= -1074∨2^52≤v):q0R 11 52 v P=(P+1074).toNat*2^52+v:=by
 have hb:(P+1074).toNat≤2045:=by omega
 rcases Nat.lt_or_eq_of_le hv with h1|h1
 ·rw[q2x h1 hP h,Nat.min_eq_left]
  omega
 ·subst h1
  have e1:=q8x (A:=2^53*2^P.toNat) (B:=2^(-P).toNat) (mag:=2^53) (e:=P) (Nat.mul_ne_zero (by omega) (by have:=Nat.two_pow_pos P.toNat;omega)) (by have:=Nat.two_pow_pos (-P).toNat;omega) (by omega) (by omega) (by ac_rfl)
  have e2:=q8x (A:=2^53*2^P.toNat) (B:=2^(-P).toNat) (mag:=2^52) (e:=P+1) (Nat.mul_ne_zero (by omega) (by have:=Nat.two_pow_pos P.toNat;omega)) (by have:=Nat.two_pow_pos (-P).toNat;omega) (by omega) (by omega) (by
   have:53+P.toNat+(-(P+1)).toNat=52+(-P).toNat+(P+1).toNat:=by omega
   rw[← Nat.pow_add,← Nat.pow_add,← Nat.pow_add,← Nat.pow_add,this])
  rw[e1,← e2,q2x (by omega) (by omega) (Or.inr (Nat.le_refl _))]
  rw[show (P+1+1074).toNat=(P+1074).toNat+1 from by omega]
  generalize (P+1074).toNat=k at *
  rw[Nat.min_eq_left]
  ·omega
  ·omega
set_option maxRecDepth 10000 in
set_option maxHeartbeats 1000000 in
theorem q7h (w:World) (v:Value) (x:Rat) (m:Int) (FR:Nat) (fv:Value) (st:Nat) (P:Int) (l:Nat) (hm:m=1∨m=2∨m=3∨m=4) (hx:QIs w v x) (h0:x≠0)
  (hst:st<2^53) (hP1: -1074≤P) (hP2:P≤971) (hP3:P= -1074∨2^52≤st) (hl:l<4)
  (HQ:∀ w1 v1 v2,G w w1→Num w1 v1 x.num.natAbs→Num w1 v2 x.den→Calls Tryz.prog FR #[v1,v2] w1 fun e w2=>e= .returned fv∧G w1 w2)
  (HE:∀ args w,(callFunc FR args).run Tryz.prog w= .ok (.enter FR args) w)
  (HC:∀ w1,Calls Tryz.prog 197 #[fv] w1 fun r w'=>r= .returned (.tuple #[.int .u64 (st:Int),.int .i64 P,.int .i64 (l:Int)])∧G w1 w'):
  Calls Tryz.prog 174 #[v,.int .i64 m,.func (.func FR) #[] #[]] w fun r w'=>r= .returned (.tuple #[.float .f64 (FT.wrd (decide (x.num<0)) ((P+1074).toNat*2^52+st+if l≠0∧onw m (decide (x.num<0)) (st%2==1) l=true then 1 else 0)),.int .i64 0])∧G w w':=by
 have kE:Hid (∀ w1,G w w1→_):=fun w1 g=>q3r w1 v x (hx.G g)
 have HB:Hid (∀ w1,G w w1→_):=fun w1 g=>q6V w1 v x (hx.G g)
 have hz:(x.num.sign==0)=false:=by rw[q18,decide_eq_false h0]
 obtain⟨a,k,c,a',k',c',rfl,hx1,hx2⟩:=hx
 obtain⟨s,hs⟩:∃ s,s=decide (x.num<0):=⟨_,rfl⟩
 rw[← hs]
 rw[← hs] at kE HB
 have HR:Hid (∀ w1,_):=fun w1=>qbe w1 m s hm
 obtain⟨u,hu⟩:∃ u:Nat,u=if l≠0∧onw m s (st%2==1) l=true then 1 else 0:=⟨_,rfl⟩
 rw[← hu]
 have hu1:u≤1:=by rw[hu];split<;>omega
 have hfin:q0R 11 52 (st+u) P=(P+1074).toNat*2^52+st+u:=by
  rw[q71 (by omega) hP1 hP2 (by omega)];omega
 have uB:Hid (∀ w1,Calls Tryz.prog 198 #[.int .i64 ((st+u:Nat):Int),.int .i64 P] w1 fun r w'=>r= .returned (.float .f64 ((P+1074).toNat*2^52+st+u))∧G w1 w'):=fun w1=>by
  have h:=qbR ((st+u:Nat):Int) P w1 (by omega) (by omega) (by omega) (by omega)
  rw[if_neg (by omega),Int.natAbs_natCast,show q2q P=P from by unfold q2q;omega,hfin] at h
  exact h
 have uA:(P+1074).toNat*2^52+st+u<2^63:=by
  have:(P+1074).toNat≤2045:=by omega
  omega
 have hw0:FT.wrd false ((P+1074).toNat*2^52+st+u)=(P+1074).toNat*2^52+st+u:=rfl
 obtain⟨fl,hfl⟩:∃ fl,fl=(P+1074).toNat*2^52+st+u:=⟨_,rfl⟩
 rw[← hfl] at uB uA hw0 ⊢
 clear hfin hfl
 have uO:=q3w fl (by clear hu;omega)
 have xD:negV fl=FT.wrd true fl:=by
  have h1:FT.neg fl=false:=by unfold FT.neg;simp;clear hu;omega
  unfold negV
  rw[if_neg (by rw[h1];simp)]
  rfl
 rw[xD] at uO
 clear xD
 obtain⟨fn,hfn⟩:∃ fn,fn=FT.wrd true fl:=⟨_,rfl⟩
 rw[← hfn] at uO
 have Hr:Hid (Op.negFloat .f64 fl=fn):=uO
 have kP:Hid (Ending.returned (.tuple #[.float .f64 fn,.int .i64 0])= .returned (.tuple #[.float .f64 (FT.wrd true fl),.int .i64 0])):=by show Ending.returned (.tuple #[.float .f64 fn,.int .i64 0])= .returned (.tuple #[.float .f64 (FT.wrd true fl),.int .i64 0]);rw[hfn]
 have Ht:Hid (∀ w1 v1 v2,G w w1→Num w1 v1 x.num.natAbs→Num w1 v2 x.den→_):=HQ
 have uC:Hid (∀ w1,_):=HC
 have zK:Hid (Num w (.slice a k c) x.num.natAbs):=hx1
 have Pg:Hid (∀ args w,(callFunc FR args).run Tryz.prog w= .ok (.enter FR args) w):=HE
 have Cw: -9223372036854775808≤P:=by omega
 have SH:P≤9223372036854775807:=by omega
 have HST:Hid (st<2^53):=hst
 have Ph:Hid (l<4):=hl
 have HU:Hid (u=if l≠0∧onw m s (st%2==1) l=true then 1 else 0):=hu
 have Pj:(st:Int)<9007199254740992:=by omega
 have Pk:(l:Int)<4:=by omega
 generalize x.num.sign=z at *
 generalize x.num.natAbs=xn at *
 obtain⟨d,hd⟩:∃ d,d=x.den:=⟨_,rfl⟩
 rw[← hd] at HB Ht
 clear uA hw0 uO hfn HQ HC HE hx1 hx2 hs hd hst hl hu hP1 hP2 hP3 hm h0
 go_enter Tryz.func174,Tryz.ntmps174
 go_wp2_with fail
 obtain⟨w0,aD,g0,hz0,R0⟩:=q0l w [.bool s,.slice a k c,.slice a' k' c'] 97
 rw[aD]
 clear aD
 refine Calls.mono (P:=Tryz.prog) (HR.out w0) ?_
 intro e1 w1 hs
 obtain⟨F,kI,rfl,g1,CW,CX⟩:=hs
 have Pm:Hid (∀ args w2,(callFunc F args).run Tryz.prog w2= .ok (.enter F args) w2):=CX
 clear CX
 have CY:Hid (∀ w2,G w1 w2→∀ (odd:Bool) (l:Nat),l<4→Calls Tryz.prog F (#[.bool odd,.int .i64 (l:Int)]++kI) w2 fun e w3=>e= .returned (.bool (onw m s odd l))∧G w2 w3):=CW
 have cB:=G.trans g0 g1
 have S0:Hid (Rec _ _ _):=Rec.G R0.out (g1)
 clear CW g0 g1 R0 HR
 have fO:=Rec.f3 (Rec.G S0.out (G.refl _))
 have qA:=fO.1
 have qB:=fO.2.1
 have qC:=fO.2.2.1
 have qD:=fO.2.2.2.1
 have qE:=fO.2.2.2.2.1
 have qF:=fO.2.2.2.2.2
 clear fO
 have hfn:=q8M F kI w1
 go_wp2_with fail
 clear hfn
 refine Calls.mono (P:=Tryz.prog) (kE.out w1 cB) ?_
 rintro e1 w2 ⟨rfl,g2⟩
 have dJ:=G.trans cB g2
 have T0:Hid (Rec _ _ _):=Rec.G S0.out (g2)
 clear qA qB qC qD qE qF S0 kE
 go_wp2_with fail
 refine q09 15 0 #[true,true,true,true,true,true,true,true,true,true,true,true,true,true,true] [.is (.func (.func FR) #[] #[]),.is (.pointer (some ⟨w.heap.size,0,none⟩)),.is (.pointer (some ⟨w.heap.size,1,none⟩)),.is (.slice a k c),.is (.agg #[.bool s,.slice a k c,.slice a' k' c']),.any (fun v w'=>Num w' v (d)),.is (fv),.is (.tuple #[.int .u64 (st:Int),.int .i64 P,.int .i64 (l:Int)]),.is (.tuple #[.int .u64 (st:Int),.int .i64 P,.int .i64 (l:Int)]),.is (.int .u64 (st:Int)),.is (.int .i64 P),.is (.int .i64 (l:Int)),.is (.int .u64 (st:Int)),.is (.int .i64 P),.is (.int .i64 (l:Int))] [some 24,some 25,some 26,some 27,some 28,some 29,some 30,some 31,some 23,some 32,some 33,some 34,some 9,some 10,some 11] (by kernel_rfl) (by kernel_rfl) rfl (by kernel_rfl) (by repeat (first|exact trivial|refine⟨fun _ _ _ g h=>by first|exact h.G g|exact fun w3 g3=>h w3 (G.trans g g3),?_⟩)) (by kernel_rfl) (by kernel_rfl) ?_
 refine Letters.is ?_
 refine Letters.is ?_
 refine Letters.is ?_
 refine Letters.is ?_
 refine Letters.is ?_
 refine Letters.any fun v5=> ?_
 refine Letters.is ?_
 refine Letters.is ?_
 refine Letters.is ?_
 refine Letters.is ?_
 refine Letters.is ?_
 refine Letters.is ?_
 refine Letters.is ?_
 refine Letters.is ?_
 refine Letters.is ?_
 refine Letters.nil ?_
 intro A hA
 simp only[q19,Act.put,List.setIfInBounds_toArray,List.set_cons_zero,List.set_cons_succ] at hA
 subst hA
 refine⟨?_,?_⟩
 ·skip
  refine Eaches.cons rfl ?jh (Eaches.cons rfl ?jH (Eaches.cons rfl ?jI (Eaches.cons rfl ?jS (Eaches.cons rfl ?l7 (Eaches.cons rfl ?l8 (Eaches.cons rfl ?o5 (Eaches.cons rfl ?pO (Eaches.cons rfl ?o6 (Eaches.cons rfl ?tL (Eaches.cons rfl ?su (Eaches.cons rfl ?uP (Eaches.cons rfl ?uQ (Eaches.cons rfl ?yV (Eaches.cons rfl ?CZ (Eaches.nil)))))))))))))))
  case jh|jH|jI|o6|tL|su|uP|uQ|yV|CZ=>
   intro W hW hD K hK
   clear hD
   go_simp
   exact hK.out _ _ ⟨_,rfl,G.refl _,rfl⟩
  case jS|l7=>
   intro W hW hD K hK
   clear hD
   have hT0:=Rec.f3 (Rec.G T0.out hW)
   have yX:=hT0.1
   have yY:=hT0.2.1
   have yZ:=hT0.2.2.1
   clear hT0
   go_simp
   exact hK.out _ _ ⟨_,rfl,G.refl _,rfl⟩
  ·intro W hW hD K hK
   clear hD
   go_simp
   go_wp2_with (go_at_call 97;refine Calls.mono (P:=Tryz.prog) (HB.out W (G.trans dJ hW)) ?_;intro e w9 hs;obtain⟨u9,rfl,g9,bL⟩:=hs)
   exact hK.out _ _ ⟨_,rfl,g9,bL⟩
  ·intro W hW hD K hK
   have h5:=Deps.get (v:=v5) 5 hD rfl rfl (by kernel_rfl)
   clear hD
   have hcf:=Pg.out #[.slice a k c,v5] W
   go_simp
   go_wp2_with (refine Calls.mono (P:=Tryz.prog) (Ht.out W (.slice a k c) v5 (G.trans dJ hW) (zK.out.G (G.trans dJ hW)) h5) ?_;intro e w9 hs;obtain⟨rfl,g9⟩:=hs)
   exact hK.out _ _ ⟨_,rfl,g9,rfl⟩
  ·intro W hW hD K hK
   clear hD
   go_simp
   go_wp2_with (go_at_call 197;refine Calls.mono (P:=Tryz.prog) (uC.out W) ?_;intro e w9 hs;obtain⟨rfl,g9⟩:=hs)
   exact hK.out _ _ ⟨_,rfl,g9,rfl⟩
 intro w3 g3 hH
 clear hH
 refine wpAny_done (by kernel_rfl) ?_ _
 have lF:=G.trans dJ g3
 have g13:=G.trans g2 g3
 have U0:Hid (Rec _ _ _):=Rec.G T0.out (g3)
 clear T0 HB Ht uC zK dJ g2 g3
 by_cases hl0:l=0
 ·have hl1:((l:Int) != 0)=false:=by rw[hl0];rfl
  have hu0:u=0:=by rw[HU.out,if_neg (by rintro⟨h,-⟩;exact h hl0)]
  subst hu0
  rw[Nat.add_zero] at uB
  have jN:=lF
  have nS:IntKind.i64.wrap (st:Int)=st:=by rw[IntKind.wrap_i64];omega
  clear HU CY hl0 g13 lF
  have aN:=Rec.f3 (Rec.G U0.out (G.refl _))
  have fA:=aN.1
  have fB:=aN.2.1
  have fC:=aN.2.2.1
  have eU:=aN.2.2.2.1
  have eX:=aN.2.2.2.2.1
  have eY:=aN.2.2.2.2.2
  clear aN
  clear eU eX eY
  go_wp2_with fail
  refine Calls.mono (P:=Tryz.prog) (uB.out _) ?_
  rintro e9 w9 ⟨rfl,g9⟩
  have z8:=G.trans jN g9
  have X0:Hid (Rec _ _ _):=Rec.G U0.out (g9)
  have hx0:=Rec.f3 X0.out
  have hx1:=hx0.1
  clear uB jN g9 hx0
  cases s
  ·go_wp2_with fail
   go_ret2
   exact⟨rfl,z8⟩
  ·have uO:=Hr.out
   go_wp2_with fail
   go_ret2
   exact⟨kP.out,z8⟩
 ·have hl1:((l:Int) != 0)=true:=by simp;exact hl0
  obtain⟨odd,ho⟩:∃ odd,odd=(st%2==1):=⟨_,rfl⟩
  have hod:((st:Int)%2==1)=odd:=by rw[ho,Bool.eq_iff_iff];simp;omega
  have Pn:(0:Int)≤st:=by omega
  have hcl:=CY.out w3 g13 odd l Ph.out
  rw[ho] at hcl
  have hu:u=if onw m s (st%2==1) l=true then 1 else 0:=by rw[HU.out];simp [hl0]
  generalize onw m s (st%2==1) l=ob at *
  rw[← ho] at hcl
  have D7:Hid _:=hcl
  have Cx:Hid (u=if ob=true then 1 else 0):=hu
  have hcf:=Pm.out (#[.bool odd,.int .i64 (l:Int)]++kI) w3
  clear HU CY hl0 g13 ho hcl hu
  have aN:=Rec.f3 (Rec.G U0.out (G.refl _))
  have fA:=aN.1
  have fB:=aN.2.1
  have fC:=aN.2.2.1
  have eU:=aN.2.2.2.1
  have eX:=aN.2.2.2.2.1
  have eY:=aN.2.2.2.2.2
  clear aN
  clear eU eX eY
  go_wp2_with fail
  refine Calls.mono (P:=Tryz.prog) D7.out ?_
  rintro e8 w8 ⟨rfl,g8⟩
  have jN:=G.trans lF g8
  have V0:Hid (Rec _ _ _):=Rec.G U0.out (g8)
  clear hcf D7 U0 lF g8 fA fB fC
  have U0:Hid (Rec w8 w.heap.size [.bool s,.slice a k c,.slice a' k' c']):=V0.out
  clear V0
  cases ob
  ·have hu0:u=0:=Cx.out
   subst hu0
   rw[Nat.add_zero] at uB
   have nS:IntKind.i64.wrap (st:Int)=st:=by rw[IntKind.wrap_i64];omega
   clear Cx
   go_wp2_with fail
   refine Calls.mono (P:=Tryz.prog) (uB.out _) ?_
   rintro e9 w9 ⟨rfl,g9⟩
   have z8:=G.trans jN g9
   have X0:Hid (Rec _ _ _):=Rec.G U0.out (g9)
   have hx0:=Rec.f3 X0.out
   have hx1:=hx0.1
   clear uB jN g9 hx0
   cases s
   ·go_wp2_with fail
    go_ret2
    exact⟨rfl,z8⟩
   ·have uO:=Hr.out
    go_wp2_with fail
    go_ret2
    exact⟨kP.out,z8⟩
  ·have hu0:u=1:=Cx.out
   subst hu0
   have nS:IntKind.i64.wrap ((st:Int)+1)=(st:Int)+1:=by rw[IntKind.wrap_i64];omega
   have D8:Hid (∀ w1,Calls Tryz.prog 198 #[.int .i64 ((st:Int)+1),.int .i64 P] w1 fun r w'=>r= .returned (.float .f64 fl)∧G w1 w'):=fun w1=>by
    have h:=uB.out w1
    rw[show ((st+1:Nat):Int)=(st:Int)+1 from by omega] at h
    exact h
   clear Cx uB
   have uB:=D8
   clear D8
   go_wp2_with fail
   refine Calls.mono (P:=Tryz.prog) (uB.out _) ?_
   rintro e9 w9 ⟨rfl,g9⟩
   have z8:=G.trans jN g9
   have X0:Hid (Rec _ _ _):=Rec.G U0.out (g9)
   have hx0:=Rec.f3 X0.out
   have hx1:=hx0.1
   clear uB jN g9 hx0
   cases s
   ·go_wp2_with fail
    go_ret2
    exact⟨rfl,z8⟩
   ·have uO:=Hr.out
    go_wp2_with fail
    go_ret2
    exact⟨kP.out,z8⟩
end Go.Proofs.YtljkfjjchkehaaaGreatDoor.EN
namespace Go.Proofs.YtljkfjjchkehaaaGreatDoor.EN
open Go.ChangeShapes Go.WideShapes Go.ChangeAt Go.RowKit
/-- A fraction above 0 rounded: the float's place. -/
def rdV (m:Int) (neg:Bool) (A B:Nat):Nat:=tV A B+if lV A B≠0∧onw m neg (tV A B%2==1) (lV A B)=true then 1 else 0
theorem qaV (w:World) (v:Value) (x:Rat) (m:Int) (K:Nat) (hK:K≤15000) (hK1:1≤K) (hm:m=1∨m=2∨m=3∨m=4) (hx:QIs w v x) (h0:x≠0) (hb:QB x K):
  Calls Tryz.prog 140 #[v,.int .i64 m] w fun r w'=>r= .returned (.tuple #[.float .f64 (FT.wrd (decide (x.num<0)) (rdV m (decide (x.num<0)) x.num.natAbs x.den)),.int .i64 0])∧G w w':=by
 have hA:x.num.natAbs≠0:=by
  intro h
  exact h0 (Rat.num_eq_zero.1 (by omega))
 have hB:=x.den_nz
 have lA:=q31 hb.1
 have lB:=q31 hb.2
 obtain⟨st,P,h1,h2,h3,h4,h5,h6,-⟩:=qc9 w x.num.natAbs x.den hA hB (by omega) (by omega)
 have hodd:(st%2==1)=(tV x.num.natAbs x.den%2==1):=by
  rw[h5]
  have:((P+1074).toNat*2^52+st)%2=st%2:=by omega
  rw[this]
 have MW:Hid (∀ w1,G w w1→Calls Tryz.prog 174 #[v,.int .i64 m,.func (.func 175) #[] #[]] w1 fun r w'=>r= .returned (.tuple #[.float .f64 (FT.wrd (decide (x.num<0)) (rdV m (decide (x.num<0)) x.num.natAbs x.den)),.int .i64 0])∧G w1 w'):=fun w1 g=>by
  have h:=q7h w1 v x m 175 _ st P (lV x.num.natAbs x.den) hm (hx.G g) h0 h1 h2 h3 h4 h6 (fun w2 v1 v2 _ k1 k2=>q6S w2 v1 v2 _ _ K hK hK1 k1 k2 hb.1 hb.2 hA hB) (fun _ _=>by kernel_rfl) (fun w2=>by
   obtain⟨st',P',j1,j2,j3,j4,j5,j6,hc⟩:=qc9 w2 x.num.natAbs x.den hA hB (by omega) (by omega)
   have e1:P'=P∧st'=st:=by
    rw[h5] at j5
    rcases h4 with h4|h4<;>rcases j4 with j4|j4<;>(constructor<;>omega)
   obtain⟨rfl,rfl⟩:=e1
   exact hc)
  rw[hodd,← h5] at h
  exact h
 unfold rdV at MW ⊢
 generalize tV x.num.natAbs x.den+(if lV x.num.natAbs x.den≠0∧onw m (decide (x.num<0)) (tV x.num.natAbs x.den%2==1) (lV x.num.natAbs x.den)=true then 1 else 0)=r at *
 clear h0 hb hA hB lA lB h1 h2 h3 h4 h5 h6 hodd hm
 generalize FT.wrd (decide (x.num<0)) r=fl at *
 obtain⟨a,k,c,a',k',c',rfl,-,-⟩:=hx
 generalize decide (x.num<0)=s at *
 go_enter Tryz.func140,Tryz.ntmps140
 go_wp2_with fail
 obtain⟨w0,aD,g0,hz0,R0⟩:=q0l w [.bool s,.slice a k c,.slice a' k' c'] 97
 rw[aD]
 clear aD
 refine Calls.mono (P:=Tryz.prog) (MW.out w0 g0) ?_
 rintro e1 w1 ⟨rfl,g1⟩
 go_wp2_with fail
 go_ret2
 exact⟨rfl,G.trans g0 g1⟩
def fex (b:Nat):Nat:=b/2^52%2^11
def fmag (b:Nat):Nat:=if fex b=0 then b%2^52 else 2^52+b%2^52
/-- What a finite float is. -/
def FQ (b:Nat):Rat:=mkRat (frN (FT.neg b) (fmag b) (fex b)) (frD (fex b))
theorem q5Z (w:World) (b:Nat) (h0:b<2^64) (he:fex b=2047):
  Calls Tryz.prog 94 #[.float .f64 b] w (q15 w 0 4):=by
 have HW:Hid (∀ w1,_):=fun w1=>q5c b (b%2^52) w1 h0 he rfl
 clear h0 he
 go_enter Tryz.func94,Tryz.ntmps94
 go_wp2_with fail
 obtain⟨w0,aD,g0,hz0,R0⟩:=q0l w [.bool false,.slice none 0 0,.slice none 0 0] 97
 rw[aD]
 clear aD
 refine Calls.mono (P:=Tryz.prog) (HW.out w0) ?_
 rintro e1 w1 ⟨rfl,g1⟩
 have hS:=Rec.f3 (Rec.G R0.out ((g1)))
 have dQ:=hS.1
 have dR:=hS.2.1
 have dS:=hS.2.2.1
 have dU:=hS.2.2.2.1
 have iX:=hS.2.2.2.2.1
 have iY:=hS.2.2.2.2.2
 clear hS
 go_wp2_with fail
 have hT:Hid (Rec (World.setCell (World.setCell (World.setCell w1 ⟨w.heap.size,0,none⟩ (.bool false)) ⟨w.heap.size,1,none⟩ (.slice none 0 0)) ⟨w.heap.size,2,none⟩ (.slice none 0 0)) (w.heap.size) [.bool false,.slice none 0 0,.slice none 0 0]):=Rec.set3 (Rec.G R0.out (g1))
 have g9:=Rec.g3 (b:=w.heap.size) (u:= .bool false) (v:= .slice none 0 0) (x:= .slice none 0 0) (G.trans g0 g1) (by omega)
 generalize (World.setCell (World.setCell (World.setCell w1 ⟨w.heap.size,0,none⟩ (.bool false)) ⟨w.heap.size,1,none⟩ (.slice none 0 0)) ⟨w.heap.size,2,none⟩ (.slice none 0 0))=w9 at *
 have hF:=Rec.f3 (Rec.G hT.out ((G.refl _)))
 have bS:=hF.1
 have bU:=hF.2.1
 have bV:=hF.2.2.1
 have bW:=hF.2.2.2.1
 have il:=hF.2.2.2.2.1
 have iq:=hF.2.2.2.2.2
 clear hF
 refine bodyPost_ret (v:= .tuple #[.agg #[.bool false,.slice none 0 0,.slice none 0 0],.int .i64 4]) (by simp [results,Tryz.results94,go_sem, *]) rfl ?_
 exact⟨_,rfl,g9,q2s w9⟩
theorem qbN (w:World) (b:Nat) (m e:Int) (q:Rat) (HW:∀ w1,G w w1→Calls Tryz.prog 138 #[.float .f64 b] w1 fun r w'=>r= .returned (.tuple #[.int .i64 m,.int .i64 e,.int .i64 0])∧G w1 w')
  (HS:∀ w1,Calls Tryz.prog 139 #[.int .i64 m,.int .i64 e] w1 (RetQ w1 q)):
  Calls Tryz.prog 94 #[.float .f64 b] w (q15 w q 0):=by
 have HW1:Hid (∀ w1,G w w1→_):=HW
 have tK:Hid (∀ w1,_):=HS
 clear HW HS
 go_enter Tryz.func94,Tryz.ntmps94
 go_wp2_with fail
 obtain⟨w0,aD,g0,hz0,R0⟩:=q0l w [.bool false,.slice none 0 0,.slice none 0 0] 97
 rw[aD]
 clear aD
 refine Calls.mono (P:=Tryz.prog) (HW1.out w0 g0) ?_
 rintro e1 w1 ⟨rfl,g1⟩
 go_wp2_with fail
 refine Calls.mono (P:=Tryz.prog) (tK.out w1) ?_
 intro e1 w2 hs
 obtain⟨v,rfl,g2,hv⟩:=hs
 clear HW1 tK
 obtain⟨a8,k8,c8,a9,k9,c9,rfl,kH,fe⟩:=hv
 have lK:Hid (Num w2 (.slice a8 k8 c8) (q).num.natAbs):=kH
 have jg:Hid (Num w2 (.slice a9 k9 c9) (q1T (q).den)):=fe
 obtain⟨t9,dM⟩:∃ t,t=decide ((q).num<0):=⟨_,rfl⟩
 rw[← dM]
 have jR:Hid (t9=decide ((q).num<0)):=dM
 clear kH fe dM
 have hS:=Rec.f3 (Rec.G R0.out ((G.trans g1 g2)))
 have dQ:=hS.1
 have dR:=hS.2.1
 have dS:=hS.2.2.1
 have dU:=hS.2.2.2.1
 have iX:=hS.2.2.2.2.1
 have iY:=hS.2.2.2.2.2
 clear hS
 have gX:Num _ _ _:=q0o (u1:= .bool t9) (u2:= .slice a8 k8 c8) (u3:= .slice a9 k9 c9) lK.out (Rec.G R0.out (G.trans g1 g2)) trivial trivial trivial
 have dD:Num _ _ _:=q0o (u1:= .bool t9) (u2:= .slice a8 k8 c8) (u3:= .slice a9 k9 c9) jg.out (Rec.G R0.out (G.trans g1 g2)) trivial trivial trivial
 go_wp2_with fail
 have hT:Hid (Rec (World.setCell (World.setCell (World.setCell w2 ⟨w.heap.size,0,none⟩ (.bool t9)) ⟨w.heap.size,1,none⟩ (.slice a8 k8 c8)) ⟨w.heap.size,2,none⟩ (.slice a9 k9 c9)) (w.heap.size) [.bool t9,.slice a8 k8 c8,.slice a9 k9 c9]):=Rec.set3 (Rec.G R0.out (G.trans g1 g2))
 have g9:=Rec.g3 (b:=w.heap.size) (u:= .bool t9) (v:= .slice a8 k8 c8) (x:= .slice a9 k9 c9) (G.trans g0 (G.trans g1 g2)) (by omega)
 generalize (World.setCell (World.setCell (World.setCell w2 ⟨w.heap.size,0,none⟩ (.bool t9)) ⟨w.heap.size,1,none⟩ (.slice a8 k8 c8)) ⟨w.heap.size,2,none⟩ (.slice a9 k9 c9))=w9 at *
 have hF:=Rec.f3 (Rec.G hT.out ((G.refl _)))
 have bS:=hF.1
 have bU:=hF.2.1
 have bV:=hF.2.2.1
 have bW:=hF.2.2.2.1
 have il:=hF.2.2.2.2.1
 have iq:=hF.2.2.2.2.2
 clear hF
 refine bodyPost_ret (v:= .tuple #[.agg #[.bool t9,.slice a8 k8 c8,.slice a9 k9 c9],.int .i64 0]) (by simp [results,Tryz.results94,go_sem, *]) rfl ?_
 exact⟨_,rfl,g9,a8,k8,c8,a9,k9,c9,by rw[← jR.out],gX,dD⟩
theorem qcE {s:Bool} {j k ex mag:Nat} (hm:mag=(2*j+1)*2^k):mk2 (if s then -(2*(j:Int)+1) else 2*(j:Int)+1) ((max ex 1:Nat)-1075+k)=mkRat (frN s mag ex) (frD ex):=by
 unfold mk2 frN frD frS
 rw[Rat.mkRat_eq_iff (by have:=Nat.two_pow_pos (-(((max ex 1:Nat):Int)-1075+k)).toNat;omega) (by have:=Nat.two_pow_pos (1075-max ex 1);omega)]
 have e:∀ X Y:Int,X*((2^k:Nat):Int)=Y→X*((2^(((max ex 1:Nat):Int)-1075+k).toNat:Nat):Int)*((2^(1075-max ex 1):Nat):Int)=Y*2^(max ex 1-1075)*((2^(-(((max ex 1:Nat):Int)-1075+k)).toNat:Nat):Int):=by
  intro X Y h
  rw[← h,Int.mul_assoc,Int.mul_assoc,Int.mul_assoc,FT.ipow,← Int.natCast_mul,← Int.natCast_mul,← Int.natCast_mul,← Nat.pow_add,← Nat.pow_add,← Nat.pow_add]
  congr 3
  omega
 cases s
 ·simp only[Bool.false_eq_true,if_false]
  refine e _ _ ?_
  rw[hm];push_cast;rfl
 ·simp only[if_true]
  refine e _ _ ?_
  rw[hm];push_cast;rw[Int.neg_mul]
theorem of_c (w:World) (b:Nat) (hT:Tab w) (h0:b<2^64) (he:fex b<2047):
  Calls Tryz.prog 94 #[.float .f64 b] w (q15 w (FQ b) 0):=by
 have hex:b/2^52%2^11=fex b:=rfl
 have hfr:b%2^52<2^52:=Nat.mod_lt _ (by omega)
 have hmb:fmag b<2^53:=by unfold fmag;split<;>omega
 by_cases hm:fmag b=0
 ·have h1:fex b=0:=by
   unfold fmag at hm
   split at hm
   ·assumption
   ·omega
  have h2:b%2^52=0:=by unfold fmag at hm;rwa[if_pos h1] at hm
  have hq:FQ b=mk2 0 0:=by
   unfold FQ mk2
   rw[hm]
   unfold frN frS
   simp
  rw[hq]
  exact qbN w b 0 0 _ (fun w1 _=>q4B b w1 h0 (hex.trans h1) h2) (fun w1=>q4V w1 0 0 (by omega) (by omega) (by omega) (by omega) (Or.inl rfl))
 ·obtain⟨j,k,hj⟩:=q40 (fmag b) (by omega)
  have hj2:2*j+1≤fmag b:=by
   rw[hj];exact Nat.le_mul_of_pos_right _ (Nat.two_pow_pos k)
  have hk:k<53:=by
   have:2^k≤fmag b:=by rw[hj];exact Nat.le_mul_of_pos_left _ (by omega)
   exact(Nat.pow_lt_pow_iff_right (by omega:1<2)).1 (Nat.lt_of_le_of_lt this hmb)
  have hq:FQ b=mk2 (if FT.neg b then -(2*(j:Int)+1) else 2*(j:Int)+1) ((max (fex b) 1:Nat)-1075+k):=(qcE hj).symm
  rw[hq]
  refine qbN w b _ _ _ (fun w1 g=>qal b (fex b) (b%2^52) (fmag b) j k w1 (hT.G g) h0 rfl rfl he rfl hj) (fun w1=>q4V w1 _ _ ?_ ?_ ?_ ?_ ?_)
  ·split<;>omega
  ·split<;>omega
  ·omega
  ·omega
  ·right;split<;>omega
theorem q4j {p Q:Nat} (h:Q≤2^53) (h2:2^52≤Q∨p=0):FT.v (p*2^52+Q)=Q*2^p:=by
 by_cases h3:Q<2^52
 ·have hp:p=0:=by omega
  subst hp
  rw[Nat.zero_mul,Nat.zero_add,FT.v_sub h3,Nat.pow_zero,Nat.mul_one]
 ·by_cases h4:Q<2^53
  ·rw[show p*2^52+Q=(p+1)*2^52+(Q-2^52) from by omega,FT.v_nor' _ _ (by omega) (by omega),Nat.add_sub_cancel,show 2^52+(Q-2^52)=Q from by omega]
  ·have hQ:Q=2^53:=by omega
   subst hQ
   rw[show p*2^52+2^53=(p+2)*2^52+0 from by omega,FT.v_nor' _ _ (by omega) (by omega),show p+2-1=p+1 from by omega,Nat.pow_succ 2 p,Nat.add_zero,show (2:Nat)^53=2^52*2 from rfl]
   ac_rfl
theorem q2d {A B:Nat} (hA:A≠0) (hB:B≠0) {P:Int} (hP:P=q0M A B):
  upP A P<2^53*loP B P∧(P= -1074∨2^52*loP B P≤upP A P):=by
 have hP':P=max (expo A B-52) (-1074):=hP
 have k1:=q42 hA hB ((-P).toNat+(-expo A B).toNat) (by omega)
 have k2:=q2E hA hB ((-P).toNat+(-expo A B).toNat) (by omega)
 generalize expo A B=x at *
 unfold upP loP
 constructor
 ·have h1:((((-P).toNat+(-x).toNat:Nat):Int)+(x+1)).toNat≤P.toNat+53+(-x).toNat:=by omega
  have h2:=Nat.lt_of_lt_of_le k1 (Nat.mul_le_mul_left B (Nat.pow_le_pow_right (by omega:0<2) h1))
  rw[Nat.pow_add,Nat.pow_add 2 _ (-x).toNat,← Nat.mul_assoc,← Nat.mul_assoc] at h2
  have h3:=Nat.lt_of_mul_lt_mul_right h2
  rw[Nat.pow_add] at h3
  calc _<_:=h3
   _=_:=by ac_rfl
 ·by_cases h0:P= -1074
  ·exact Or.inl h0
  ·refine Or.inr ?_
   have h1:P.toNat+52+(-x).toNat≤((((-P).toNat+(-x).toNat:Nat):Int)+x).toNat:=by omega
   have h2:=Nat.le_trans (Nat.mul_le_mul_left B (Nat.pow_le_pow_right (by omega:0<2) h1)) k2
   rw[Nat.pow_add 2 (-P).toNat,Nat.pow_add 2 _ (-x).toNat,← Nat.mul_assoc,← Nat.mul_assoc] at h2
   have h3:=Nat.le_of_mul_le_mul_right h2 (Nat.two_pow_pos _)
   rw[Nat.pow_add] at h3
   calc _=_:=by ac_rfl
    _≤_:=h3
theorem q76 {R D:Nat} (h:q1x R D=0):R=0:=by
 unfold q1x at h
 split at h
 ·assumption
 ·split at h
  ·omega
  ·split at h<;>omega
/-- Where a ratio lies among the floats. -/
theorem q46 {A B:Nat} (hA:A≠0) (hB:B≠0):
  tV A B<2047*2^52∧FT.v (tV A B)*B≤A*2^1074∧(lV A B=0→FT.v (tV A B)*B=A*2^1074)∧(tV A B+1<2047*2^52→A*2^1074≤FT.v (tV A B+1)*B):=by
 obtain⟨P,hP⟩:∃ P,P=q0M A B:=⟨_,rfl⟩
 have hlo: -1074≤P:=by rw[hP];unfold q0M;omega
 unfold tV lV
 rw[← hP]
 by_cases hbig:971<P
 ·rw[if_pos hbig,if_pos hbig]
  refine⟨by omega,?_,fun h=>by omega,fun h=>by omega⟩
  have k2:=q2E hA hB 1074 (by have:P=max (expo A B-52) (-1074):=hP;omega)
  obtain⟨n,hn⟩:∃ n:Nat,n=2045:=⟨_,rfl⟩
  have hx:53+n≤(((1074:Nat):Int)+expo A B).toNat:=by have:P=max (expo A B-52) (-1074):=hP;omega
  have h1:FT.v (2047*2^52-1)≤2^(((1074:Nat):Int)+expo A B).toNat:=by
   rw[show 2047*2^52-1=2046*2^52+(2^52-1) from rfl,FT.v_nor' _ _ (by omega) (by omega)]
   refine Nat.le_trans ?_ (Nat.pow_le_pow_right (by omega:0<2) hx)
   rw[show 2046-1=n from by omega,Nat.pow_add]
   exact Nat.mul_le_mul_right _ (by omega)
  refine Nat.le_trans (Nat.mul_le_mul_right B h1) ?_
  rw[Nat.mul_comm]
  exact k2
 ·rw[if_neg hbig,if_neg hbig]
  obtain⟨b1,b2⟩:=q2d hA hB hP
  have hD:0<loP B P:=Nat.mul_pos (Nat.pos_of_ne_zero hB) (Nat.two_pow_pos _)
  have FE:upP A P/loP B P<2^53:=(Nat.div_lt_iff_lt_mul hD).2 b1
  have BZ:2^52≤upP A P/loP B P∨(P+1074).toNat=0:=by
   rcases b2 with h|h
   ·exact Or.inr (by omega)
   ·exact Or.inl ((Nat.le_div_iff_mul_le hD).2 h)
  have hm:=Nat.div_add_mod (upP A P) (loP B P)
  have hl:=Nat.mod_lt (upP A P) hD
  have hv:FT.v ((P+1074).toNat*2^52+upP A P/loP B P)=upP A P/loP B P*2^(P+1074).toNat:=q4j (Nat.le_of_lt FE) BZ
  have hv1:FT.v ((P+1074).toNat*2^52+upP A P/loP B P+1)=(upP A P/loP B P+1)*2^(P+1074).toNat:=by
   rw[Nat.add_assoc]
   exact q4j FE (by omega)
  rw[hv,hv1]
  have scale:∀ X:Nat,X*2^(P+1074).toNat*B=X*loP B P*2^(1074-(-P).toNat):=fun X=>by
   unfold loP
   rw[show (P+1074).toNat=P.toNat+(1074-(-P).toNat) from by omega,Nat.pow_add]
   ac_rfl
  have hup:A*2^1074=upP A P*2^(1074-(-P).toNat):=by
   unfold upP
   rw[Nat.mul_assoc,← Nat.pow_add,show (-P).toNat+(1074-(-P).toNat)=1074 from by omega]
  rw[scale,scale,hup]
  generalize 2^(1074-(-P).toNat)=S
  have e1:upP A P/loP B P*loP B P=loP B P*(upP A P/loP B P):=Nat.mul_comm _ _
  refine⟨?_,Nat.mul_le_mul_right _ (by omega),fun h=> ?_,fun _=>Nat.mul_le_mul_right _ (by rw[Nat.add_mul,Nat.one_mul];omega)⟩
  ·have h3:(P+1074).toNat≤2045:=by omega
   generalize upP A P/loP B P=Q at *
   generalize (P+1074).toNat=p at *
   omega
  ·have h0:=q76 h
   rw[h0] at hm
   have h4:upP A P/loP B P*loP B P=upP A P:=by omega
   rw[h4]
/-- A finite float as a ratio. -/
theorem fq_v (s:Bool) {V:Nat} (h:V<2047*2^52):FQ (FT.wrd s V)=mkRat (if s then -(FT.v V:Int) else FT.v V) (2^1074)∧fex (FT.wrd s V)<2047:=by
 have e1:fex (FT.wrd s V)=V/2^52:=by
  unfold fex FT.wrd
  cases s<;>simp only[if_true,Bool.false_eq_true,if_false]<;>omega
 have e2:FT.wrd s V%2^52=V%2^52:=by
  unfold FT.wrd
  cases s<;>simp only[if_true,Bool.false_eq_true,if_false]<;>omega
 have e3:FT.neg (FT.wrd s V)=s:=by
  unfold FT.neg FT.wrd
  cases s
  ·simp only[Bool.false_eq_true,if_false,beq_eq_false_iff_ne,ne_eq];omega
  ·simp only[if_true,beq_iff_eq];omega
 refine⟨?_,by rw[e1];omega⟩
 have hm:fmag (FT.wrd s V)*2^(max (V/2^52) 1-1)=FT.v V:=by
  unfold fmag
  rw[e1,e2]
  by_cases h1:V<2^52
  ·rw[FT.v_sub h1,if_pos (by omega),show max (V/2^52) 1-1=0 from by omega,Nat.pow_zero,Nat.mul_one]
   omega
  ·rw[FT.v_nor h1,if_neg (by omega),show max (V/2^52) 1=V/2^52 from by omega]
 unfold FQ
 rw[e1,e3]
 rw[← hm]
 clear hm e1 e2 e3
 obtain⟨E,hE⟩:∃ E:Nat,E=1074:=⟨_,rfl⟩
 rw[← hE]
 generalize fmag (FT.wrd s V)=m
 generalize V/2^52=x
 unfold frN frD frS
 rw[Rat.mkRat_eq_iff (by have:=Nat.two_pow_pos (1075-max x 1);omega) (by have:=Nat.two_pow_pos E;omega)]
 have k:∀ z:Int,z*2^(max x 1-1075)*((2^E:Nat):Int)=z*((2^(max x 1-1):Nat):Int)*((2^(1075-max x 1):Nat):Int):=fun z=>by
  rw[Int.mul_assoc,Int.mul_assoc]
  refine congrArg (z*·) ?_
  rw[FT.ipow,← Int.natCast_mul,← Int.natCast_mul,← Nat.pow_add,← Nat.pow_add,show max x 1-1075+E=max x 1-1+(1075-max x 1) from by omega]
 cases s
 ·simp only[Bool.false_eq_true,if_false]
  rw[Int.natCast_mul]
  exact k (m:Int)
 ·simp only[if_true]
  rw[Int.natCast_mul,← Int.neg_mul]
  exact k (-(m:Int))
/-- The place of a number's float that is rounded so. -/
theorem qcC (m:Int) (s:Bool) {A B:Nat} (hA:A≠0) (hB:B≠0):rdV m s A B≤2047*2^52:=by
 have:=(q46 hA hB).1
 unfold rdV
 split<;>omega
theorem qaL (m:Int) (s:Bool) (A B:Nat):rdV m s A B=tV A B∨(rdV m s A B=tV A B+1∧lV A B≠0):=by
 unfold rdV
 split
 ·rename_i h;exact Or.inr ⟨rfl,h.1⟩
 ·exact Or.inl rfl
end Go.Proofs.YtljkfjjchkehaaaGreatDoor.EN
namespace Go.Proofs.YtljkfjjchkehaaaGreatDoor
open Go.RowKit
/-- A ratio of whole numbers in lowest terms. -/
theorem q9m {sa sb:Int} (h:sb≠0):((sa:Rat)/(sb:Rat))=mkRat (if sb<0 then -sa else sa) sb.natAbs:=by
 rw[Rat.mkRat_eq_div]
 by_cases h0:sb<0
 ·rw[if_pos h0]
  have e:((sb.natAbs:Nat):Rat)= -((sb:Int):Rat):=by
   have:((sb.natAbs:Nat):Int)= -sb:=by omega
   show (((sb.natAbs:Nat):Int):Rat)=_
   rw[this];rfl
  rw[e]
  rw[Rat.div_def,Rat.div_def]
  have hn:((sb:Int):Rat)≠0:=by intro e2;have:=congrArg Rat.num e2;exact h this
  have e3:(-((sb:Int):Rat))⁻¹ = -(((sb:Int):Rat)⁻¹):=by
   refine Rat.inv_eq_of_mul_eq_one ?_
   rw[Rat.neg_mul,Rat.mul_neg,Rat.neg_neg,Rat.mul_inv_cancel _ hn]
  rw[e3,Rat.mul_neg]
  show _= -((-(sa:Rat))*_)
  rw[Rat.neg_mul,Rat.neg_neg]
 ·rw[if_neg h0]
  have e:((sb.natAbs:Nat):Rat)=((sb:Int):Rat):=by
   have:((sb.natAbs:Nat):Int)=sb:=by omega
   show (((sb.natAbs:Nat):Int):Rat)=_
   rw[this]
  rw[e]
theorem q23 {z:Int} {d:Nat} (hd:0<d) {q:Rat} (h:q=mkRat z d):q.num=Int.tdiv z (Nat.gcd z.natAbs d:Nat)∧q.den=d/Nat.gcd z.natAbs d:=by
 have hg:0<Nat.gcd z.natAbs d:=Nat.gcd_pos_of_pos_right _ hd
 obtain⟨a,ha⟩:=Nat.gcd_dvd_right z.natAbs d
 have hz:z=Int.tdiv z (Nat.gcd z.natAbs d:Nat)*((Nat.gcd z.natAbs d:Nat):Int):=by
  rw[Int.tdiv_mul_cancel (Int.ofNat_dvd_left.2 (Nat.gcd_dvd_left _ _))]
 have Gj:d/Nat.gcd z.natAbs d*Nat.gcd z.natAbs d=d:=Nat.div_mul_cancel (Nat.gcd_dvd_right _ _)
 have hd2:0<d/Nat.gcd z.natAbs d:=Nat.div_pos (Nat.le_of_dvd hd (Nat.gcd_dvd_right _ _)) hg
 have hab:(Int.tdiv z (Nat.gcd z.natAbs d:Nat)).natAbs=z.natAbs/Nat.gcd z.natAbs d:=by
  rw[Int.natAbs_tdiv,Int.natAbs_natCast];rfl
 refine EN.rat_low hd2 (by rw[hab];exact Nat.gcd_div_gcd_div_gcd_of_pos_right hd) ?_
 have h1:=EN.mk_cross hd h
 have hgi:((Nat.gcd z.natAbs d:Nat):Int)≠0:=by omega
 refine Int.eq_of_mul_eq_mul_right hgi ?_
 rw[show Int.tdiv z (Nat.gcd z.natAbs d:Nat)*(q.den:Int)*((Nat.gcd z.natAbs d:Nat):Int)=Int.tdiv z (Nat.gcd z.natAbs d:Nat)*((Nat.gcd z.natAbs d:Nat):Int)*q.den from by ac_rfl,← hz,h1,Int.mul_assoc,← Int.natCast_mul,Gj]
end Go.Proofs.YtljkfjjchkehaaaGreatDoor
namespace Go.Proofs.YtljkfjjchkehaaaGreatDoor.EN
open Go.RowKit
theorem q7R {q:Rat} {z:Int} {d K:Nat} (hd:0<d) (h:q=mkRat z d) (h1:z.natAbs<2^(64*K)) (h2:d<2^(64*K)):QB q K:=by
 obtain⟨e1,e2⟩:=q23 hd h
 refine⟨?_,?_⟩
 ·rw[e1,Int.natAbs_tdiv,Int.natAbs_natCast]
  exact Nat.lt_of_le_of_lt (Nat.div_le_self _ _) h1
 ·rw[e2]
  exact Nat.lt_of_le_of_lt (Nat.div_le_self _ _) h2
theorem qci {b:Nat} (h:fex b<2047):QB (FQ b) 80:=by
 have hm:fmag b<2^53:=by unfold fmag;split<;>omega
 obtain⟨K,hK⟩:∃ K:Nat,K=80:=⟨_,rfl⟩
 obtain⟨M,hM⟩:∃ M:Nat,M=5000:=⟨_,rfl⟩
 rw[← hK]
 refine q7R (q5A _) rfl ?_ ?_
 ·rw[q7L]
  have h1:2^(max (fex b) 1-1075)≤2^M:=Nat.pow_le_pow_right (by omega) (by omega)
  have h2:2^53*2^M<2^(64*K):=by rw[← Nat.pow_add];exact Nat.pow_lt_pow_right (by omega) (by omega)
  exact Nat.lt_of_le_of_lt (Nat.mul_le_mul (Nat.le_of_lt hm) h1) h2
 ·unfold frD
  exact Nat.pow_lt_pow_right (by omega) (by omega)
end Go.Proofs.YtljkfjjchkehaaaGreatDoor.EN
namespace Go.Proofs.YtljkfjjchkehaaaGreatDoor
open Go.ChangeShapes Go.WideShapes Go.ChangeAt Go.RowKit
open BN
theorem Rec.new4 (w:World) (x y z u:Value) (t:TypeId):Rec (w.alloc (.cells #[x,y,z,u] t)) w.heap.size [x,y,z,u]:=Rec.new w [x,y,z,u] t
theorem Rec.f4 {w:World} {b:Nat} {x y z u:Value} (h:Rec w b [x,y,z,u]):w.cell? ⟨b,0,none⟩=some x∧w.cell? ⟨b,1,none⟩=some y∧w.cell? ⟨b,2,none⟩=some z∧w.cell? ⟨b,3,none⟩=some u∧w.frozen? ⟨b,0,none⟩=false∧w.frozen? ⟨b,1,none⟩=false∧w.frozen? ⟨b,2,none⟩=false∧w.frozen? ⟨b,3,none⟩=false:=
 ⟨h.cell 0,h.cell 1,h.cell 2,h.cell 3,h.frozen 0,h.frozen 1,h.frozen 2,h.frozen 3⟩
theorem q54 {w:World} {v:Value} {n b:Nat} {x y z u u1 u2 u3 u4:Value} (h:Num w v n) (r:Rec w b [x,y,z,u]) (hx:∀ c∈[x,y,z,u],∀ k i,c≠ .int k i):
  Num ((((w.setCell ⟨b,0,none⟩ u1).setCell ⟨b,1,none⟩ u2).setCell ⟨b,2,none⟩ u3).setCell ⟨b,3,none⟩ u4) v n:=by
 obtain⟨m,hm,hcm,hv⟩:=h
 refine⟨m,?_,hcm,hv⟩
 rcases Sl.cases hm with ⟨rfl,a,c,rfl⟩|⟨hne,b2,o,c,rfl,hcc,hb,hr⟩
 ·exact⟨hm.1,Or.inl ⟨rfl,a,c,rfl⟩⟩
 ·have hbb:b2≠b:=by
   intro e
   subst e
   have h0:=hr 0 (List.length_pos_iff.2 hne)
   rw[r.cell] at h0
   exact hx _ (List.mem_of_getElem? h0) _ _ rfl
  refine⟨hm.1,Or.inr ⟨b2,o,c,rfl,hcc,by simpa [World.setCell] using hb,fun i hi=> ?_⟩⟩
  rw[World.cell?_setCell_other _ _ _ _ (by intro e;injection e with e1;exact hbb e1.symm),World.cell?_setCell_other _ _ _ _ (by intro e;injection e with e1;exact hbb e1.symm),World.cell?_setCell_other _ _ _ _ (by intro e;injection e with e1;exact hbb e1.symm),World.cell?_setCell_other _ _ _ _ (by intro e;injection e with e1;exact hbb e1.symm)]
  exact hr i hi
set_option maxRecDepth 10000 in
set_option maxHeartbeats 2000000 in
theorem q5y (w:World) (bz ba oa bb ob:Nat) (sa sb:Int) (K:Nat) (hK:K≤300000) (hA2:sa.natAbs<2^(32*K)) (hB2:sb.natAbs<2^(32*K)) (hB0:sb≠0) (jO:ba<w.heap.size) (hbb:bb<w.heap.size)
  (hz:Rec w bz [.bool false,.slice none 0 0,.bool false,.slice none 0 0]) (ha:IntIs w ba oa sa) (hb:IntIs w bb ob sb):
  Calls Tryz.prog 48 #[.pointer (some ⟨bz,0,none⟩),.pointer (some ⟨ba,oa,none⟩),.pointer (some ⟨bb,ob,none⟩)] w (NormTo w bz ((sa:Rat)/(sb:Rat)).num ((sa:Rat)/(sb:Rat)).den):=by
 have hbz:=hz.lt
 have sD:Hid (∀ w1 p,G w w1→NI w w1 p 0→_):=fun w1 p g h=>q6A w1 p 0 ba oa 0 sa K (by omega) hA2 h.2.1 (G.lt g jO) h.2.2 (ha.G jO g)
 have o9:Hid (∀ w1 p,G w w1→NI w w1 p 0→_):=fun w1 p g h=>q6A w1 p 0 bb ob 0 sb K (by omega) hB2 h.2.1 (G.lt g hbb) h.2.2 (hb.G hbb g)
 have HZ:Hid (Rec w bz [.bool false,.slice none 0 0,.bool false,.slice none 0 0]):=hz
 have HA2:Hid (sa.natAbs<2^(32*K)):=hA2
 have HB2:Hid (sb.natAbs<2^(32*K)):=hB2
 have HB0:Hid (sb≠0):=hB0
 obtain⟨nb,vb,b',⟨-,c2,-,-⟩,hvb,hsb,-⟩:=hb
 obtain⟨m,hm,hcm,hmv⟩:=hvb
 obtain⟨pb,cb,rfl,-,-⟩:=q0p hm
 have hm0:m.length≠0:=by
  intro h0
  rw[List.eq_nil_of_length_eq_zero h0] at hmv
  have:b'=0:=hmv.symm
  rw[this] at hsb
  unfold sg at hsb
  cases nb<;>simp at hsb<;>omega
 have lY:((m.length:Int)==0)=false:=by simp;intro h;exact hm0 (by rw[h];rfl)
 generalize m.length=j at *
 clear hz ha hm hcm hmv hsb hm0 hA2 hB2 hB0
 go_enter Tryz.func48,Tryz.ntmps48
 go_wp2_with fail
 have hn0:=NI.new (G.refl w) 38
 have fM:=(G.refl w).alloc (.cells #[.bool false,.slice none 0 0] 38)
 refine Calls.mono (P:=Tryz.prog) (sD.out _ _ fM hn0) ?_
 intro e w3 hs
 obtain⟨rfl,hG3,l5,-,-⟩:=SetTo.step fM hn0 hs
 clear hs hn0 fM c2
 have hlt:bz<w.heap.size:=hbz
 generalize hpn:w.heap.size=pn at *
 go_wp2_with fail
 have hn0:=NI.new hG3 38
 have uK:=l5.G ((G.refl w3).alloc (.cells #[.bool false,.slice none 0 0] 38))
 have fM:=G.trans hG3 ((G.refl w3).alloc (.cells #[.bool false,.slice none 0 0] 38))
 have hne:w3.heap.size≠pn:=by have:=l5.2.1;omega
 refine Calls.mono (P:=Tryz.prog) (o9.out _ _ fM hn0) ?_
 intro e w4 hs
 obtain⟨rfl,hG4,hD4,-,hkp⟩:=SetTo.step fM hn0 hs
 have Cw:=hkp pn sa hne.symm uK
 clear hs hn0 fM hkp uK l5 hG3 sD o9
 generalize w3.heap.size=pd at *
 have vI:=hD4.1
 have Jo:=Cw.1
 obtain⟨-,Jp,n1,v1,a1,⟨c1,c2,-,-⟩,hv1,h1,Ez⟩:=Cw
 obtain⟨-,Jq,n2,v2,a2,⟨c3,c4,-,-⟩,hv2,h2,EA⟩:=hD4
 have FM:=Rec.G HZ.out hG4
 have hf:=Rec.f4 FM
 have z1:=hf.1
 have z2:=hf.2.1
 have z3:=hf.2.2.1
 have z4:=hf.2.2.2.1
 have f1:=hf.2.2.2.2.1
 have f2:=hf.2.2.2.2.2.1
 have f3:=hf.2.2.2.2.2.2.1
 have f4:=hf.2.2.2.2.2.2.2
 obtain⟨q1,r1,t1,rfl⟩:=q1S hv1
 obtain⟨q2,r2,t2,rfl⟩:=q1S hv2
 simp only[Nat.zero_add] at c2 c4
 have Gw:¬ bz=pn:=by omega
 have hnd:¬ bz=pd:=by omega
 have Jr:¬ pn=bz:=by omega
 have hnd':¬ pd=bz:=by omega
 have hci:∀ c∈[Value.bool false,.slice none 0 0,.bool false,.slice none 0 0],∀ k i,c≠ .int k i:=by
  intro c hc k i
  simp at hc
  rcases hc with rfl|rfl|rfl|rfl<;>(intro e;cases e)
 have lL:Hid _:=q54 (u1:= .bool n1) (u2:= .slice q1 r1 t1) (u3:= .bool n2) (u4:= .slice q2 r2 t2) hv1 FM hci
 have nN:Hid _:=q54 (u1:= .bool n1) (u2:= .slice q1 r1 t1) (u3:= .bool n2) (u4:= .slice q2 r2 t2) hv2 FM hci
 have OZ:Hid (Rec ((((w4.setCell ⟨bz,0,none⟩ (.bool n1)).setCell ⟨bz,1,none⟩ (.slice q1 r1 t1)).setCell ⟨bz,2,none⟩ (.bool n2)).setCell ⟨bz,3,none⟩ (.slice q2 r2 t2)) bz [.bool n1,.slice q1 r1 t1,.bool n2,.slice q2 r2 t2]):=(((FM.set 0 _).set 1 _).set 2 _).set 3 _
 have ve:Hid (GX bz w ((((w4.setCell ⟨bz,0,none⟩ (.bool n1)).setCell ⟨bz,1,none⟩ (.slice q1 r1 t1)).setCell ⟨bz,2,none⟩ (.bool n2)).setCell ⟨bz,3,none⟩ (.slice q2 r2 t2))):=GX.set (GX.set (GX.set (GX.set (GX.of hG4) _) _) _) _
 have hf2:=Rec.f4 OZ.out
 have FN:Hid (IntIs ((((w4.setCell ⟨bz,0,none⟩ (.bool n1)).setCell ⟨bz,1,none⟩ (.slice q1 r1 t1)).setCell ⟨bz,2,none⟩ (.bool n2)).setCell ⟨bz,3,none⟩ (.slice q2 r2 t2)) bz 0 sa):=⟨n1,_,a1,⟨hf2.1,hf2.2.1,hf2.2.2.2.2.1,hf2.2.2.2.2.2.1⟩,lL.out,h1,Ez⟩
 have FO:Hid (IntIs ((((w4.setCell ⟨bz,0,none⟩ (.bool n1)).setCell ⟨bz,1,none⟩ (.slice q1 r1 t1)).setCell ⟨bz,2,none⟩ (.bool n2)).setCell ⟨bz,3,none⟩ (.slice q2 r2 t2)) bz 2 sb):=⟨n2,_,a2,⟨hf2.2.2.1,hf2.2.2.2.1,hf2.2.2.2.2.2.2.1,hf2.2.2.2.2.2.2.2⟩,nN.out,h2,EA⟩
 have hq:=q9m (sa:=sa) HB0.out
 have hlow:=q23 (by have:=HB0.out;omega) hq
 have FP:(if sb<0 then -sa else sa).natAbs=sa.natAbs:=by split<;>omega
 rw[FP] at hlow
 obtain⟨P,hP⟩:∃ P,P=((sa:Rat)/(sb:Rat)).num:=⟨_,rfl⟩
 obtain⟨D,hD⟩:∃ D,D=((sa:Rat)/(sb:Rat)).den:=⟨_,rfl⟩
 rw[← hP,← hD] at hlow
 have HN:Hid (∀ w5,bz<w5.heap.size→IntIs w5 bz 0 sa→IntIs w5 bz 2 sb→Calls Tryz.prog 90 #[.pointer (some ⟨bz,0,none⟩)] w5 (NormTo w5 bz P D)):=by
  intro w5 k1 k2 k3
  by_cases hneg:sb<0
  ·have h:=q6T w5 bz sa sb.natAbs K hK HA2.out HB2.out (by omega) k1 k2 (by rw[show -((sb.natAbs:Nat):Int)=sb from by omega];exact k3)
   rw[if_pos hneg] at hlow
   rw[hlow.1,hlow.2];exact h
  ·obtain⟨n,va,A,ia,Hl,ea,nI⟩:=k2
   obtain⟨m2,vb,B,ib,Hm,eb,Ho⟩:=k3
   have hm2:m2=false:=by
    cases m2
    ·rfl
    ·have h1:=Ho rfl
     unfold sg at eb;simp at eb;omega
   subst hm2
   have CJ:B=sb.natAbs:=by unfold sg at eb;simp at eb;omega
   have hAs:A=sa.natAbs:=q0O ea
   have h:=q9O w5 bz n va vb A B K hK (by rw[hAs];exact HA2.out) (by rw[CJ];exact HB2.out) (by have:=HB0.out;omega) nI k1 ⟨ia,Hl,ib,Hm⟩
   rw[if_neg hneg] at hlow
   rw[q7o,ea,hAs,CJ,← hlow.1,← hlow.2] at h
   exact h
 have hsz:bz<((((w4.setCell ⟨bz,0,none⟩ (.bool n1)).setCell ⟨bz,1,none⟩ (.slice q1 r1 t1)).setCell ⟨bz,2,none⟩ (.bool n2)).setCell ⟨bz,3,none⟩ (.slice q2 r2 t2)).heap.size:=by
  have:bz<w4.heap.size:=by omega
  simpa [World.setCell] using this
 have jJ:Hid _:=HN.out _ hsz FN.out FO.out
 have P5:Hid (P=((sa:Rat)/(sb:Rat)).num∧D=((sa:Rat)/(sb:Rat)).den):=⟨hP,hD⟩
 clear Ez h1 h2 EA hv1 hv2 HZ FM hf hf2 hci lL nN OZ FN FO hq hlow FP hP hD HN
 go_wp2_with fail
 refine Calls.mono (P:=Tryz.prog) jJ.out ?_
 intro e w6 hs
 obtain⟨rfl,k1,k2⟩:=hs
 have lZ:Hid (RatIs w6 bz P (D:Int)):=k2
 have zu:Hid (GX bz w w6):=GX.trans ve.out k1
 clear k1 k2
 go_wp2_with fail
 go_ret
 exact⟨rfl,zu.out,by rw[← P5.out.1,← P5.out.2];exact lZ.out⟩
set_option maxHeartbeats 8000000 in
theorem qbg (w:World) (bz bx b2:Nat) (xa ya:Int) (xb yb:Nat) (KB:Nat) (hK:KB≤100000) (hx2:xa.natAbs<2^(32*KB)) (hy2:ya.natAbs<2^(32*KB)) (iZ:xb<2^(32*KB)) (jy:yb<2^(32*KB)) (hxb:0<xb) (hyb:0<yb) (hya:ya≠0)
  (hbx:bx<w.heap.size) (hby:b2<w.heap.size) (hz:Rec w bz [.bool false,.slice none 0 0,.bool false,.slice none 0 0]) (hx:RatIs w bx xa xb) (hy:RatIs w b2 ya yb):
  Calls Tryz.prog 33 #[.pointer (some ⟨bz,0,none⟩),.pointer (some ⟨bx,0,none⟩),.pointer (some ⟨b2,0,none⟩)] w (NormTo w bz (((xa*yb:Int):Rat)/((xb*ya:Int):Rat)).num (((xa*yb:Int):Rat)/((xb*ya:Int):Rat)).den):=by
 have jZ:Hid (xa.natAbs<2^(32*KB)):=hx2
 have nO:Hid (ya.natAbs<2^(32*KB)):=hy2
 have mr:Hid ((xb:Int).natAbs<2^(32*KB)):=by show (xb:Int).natAbs<2^(32*KB);rw[Int.natAbs_natCast];exact iZ
 have jL:Hid ((yb:Int).natAbs<2^(32*KB)):=by show (yb:Int).natAbs<2^(32*KB);rw[Int.natAbs_natCast];exact jy
 have HX0:Hid (IntIs w bx 0 xa):=hx.1
 have uH:Hid (IntIs w b2 0 ya):=hy.1
 have Bq:Hid (IntIs w bx 2 xb):=hx.2
 have zD:Hid (IntIs w b2 2 yb):=hy.2
 have qi:Hid (RatIs w bx xa xb):=hx
 have kV:Hid (RatIs w b2 ya yb):=hy
 have C8:Hid (Rec w bz [.bool false,.slice none 0 0,.bool false,.slice none 0 0]):=hz
 have jb:(xb:Int)≠0:=by omega
 have eZ:(yb:Int)≠0:=by omega
 have gY:Hid ((xa*yb).natAbs<2^(32*(2*KB))):=by
  show (xa*yb).natAbs<2^(32*(2*KB))
  rw[Int.natAbs_mul,Int.natAbs_natCast,show 32*(2*KB)=32*KB+32*KB from by omega,Nat.pow_add]
  exact Nat.mul_lt_mul'' hx2 jy
 have HD2:Hid (((xb:Int)*ya).natAbs<2^(32*(2*KB))):=by
  show ((xb:Int)*ya).natAbs<2^(32*(2*KB))
  rw[Int.natAbs_mul,Int.natAbs_natCast,show 32*(2*KB)=32*KB+32*KB from by omega,Nat.pow_add]
  exact Nat.mul_lt_mul'' iZ hy2
 have HD0:Hid ((xb:Int)*ya≠0):=Int.mul_ne_zero jb hya
 clear hx hy hz hx2 hy2 iZ jy hxb hyb hya
 go_enter Tryz.func33,Tryz.ntmps33
 go_wp2_with fail
 refine q0L 15 (G w) (by kernel_rfl) (by first|exact(G.refl _).drew|exact G.drew (by assumption)) ?_
 intro di
 refine q02 0 (v:= ?_) rfl (by kernel_rfl) (fun _ _ _ h=>h) rfl ?_ ‹_› ?_
 rotate_left
 ·intro wq hwq
  first|(go_simp;done)|(go_simp;with_reducible rfl)
 try simp only[aput,List.set]
 refine q02 2 (v:= ?_) rfl (by kernel_rfl) (fun _ _ _ h=>h) rfl ?_ ‹_› ?_
 rotate_left
 ·intro wq hwq
  first|(go_simp;done)|(go_simp;with_reducible rfl)
 try simp only[aput,List.set]
 refine q02 3 (v:= ?_) rfl (by kernel_rfl) (fun _ _ _ h=>h) rfl ?_ ‹_› ?_
 rotate_left
 ·intro wq hwq
  first|(go_simp;done)|(go_simp;with_reducible rfl)
 try simp only[aput,List.set]
 refine q02 4 (v:= ?_) rfl (by kernel_rfl) (fun _ _ _ h=>h) rfl ?_ ‹_› ?_
 rotate_left
 ·intro wq hwq
  first|(go_simp;done)|(go_simp;with_reducible rfl)
 try simp only[aput,List.set]
 refine q02 5 (v:= ?_) rfl (by kernel_rfl) (fun _ _ _ h=>h) rfl ?_ ‹_› ?_
 rotate_left
 ·intro wq hwq
  first|(go_simp;done)|(go_simp;with_reducible rfl)
 try simp only[aput,List.set]
 refine q02 9 (v:= ?_) rfl (by kernel_rfl) (fun _ _ _ h=>h) rfl ?_ ‹_› ?_
 rotate_left
 ·intro wq hwq
  first|(go_simp;done)|(go_simp;with_reducible rfl)
 try simp only[aput,List.set]
 refine q02 11 (v:= ?_) rfl (by kernel_rfl) (fun _ _ _ h=>h) rfl ?_ ‹_› ?_
 rotate_left
 ·intro wq hwq
  first|(go_simp;done)|(go_simp;with_reducible rfl)
 try simp only[aput,List.set]
 refine q02 12 (v:= ?_) rfl (by kernel_rfl) (fun _ _ _ h=>h) rfl ?_ ‹_› ?_
 rotate_left
 ·intro wq hwq
  first|(go_simp;done)|(go_simp;with_reducible rfl)
 try simp only[aput,List.set]
 refine q02 13 (v:= ?_) rfl (by kernel_rfl) (fun _ _ _ h=>h) rfl ?_ ‹_› ?_
 rotate_left
 ·intro wq hwq
  first|(go_simp;done)|(go_simp;with_reducible rfl)
 try simp only[aput,List.set]
 show q0E _ _ _ _ _ _ _ _ _ w.drew
 have hS5:=di
 generalize w.drew=w5 at *
 clear di
 apply share
 intro eG
 apply share
 intro fT
 apply share
 intro jA
 apply share
 intro mH
 apply share
 intro qj
 apply share
 intro ql
 refine q0k (i:=1) (j:=6) (l:=8) (by kernel_rfl) rfl rfl rfl ?_ ?_ ?_
 ·skip
  intro K hK
  go_simp
  refine hK.out _ _ (Or.inr (hS5.alloc _)) ?_
  clear hK K
  have hn:=NI.new hS5 38
  have hal:=(G.refl w5).alloc (.cells #[.bool false,.slice none 0 0] 38)
  have bE:=G.trans hS5 hal
  generalize w5.heap.size=pn at *
  generalize w5.alloc (.cells #[.bool false,.slice none 0 0] 38)=w6 at *
  have uw:Hid (NI w w6 pn 0):=hn
  clear hn hal
  refine q07 (i:=6) (j:=8) (by kernel_rfl) rfl rfl ?_ ?_
  ·skip
   intro K hK
   go_simp
   go_wp2_with (go_at_call 50;refine Calls.mono (P:=Tryz.prog) (q1y w6 b2 ya yb eZ (kV.out.G hby bE)) ?_;rintro e w7 ⟨rfl,hg⟩)
   refine hK.out _ _ (Or.inr (G.trans bE hg)) ?_
   clear hK K
   have aF:=G.trans bE hg
   have jE:Hid (NI w w7 pn 0):=uw.out.G hg
   clear hg bE uw
   refine q00 (l':=#[true,true,true,true,true,true,true,false,false,true,false,true,true,true,false,false,false]) (by kernel_rfl) ?_
   revert jE
   revert aF
   revert pn
   revert w7
   exact qj.out
  ·skip
   intro K hK
   go_simp
   refine hK.out _ _ (Or.inr (bE.alloc _)) ?_
   clear hK K
   have hn:=NI.new bE 38
   have hal:=(G.refl w6).alloc (.cells #[.bool false,.slice none 0 0] 38)
   have aF:=G.trans bE hal
   have wV:=uw.out.G hal
   have bG:w6.heap.size≠pn:=by have:=uw.out.2.1;omega
   generalize w6.heap.size=pd at *
   generalize w6.alloc (.cells #[.bool false,.slice none 0 0] 38)=w7 at *
   have mo:Hid (NI w w7 pd 0):=hn
   have jE:Hid (NI w w7 pn 0):=wV
   have aJ:Hid (pn≠pd):=bG.symm
   have aK:Hid (pd≠pn):=bG
   clear hn hal bE uw wV bG
   refine q00 (l':=#[true,true,true,true,true,true,false,false,true,true,false,true,true,true,false,false,false]) (by kernel_rfl) ?_
   revert aJ
   revert aK
   revert mo
   revert jE
   revert aF
   revert pd
   revert pn
   revert w7
   exact mH.out
 ·skip
  intro K hK
  go_simp
  go_wp2_with (go_at_call 50;refine Calls.mono (P:=Tryz.prog) (q1y w5 b2 ya yb eZ (kV.out.G hby hS5)) ?_;rintro e w6 ⟨rfl,hg⟩)
  refine hK.out _ _ (Or.inr (G.trans hS5 hg)) ?_
  clear hK K
  have bE:=G.trans hS5 hg
  clear hg
  refine q07 (i:=1) (j:=8) (by kernel_rfl) rfl rfl ?_ ?_
  ·skip
   intro K hK
   go_simp
   refine hK.out _ _ (Or.inr (bE.alloc _)) ?_
   clear hK K
   have hn:=NI.new bE 38
   have hal:=(G.refl w6).alloc (.cells #[.bool false,.slice none 0 0] 38)
   have aF:=G.trans bE hal
   generalize w6.heap.size=pn at *
   generalize w6.alloc (.cells #[.bool false,.slice none 0 0] 38)=w7 at *
   have jE:Hid (NI w w7 pn 0):=hn
   clear hn hal bE
   refine q00 (l':=#[true,true,true,true,true,true,true,false,false,true,false,true,true,true,false,false,false]) (by kernel_rfl) ?_
   revert jE
   revert aF
   revert pn
   revert w7
   exact qj.out
  ·skip
   intro K hK
   go_simp
   refine hK.out _ _ (Or.inr (bE.alloc _)) ?_
   clear hK K
   have hn:=NI.new bE 38
   have hal:=(G.refl w6).alloc (.cells #[.bool false,.slice none 0 0] 38)
   have aF:=G.trans bE hal
   generalize w6.heap.size=pd at *
   generalize w6.alloc (.cells #[.bool false,.slice none 0 0] 38)=w7 at *
   have mo:Hid (NI w w7 pd 0):=hn
   clear hn hal bE
   refine q00 (l':=#[true,false,true,true,true,true,true,false,true,true,false,true,true,true,false,false,false]) (by kernel_rfl) ?_
   revert mo
   revert aF
   revert pd
   revert w7
   exact ql.out
 ·skip
  intro K hK
  go_simp
  refine hK.out _ _ (Or.inr (hS5.alloc _)) ?_
  clear hK K
  have hn:=NI.new hS5 38
  have hal:=(G.refl w5).alloc (.cells #[.bool false,.slice none 0 0] 38)
  have bE:=G.trans hS5 hal
  generalize w5.heap.size=pd at *
  generalize w5.alloc (.cells #[.bool false,.slice none 0 0] 38)=w6 at *
  have wI:Hid (NI w w6 pd 0):=hn
  clear hn hal
  refine q07 (i:=1) (j:=6) (by kernel_rfl) rfl rfl ?_ ?_
  ·skip
   intro K hK
   go_simp
   refine hK.out _ _ (Or.inr (bE.alloc _)) ?_
   clear hK K
   have hn:=NI.new bE 38
   have hal:=(G.refl w6).alloc (.cells #[.bool false,.slice none 0 0] 38)
   have aF:=G.trans bE hal
   have FL:=wI.out.G hal
   have fq:w6.heap.size≠pd:=by have:=wI.out.2.1;omega
   generalize w6.heap.size=pn at *
   generalize w6.alloc (.cells #[.bool false,.slice none 0 0] 38)=w7 at *
   have jE:Hid (NI w w7 pn 0):=hn
   have mo:Hid (NI w w7 pd 0):=FL
   have aK:Hid (pd≠pn):=fq.symm
   have aJ:Hid (pn≠pd):=fq
   clear hn hal bE wI FL fq
   refine q00 (l':=#[true,true,true,true,true,true,false,false,true,true,false,true,true,true,false,false,false]) (by kernel_rfl) ?_
   revert aJ
   revert aK
   revert mo
   revert jE
   revert aF
   revert pd
   revert pn
   revert w7
   exact mH.out
  ·skip
   intro K hK
   go_simp
   go_wp2_with (go_at_call 50;refine Calls.mono (P:=Tryz.prog) (q1y w6 b2 ya yb eZ (kV.out.G hby bE)) ?_;rintro e w7 ⟨rfl,hg⟩)
   refine hK.out _ _ (Or.inr (G.trans bE hg)) ?_
   clear hK K
   have aF:=G.trans bE hg
   have mo:Hid (NI w w7 pd 0):=wI.out.G hg
   clear hg bE wI
   refine q00 (l':=#[true,false,true,true,true,true,true,false,true,true,false,true,true,true,false,false,false]) (by kernel_rfl) ?_
   revert mo
   revert aF
   revert pd
   revert w7
   exact ql.out
 refine Later.mk ?_
 intro w7 pd aF mo
 refine q03 (i:=1) (by kernel_rfl) rfl ?_
 intro K hK
 go_simp
 refine hK.out _ _ (Or.inr (aF.alloc _)) ?_
 clear hK K
 have hn:=NI.new aF 38
 have hal:=(G.refl w7).alloc (.cells #[.bool false,.slice none 0 0] 38)
 have aL:=G.trans aF hal
 have FL:=mo.out.G hal
 have fq:w7.heap.size≠pd:=by have:=mo.out.2.1;omega
 generalize w7.heap.size=pn at *
 generalize w7.alloc (.cells #[.bool false,.slice none 0 0] 38)=w8 at *
 have jM:Hid (NI w w8 pn 0):=hn
 have nX:Hid (NI w w8 pd 0):=FL
 have aK:Hid (pd≠pn):=fq.symm
 have aJ:Hid (pn≠pd):=fq
 clear hn hal aF mo FL fq
 refine q00 (l':=#[true,true,true,true,true,true,true,false,true,true,false,true,true,true,false,false,false]) (by kernel_rfl) ?_
 revert aJ
 revert aK
 revert nX
 revert jM
 revert aL
 revert pd
 revert pn
 revert w8
 exact jA.out
 refine Later.mk ?_
 intro w7 pn aF jE
 refine q07 (i:=7) (j:=8) (by kernel_rfl) rfl rfl ?_ ?_
 ·skip
  intro K hK
  go_simp
  have eH:Hid _:=q0W w7 pn 0 bx 0 b2 2 0 xa yb KB (by omega) jZ.out jL.out jE.out.2.1 (G.lt aF hbx) (G.lt aF hby) jE.out.2.2 (IntIs.G HX0.out hbx aF) (IntIs.G zD.out hby aF)
  go_wp2_with (go_at_call 49;refine Calls.mono (P:=Tryz.prog) eH.out ?_;intro e w8 hx;obtain⟨rfl,aL,hl,-,hkp⟩:=SetTo.step aF jE.out hx)
  have jM:Hid (NI w w8 pn (xa*(yb:Int))):=hl
  refine hK.out _ _ (Or.inr aL) ?_
  clear hK K hx hl hkp eH aF jE
  refine q07 (i:=8) (j:=10) (by kernel_rfl) rfl rfl ?_ ?_
  ·skip
   intro K hK
   go_simp
   refine hK.out _ _ (Or.inr (aL.alloc _)) ?_
   clear hK K
   have hn:=NI.new aL 38
   have hal:=(G.refl w8).alloc (.cells #[.bool false,.slice none 0 0] 38)
   have bF:=G.trans aL hal
   have wV:=jM.out.G hal
   have bG:w8.heap.size≠pn:=by have:=jM.out.2.1;omega
   generalize w8.heap.size=pd at *
   generalize w8.alloc (.cells #[.bool false,.slice none 0 0] 38)=w9 at *
   have mq:Hid (NI w w9 pd 0):=hn
   have mI:Hid (NI w w9 pn (xa*(yb:Int))):=wV
   have aJ:Hid (pn≠pd):=bG.symm
   have aK:Hid (pd≠pn):=bG
   clear hn hal aL jM wV bG
   refine q00 (l':=#[true,true,true,true,true,true,true,true,true,true,false,true,true,true,false,false,false]) (by kernel_rfl) ?_
   revert aJ
   revert aK
   revert mq
   revert mI
   revert bF
   revert pd
   revert pn
   revert w9
   exact fT.out
  ·skip
   intro K hK
   go_simp
   go_wp2_with (go_at_call 50;refine Calls.mono (P:=Tryz.prog) (q1y w8 bx xa xb jb (qi.out.G hbx aL)) ?_;rintro e w9 ⟨rfl,hg⟩)
   refine hK.out _ _ (Or.inr (G.trans aL hg)) ?_
   clear hK K
   have bF:=G.trans aL hg
   have mI:Hid (NI w w9 pn (xa*(yb:Int))):=jM.out.G hg
   clear hg aL jM
   refine q03 (i:=8) (by kernel_rfl) rfl ?_
   intro K hK
   go_simp
   refine hK.out _ _ (Or.inr (bF.alloc _)) ?_
   clear hK K
   have hn:=NI.new bF 38
   have hal:=(G.refl w9).alloc (.cells #[.bool false,.slice none 0 0] 38)
   have aI:=G.trans bF hal
   have wV:=mI.out.G hal
   have bG:w9.heap.size≠pn:=by have:=mI.out.2.1;omega
   generalize w9.heap.size=pd at *
   generalize w9.alloc (.cells #[.bool false,.slice none 0 0] 38)=aM at *
   have ic:Hid (NI w aM pd 0):=hn
   have kX:Hid (NI w aM pn (xa*(yb:Int))):=wV
   have aJ:Hid (pn≠pd):=bG.symm
   have aK:Hid (pd≠pn):=bG
   clear hn hal bF mI wV bG
   refine q00 (l':=#[true,true,true,true,true,true,true,true,true,true,true,true,true,true,false,false,false]) (by kernel_rfl) ?_
   revert aJ
   revert aK
   revert ic
   revert kX
   revert aI
   revert pd
   revert pn
   revert aM
   exact eG.out
 ·skip
  intro K hK
  go_simp
  refine hK.out _ _ (Or.inr (aF.alloc _)) ?_
  clear hK K
  have hn:=NI.new aF 38
  have hal:=(G.refl w7).alloc (.cells #[.bool false,.slice none 0 0] 38)
  have aL:=G.trans aF hal
  have wV:=jE.out.G hal
  have bG:w7.heap.size≠pn:=by have:=jE.out.2.1;omega
  generalize w7.heap.size=pd at *
  generalize w7.alloc (.cells #[.bool false,.slice none 0 0] 38)=w8 at *
  have nX:Hid (NI w w8 pd 0):=hn
  have jM:Hid (NI w w8 pn 0):=wV
  have aJ:Hid (pn≠pd):=bG.symm
  have aK:Hid (pd≠pn):=bG
  clear hn hal aF jE wV bG
  refine q00 (l':=#[true,true,true,true,true,true,true,false,true,true,false,true,true,true,false,false,false]) (by kernel_rfl) ?_
  revert aJ
  revert aK
  revert nX
  revert jM
  revert aL
  revert pd
  revert pn
  revert w8
  exact jA.out
 refine Later.mk ?_
 intro w7 pn pd aF jE mo aK aJ
 refine q03 (i:=6) (by kernel_rfl) rfl ?_
 intro K hK
 go_simp
 go_wp2_with (go_at_call 50;refine Calls.mono (P:=Tryz.prog) (q1y w7 b2 ya yb eZ (kV.out.G hby aF)) ?_;rintro e w8 ⟨rfl,hg⟩)
 refine hK.out _ _ (Or.inr (G.trans aF hg)) ?_
 clear hK K
 have aL:=G.trans aF hg
 have jM:Hid (NI w w8 pn 0):=jE.out.G hg
 have nX:Hid (NI w w8 pd 0):=mo.out.G hg
 clear hg aF jE mo
 refine q00 (l':=#[true,true,true,true,true,true,true,false,true,true,false,true,true,true,false,false,false]) (by kernel_rfl) ?_
 revert aJ
 revert aK
 revert nX
 revert jM
 revert aL
 revert pd
 revert pn
 revert w8
 exact jA.out
 refine Later.mk ?_
 intro w8 pn pd aL jM nX aK aJ
 refine q03 (i:=7) (by kernel_rfl) rfl ?_
 intro K hK
 go_simp
 have eH:Hid _:=q0W w8 pn 0 bx 0 b2 2 0 xa yb KB (by omega) jZ.out jL.out jM.out.2.1 (G.lt aL hbx) (G.lt aL hby) jM.out.2.2 (IntIs.G HX0.out hbx aL) (IntIs.G zD.out hby aL)
 go_wp2_with (go_at_call 49;refine Calls.mono (P:=Tryz.prog) eH.out ?_;intro e w9 hx;obtain⟨rfl,bF,hl,-,hkp⟩:=SetTo.step aL jM.out hx)
 have mI:Hid (NI w w9 pn (xa*(yb:Int))):=hl
 have mq:Hid (NI w w9 pd 0):=hkp pd 0 aK.out nX.out
 refine hK.out _ _ (Or.inr bF) ?_
 clear hK K hx hl hkp eH aL jM nX
 refine q00 (l':=#[true,true,true,true,true,true,true,true,true,true,false,true,true,true,false,false,false]) (by kernel_rfl) ?_
 revert aJ
 revert aK
 revert mq
 revert mI
 revert bF
 revert pd
 revert pn
 revert w9
 exact fT.out
 refine Later.mk ?_
 intro w9 pn pd bF mI mq aK aJ
 refine q03 (i:=10) (by kernel_rfl) rfl ?_
 intro K hK
 go_simp
 go_wp2_with (go_at_call 50;refine Calls.mono (P:=Tryz.prog) (q1y w9 bx xa xb jb (qi.out.G hbx bF)) ?_;rintro e aM ⟨rfl,hg⟩)
 refine hK.out _ _ (Or.inr (G.trans bF hg)) ?_
 clear hK K
 have aI:=G.trans bF hg
 have kX:Hid (NI w aM pn (xa*(yb:Int))):=mI.out.G hg
 have ic:Hid (NI w aM pd 0):=mq.out.G hg
 clear hg bF mI mq
 refine q00 (l':=#[true,true,true,true,true,true,true,true,true,true,true,true,true,true,false,false,false]) (by kernel_rfl) ?_
 revert aJ
 revert aK
 revert ic
 revert kX
 revert aI
 revert pd
 revert pn
 revert aM
 exact eG.out
 refine Later.mk ?_
 intro aM pn pd aI kX ic aK aJ
 refine q03 (i:=14) (by kernel_rfl) rfl ?_
 intro K hK
 go_simp
 have eH:Hid _:=q0W aM pd 0 bx 2 b2 0 0 xb ya KB (by omega) mr.out nO.out ic.out.2.1 (G.lt aI hbx) (G.lt aI hby) ic.out.2.2 (IntIs.G Bq.out hbx aI) (IntIs.G uH.out hby aI)
 go_wp2_with (go_at_call 49;refine Calls.mono (P:=Tryz.prog) eH.out ?_;intro e dm hx;obtain⟨rfl,bM,hl,-,hkp⟩:=SetTo.step aI ic.out hx)
 have lC:Hid (NI w dm pd ((xb:Int)*ya)):=hl
 have wJ:Hid (NI w dm pn (xa*(yb:Int))):=hkp pn (xa*(yb:Int)) aJ.out kX.out
 refine hK.out _ _ (Or.inr bM) ?_
 clear hK K hx hl hkp eH aI kX ic
 refine q03 (i:=15) (by kernel_rfl) rfl ?_
 intro K hK
 go_simp
 have FI:Hid _:=q5y dm bz pn 0 pd 0 (xa*yb) (xb*ya) (2*KB) (by omega) gY.out HD2.out HD0.out wJ.out.2.1 lC.out.2.1 (C8.out.G bM) wJ.out.2.2 lC.out.2.2
 go_wp2_with (go_at_call 48;refine Calls.mono (P:=Tryz.prog) FI.out ?_;intro e jK hx;obtain⟨rfl,k1,k2⟩:=NormTo.after bM hx)
 have lZ:Hid _:=k2
 refine hK.out _ _ (Or.inl (by decide)) ?_
 clear hx k2 hK K FI
 refine q03 (i:=16) (by kernel_rfl) rfl ?_
 intro K hK
 go_simp
 refine hK.out _ _ (Or.inl (by decide)) ?_
 clear hK K
 refine q0j (by kernel_rfl) ?_ _
 go_wp2_with fail
 go_ret
 exact⟨rfl,k1,lZ.out⟩
end Go.Proofs.YtljkfjjchkehaaaGreatDoor
namespace Go.Proofs.YtljkfjjchkehaaaGreatDoor.EN
open Go.RowKit
/-- A finite float in units. -/
def fz (b:Nat):Int:=if FT.neg b then -(FT.v (FT.rung b):Int) else FT.v (FT.rung b)
/-- So many units. -/
def Uz (z:Int):Rat:=mkRat z (2^1074)
theorem q8W {b:Nat} (h:b<2^64):FT.wrd (FT.neg b) (FT.rung b)=b:=by
 unfold FT.wrd FT.neg FT.rung
 by_cases h1:b/2^63%2=1
 ·simp only[h1,beq_self_eq_true,if_true]
  omega
 ·have h0:b/2^63%2=0:=by omega
  simp only[h0,show ((0:Nat)==1)=false from rfl,Bool.false_eq_true,if_false]
  omega
theorem rung_lt (b:Nat):FT.rung b<2^63:=Nat.mod_lt _ (Nat.two_pow_pos _)
theorem q6d (b:Nat):fex b=FT.rung b/2^52:=by
 unfold fex FT.rung
 omega
theorem q3W (b:Nat):fex b<2047↔FT.rung b<2047*2^52:=by
 rw[q6d]
 have:=rung_lt b
 omega
theorem q51 {b:Nat} (h:b<2^64) (hf:fex b<2047):FQ b=Uz (fz b):=by
 have h1:=(fq_v (FT.neg b) ((q3W b).1 hf)).1
 rw[q8W h] at h1
 exact h1
theorem q0w:0<2^1074:=by
 obtain⟨n,hn⟩:∃ n:Nat,n=1074:=⟨_,rfl⟩
 rw[← hn]
 exact Nat.two_pow_pos _
theorem q3N (x y:Int):Uz x+Uz y=Uz (x+y):=by
 unfold Uz
 have h:=q0w
 generalize 2^1074=D at *
 rw[← Rat.divInt_ofNat,← Rat.divInt_ofNat,← Rat.divInt_ofNat,Rat.divInt_add_divInt _ _ (by omega) (by omega)]
 rw[Rat.divInt_eq_divInt_iff (by have:(D:Int)*D≠0:=by apply Int.mul_ne_zero<;>omega
                                 exact this) (by omega)]
 rw[← Int.add_mul,Int.mul_assoc]
theorem qbw (x:Int): -Uz x=Uz (-x):=by
 unfold Uz
 rw[Rat.neg_mkRat]
theorem q9M (x y:Int):Uz x-Uz y=Uz (x-y):=by
 rw[Rat.sub_eq_add_neg,qbw,q3N];rfl
theorem q6g (z:Int):z*(Uz z).den=(Uz z).num*((2^1074:Nat):Int):=mk_cross q0w rfl
theorem q2S:Uz 0=0:=by unfold Uz;exact Rat.zero_mkRat _
theorem q8s (z:Int):(Uz z).num.sign=z.sign:=by
 have h:=q6g z
 have h1:=(Uz z).den_pos
 have h2:=q0w
 generalize 2^1074=D at *
 generalize (Uz z).den=d at *
 generalize (Uz z).num=n at *
 have h3:=congrArg Int.sign h
 rw[Int.sign_mul,Int.sign_mul,Int.sign_eq_one_of_pos (a:=(d:Int)) (by omega),Int.sign_eq_one_of_pos (a:=(D:Int)) (by omega),Int.mul_one,Int.mul_one] at h3
 exact h3.symm
theorem q6H (z:Int):decide ((Uz z).num<0)=decide (z<0):=by
 have h:=q8s z
 have h2:(Uz z).num<0↔z<0:=by rw[← Int.sign_eq_neg_one_iff_neg,← Int.sign_eq_neg_one_iff_neg,h]
 exact decide_eq_decide.2 h2
theorem uz_eq_zero {z:Int}:Uz z=0↔z=0:=by
 constructor
 ·intro h
  have h2:=q8s z
  rw[h] at h2
  exact Int.sign_eq_zero_iff_zero.1 h2.symm
 ·rintro rfl
  exact q2S
theorem qa3 (z:Int):z.natAbs*(Uz z).den=(Uz z).num.natAbs*2^1074:=by
 have h:=congrArg Int.natAbs (q6g z)
 rw[Int.natAbs_mul,Int.natAbs_mul,Int.natAbs_natCast,Int.natAbs_natCast] at h
 exact h
theorem q9v {z:Int} (h:z.natAbs<2^5000):QB (Uz z) 80:=by
 obtain⟨K,hK⟩:∃ K:Nat,K=80:=⟨_,rfl⟩
 obtain⟨M,hM⟩:∃ M:Nat,M=5000:=⟨_,rfl⟩
 obtain⟨E,hE⟩:∃ E:Nat,E=1074:=⟨_,rfl⟩
 rw[← hM] at h
 rw[← hK]
 refine q7R q0w rfl (Nat.lt_of_lt_of_le h (Nat.pow_le_pow_right (by omega) (by omega))) ?_
 rw[← hE]
 exact Nat.pow_lt_pow_right (by omega) (by omega)
/-- The gap above a float. -/
def ug (V:Nat):Nat:=2^(V/2^52-1)
theorem q9Q (V:Nat):0<ug V:=Nat.two_pow_pos _
theorem qaj {V W:Nat} (h:V≤W):ug V≤ug W:=Nat.pow_le_pow_right (by omega) (by omega)
theorem v_ug (V:Nat):FT.v V=(if V<2^52 then V else 2^52+V%2^52)*ug V:=by
 unfold FT.v ug
 by_cases h:V<2^52
 ·rw[if_pos h,if_pos h,Nat.div_eq_of_lt h]
  exact(Nat.mul_one V).symm
 ·rw[if_neg h,if_neg h]
theorem qb1 {V:Nat} (h:2^52≤V):2^52*ug V≤FT.v V:=by
 rw[v_ug,if_neg (by omega)]
 exact Nat.mul_le_mul_right _ (by omega)
/-- The nearest float is no farther than half of the gap; it is the lower one where there is nothing left. -/
theorem q5b (s:Bool) {A B:Nat} (hA:A≠0) (hB:B≠0) (h:rdV 1 s A B<2047*2^52):
  2*(A*2^1074)≤(2*FT.v (rdV 1 s A B)+ug (rdV 1 s A B))*B∧2*FT.v (rdV 1 s A B)*B≤2*(A*2^1074)+ug (rdV 1 s A B)*B∧
  (FT.v (tV A B)*B=A*2^1074→rdV 1 s A B=tV A B):=by
 obtain⟨P,hP⟩:∃ P,P=q0M A B:=⟨_,rfl⟩
 have hlo: -1074≤P:=by rw[hP];unfold q0M;omega
 have hsm:P≤971:=by
  refine Decidable.byContradiction fun hbig=> ?_
  have h1:971<q0M A B:=by omega
  unfold rdV onw tV lV at h
  rw[if_pos h1,if_pos h1] at h
  simp at h
 unfold rdV at h ⊢
 have Mm:lV A B=q1x (upP A P%loP B P) (loP B P):=by
  unfold lV;rw[← hP,if_neg (by omega)]
 have GN:tV A B=(P+1074).toNat*2^52+upP A P/loP B P:=by
  unfold tV;rw[← hP,if_neg (by omega)]
 obtain⟨b1,b2⟩:=q2d hA hB hP
 have hD:0<loP B P:=Nat.mul_pos (Nat.pos_of_ne_zero hB) (Nat.two_pow_pos _)
 have FE:upP A P/loP B P<2^53:=(Nat.div_lt_iff_lt_mul hD).2 b1
 have BZ:2^52≤upP A P/loP B P∨(P+1074).toNat=0:=by
  rcases b2 with h|h
  ·exact Or.inr (by omega)
  ·exact Or.inl ((Nat.le_div_iff_mul_le hD).2 h)
 have hm:=Nat.div_add_mod (upP A P) (loP B P)
 have hl:=Nat.mod_lt (upP A P) hD
 have hv:FT.v (tV A B)=upP A P/loP B P*2^(P+1074).toNat:=by rw[GN];exact q4j (Nat.le_of_lt FE) BZ
 have hv1:FT.v (tV A B+1)=(upP A P/loP B P+1)*2^(P+1074).toNat:=by
  rw[GN,Nat.add_assoc]
  exact q4j FE (by omega)
 have OO:ug (tV A B)=2^(P+1074).toNat:=by
  rw[GN]
  unfold ug
  congr 1
  generalize upP A P/loP B P=Q at *
  generalize (P+1074).toNat=p at *
  rcases BZ with BZ|BZ
  ·omega
  ·subst BZ
   omega
 have Mo:2^(P+1074).toNat≤ug (tV A B+1):=by rw[← OO];exact qaj (by omega)
 have scale:∀ X:Nat,X*2^(P+1074).toNat*B=X*loP B P*2^(1074-(-P).toNat):=fun X=>by
  unfold loP
  rw[show (P+1074).toNat=P.toNat+(1074-(-P).toNat) from by omega,Nat.pow_add]
  ac_rfl
 have hup:A*2^1074=upP A P*2^(1074-(-P).toNat):=by
  unfold upP
  rw[Nat.mul_assoc,← Nat.pow_add,show (-P).toNat+(1074-(-P).toNat)=1074 from by omega]
 rw[Mm]
 rw[Mm] at h
 clear Mm GN b1 b2
 have hS:0<2^(1074-(-P).toNat):=Nat.two_pow_pos _
 rw[hup]
 clear hup
 generalize 2^(1074-(-P).toNat)=S at *
 generalize 2^(P+1074).toNat=g at *
 generalize tV A B=t at *
 generalize upP A P=U at *
 generalize loP B P=D at *
 generalize U/D=Q at *
 generalize U%D=R at *
 have e1:Q*D=D*Q:=Nat.mul_comm _ _
 by_cases hc:q1x R D≠0∧onw 1 s (t%2==1) (q1x R D)=true
 ·rw[if_pos hc] at h ⊢
  rw[hv1]
  have hR:D≤2*R:=by
   obtain⟨c1,c2⟩:=hc
   unfold q1x at c1 c2
   unfold onw at c2
   by_cases h1:R=0
   ·simp [h1] at c1
   ·by_cases h2:2*R<D
    ·simp [h1,h2] at c2
    ·omega
  have k1:2*((Q+1)*g)*B=2*((Q+1)*D*S):=by rw[Nat.mul_assoc 2,scale]
  have k2:g*B=D*S:=by have:=scale 1;rw[Nat.one_mul,Nat.one_mul] at this;exact this
  have k3:D*S≤ug (t+1)*B:=by rw[← k2];exact Nat.mul_le_mul_right _ Mo
  have k4:D*S≤2*(R*S):=by rw[← Nat.mul_assoc];exact Nat.mul_le_mul_right _ hR
  have k5:U*S=Q*D*S+R*S:=by rw[← Nat.add_mul];congr 1;omega
  have k6:(Q+1)*D*S=Q*D*S+D*S:=by rw[Nat.add_mul,Nat.add_mul,Nat.one_mul]
  have k7:R*S≤D*S:=Nat.mul_le_mul_right _ (by omega)
  rw[Nat.add_mul,k1,k5,k6]
  refine⟨?_,?_,fun h0=> ?_⟩
  ·generalize Q*D*S=x at *
   generalize R*S=y at *
   generalize D*S=z at *
   omega
  ·generalize Q*D*S=x at *
   generalize R*S=y at *
   generalize D*S=z at *
   omega
  ·exfalso
   rw[hv,scale] at h0
   have h1:R*S=0:=by omega
   rcases Nat.mul_eq_zero.1 h1 with h2|h2
   ·exact hc.1 (by unfold q1x;rw[if_pos h2])
   ·omega
 ·rw[if_neg hc] at h ⊢
  rw[Nat.add_zero,hv,OO]
  have hR:2*R≤D:=by
   refine Decidable.byContradiction fun hR=>hc ?_
   have h1:q1x R D=3:=by unfold q1x;rw[if_neg (by omega),if_neg (by omega),if_neg (by omega)]
   rw[h1]
   exact⟨by omega,by unfold onw;simp⟩
  have k1:2*(Q*g)*B=2*(Q*D*S):=by rw[Nat.mul_assoc 2,scale]
  have k2:g*B=D*S:=by have:=scale 1;rw[Nat.one_mul,Nat.one_mul] at this;exact this
  have k4:2*(R*S)≤D*S:=by rw[← Nat.mul_assoc];exact Nat.mul_le_mul_right _ hR
  have k5:U*S=Q*D*S+R*S:=by rw[← Nat.add_mul];congr 1;omega
  rw[Nat.add_mul,k1,k2,k5]
  refine⟨?_,?_,fun _=>rfl⟩
  ·generalize Q*D*S=x at *
   generalize R*S=y at *
   generalize D*S=z at *
   omega
  ·generalize Q*D*S=x at *
   generalize R*S=y at *
   generalize D*S=z at *
   omega
/-- The place of a number's nearest float, and its word. -/
def rV (q:Rat):Nat:=rdV 1 (decide (q.num<0)) q.num.natAbs q.den
def nR (q:Rat):Nat:=FT.wrd (decide (q.num<0)) (rV q)
/-- What comes of a number whose floats are taken off, so many at most. -/
inductive Fr:Nat→Rat→List Nat→Bool→Prop where
 |zero (k:Nat):Fr k 0 [] true
 |most (v:Rat):Fr 0 v [] true
 |bad (k:Nat) (v:Rat) (h0:v≠0) (hq:QB v 80) (h:fex (nR v)=2047∨FQ (nR v)=0):Fr (k+1) v [] false
 |step (k:Nat) (v:Rat) (l:List Nat) (o:Bool) (h0:v≠0) (hq:QB v 80) (h1:fex (nR v)<2047) (h2:FQ (nR v)≠0) (h:Fr k (v-FQ (nR v)) l o):Fr (k+1) v (nR v::l) o
/-- Half of the gap above a float of this exponent. -/
def hv (e:Nat):Nat:=q0R 11 52 1 (((e-1:Nat):Int)-1075)
theorem hv_v {e:Nat} (h1:2≤e) (h2:e≤2046):FT.v (hv e)=2^(e-2)∧hv e≤2000*2^52:=by
 unfold hv
 by_cases h:e-1≤52
 ·rw[qay (e-1) (by omega) h,show e-1-1=e-2 from by omega]
  have hlt:2^(e-2)<2^52:=Nat.pow_lt_pow_right (by omega) (by omega)
  exact⟨FT.v_sub hlt,by omega⟩
 ·rw[qaP (e-1) (by omega) (by omega)]
  have h3:=FT.v_nor' (e-1-52) 0 (by omega) (by omega)
  rw[Nat.add_zero,Nat.add_zero] at h3
  refine⟨?_,by omega⟩
  rw[h3,← Nat.pow_add]
  congr 1
  omega
theorem q9V:FT.v 0=0:=rfl
theorem q5S (s:Bool) {V:Nat} (h:V<2^63):fz (FT.wrd s V)=if s then -(FT.v V:Int) else FT.v V:=by
 unfold fz
 rw[FT.wrd_neg s V h,FT.wrd_rung s V h]
theorem q7e (z:Int):nR (Uz z)=FT.wrd (decide (z<0)) (rV (Uz z)):=by
 unfold nR
 rw[q6H]
theorem q95 {q:Rat} (h:q≠0):rV q≤2047*2^52:=qcC 1 _ (fun h1=>h (Rat.num_eq_zero.1 (by omega))) q.den_nz
theorem q5j (s:Bool) {V:Nat} (h:V≤2047*2^52):fex (FT.wrd s V)=V/2^52:=by
 rw[q6d,FT.wrd_rung s V (by omega)]
/-- The nearest float of a number of units. -/
theorem q6Q {z:Int} (h0:z≠0) (hf:rV (Uz z)<2047*2^52):
  2*z.natAbs≤2*FT.v (rV (Uz z))+ug (rV (Uz z))∧2*FT.v (rV (Uz z))≤2*z.natAbs+ug (rV (Uz z)):=by
 have hq:Uz z≠0:=fun h=>h0 (uz_eq_zero.1 h)
 have hA:(Uz z).num.natAbs≠0:=fun h1=>hq (Rat.num_eq_zero.1 (by omega))
 have h:=q5b (decide ((Uz z).num<0)) hA (Uz z).den_nz hf
 rw[← qa3 z] at h
 obtain⟨h1,h2,-⟩:=h
 have hd:=(Uz z).den_pos
 unfold rV
 generalize rdV 1 (decide ((Uz z).num<0)) (Uz z).num.natAbs (Uz z).den=V at *
 generalize (Uz z).den=d at *
 generalize ug V=g at *
 generalize FT.v V=x at *
 constructor
 ·refine Nat.le_of_mul_le_mul_right ?_ hd
  rw[Nat.mul_assoc];exact h1
 ·refine Nat.le_of_mul_le_mul_right ?_ hd
  rw[Nat.add_mul,Nat.mul_assoc 2 z.natAbs];exact h2
/-- A number that is no greater than a float, which is not among the greatest, has no greater nearest float. -/
theorem q8A {z:Int} (h0:z≠0) {H:Nat} (hH:H<2047*2^52-1) (h:z.natAbs≤FT.v H):rV (Uz z)≤H:=by
 have hq:Uz z≠0:=fun h=>h0 (uz_eq_zero.1 h)
 have hA:(Uz z).num.natAbs≠0:=fun h1=>hq (Rat.num_eq_zero.1 (by omega))
 obtain⟨t1,t2,-,-⟩:=q46 hA (Uz z).den_nz
 have hd:=(Uz z).den_pos
 have hr:=qaL 1 (decide ((Uz z).num<0)) (Uz z).num.natAbs (Uz z).den
 have hn:= @q5b (decide ((Uz z).num<0)) _ _ hA (Uz z).den_nz
 rw[← qa3 z] at t2 hn
 have t3:FT.v (tV (Uz z).num.natAbs (Uz z).den)≤z.natAbs:=Nat.le_of_mul_le_mul_right t2 hd
 have t4:tV (Uz z).num.natAbs (Uz z).den≤H:=FT.v_le.1 (Nat.le_trans t3 h)
 show rdV 1 _ _ _≤H
 rcases hr with hr|⟨hr,-⟩
 ·rw[hr];exact t4
 ·refine Decidable.byContradiction fun hc=> ?_
  have t5:tV (Uz z).num.natAbs (Uz z).den=H:=by omega
  have h6:=(hn (by omega)).2.2 (by
   have:FT.v (tV (Uz z).num.natAbs (Uz z).den)=z.natAbs:=by rw[t5] at t3 ⊢;omega
   rw[this])
  omega
/-- What is left behind the nearest float. -/
theorem q6x {z:Int} (h0:z≠0) (hf:rV (Uz z)<2047*2^52):
  rV (Uz z)≠0∧2*(z-fz (nR (Uz z))).natAbs≤ug (rV (Uz z))∧(z-fz (nR (Uz z))).natAbs*2^52≤z.natAbs∧
  (z-fz (nR (Uz z))≠0→2≤rV (Uz z)/2^52∧rV (Uz (z-fz (nR (Uz z))))≤hv (rV (Uz z)/2^52)):=by
 obtain⟨h1,h2⟩:=q6Q h0 hf
 have hz1:1≤z.natAbs:=by omega
 rw[q7e,q5S _ (by omega)]
 have IM:rV (Uz z)≠0:=by
  intro h
  rw[h] at h1
  have:ug 0=1:=rfl
  rw[q9V,this] at h1
  omega
 have hr:(z-(if decide (z<0)=true then -(FT.v (rV (Uz z)):Int) else FT.v (rV (Uz z)))).natAbs=((z.natAbs:Int)-FT.v (rV (Uz z))).natAbs:=by
  by_cases hs:z<0
  ·rw[decide_eq_true hs,if_pos rfl];omega
  ·rw[decide_eq_false hs,if_neg (by simp)];omega
 have k1:2*(z-(if decide (z<0)=true then -(FT.v (rV (Uz z)):Int) else FT.v (rV (Uz z)))).natAbs≤ug (rV (Uz z)):=by
  rw[hr];omega
 generalize (z-(if decide (z<0)=true then -(FT.v (rV (Uz z)):Int) else FT.v (rV (Uz z))))=r at *
 have k2:r≠0→2≤rV (Uz z)/2^52:=by
  intro hr0
  refine Decidable.byContradiction fun hc=> ?_
  have:ug (rV (Uz z))=1:=by
   unfold ug
   rw[show rV (Uz z)/2^52-1=0 from by omega,Nat.pow_zero]
  omega
 refine⟨IM,k1,?_,fun hr0=>⟨k2 hr0,?_⟩⟩
 ·by_cases hr0:r=0
  ·rw[hr0];simp
  ·have hb:=qb1 (V:=rV (Uz z)) (by have:=k2 hr0;omega)
   generalize ug (rV (Uz z))=g at *
   generalize FT.v (rV (Uz z))=x at *
   omega
 ·obtain⟨e1,e2⟩:=hv_v (k2 hr0) (by omega)
  refine q8A hr0 (by omega) ?_
  rw[e1]
  have:ug (rV (Uz z))=2*2^(rV (Uz z)/2^52-2):=by
   unfold ug
   rw[← Nat.pow_succ']
   congr 1
   have:=k2 hr0
   omega
  omega
/-- Each entry is no more than half of the gap above the one ahead. -/
def Steep:List Nat→Prop
 |a::b::l=>(2≤fex a∧FT.rung b≤hv (fex a))∧Steep (b::l)
 |_=>True
theorem Steep.at:∀ {l:List Nat},Steep l→∀ i,i+1<l.length→2≤fex (l.getD i 0)∧FT.rung (l.getD (i+1) 0)≤hv (fex (l.getD i 0))
 |[],_,i,hi=>by simp at hi
 |[_],_,i,hi=>by simp at hi
 |a::b::l,h,0,_=>h.1
 |a::b::l,h,i+1,hi=>by
  have:=Steep.at (l:=b::l) h.2 i (by simpa using hi)
  simpa using this
/-- A list tells so many units. -/
structure Tells (z:Int) (l:List Nat):Prop where
 sum:(l.map fz).sum=z
 fin:∀ b∈l,b<2^64∧fex b<2047
 steep:Steep l
 head:∀ a m,l=a::m→FT.rung a=rV (Uz z)∧z≠0
theorem q55:Tells 0 []:=⟨rfl,fun _ h=>(nomatch h),trivial,fun _ _ h=>(nomatch h)⟩
theorem q43:∀ (k:Nat) (z:Int) (most:Nat),z.natAbs<2^(52*k)→k≤45→k≤most→∃ l o,Fr most (Uz z) l o∧l.length≤k∧(o=true→Tells z l)
 |0,z,most,h,_,_=>by
  have hz:z=0:=by simp at h;omega
  subst hz
  exact⟨[],true,by rw[q2S];exact .zero _,Nat.le_refl _,fun _=>q55⟩
 |k+1,z,most,h,hk,hm=>by
  by_cases h0:z=0
  ·subst h0
   exact⟨[],true,by rw[q2S];exact .zero _,Nat.zero_le _,fun _=>q55⟩
  ·obtain⟨n,rfl⟩:∃ n,most=n+1:=⟨most-1,by omega⟩
   have hq:Uz z≠0:=fun h=>h0 (uz_eq_zero.1 h)
   have hb:QB (Uz z) 80:=by
    refine q9v (Nat.lt_of_lt_of_le h ?_)
    obtain⟨M,hM⟩:∃ M:Nat,M=5000:=⟨_,rfl⟩
    rw[← hM]
    exact Nat.pow_le_pow_right (by omega) (by omega)
   have hle:=q95 hq
   have hfx:fex (nR (Uz z))=rV (Uz z)/2^52:=by rw[q7e];exact q5j _ hle
   by_cases hf:rV (Uz z)<2047*2^52
   ·have h63:rV (Uz z)<2^63:=by omega
    obtain⟨r1,r2,r3,r4⟩:=q6x h0 hf
    have hlt:nR (Uz z)<2^64:=by rw[q7e];exact FT.wrd_lt _ _ (by omega)
    have hfin:fex (nR (Uz z))<2047:=by rw[hfx];omega
    have GM:FQ (nR (Uz z))=Uz (fz (nR (Uz z))):=q51 hlt hfin
    have hrz:fz (nR (Uz z))≠0:=by
     rw[q7e,q5S _ (by omega)]
     have h1:0<FT.v (rV (Uz z)):=by
      have h2:=FT.v_lt (Nat.pos_of_ne_zero r1)
      rw[q9V] at h2
      exact h2
     split<;>omega
    have hsm:(z-fz (nR (Uz z))).natAbs<2^(52*k):=by
     have h2:(z-fz (nR (Uz z))).natAbs*2^52<2^(52*k)*2^52:=by
      rw[← Nat.pow_add]
      exact Nat.lt_of_le_of_lt r3 h
     exact Nat.lt_of_mul_lt_mul_right h2
    obtain⟨l,o,hl,hlen,hT⟩:=q43 k (z-fz (nR (Uz z))) n hsm (by omega) (by omega)
    refine⟨nR (Uz z)::l,o,.step n _ l o hq hb hfin (by rw[GM];exact fun h=>hrz (uz_eq_zero.1 h)) (by rw[GM,q9M];exact hl),Nat.succ_le_succ hlen,fun ho=> ?_⟩
    have T:=hT ho
    refine⟨by rw[List.map_cons,List.sum_cons,T.sum];omega,?_,?_,?_⟩
    ·intro b hm1
     refine Or.elim (List.mem_cons.1 hm1) (fun e=> ?_) (fun e=>T.fin b e)
     rw[e]
     exact⟨hlt,hfin⟩
    ·cases l with
     |nil=>trivial
     |cons b m=>
      obtain⟨e1,e2⟩:=T.head b m rfl
      refine⟨?_,T.steep⟩
      rw[hfx,e1]
      exact r4 e2
    ·intro a m e
     injection e with e1 e2
     subst e1
     refine⟨?_,h0⟩
     rw[q7e,FT.wrd_rung _ _ h63]
   ·exact⟨[],false,.bad n _ hq hb (Or.inl (by rw[hfx];omega)),Nat.zero_le _,fun h=>by cases h⟩
theorem q5D (N D:Nat) (hD:0<D):q0v N D=N/D+if q1x (N%D) D=3∨(q1x (N%D) D=2∧N/D%2=1) then 1 else 0:=by
 unfold q0v q1x
 have hl:=Nat.mod_lt N hD
 generalize N%D=R at *
 generalize N/D=Q at *
 congr 1
 by_cases h0:R=0
 ·rw[if_pos h0,if_neg (by omega),if_neg (by omega)]
 ·rw[if_neg h0]
  by_cases h1:2*R<D
  ·rw[if_pos h1,if_neg (by omega),if_neg (by omega)]
  ·rw[if_neg h1]
   by_cases h2:2*R=D
   ·rw[if_pos h2]
    by_cases h3:Q%2=1
    ·rw[if_pos (Or.inr ⟨h2,h3⟩),if_pos (Or.inr ⟨rfl,h3⟩)]
    ·rw[if_neg (by omega),if_neg (by omega)]
   ·rw[if_neg h2,if_pos (Or.inl (by omega)),if_pos (Or.inl rfl)]
theorem qcn {A B:Nat} (s:Bool) (hA:A≠0) (hB:B≠0):flV A B=rdV 1 s A B:=by
 have hlt:=(q46 hA hB).1
 obtain⟨P,hP⟩:∃ P,P=q0M A B:=⟨_,rfl⟩
 have hlo: -1074≤P:=by rw[hP];unfold q0M;omega
 obtain⟨b1,b2⟩:=q2d hA hB hP
 have hD:0<loP B P:=Nat.mul_pos (Nat.pos_of_ne_zero hB) (Nat.two_pow_pos _)
 unfold rdV tV lV at *
 unfold flV q1w
 rw[← hP] at hlt ⊢
 rw[q5D _ _ hD]
 by_cases hbig:971<P
 ·rw[if_pos hbig,if_pos hbig]
  have hQ:2^52≤upP A P/loP B P:=by
   rcases b2 with h|h
   ·omega
   ·exact(Nat.le_div_iff_mul_le hD).2 h
  have hk:2046≤(P+1074).toNat:=by omega
  have h1:2046*2^52≤(P+1074).toNat*2^52:=Nat.mul_le_mul_right _ hk
  have ho:(3≠0∧onw 1 s ((2047*2^52-1)%2==1) 3=true):=⟨by omega,rfl⟩
  rw[if_pos ho]
  refine Nat.min_eq_right ?_
  refine Nat.le_trans ?_ (Nat.add_le_add h1 (Nat.le_trans hQ (Nat.le_add_right _ _)))
  omega
 ·rw[if_neg hbig,if_neg hbig] at *
  generalize upP A P/loP B P=Q at *
  generalize q1x (upP A P%loP B P) (loP B P)=L at *
  have hodd:((P+1074).toNat*2^52+Q)%2=Q%2:=by omega
  have e:(L≠0∧onw 1 s (((P+1074).toNat*2^52+Q)%2==1) L=true)↔(L=3∨(L=2∧Q%2=1)):=by
   unfold onw
   rw[if_pos rfl,hodd]
   simp only[Bool.or_eq_true,Bool.and_eq_true,beq_iff_eq]
   omega
  simp only[e]
  by_cases h:L=3∨(L=2∧Q%2=1)
  ·rw[if_pos h];omega
  ·rw[if_neg h];omega
theorem q2e {k:Nat} {v:Rat} {b:Nat} {l:List Nat} {o:Bool} (hb:nR v=b) (h0:v≠0) (hq:QB v 80) (h1:fex b<2047) (h2:FQ b≠0) (h:Fr k (v-FQ b) l o):Fr (k+1) v (b::l) o:=by
 subst hb
 exact .step k v l o h0 hq h1 h2 h
theorem q5t {k:Nat} {v:Rat} (h:v=0):Fr k v [] true:=by subst h;exact .zero k
/-- The three floats whose sum is told. -/
def l3:List Nat:=[4607182418800017408,4861130398305394688,4307583784117748259]
theorem q4O:Fr 9223372036854775807 (Uz (l3.map fz).sum) [4861130398305394688,4607182418800017408,4307583784117748259] true:=by
 show Fr (9223372036854775806+1) _ _ _
 refine q2e (by decide+kernel) (by decide+kernel) (by unfold QB;decide+kernel) (by decide+kernel) (by decide+kernel) ?_
 show Fr (9223372036854775805+1) _ _ _
 refine q2e (by decide+kernel) (by decide+kernel) (by unfold QB;decide+kernel) (by decide+kernel) (by decide+kernel) ?_
 show Fr (9223372036854775804+1) _ _ _
 refine q2e (by decide+kernel) (by decide+kernel) (by unfold QB;decide+kernel) (by decide+kernel) (by decide+kernel) ?_
 exact q5t (by decide+kernel)
theorem q8N:Fr 2 (Uz ([4607182418800017408,0].map fz).sum) [4607182418800017408] true:=by
 refine q2e (by decide+kernel) (by decide+kernel) (by unfold QB;decide+kernel) (by decide+kernel) (by decide+kernel) ?_
 exact q5t (by decide+kernel)
theorem q6M:Fr 2 (Uz ([4613937818241073152,0].map fz).sum) [4613937818241073152] true:=by
 refine q2e (by decide+kernel) (by decide+kernel) (by unfold QB;decide+kernel) (by decide+kernel) (by decide+kernel) ?_
 exact q5t (by decide+kernel)
theorem q6o:Fr 2 (Uz ([4607182418800017408,0].map fz).sum/Uz ([4613937818241073152,0].map fz).sum) [4599676419421066581,4356482039543059797] true:=by
 refine q2e (by decide+kernel) (by decide+kernel) (by unfold QB;decide+kernel) (by decide+kernel) (by decide+kernel) ?_
 refine q2e (by decide+kernel) (by decide+kernel) (by unfold QB;decide+kernel) (by decide+kernel) (by decide+kernel) ?_
 exact .most _
theorem q4X:QB (Uz ([4607182418800017408,0].map fz).sum) 80∧QB (Uz ([4613937818241073152,0].map fz).sum) 80∧Uz ([4613937818241073152,0].map fz).sum≠0:=by unfold QB;decide+kernel
end Go.Proofs.YtljkfjjchkehaaaGreatDoor.EN
namespace Go.Proofs.YtljkfjjchkehaaaGreatDoor.EN
open Go.ChangeShapes Go.WideShapes Go.ChangeAt Go.RowKit
/-- A slice of floats. -/
def FSl (w:World) (v:Value) (l:List Nat):Prop:=
 ∃ a c,v= .slice a l.length c∧l.length≤c∧∀ i,i<l.length→∃ b o,a=some ⟨b,o,none⟩∧b<w.heap.size∧w.cell? ⟨b,o+i,none⟩=some (.float .f64 (l.getD i 0))
theorem FSl.G {w w':World} {v:Value} {l:List Nat} (h:FSl w v l) (g:G w w'):FSl w' v l:=by
 obtain⟨a,c,e,hc,h⟩:=h
 refine⟨a,c,e,hc,fun i hi=> ?_⟩
 obtain⟨b,o,e1,h1,h2⟩:=h i hi
 exact⟨b,o,e1,Nat.lt_of_lt_of_le h1 g.size,g.cell (p:=⟨b,o+i,none⟩) h1 h2⟩
theorem qaf (w:World) (a:Option Addr) (c:Nat):FSl w (.slice a 0 c) []:=⟨a,c,rfl,Nat.zero_le _,fun _ h=>nomatch h⟩
/-- A fraction that lies in three cells. -/
def QAt (w:World) (b o:Nat) (q:Rat):Prop:=∃ t a k c a' k' c',w.cell? ⟨b,o,none⟩=some (.bool t)∧w.cell? ⟨b,o+1,none⟩=some (.slice a k c)∧w.cell? ⟨b,o+2,none⟩=some (.slice a' k' c')∧QIs w (.agg #[.bool t,.slice a k c,.slice a' k' c']) q
theorem QAt.G {w w':World} {b o:Nat} {q:Rat} (h:QAt w b o q) (hb:b<w.heap.size) (g:G w w'):QAt w' b o q:=by
 obtain⟨t,a,k,c,a',k',c',h1,h2,h3,h4⟩:=h
 exact⟨t,a,k,c,a',k',c',g.cell (p:=⟨b,o,none⟩) hb h1,g.cell (p:=⟨b,o+1,none⟩) hb h2,g.cell (p:=⟨b,o+2,none⟩) hb h3,h4.G g⟩
/-- A slice of fractions, told in units. -/
def NSl (w:World) (v:Value) (l:List Int):Prop:=
 ∃ a c,v= .slice a l.length c∧l.length≤c∧∀ i,i<l.length→∃ b o,a=some ⟨b,o,none⟩∧b<w.heap.size∧QAt w b (o+i*3) (Uz (l.getD i 0))
theorem NSl.G {w w':World} {v:Value} {l:List Int} (h:NSl w v l) (g:G w w'):NSl w' v l:=by
 obtain⟨a,c,e,hc,h⟩:=h
 refine⟨a,c,e,hc,fun i hi=> ?_⟩
 obtain⟨b,o,e1,h1,h2⟩:=h i hi
 exact⟨b,o,e1,Nat.lt_of_lt_of_le h1 g.size,h2.G h1 g⟩
/-- No word of 64 bits. -/
def noU (x:Value):Prop:=∀ m,x≠ .int .u64 m
theorem q9G {x:Value} (h:q2c x):noU x:=fun m e=>by rw[e] at h;exact h
theorem q3O {w:World} {v:Value} {n b:Nat} {l:List Value} (h:Num w v n) (r:Rec w b l) (hl:∀ x∈l,noU x):∀ w':World,(∀ i k,i≠b→w'.cell? ⟨i,k,none⟩=w.cell? ⟨i,k,none⟩)→w.heap.size≤w'.heap.size→Num w' v n:=by
 intro w' hc hs
 obtain⟨m,hm,hcm,hv⟩:=h
 refine⟨m,?_,hcm,hv⟩
 rcases Sl.cases hm with ⟨rfl,a,c,rfl⟩|⟨hne,b2,o,c,rfl,hcc,hb,hr⟩
 ·exact⟨hm.1,Or.inl ⟨rfl,a,c,rfl⟩⟩
 ·have hbb:b2≠b:=by
   intro e
   subst e
   have h0:=hr 0 (List.length_pos_iff.2 hne)
   rw[r.cell] at h0
   exact hl _ (List.mem_of_getElem? h0) _ rfl
  exact⟨hm.1,Or.inr ⟨b2,o,c,rfl,hcc,by omega,fun i hi=>by rw[hc _ _ hbb];exact hr i hi⟩⟩
/-- A fraction stands where a block without words is written. -/
theorem QIs.apart {w w':World} {v:Value} {q:Rat} {b:Nat} {l:List Value} (h:QIs w v q) (r:Rec w b l) (hl:∀ x∈l,noU x)
  (hc:∀ i k,i≠b→w'.cell? ⟨i,k,none⟩=w.cell? ⟨i,k,none⟩) (hs:w.heap.size≤w'.heap.size):QIs w' v q:=by
 obtain⟨a,k,c,a',k',c',e,h1,h2⟩:=h
 exact⟨a,k,c,a',k',c',e,q3O h1 r hl w' hc hs,q3O h2 r hl w' hc hs⟩
theorem q2v {w:World} {b i k:Nat} {x y:Value} (h:i≠b):((w.setCell ⟨b,0,none⟩ x).setCell ⟨b,1,none⟩ y).cell? ⟨i,k,none⟩=w.cell? ⟨i,k,none⟩:=by
 rw[World.cell?_setCell_other _ _ _ _ (by intro e;injection e with e1;exact h e1.symm),World.cell?_setCell_other _ _ _ _ (by intro e;injection e with e1;exact h e1.symm)]
/-- What stands where a fault is written. -/
theorem FSl.flt {w:World} {v:Value} {l:List Nat} {b:Nat} {x y x' y':Int} (h:FSl w v l) (r:Rec w b [.int .i64 x,.int .i64 y]):FSl ((w.setCell ⟨b,0,none⟩ (.int .i64 x')).setCell ⟨b,1,none⟩ (.int .i64 y')) v l:=by
 obtain⟨a,c,e,hc,h⟩:=h
 refine⟨a,c,e,hc,fun i hi=> ?_⟩
 obtain⟨b1,o,e1,h1,h2⟩:=h i hi
 have hne:b1≠b:=by
  rintro rfl
  rw[r.cell] at h2
  have:=List.mem_of_getElem? h2
  simp at this
 exact⟨b1,o,e1,by simpa [World.setCell] using h1,by rw[q2v hne];exact h2⟩
theorem QIs.flt {w:World} {v:Value} {q:Rat} {b:Nat} {x y x' y':Int} (h:QIs w v q) (r:Rec w b [.int .i64 x,.int .i64 y]):QIs ((w.setCell ⟨b,0,none⟩ (.int .i64 x')).setCell ⟨b,1,none⟩ (.int .i64 y')) v q:=
 h.apart r (by intro u hu m;simp at hu;rcases hu with rfl|rfl<;>(intro e;cases e)) (fun i k hi=>q2v hi) (by simp [World.setCell])
theorem NSl.flt {w:World} {v:Value} {l:List Int} {b:Nat} {x y x' y':Int} (h:NSl w v l) (r:Rec w b [.int .i64 x,.int .i64 y]):NSl ((w.setCell ⟨b,0,none⟩ (.int .i64 x')).setCell ⟨b,1,none⟩ (.int .i64 y')) v l:=by
 obtain⟨a,c,e,hc,h⟩:=h
 refine⟨a,c,e,hc,fun i hi=> ?_⟩
 obtain⟨b1,o,e1,h1,t,p,k,d,p',k',d',q1,q2,q3,q4⟩:=h i hi
 have hne:b1≠b:=by
  rintro rfl
  rw[r.cell] at q1
  have:=List.mem_of_getElem? q1
  simp at this
 exact⟨b1,o,e1,by simpa [World.setCell] using h1,t,p,k,d,p',k',d',by rw[q2v hne];exact q1,by rw[q2v hne];exact q2,by rw[q2v hne];exact q3,q4.flt r⟩
/-- Block b is fractions, told in units, and may be written. -/
def NOwn (w:World) (b:Nat) (l:List Int):Prop:=
 ∃ L:List Value,Rec w b L∧L.length=3*l.length∧(∀ x∈L,q2c x)∧
  ∀ i,i<l.length→∃ t a k c a' k' c',L[i*3]? =some (.bool t)∧L[i*3+1]? =some (.slice a k c)∧L[i*3+2]? =some (.slice a' k' c')∧QIs w (.agg #[.bool t,.slice a k c,.slice a' k' c']) (Uz (l.getD i 0))
theorem NOwn.G {w w':World} {b:Nat} {l:List Int} (h:NOwn w b l) (g:Go.Proofs.YtljkfjjchkehaaaGreatDoor.G w w'):NOwn w' b l:=by
 obtain⟨L,h1,h2,h3,h4⟩:=h
 refine⟨L,h1.G g,h2,h3,fun i hi=> ?_⟩
 obtain⟨t,a,k,c,a',k',c',e1,e2,e3,e4⟩:=h4 i hi
 exact⟨t,a,k,c,a',k',c',e1,e2,e3,e4.G g⟩
theorem NOwn.free {w:World} {b:Nat} {l:List Int} (h:NOwn w b l) (i:Nat):w.frozen? ⟨b,i,none⟩=false:=by
 obtain⟨L,h1,-⟩:=h
 exact h1.frozen i
theorem NOwn.lt {w:World} {b:Nat} {l:List Int} (h:NOwn w b l):b<w.heap.size:=by
 obtain⟨L,h1,-⟩:=h
 exact h1.lt
theorem NOwn.cells {w:World} {b:Nat} {l:List Int} (h:NOwn w b l) {i:Nat} (hi:i<l.length):QAt w b (i*3) (Uz (l.getD i 0)):=by
 obtain⟨L,h1,h2,h3,h4⟩:=h
 obtain⟨t,a,k,c,a',k',c',e1,e2,e3,e4⟩:=h4 i hi
 exact⟨t,a,k,c,a',k',c',by rw[h1.cell];exact e1,by rw[h1.cell];exact e2,by rw[h1.cell];exact e3,e4⟩
theorem NOwn.sl {w:World} {b:Nat} {l:List Int} (h:NOwn w b l) (c:Nat) (hc:l.length≤c):NSl w (.slice (some ⟨b,0,none⟩) l.length c) l:=
 ⟨_,c,rfl,hc,fun i hi=>⟨b,0,rfl,h.lt,by rw[Nat.zero_add];exact h.cells hi⟩⟩
theorem NOwn.set {w:World} {b:Nat} {l:List Int} (h:NOwn w b l) {i:Nat} (hi:i<l.length) {z:Int} {t:Bool} {a a':Option Addr} {k c k' c':Nat} (hq:QIs w (.agg #[.bool t,.slice a k c,.slice a' k' c']) (Uz z)):
  NOwn (((w.setCell ⟨b,i*3,none⟩ (.bool t)).setCell ⟨b,i*3+1,none⟩ (.slice a k c)).setCell ⟨b,i*3+2,none⟩ (.slice a' k' c')) b (l.set i z):=by
 obtain⟨L,h1,h2,h3,h4⟩:=h
 have hap:∀ {v:Value} {q:Rat},QIs w v q→QIs (((w.setCell ⟨b,i*3,none⟩ (.bool t)).setCell ⟨b,i*3+1,none⟩ (.slice a k c)).setCell ⟨b,i*3+2,none⟩ (.slice a' k' c')) v q:=fun hv=>hv.apart h1 (fun x hx=>q9G (h3 x hx)) (fun j m hj=>by
  rw[World.cell?_setCell_other _ _ _ _ (by intro e;injection e with e1;exact hj e1.symm),World.cell?_setCell_other _ _ _ _ (by intro e;injection e with e1;exact hj e1.symm),World.cell?_setCell_other _ _ _ _ (by intro e;injection e with e1;exact hj e1.symm)]) (by simp [World.setCell])
 refine⟨((L.set (i*3) (.bool t)).set (i*3+1) (.slice a k c)).set (i*3+2) (.slice a' k' c'),((h1.set _ _).set _ _).set _ _,by simp only[List.length_set];exact h2,?_,?_⟩
 ·intro x hx
  rcases List.mem_or_eq_of_mem_set hx with hx|rfl
  ·rcases List.mem_or_eq_of_mem_set hx with hx|rfl
   ·rcases List.mem_or_eq_of_mem_set hx with hx|rfl
    ·exact h3 x hx
    ·trivial
   ·trivial
  ·trivial
 ·intro j hj
  rw[List.length_set] at hj
  by_cases he:j=i
  ·subst he
   refine⟨t,a,k,c,a',k',c',?_,?_,?_,?_⟩
   ·rw[List.getElem?_set_ne (by omega),List.getElem?_set_ne (by omega),List.getElem?_set_self (by omega)]
   ·rw[List.getElem?_set_ne (by omega),List.getElem?_set_self (by simp only[List.length_set];omega)]
   ·rw[List.getElem?_set_self (by simp only[List.length_set];omega)]
   ·have:(l.set j z).getD j 0=z:=by simp [List.getD_eq_getElem?_getD,hj]
    rw[this]
    exact hap hq
  ·obtain⟨t1,a1,k1,c1,a2,k2,c2,e1,e2,e3,e4⟩:=h4 j hj
   refine⟨t1,a1,k1,c1,a2,k2,c2,?_,?_,?_,?_⟩
   ·rw[List.getElem?_set_ne (by omega),List.getElem?_set_ne (by omega),List.getElem?_set_ne (by omega)];exact e1
   ·rw[List.getElem?_set_ne (by omega),List.getElem?_set_ne (by omega),List.getElem?_set_ne (by omega)];exact e2
   ·rw[List.getElem?_set_ne (by omega),List.getElem?_set_ne (by omega),List.getElem?_set_ne (by omega)];exact e3
   ·have:(l.set i z).getD j 0=l.getD j 0:=by simp only[List.getD_eq_getElem?_getD];rw[List.getElem?_set_ne (by omega)]
    rw[this]
    exact hap e4
/-- A block that is made. -/
theorem q8f (w:World) (n:Nat) (e:TypeId):NOwn (w.alloc (.cells (madeCells #[.bool false,.slice none 0 0,.slice none 0 0] (n*3)) e)) w.heap.size (List.replicate n 0):=by
 have hget:∀ i,i<n*3→(madeCells #[Value.bool false,.slice none 0 0,.slice none 0 0] (n*3)).toList[i]? =some (#[Value.bool false,.slice none 0 0,.slice none 0 0][i%3]!):=by
  intro i hi
  unfold madeCells
  simp [hi]
 refine⟨(madeCells #[.bool false,.slice none 0 0,.slice none 0 0] (n*3)).toList,?_,by simp [size_madeCells];omega,?_,?_⟩
 ·have h:=Rec.new w (madeCells #[.bool false,.slice none 0 0,.slice none 0 0] (n*3)).toList e
  rwa[Array.toArray_toList] at h
 ·intro x hx
  obtain⟨i,hi,rfl⟩:=List.mem_iff_getElem.1 hx
  have hi':i<n*3:=by simpa [size_madeCells] using hi
  have h:=hget i hi'
  rw[List.getElem?_eq_getElem hi] at h
  rw[Option.some.inj h]
  have h3:i%3=0∨i%3=1∨i%3=2:=by omega
  rcases h3 with h3|h3|h3<;>rw[h3]<;>exact trivial
 ·intro i hi
  rw[List.length_replicate] at hi
  refine⟨false,none,0,0,none,0,0,?_,?_,?_,?_⟩
  ·rw[hget _ (by omega),show i*3%3=0 from by omega];rfl
  ·rw[hget _ (by omega),show (i*3+1)%3=1 from by omega];rfl
  ·rw[hget _ (by omega),show (i*3+2)%3=2 from by omega];rfl
  ·have:(List.replicate n (0:Int)).getD i 0=0:=by simp [List.getD_eq_getElem?_getD,hi]
   rw[this,q2S]
   exact q2s _
/-- Each float of a list is finite. -/
def Fin (l:List Nat):Prop:=∀ b∈l,fex b<2047
theorem qaW:∃ i,Tryz.prog.info? 97=some i∧i.zero=some (.agg #[.bool false,.slice none 0 0,.slice none 0 0])∧i.size=3∧i.bytes=56:=by
 have h:(Tryz.prog.info? 97).map (fun i=>(i.zero,i.size,i.bytes))=some (some (.agg #[.bool false,.slice none 0 0,.slice none 0 0]),3,56):=by kernel_rfl
 obtain⟨i,hi,hzz⟩:=Option.map_eq_some_iff.1 h
 simp only[Prod.mk.injEq] at hzz
 exact⟨i,hi,hzz.1,hzz.2.1,hzz.2.2⟩
theorem qai (n:Nat) (hn:n≤1048576) (w:World):(Instr.makeSlice 88 (.int .i64 (n:Int)) (.int .i64 (n:Int))).run Tryz.prog w= .ok (.slice (some ⟨w.heap.size,0,none⟩) n n) (w.alloc (.cells (madeCells #[.bool false,.slice none 0 0,.slice none 0 0] (n*3)) 97)):=by
 obtain⟨i,hi,hz,hs,hb⟩:=qaW
 have h:=run_make (P:=Tryz.prog) w 88 97 i _ Tryz.underlying88 hi hz .i64 .i64 (n:Int) (n:Int) (by omega) (by omega) (by rw[hb];omega) (by omega)
 rw[hs] at h
 exact h
theorem qaH {l:List Nat} {zs:List Int} {k x:Nat} (h:∀ i,i<k→zs.getD i 0=fz (l.getD i 0)∧fex (l.getD i 0)<2047) (hk:k<zs.length) (hx:x=l.getD k 0) (hf:fex x<2047):
  ∀ i,i<k+1→(zs.set k (fz x)).getD i 0=fz (l.getD i 0)∧fex (l.getD i 0)<2047:=by
 intro i hi
 by_cases he:i=k
 ·subst he
  rw[← hx]
  exact⟨by simp [List.getD_eq_getElem?_getD,hk],hf⟩
 ·have:(zs.set k (fz x)).getD i 0=zs.getD i 0:=by simp only[List.getD_eq_getElem?_getD];rw[List.getElem?_set_ne (by omega)]
  rw[this]
  exact h i (by omega)
theorem q4Q {l:List Nat} (h:∀ i,i<l.length→fex (l.getD i 0)<2047):Fin l:=by
 intro b hb
 obtain⟨i,hi,rfl⟩:=List.mem_iff_getElem.1 hb
 have:=h i hi
 rwa[List.getD_eq_getElem?_getD,List.getElem?_eq_getElem hi] at this
theorem qcv {l:List Nat} {zs:List Int} (hl:zs.length=l.length) (h:∀ i,i<l.length→zs.getD i 0=fz (l.getD i 0)):zs=l.map fz:=by
 refine List.ext_getElem (by rw[List.length_map];exact hl) fun i h1 h2=> ?_
 have:=h i (by omega)
 rw[List.getD_eq_getElem?_getD,List.getElem?_eq_getElem h1,List.getD_eq_getElem?_getD,List.getElem?_eq_getElem (by omega:i<l.length)] at this
 rw[List.getElem_map]
 exact this
/-- A call hands back the fractions of a list, or where the first one is that is none. -/
def qaY (w:World) (l:List Nat) (e:Ending) (w':World):Prop:=∃ (v:Value) (c a:Int),e= .returned (.tuple #[v,.agg #[.int .i64 c,.int .i64 a]])∧G w w'∧
 ((c=0∧a=0∧Fin l∧NSl w' v (l.map fz))∨(∃ i:Nat,c=4∧a=i∧v= .slice none 0 0∧i<l.length∧fex (l.getD i 0)=2047∧∀ j,j<i→fex (l.getD j 0)<2047))
theorem q6k (w:World) (v:Value) (l:List Nat) (hT:Tab w) (h:FSl w v l) (hl:∀ b∈l,b<2^64) (hn:l.length≤2000):
  Calls Tryz.prog 52 #[v] w (qaY w l):=by
 obtain⟨pa,ca,rfl,fK,hrow⟩:=h
 have HR:Hid _:=hrow
 have HL:Hid _:=hl
 have uL:Hid (Tab w):=hT
 obtain⟨n,hn'⟩:∃ n,n=l.length:=⟨_,rfl⟩
 rw[← hn'] at hn fK ⊢
 have HN:Hid (n=l.length):=hn'
 clear hrow hl hT hn' fK
 have hmk:=qai n (by omega)
 have hlim:decide ((2000:Int)<n)=false:=by simp;omega
 go_enter Tryz.func52,Tryz.ntmps52
 go_wp2_with fail
 obtain⟨w0,aD,g0,hz0,R0⟩:=q0l w [.int .i64 0,.int .i64 0] 29
 rw[aD]
 clear aD
 have zQZ:Hid _:=q8f w0 n 97
 have g1:G w0 (w0.alloc (.cells (madeCells #[.bool false,.slice none 0 0,.slice none 0 0] (n*3)) 97)):=(G.refl _).alloc _
 rw[hz0] at zQZ
 obtain⟨bz,hbz⟩:∃ bz,bz=w.heap.size+1:=⟨_,rfl⟩
 rw[← hbz] at zQZ ⊢
 have hle:w.heap.size≤bz:=by omega
 have oq:Hid (w.heap.size≤bz):=hle
 have kP:Hid (w.heap.size≠bz):=by show w.heap.size≠bz;omega
 generalize w0.alloc (.cells (madeCells #[.bool false,.slice none 0 0,.slice none 0 0] (n*3)) 97)=w1 at *
 have R1:Hid (Rec w1 w.heap.size [.int .i64 0,.int .i64 0]):=Rec.G R0.out g1
 have OQ:=G.trans g0 g1
 clear hbz hmk R0 hz0 hle g1 g0 hlim
 go_loopw [18] (fun vk wr=>∃ (k:Nat) (zs:List Int),k≤n∧vk= .int .i64 k∧zs.length=n∧(∀ i,i<k→zs.getD i 0=fz (l.getD i 0)∧fex (l.getD i 0)<2047)∧NOwn wr bz zs∧Rec wr w.heap.size [.int .i64 0,.int .i64 0]∧G w wr) (fun vk _=>n-(intOf vk).toNat)
 case atStart=>exact⟨0,List.replicate n 0,Nat.zero_le _,rfl,by simp,fun i hi=>by omega,zQZ.out,R1.out,OQ⟩
 case round=>
  obtain⟨k,zs,hk,rfl,hzl,hzs,hown,hrec,hG⟩:=hrel
  clear R1 zQZ OQ
  have HZ:Hid _:=hzs
  have HO:Hid _:=hown
  have l6:Hid (Rec _ _ _):=hrec
  have zG:Hid (zs.length=n):=hzl
  by_cases hkn:k<n
  ·obtain⟨b1,o1,rfl,hB1,hc1'⟩:=HR.out k (by rw[← HN.out];exact hkn)
   have hc1:=hG.cell (p:=⟨b1,o1+k,none⟩) hB1 hc1'
   have uz:l.getD k 0<2^64:=HL.out _ (by
    rw[List.getD_eq_getElem?_getD,List.getElem?_eq_getElem (by rw[← HN.out];exact hkn)]
    exact List.getElem_mem _)
   obtain⟨x,hx⟩:∃ x,x=l.getD k 0:=⟨_,rfl⟩
   rw[← hx] at hc1 uz
   have HX:Hid (x=l.getD k 0):=hx
   have CO:Hid (Tab wr):=uL.out.G hG
   by_cases hf:fex x<2047
   ·have xB:Hid (Calls Tryz.prog 94 #[.float .f64 x] wr (q15 wr (Uz (fz x)) 0)):=by
     show Calls _ _ _ _ _
     rw[← q51 uz hf]
     exact of_c wr x CO.out uz hf
    have HF:Hid (fex x<2047):=hf
    have HG:Hid _:=hG
    clear uz hf hx hc1' hB1 hrec hown hzs hzl hG CO
    go_wp2_with fail
    refine Calls.mono (P:=Tryz.prog) xB.out ?_
    intro e1 w2 hs
    obtain⟨v,rfl,g2,hv⟩:=hs
    have HV:Hid (QIs w2 v (Uz (fz x))):=hv
    obtain⟨a8,k8,c8,a9,k9,c9,rfl,-,-⟩:=hv
    generalize decide ((Uz (fz x)).num<0)=t9 at *
    have iW:Hid (NOwn w2 bz zs):=NOwn.G HO.out g2
    have Sg:=iW.out.lt
    have hf0:=iW.out.free (k*3)
    have hf1:=iW.out.free (k*3+1)
    have hf2:=iW.out.free (k*3+2)
    obtain⟨y0,y1,y2,y3,y4,y5,y6,hy0,hy1,hy2,-⟩:=iW.out.cells (i:=k) (by rw[zG.out];exact hkn)
    go_wp2_with fail
    have gY:NOwn _ bz (zs.set k (fz x)):=NOwn.set iW.out (i:=k) (by rw[zG.out];exact hkn) HV.out
    have HR2:Rec _ w.heap.size [.int .i64 0,.int .i64 0]:=((Rec.oth (Rec.oth (Rec.oth (Rec.G l6.out g2) (p:=⟨bz,k*3,none⟩) (.bool t9) (Ne.symm kP.out)) (p:=⟨bz,k*3+1,none⟩) (.slice a8 k8 c8) (Ne.symm kP.out)) (p:=⟨bz,k*3+2,none⟩) (.slice a9 k9 c9) (Ne.symm kP.out)))
    have HG2:G w _:=(((G.trans HG.out g2).setCell (p:=⟨bz,k*3,none⟩) oq.out (.bool t9)).setCell (p:=⟨bz,k*3+1,none⟩) oq.out (.slice a8 k8 c8)).setCell (p:=⟨bz,k*3+2,none⟩) oq.out (.slice a9 k9 c9)
    generalize ((w2.setCell ⟨bz,k*3,none⟩ (.bool t9)).setCell ⟨bz,k*3+1,none⟩ (.slice a8 k8 c8)).setCell ⟨bz,k*3+2,none⟩ (.slice a9 k9 c9)=w3 at *
    go_roundw
    case rel=>exact⟨k+1,zs.set k (fz x),by omega,by go_num,by rw[List.length_set];exact zG.out,qaH HZ.out (by rw[zG.out];exact hkn) HX.out HF.out,gY.G ((G.refl _).alloc _),HR2.G ((G.refl _).alloc _),HG2.alloc _⟩
    case measure=>simp only[intOf];omega
   ·have hf2:fex x=2047:=by
     have:fex x<2048:=Nat.mod_lt _ (by omega)
     omega
    have xB:Hid (Calls Tryz.prog 94 #[.float .f64 x] wr (q15 wr 0 4)):=q5Z wr x uz hf2
    have HF:Hid (fex x=2047):=hf2
    have HG:Hid _:=hG
    clear uz hf hf2 hx hc1' hB1 hrec hown hzs hzl hG CO
    go_wp2_with fail
    refine Calls.mono (P:=Tryz.prog) xB.out ?_
    intro e1 w2 hs
    obtain⟨v,rfl,g2,hv⟩:=hs
    obtain⟨a8,k8,c8,a9,k9,c9,rfl,-,-⟩:=hv
    generalize decide ((0:Rat).num<0)=t9 at *
    have Si:=(Rec.G l6.out g2).lt
    have aG:=Rec.f2 (Rec.G l6.out (g2))
    have cO:=aG.1
    have cZ:=aG.2.1
    have df:=aG.2.2.1
    have dh:=aG.2.2.2
    clear aG
    go_wp2_with fail
    have hT:Hid (Rec (World.setCell (World.setCell w2 ⟨w.heap.size,0,none⟩ (.int .i64 4)) ⟨w.heap.size,1,none⟩ (.int .i64 (k:Int))) (w.heap.size) [.int .i64 4,.int .i64 (k:Int)]):=Rec.set2 (Rec.G l6.out (g2))
    have g9:=Rec.g2 (b:=w.heap.size) (u:= .int .i64 4) (v:= .int .i64 (k:Int)) (G.trans HG.out g2) (by omega)
    generalize (World.setCell (World.setCell w2 ⟨w.heap.size,0,none⟩ (.int .i64 4)) ⟨w.heap.size,1,none⟩ (.int .i64 (k:Int)))=w9 at *
    have hF:=Rec.f2 (Rec.G hT.out ((G.refl _)))
    have bS:=hF.1
    have bU:=hF.2.1
    have bV:=hF.2.2.1
    have bW:=hF.2.2.2
    clear hF
    have pE:=Rec.lt hT.out
    refine bodyPost_ret (v:= .tuple #[.slice none 0 0,.agg #[.int .i64 4,.int .i64 (k:Int)]]) (by simp [results,Tryz.results52,go_sem, *]) rfl ?_
    exact⟨_,_,_,rfl,g9.alloc _,Or.inr ⟨k,rfl,rfl,rfl,by rw[← HN.out];exact hkn,by rw[← HX.out];exact HF.out,fun j hj=>(HZ.out j hj).2⟩⟩
  ·obtain rfl:k=n:=by omega
   have hfin:=q4Q (l:=l) (fun i hi=>(HZ.out i (by rw[HN.out];exact hi)).2)
   have heq:=qcv (l:=l) (zs:=zs) (by rw[zG.out,HN.out]) (fun i hi=>(HZ.out i (by rw[HN.out];exact hi)).1)
   have HFin:Hid (Fin l):=hfin
   have Sj:Hid (NSl wr (.slice (some ⟨bz,0,none⟩) k k) (l.map fz)):=by
    have h:=hown.sl k (by rw[zG.out];exact Nat.le_refl _)
    rw[zG.out,heq] at h
    exact h
   clear hfin heq hzs hzl hown HO HZ zG
   have MG:Hid (NSl _ _ _):=Sj.out.flt (x':=0) (y':=0) hrec
   clear hrec
   have aG:=Rec.f2 (Rec.G l6.out (G.refl _))
   have cO:=aG.1
   have cZ:=aG.2.1
   have df:=aG.2.2.1
   have dh:=aG.2.2.2
   clear aG
   go_wp2_with fail
   have hT:Hid (Rec (World.setCell (World.setCell wr ⟨w.heap.size,0,none⟩ (.int .i64 0)) ⟨w.heap.size,1,none⟩ (.int .i64 0)) (w.heap.size) [.int .i64 0,.int .i64 0]):=Rec.set2 (Rec.G l6.out (G.refl _))
   have g9:=Rec.g2 (b:=w.heap.size) (u:= .int .i64 0) (v:= .int .i64 0) (hG) (by omega)
   generalize (World.setCell (World.setCell wr ⟨w.heap.size,0,none⟩ (.int .i64 0)) ⟨w.heap.size,1,none⟩ (.int .i64 0))=w9 at *
   have hF:=Rec.f2 (Rec.G hT.out ((G.refl _)))
   have bS:=hF.1
   have bU:=hF.2.1
   have bV:=hF.2.2.1
   have bW:=hF.2.2.2
   clear hF
   refine bodyPost_ret (v:= .tuple #[.slice (some ⟨bz,0,none⟩) k k,.agg #[.int .i64 0,.int .i64 0]]) (by simp [results,Tryz.results52,go_sem, *]) rfl ?_
   exact⟨_,_,_,rfl,g9,Or.inl ⟨rfl,rfl,HFin.out,MG.out⟩⟩
theorem qch:∃ i,Tryz.prog.info? 26=some i∧i.zero=some (.float .f64 0)∧i.size=1∧i.bytes=8:=by
 have h:(Tryz.prog.info? 26).map (fun i=>(i.zero,i.size,i.bytes))=some (some (.float .f64 0),1,8):=by kernel_rfl
 obtain⟨i,hi,hzz⟩:=Option.map_eq_some_iff.1 h
 simp only[Prod.mk.injEq] at hzz
 exact⟨i,hi,hzz.1,hzz.2.1,hzz.2.2⟩
/-- Floats as cells. -/
def fl (l:List Nat):List Value:=l.map fun b=> .float .f64 b
theorem q1u (l:List Nat):(fl l).length=l.length:=List.length_map _
theorem q9Y (l m:List Nat):fl (l++m)=fl l++fl m:=List.map_append
theorem q47 (l:List Nat):∀ x∈fl l,q2c x:=by
 intro x hx
 obtain⟨b,-,rfl⟩:=List.mem_map.1 hx
 trivial
theorem q7u {l:List Nat} {i:Nat} (h:i<l.length):(fl l)[i]? =some (.float .f64 (l.getD i 0)):=by
 unfold fl
 rw[List.getElem?_map,List.getD_eq_getElem?_getD,List.getElem?_eq_getElem h]
 rfl
/-- A slice of floats whose block is our own (from block base on). -/
def FOwn (w:World) (base:Nat) (v:Value) (l:List Nat):Prop:=
 (v= .slice none 0 0∧l=[])∨∃ g cap cur,v= .slice (some ⟨g,0,none⟩) l.length cap∧base≤g∧w.heap[g]? =some (.cells cur 26 (0,0))∧l.length≤cap∧cap≤maxLen∧cur.size=cap∧cur.toList.take l.length=fl l∧∀ x∈cur.toList,q2c x
theorem q1N (w:World) (base:Nat):FOwn w base (.slice none 0 0) []:=Or.inl ⟨rfl,rfl⟩
theorem q5s {w:World} {g:Nat} {o:Obj} (h:w.heap[g]? =some o):g<w.heap.size:=(Array.getElem?_eq_some_iff.1 h).1
theorem FOwn.G {w w':World} {base:Nat} {v:Value} {l:List Nat} (h:FOwn w base v l) (g:Go.Proofs.YtljkfjjchkehaaaGreatDoor.G w w'):FOwn w' base v l:=by
 rcases h with h|⟨b,cap,cur,e,h1,h2,h3⟩
 ·exact Or.inl h
 ·refine Or.inr ⟨b,cap,cur,e,h1,?_,h3⟩
  obtain⟨-,-,-,-,g5⟩:=g
  exact(g5 b (q5s h2)).trans h2
theorem FOwn.fsl {w:World} {base:Nat} {v:Value} {l:List Nat} (h:FOwn w base v l):FSl w v l:=by
 rcases h with ⟨rfl,rfl⟩|⟨b,cap,cur,rfl,h1,h2,h3,h4,h5,h6,h7⟩
 ·exact qaf _ _ _
 ·refine⟨_,cap,rfl,h3,fun i hi=>⟨b,0,rfl,q5s h2,?_⟩⟩
  have h8:=q7u hi
  rw[← h6,List.getElem?_take,if_pos hi] at h8
  rw[Nat.zero_add]
  simp only[World.cell?,h2]
  simpa using h8
theorem FOwn.len {w:World} {base:Nat} {v:Value} {l:List Nat} (h:FOwn w base v l):∃ a c,v= .slice a l.length c:=by
 rcases h with ⟨rfl,rfl⟩|⟨b,cap,cur,rfl,-⟩
 ·exact⟨_,_,rfl⟩
 ·exact⟨_,_,rfl⟩
theorem FOwn.set {w:World} {base b i x n cap:Nat} {l:List Nat} (h:FOwn w base (.slice (some ⟨b,0,none⟩) n cap) l):FOwn (w.setCell ⟨b,i,none⟩ (.float .f64 x)) base (.slice (some ⟨b,0,none⟩) n cap) (l.set i x):=by
 rcases h with ⟨e,-⟩|⟨b',cap',cur,e,h1,h2,h3,h4,h5,h6,h7⟩
 ·cases e
 ·injection e with e1 e2 e3
  injection e1 with e1
  injection e1 with e1
  subst e1;subst e3
  refine Or.inr ⟨b,cap,cur.setIfInBounds i (.float .f64 x),by rw[List.length_set,e2],h1,?_,by rw[List.length_set];exact h3,h4,by simpa using h5,?_,?_⟩
  ·simp only[World.setCell,Array.getElem?_modify,if_true,h2,Option.map_some]
   simp
  ·rw[Array.toList_setIfInBounds,List.length_set]
   rw[List.take_set,h6]
   unfold fl
   rw[List.map_set]
  ·intro u hu
   rw[Array.toList_setIfInBounds] at hu
   rcases List.mem_or_eq_of_mem_set hu with hu|rfl
   ·exact h7 u hu
   ·trivial
theorem FOwn.own {w:World} {base:Nat} {v:Value} {l:List Nat} (h:FOwn w base v l) {b:Nat} (hb:b<base∨w.heap.size≤b):v.ownBlock≠some b:=by
 rcases h with ⟨rfl,-⟩|⟨g,cap,cur,rfl,h1,h2,-⟩
 ·intro e;cases e
 ·intro e
  have e1:g=b:=Option.some.inj e
  have:=q5s h2
  omega
theorem FOwn.oth {w w':World} {base:Nat} {v:Value} {l:List Nat} (h:FOwn w base v l) {b:Nat} (hb:v.ownBlock≠some b) (hw:∀ k,k≠b→w'.heap[k]? =w.heap[k]?):FOwn w' base v l:=by
 rcases h with h|⟨g,cap,cur,rfl,h1,h2,h3⟩
 ·exact Or.inl h
 ·exact Or.inr ⟨g,cap,cur,rfl,h1,by rw[hw g (by intro e;exact hb (by rw[← e];rfl))];exact h2,h3⟩
theorem q2p {w:World} {a:Addr} {x:Value} {k:Nat} (h:k≠a.block):(w.setCell a x).heap[k]? =w.heap[k]? :=by
 simp only[World.setCell,Array.getElem?_modify,if_neg (Ne.symm h)]
/-- What appending to a slice of our own leaves standing. -/
structure Onto (base:Nat) (v:Value) (w w':World):Prop where
 q:∀ (u:Value) (x:Rat),QIs w u x→QIs w' u x
 r:∀ (b:Nat) (L:List Value),Rec w b L→v.ownBlock≠some b→Rec w' b L
 g:∀ w0:World,w0.heap.size≤base→G w0 w→G w0 w'
theorem q44 {base:Nat} {v:Value} {w w':World} (g:G w w'):Onto base v w w':=
 ⟨fun _ _ h=>h.G g,fun _ _ h _=>h.G g,fun _ _ h=>G.trans h g⟩
theorem q8o (w:World) (base:Nat) (v:Value) (l m:List Nat) (h:FOwn w base v l) (hb:base≤w.heap.size) (a:Addr) (n c:Nat) (hnm:m.length=n) (hsrc:∀ j,j<m.length→w.cell? (a.add j)=some (.float .f64 (m.getD j 0))) (hlen:l.length+m.length≤1000000) (hpos:0<m.length):
  ∃ v' w',(Builtin.append_ #[22,22] 22 #[v,.slice (some a) n c]).run Tryz.prog w= .ok v' w'∧FOwn w' base v' (l++m)∧Onto base v w w':=by
 subst hnm
 obtain⟨i,hi,hz,hs,hby⟩:=qch
 have hnews:∀ j u,(fl m)[j]? =some u→w.cell? (a.add j)=some u:=by
  intro j u hu
  have hj:j<m.length:=by rw[← q1u m];exact(List.getElem?_eq_some_iff.1 hu).1
  rw[q7u hj] at hu
  rw[hsrc j hj,Option.some.inj hu]
 have hl:(fl m).length=m.length*i.size:=by rw[q1u,hs,Nat.mul_one]
 have qU:maxLen=9223372036854775807:=rfl
 have hnew:∀ (old:Nat) (b:Nat),b=w.heap.size→FOwn (w.drew.alloc (.cells ((fl l).toArray++(fl m).toArray++Builtin.zeroCells (Value.float .f64 0).cells (grownCap w (l.length+m.length) old 26-(l.length+m.length))) 26)) base (.slice (some ⟨b,0,none⟩) (l.length+m.length) (grownCap w (l.length+m.length) old 26)) (l++m):=by
  intro old b hbb
  have hge:=grownCap_ge w (l.length+m.length) old 26
  refine Or.inr ⟨b,_,_,by rw[List.length_append],by omega,by rw[hbb];exact heap_alloc_new w.drew _,by rw[List.length_append];exact hge,grownCap_le_maxLen w _ old _ (by rw[qU];omega),?_,?_,?_⟩
  ·simp only[Array.size_append,List.size_toArray,size_zeroCells,q1u]
   show l.length+m.length+_*1=_
   omega
  ·rw[q9Y]
   simp only[Array.toList_append]
   exact List.take_left' (by simp [q1u])
  ·intro x hx
   simp only[Array.toList_append,List.mem_append] at hx
   rcases hx with (hx|hx)|hx
   ·exact q47 _ _ hx
   ·exact q47 _ _ hx
   ·have hz1:(Value.float .f64 0).cells=#[Value.float .f64 0]:=rfl
    rw[hz1] at hx
    simp only[Builtin.zeroCells,Array.toList_map,List.mem_map] at hx
    obtain⟨k,-,rfl⟩:=hx
    rw[show k%(#[Value.float .f64 0]:Array Value).size=0 from Nat.mod_one k]
    trivial
 rcases h with ⟨rfl,rfl⟩|⟨g,cap,cur,rfl,h1,h2,h3,h4,h5,h6,h7⟩
 ·have hr:=run_append_nil (P:=Tryz.prog) w 22 22 26 i _ Tryz.underlying22 hi hz a m.length c (fl m) hl hnews hpos (by omega) (by rw[hby];omega)
  have hn:=hnew 0 w.heap.size rfl
  simp only[fl,List.map_nil,List.length_nil,Nat.zero_add,List.nil_append,Array.empty_append] at hn hr
  exact⟨_,_,hr,hn,q44 ((G.refl _).drew.alloc _)⟩
 ·by_cases hroom:l.length+m.length≤cap
  ·have hr:=run_append_room (P:=Tryz.prog) w 22 22 26 i Tryz.underlying22 hi g l.length cap cur h2 a m.length c (fl m) hl hnews (by
    intro u hu
    obtain⟨b,-,rfl⟩:=List.mem_map.1 hu
    rfl) hroom (by rw[hs,q1u,h5];omega)
   rw[hs,Nat.mul_one,q1u] at hr
   have hrec:Rec w g cur.toList:=⟨26,by simpa using h2⟩
   refine⟨_,_,hr,Or.inr ⟨g,cap,_,by rw[List.length_append],h1,setRow_heap w g cur _ _ _ h2,by rw[List.length_append];exact hroom,h4,?_,?_,?_⟩,?_⟩
   ·simp only[List.size_toArray,List.length_append,List.length_take,List.length_drop,Array.length_toList,q1u]
    omega
   ·rw[h6,← q9Y]
    exact List.take_left' (by rw[q1u])
   ·intro x hx
    simp only[List.mem_append] at hx
    rcases hx with (hx|hx)|hx
    ·exact h7 x (List.mem_of_mem_take hx)
    ·exact q47 _ _ hx
    ·exact h7 x (List.mem_of_mem_drop hx)
   ·have hcell:∀ j k,j≠g→(w.setRow g (cur.toList.take l.length++fl m++cur.toList.drop (l.length+m.length)).toArray).cell? ⟨j,k,none⟩=w.cell? ⟨j,k,none⟩:=fun j k hj=>World.cell?_of_block (setRow_other w g j _ hj)
    refine⟨fun u x hu=>hu.apart hrec (fun x hx=>q9G (h7 x hx)) hcell (by simp),fun b L hL hne=> ?_,fun w0 h0 hg=> ?_⟩
    ·obtain⟨t,hL⟩:=hL
     refine⟨t,?_⟩
     rw[setRow_other w g b _ (by intro e;exact hne (by rw[e];rfl))]
     exact hL
    ·obtain⟨g1,g2,g3,g4,g5⟩:=hg
     refine⟨g1,g2,g3,by simpa using g4,fun k hk=> ?_⟩
     rw[setRow_other w g k _ (by omega)]
     exact g5 k hk
  ·have holds:∀ j u,(fl l)[j]? =some u→w.cell? ((⟨g,0,none⟩:Addr).add j)=some u:=by
    intro j u hu
    have hj:j<l.length:=by rw[← q1u l];exact(List.getElem?_eq_some_iff.1 hu).1
    have hadd:(⟨g,0,none⟩:Addr).add j=⟨g,j,none⟩:=by unfold Addr.add;split<;>simp_all
    rw[hadd]
    simp only[World.cell?,h2]
    rw[← h6,List.getElem?_take,if_pos hj] at hu
    simpa using hu
   have hr:=run_append_grow (P:=Tryz.prog) w 22 22 26 i _ Tryz.underlying22 hi hz ⟨g,0,none⟩ l.length cap (fl l) (by rw[q1u,hs,Nat.mul_one]) holds a m.length c (fl m) hl hnews (by omega) (by omega) (growslice_fits (by omega) (by rw[hby];omega))
   exact⟨_,_,hr,hnew cap w.heap.size rfl,q44 ((G.refl _).drew.alloc _)⟩
/-- An append whose run is known. -/
theorem q20 {P:Program} (w:World) {ops:Array Oper} {rest:List Oper} {o:Oper} {a:Act} {Q:Exit→Act→World→Prop} (hgd:o.guard=none) (s x:Operand) (t:TypeId)
  (ho:o.op= .call {callee:= .builtin .append,args:=#[s,x],argTypes:=#[t,t]}) (v sl:Value) (hs:a.eval s=v) (hx:a.eval x=sl) {v':Value} {w':World}
  (hr:(Builtin.append_ #[t,t] o.type #[v,sl]).run P w= .ok v' w') (h:wpList P ops Q rest (a.put o.dst v') w'):wpList P ops Q (o::rest) a w:=
 wpList_plain hgd fun _ hK=>by
  unfold Oper.wp execOp
  simp only[ho,resolve,invoke,builtin,Sem.run_bind,Sem.run_pure,Result.andThen_ok,List.map_toArray,List.map_cons,List.map_nil,hs,hx,hr]
  exact hK _ _ h
end Go.Proofs.YtljkfjjchkehaaaGreatDoor.EN
