/- What is proved here: the float nearest to a ratio, its arithmetic (no program).
What is proved here: contracts of the reference's ratios: Float64, over this seat's translation.
What is proved here: contracts of the reference's ratios: SetFloat64, over this seat's translation. -/
import Derived.Test.YtljkfjjchkehaaaGreatDoorP24
import Derived.Test.YtljkfjjchkehaaaGreatDoorP19
import Derived.Test.YtljkfjjchkehaaaGreatDoorP10
namespace Go.Proofs.YtljkfjjchkehaaaGreatDoor
open Go.RowKit
open BN
theorem q3P (N D k:Nat) (hk:0<k):q0v (N*k) (D*k)=q0v N D:=by
 unfold q0v
 rw[Nat.mul_div_mul_right _ _ hk,Nat.mul_mod_mul_right]
 have e1:2*(N%D*k)=(2*(N%D))*k:=by rw[Nat.mul_assoc]
 rw[e1]
 congr 1
 have h1:D*k<2*(N%D)*k↔D<2*(N%D):=Nat.mul_lt_mul_right hk
 have h2:2*(N%D)*k=D*k↔2*(N%D)=D:=Nat.mul_left_inj (by omega)
 simp only[h1,h2]
theorem q2T {N D N' D':Nat} (hD:0<D) (hD':0<D') (h:N*D'=N'*D):q0v N D=q0v N' D':=by
 rw[← q3P N D D' hD',h,← q3P N' D' D hD,Nat.mul_comm D' D]
theorem q4H {N D T:Nat} (hD:0<D) (h:T*D≤N):T≤q0v N D:=by
 have:T≤N/D:=(Nat.le_div_iff_mul_le hD).2 h
 unfold q0v;omega
theorem q6w (x:Nat):q0v x 1=x:=by
 unfold q0v
 rw[Nat.div_one,Nat.mod_one,if_neg (by omega)];rfl
theorem q6J (mag d:Nat) (hd:1≤d):rnd mag d=q0v mag (2^d):=by
 unfold rnd q0v
 have e:2^d=2*2^(d-1):=by
  obtain⟨k,rfl⟩:∃ k,d=k+1:=⟨d-1,by omega⟩
  simp [Nat.pow_succ,Nat.mul_comm]
 congr 1
 generalize mag%2^d=r
 generalize mag/2^d=q
 rw[e]
 generalize 2^(d-1)=h
 by_cases c1:h<r
 ·rw[if_pos (Or.inl c1),if_pos (Or.inl (by omega))]
 ·by_cases c2:r=h∧q%2=1
  ·rw[if_pos (Or.inr c2),if_pos (Or.inr ⟨by omega,c2.2⟩)]
  ·rw[if_neg (by rintro(h|h);exact c1 h;exact c2 h),if_neg (by rintro(h|h);omega;exact c2 ⟨by omega,h.2⟩)]
theorem q8j (mag:Nat) (n:Int) (hm:mag<2^64):shV mag n=q0v (mag*2^n.toNat) (2^(-n).toNat):=by
 unfold shV
 by_cases hn:0≤n
 ·rw[if_pos hn,show (-n).toNat=0 from by omega,Nat.pow_zero,q6w]
 ·rw[if_neg hn,show n.toNat=0 from by omega,Nat.pow_zero,Nat.mul_one]
  by_cases h2:n< -64
  ·rw[if_pos h2]
   have h3:2^65≤2^(-n).toNat:=q0Y (by omega)
   generalize 2^(-n).toNat=D at *
   unfold q0v
   rw[Nat.div_eq_of_lt (by omega),Nat.mod_eq_of_lt (by omega),if_neg (by omega)]
  ·rw[if_neg h2]
   exact q6J _ _ (by omega)
/-- The power of two at or below A / B. -/
def expo (A B:Nat):Int:=if B*2^((blen A:Int)-blen B).toNat≤A*2^(-((blen A:Int)-blen B)).toNat then (blen A:Int)-blen B else (blen A:Int)-blen B-1
def q0M (A B:Nat):Int:=max (expo A B-52) (-1074)
/-- The float nearest to A / B (its place among the floats from 0 on). -/
def flV (A B:Nat):Nat:=min ((q0M A B+1074).toNat*2^52+q1w A B (q0M A B)) (2047*2^52)
/-- Powers below 0 away: K is great enough. -/
theorem q4q {X Y:Nat} {p:Int} (K:Nat) (h: -(K:Int)≤p):∃ c,X*2^K=X*2^(-p).toNat*2^c∧Y*2^((K:Int)+p).toNat=Y*2^p.toNat*2^c:=by
 refine⟨K-(-p).toNat,?_,?_⟩
 ·rw[Nat.mul_assoc,← Nat.pow_add,show (-p).toNat+(K-(-p).toNat)=K from by omega]
 ·rw[Nat.mul_assoc,← Nat.pow_add,show p.toNat+(K-(-p).toNat)=((K:Int)+p).toNat from by omega]
theorem q39 {X Y:Nat} {p:Int} (K:Nat) (h: -(K:Int)≤p):Y*2^p.toNat≤X*2^(-p).toNat↔Y*2^((K:Int)+p).toNat≤X*2^K:=by
 obtain⟨c,h1,h2⟩:=q4q (X:=X) (Y:=Y) K h
 rw[h1,h2]
 exact(Nat.mul_le_mul_right_iff (Nat.two_pow_pos c)).symm
theorem q36 {X Y:Nat} {p:Int} (K:Nat) (h: -(K:Int)≤p):X*2^(-p).toNat<Y*2^p.toNat↔X*2^K<Y*2^((K:Int)+p).toNat:=by
 obtain⟨c,h1,h2⟩:=q4q (X:=X) (Y:=Y) K h
 rw[h1,h2]
 exact(Nat.mul_lt_mul_right (Nat.two_pow_pos c)).symm
theorem q6e {X Y:Nat} {p:Int} (K:Nat) (h: -(K:Int)≤p):X*2^(-p).toNat=Y*2^p.toNat↔X*2^K=Y*2^((K:Int)+p).toNat:=by
 obtain⟨c,h1,h2⟩:=q4q (X:=X) (Y:=Y) K h
 rw[h1,h2]
 exact(Nat.mul_left_inj (Nat.ne_of_gt (Nat.two_pow_pos c))).symm
theorem qaO {A B:Nat}:expo A B=(blen A:Int)-blen B∨expo A B=(blen A:Int)-blen B-1:=by unfold expo;split;exact Or.inl rfl;exact Or.inr rfl
/-- 2 ^ expo is at or below, ... -/
theorem q2E {A B:Nat} (hA:A≠0) (hB:B≠0) (K:Nat) (hK: -(K:Int)≤expo A B):B*2^((K:Int)+expo A B).toNat≤A*2^K:=by
 rw[← q39 K hK]
 unfold expo
 split
 ·assumption
 ·obtain⟨a1,a2,a3⟩:=q1W hA
  obtain⟨b1,b2,b3⟩:=q1W hB
  generalize hd:(blen A:Int)-blen B-1=d
  calc B*2^d.toNat≤2^blen B*2^d.toNat:=Nat.mul_le_mul_right _ (by omega)
   _=2^(blen B+d.toNat):=by rw[Nat.pow_add]
   _≤2^(blen A-1+(-d).toNat):=Nat.pow_le_pow_right (by omega) (by omega)
   _=2^(blen A-1)*2^(-d).toNat:=by rw[Nat.pow_add]
   _≤A*2^(-d).toNat:=Nat.mul_le_mul_right _ a2
/-- ... and 2 ^ (expo + 1) above. -/
theorem q42 {A B:Nat} (hA:A≠0) (hB:B≠0) (K:Nat) (hK: -(K:Int)≤expo A B):A*2^K<B*2^((K:Int)+(expo A B+1)).toNat:=by
 rw[← q36 K (by omega)]
 unfold expo
 split
 ·obtain⟨a1,a2,a3⟩:=q1W hA
  obtain⟨b1,b2,b3⟩:=q1W hB
  generalize hd:(blen A:Int)-blen B+1=d
  calc A*2^(-d).toNat<2^blen A*2^(-d).toNat:=Nat.mul_lt_mul_of_pos_right a3 (Nat.two_pow_pos _)
   _=2^(blen A+(-d).toNat):=by rw[Nat.pow_add]
   _≤2^(blen B-1+d.toNat):=Nat.pow_le_pow_right (by omega) (by omega)
   _=2^(blen B-1)*2^d.toNat:=by rw[Nat.pow_add]
   _≤B*2^d.toNat:=Nat.mul_le_mul_right _ b2
 ·rename_i h
  rw[show (blen A:Int)-blen B-1+1=(blen A:Int)-blen B from by omega]
  exact Nat.lt_of_not_le h
theorem q1I {a b:Nat} (h:2^a<2^b):a<b:=(Nat.pow_lt_pow_iff_right (by omega:1<2)).1 h
theorem qb3 {A B mag:Nat} {e:Int} (hA:A≠0) (hB:B≠0) (h0:mag≠0) (h:A*2^(-e).toNat=mag*B*2^e.toNat):expo A B=e+mag.log2:=by
 have l1:=Nat.log2_self_le h0
 have l2:=Nat.lt_log2_self (n:=mag)
 obtain⟨K,hK⟩:∃ K:Nat,K=e.natAbs+(expo A B).natAbs+1:=⟨_,rfl⟩
 have hE:=(q6e K (by omega)).1 h
 have h1:=q2E hA hB K (by omega)
 have h2:=q42 hA hB K (by omega)
 rw[hE] at h1 h2
 generalize expo A B=L at *
 have hB':0<B:=by omega
 have g1:B*2^((K:Int)+L).toNat<B*2^(mag.log2+1+((K:Int)+e).toNat):=by
  refine Nat.lt_of_le_of_lt h1 ?_
  rw[Nat.mul_comm mag B,Nat.mul_assoc,Nat.pow_add]
  exact Nat.mul_lt_mul_of_pos_left (Nat.mul_lt_mul_of_pos_right l2 (Nat.two_pow_pos _)) hB'
 have g2:B*2^(mag.log2+((K:Int)+e).toNat)<B*2^((K:Int)+(L+1)).toNat:=by
  refine Nat.lt_of_le_of_lt ?_ h2
  rw[Nat.mul_comm mag B,Nat.mul_assoc,Nat.pow_add]
  exact Nat.mul_le_mul_left _ (Nat.mul_le_mul_right _ l1)
 have q1:=q1I (Nat.lt_of_mul_lt_mul_left g1)
 have q2:=q1I (Nat.lt_of_mul_lt_mul_left g2)
 omega
/-- A / B in units of 2^p is mag * 2^e in units of 2^p. -/
theorem q9A {A B mag:Nat} {e:Int} (p:Int) (hB:B≠0) (h:A*2^(-e).toNat=mag*B*2^e.toNat):q1w A B p=q0v (mag*2^(e-p).toNat) (2^(-(e-p)).toNat):=by
 unfold q1w upP loP
 refine q2T (Nat.mul_pos (by omega) (Nat.two_pow_pos _)) (Nat.two_pow_pos _) ?_
 obtain⟨K,hK⟩:∃ K:Nat,K=(-p).toNat+(-(e-p)).toNat+(-e).toNat:=⟨_,rfl⟩
 have hE:=(q6e K (by omega)).1 h
 have e1:A*2^(-p).toNat*2^(-(e-p)).toNat*2^(-e).toNat=A*2^K:=by
  rw[Nat.mul_assoc,Nat.mul_assoc,← Nat.pow_add,← Nat.pow_add];congr 2;omega
 have e2:mag*2^(e-p).toNat*(B*2^p.toNat)*2^(-e).toNat=mag*B*2^((K:Int)+e).toNat:=by
  rw[show mag*2^(e-p).toNat*(B*2^p.toNat)=mag*B*(2^(e-p).toNat*2^p.toNat) from by ac_rfl,← Nat.pow_add,Nat.mul_assoc,← Nat.pow_add]
  congr 2;omega
 exact Nat.eq_of_mul_eq_mul_right (Nat.two_pow_pos (-e).toNat) (by rw[e1,e2,hE])
/-- What 'nearest' of package bits gives is the float nearest to a ratio that is mag * 2^e. -/
theorem q8x {A B mag:Nat} {e:Int} (hA:A≠0) (hB:B≠0) (h0:mag≠0) (hm:mag<2^64) (h:A*2^(-e).toNat=mag*B*2^e.toNat):q0R 11 52 mag e=flV A B:=by
 have hL:=qb3 hA hB h0 h
 have hle:=q41 mag e
 unfold flV
 have hQ:=q9A (q0M A B) hB h
 rw[← q8j mag _ hm] at hQ
 rw[hQ]
 unfold q0M
 rw[hL]
 have hs:=q2L false mag e h0 hm
 unfold Ieee.Format.nearest at hs
 rw[if_neg h0,FT.leastPlace_eq,FT.infRung_eq,FT.binade_eq,FT.word_eq] at hs
 have hl:(max (e+(mag.log2:Int)-(52:Nat)) (-1074))=max (e+(mag.log2:Int)-52) (-1074):=rfl
 have hs2:FT.wrd false (min ((max (e+(mag.log2:Int)-(52:Nat)) (-1074)- -1074).toNat*2^52+Ieee.Toward.even.cut false (mag<<<(e-max (e+(mag.log2:Int)-(52:Nat)) (-1074)).toNat) (max (e+(mag.log2:Int)-(52:Nat)) (-1074)-e).toNat) (2047*2^52))=FT.wrd false (q0R 11 52 mag e):=hs
 rw[hl] at hs2
 generalize max (e+(mag.log2:Int)-52) (-1074)=last at *
 have hc:=q72 false mag (e-last) h0 hm
 rw[show (-(e-last)).toNat=(last-e).toNat from by omega] at hc
 rw[← hc,show (last- -1074).toNat=(last+1074).toNat from by omega] at hs2
 have hw:∀ x:Nat,FT.wrd false x=x:=fun x=>rfl
 rw[hw,hw] at hs2
 exact hs2.symm
theorem q2x {v:Nat} {P:Int} (hv:v<2^53) (hP: -1074≤P) (h:P= -1074∨2^52≤v):q0R 11 52 v P=min ((P+1074).toNat*2^52+v) (2047*2^52):=by
 unfold q0R
 by_cases h0:v=0
 ·subst h0
  have:P= -1074:=by omega
  subst this
  rfl
 rw[if_neg h0]
 have h2:(2:Int)^(11-1)=1024:=rfl
 rw[h2]
 have hs0:shV v 0=v:=by unfold shV;simp
 have l1:=Nat.log2_self_le h0
 have l2:=Nat.lt_log2_self (n:=v)
 by_cases hv2:2^52≤v
 ·have CK:v.log2=52:=by
   have a:v.log2<53:=(Nat.log2_lt h0).2 hv
   have b:¬ v.log2<52:=by rw[Nat.log2_lt h0];omega
   omega
  rw[CK]
  by_cases hbig:(1024:Int)-1<P+(52:Nat)
  ·rw[if_pos hbig]
   have:2046*2^52≤(P+1074).toNat*2^52:=Nat.mul_le_mul_right _ (by omega)
   omega
  ·rw[if_neg hbig]
   have hp:max (P+((52:Nat):Int)) (2-1024)=P+52:=by omega
   rw[hp,show P-(P+52-(52:Nat))=0 from by omega,hs0,show (P+52-(2-1024)).toNat=(P+1074).toNat from by omega]
   have:(P+1074).toNat*2^52≤2045*2^52:=Nat.mul_le_mul_right _ (by omega)
   omega
 ·have hP2:P= -1074:=by omega
  subst hP2
  have CK:v.log2<52:=(Nat.log2_lt h0).2 (by omega)
  rw[if_neg (by omega)]
  have hp:max (-1074+(v.log2:Int)) (2-1024)= -1022:=by omega
  rw[hp]
  show 0*2^52+shV v 0=min (0*2^52+v) _
  rw[hs0]
  omega
theorem q5E {N D:Nat} (hD:0<D) (hN:2^53*D≤N) (h:q0v N D=2^53):q0v N (2*D)=2^52:=by
 have hq:2^53≤N/D:=(Nat.le_div_iff_mul_le hD).2 hN
 have hm:=Nat.div_add_mod N D
 have hr:=Nat.mod_lt N hD
 unfold q0v at h
 have hq2:N/D=2^53:=by omega
 rw[hq2] at h hm
 have hle:2*(N%D)≤D:=by
  by_cases c:D<2*(N%D)
  ·rw[if_pos (Or.inl c)] at h;omega
  ·omega
 generalize N%D=r at *
 have lU:N=r+2*D*2^52:=by omega
 unfold q0v
 rw[lU,Nat.add_mul_div_left _ _ (by omega),Nat.add_mul_mod_self_left,Nat.div_eq_of_lt (by omega),Nat.mod_eq_of_lt (by omega),if_neg (by omega)]
theorem q9u (a:Nat):min ((a+1)*2^52+2^52) (2047*2^52)=min (a*2^52+2^53) (2047*2^52):=by omega
theorem q8a {Q v:Nat} {last P:Int} (h1:Q≤2^53) (h2:last= -1074∨2^52≤Q) (h3: -1074≤last)
  (ho:(blen Q≤53∧v=Q∧P=last)∨(blen Q=53+1∧Q%2^53=0∧v=Q/2∧P=last+1)):
  v<2^53∧ -1074≤P∧q0R 11 52 v P=min ((last+1074).toNat*2^52+Q) (2047*2^52):=by
 rcases ho with ⟨c1,rfl,rfl⟩|⟨c1,c2,c4,rfl⟩
 ·have c3:v<2^53:=blen_le_iff.1 c1
  exact⟨c3,h3,q2x c3 h3 h2⟩
 ·have c3:¬ Q<2^53:=by rw[← blen_le_iff];omega
  have c5:Q=2^53:=by omega
  have c6:v=2^52:=by omega
  clear c1 c2 c3 c4 h1 h2
  have c7:v<2^53:=by omega
  have c8:2^52≤v:=by omega
  refine⟨c7,by omega,?_⟩
  rw[q2x c7 (by omega) (Or.inr c8),show (last+1+1074).toNat=(last+1074).toNat+1 from by omega,c5,c6]
  exact q9u _
/-- What 'near' of the reference gives, as a float. -/
theorem qap {A B v:Nat} {p P:Int} {x:Bool} (hA:A≠0) (hB:B≠0) (hat:q29 A B 53 (q1k A B 53 (-1074)) p) (ho:q5I A B 53 p v P x):
  v<2^53∧ -1074≤P∧q0R 11 52 v P=flV A B:=by
 have hE:=qaO (A:=A) (B:=B)
 obtain⟨K,hK⟩:∃ K:Nat,K=(expo A B).natAbs+2000:=⟨_,rfl⟩
 have hlo:=q2E hA hB K (by omega)
 have hhi:=q42 hA hB K (by omega)
 have hS:q1k A B 53 (-1074)=max ((blen A:Int)-blen B-53) (-1074):=by unfold q1k;split<;>omega
 have hl:q0M A B=max (expo A B-52) (-1074):=rfl
 -- sizes of q1w
 have up:∀ q:Int,-(K:Int)≤q→expo A B-52≤q→q1w A B q≤2^53:=by
  intro q hq hq2
  unfold q1w
  refine q4u ?_
  unfold upP loP
  rw[← Nat.mul_assoc,q36 K hq]
  refine Nat.lt_of_lt_of_le hhi ?_
  rw[Nat.mul_comm (2^53) B,Nat.mul_assoc,← Nat.pow_add]
  exact Nat.mul_le_mul_left _ (Nat.pow_le_pow_right (by omega) (by omega))
 have dn:∀ (q:Int) (t:Nat),-(K:Int)≤q→q+t≤expo A B→2^t*loP B q≤upP A q:=by
  intro q t hq hq2
  unfold upP loP
  rw[← Nat.mul_assoc,q39 K hq]
  refine Nat.le_trans ?_ hlo
  rw[Nat.mul_comm (2^t) B,Nat.mul_assoc,← Nat.pow_add]
  exact Nat.mul_le_mul_left _ (Nat.pow_le_pow_right (by omega) (by omega))
 have hlast: -(K:Int)≤q0M A B:=by omega
 have main:∀ (v:Nat) (P:Int),q5I A B 53 (q0M A B) v P x→v<2^53∧ -1074≤P∧q0R 11 52 v P=flV A B:=by
  intro v P ho
  have h1:=up (q0M A B) hlast (by omega)
  have h2:q0M A B= -1074∨2^52≤q1w A B (q0M A B):=by
   by_cases hc:q0M A B= -1074
   ·exact Or.inl hc
   ·exact Or.inr (q4H (q2J hB) (dn _ 52 hlast (by omega)))
  unfold flV
  have h3: -1074≤q0M A B:=by omega
  exact q8a h1 h2 h3 ho.1
 rcases hat with hp|⟨hp,hns⟩
 ·by_cases hc:q1k A B 53 (-1074)=q0M A B
  ·rw[hp,hc] at ho
   exact main v P ho
  ·-- one below the last place
   have e1:q0M A B=p+1:=by omega
   have e2:p+53≤expo A B:=by omega
   have hd:=dn p 53 (by omega) e2
   have hge:2^53≤q1w A B p:=q4H (q2J hB) hd
   obtain⟨(⟨c1,rfl,rfl⟩|⟨c1,c2,c6,rfl⟩),c5⟩:=ho
   ·have:=blen_le_iff.1 c1;omega
   ·have c3:q1w A B p<2^54:=blen_le_iff.1 (by omega)
    have c4:q1w A B p=2^53:=by omega
    have hh:q1w A B (p+1)=2^52:=by
     have:=q5E (q2J hB) hd c4
     rw[← this]
     unfold q1w
     refine q2T (q2J hB) (by have:=q2J (p:=p) hB;omega) ?_
     unfold upP loP
     by_cases hp0:0≤p
     ·rw[show (-(p+1)).toNat=0 from by omega,show (-p).toNat=0 from by omega,show (p+1).toNat=p.toNat+1 from by omega,Nat.pow_succ]
      ac_rfl
     ·rw[show (-p).toNat=(-(p+1)).toNat+1 from by omega,show (p+1).toNat=0 from by omega,show p.toNat=0 from by omega,Nat.pow_succ]
      ac_rfl
    have c7:v=2^52:=by omega
    have c8:2^52≤v:=by omega
    have c9:v<2^53:=by omega
    refine⟨c9,by omega,?_⟩
    unfold flV
    rw[e1,hh,q2x c9 (by omega) (Or.inr c8),c7]
 ·by_cases hc:q1k A B 53 (-1074)=q0M A B
  ·exact absurd (q3p (by rw[hc];exact up _ hlast (by omega))) hns
  ·rw[show p=q0M A B from by omega] at ho
   exact main v P ho
end Go.Proofs.YtljkfjjchkehaaaGreatDoor
namespace Go.Proofs.YtljkfjjchkehaaaGreatDoor
open Go.ChangeShapes Go.WideShapes Go.ChangeAt Go.RowKit
open BN
attribute [local go_sem] q0r q0J q0Q
/-- A float is handed back, and a word on whether it is just that. -/
def qbM (w:World) (r:Nat) (e:Ending) (w':World):Prop:=∃ x:Bool,e= .returned (.tuple #[.float .f64 r,.bool x])∧G w w'
theorem qcd {n:Bool} {a:Nat} {s:Int} (h:sg n a=s) (h2:n=true→a≠0):n=decide (s<0):=by
 subst h
 unfold sg
 cases n
 ·exact(decide_eq_false (by simp)).symm
 ·have:=h2 rfl
  exact(decide_eq_true (by simp;omega)).symm
theorem q4y (r:Nat) (hr:r<2^63):Op.negFloat .f64 r=FT.wrd true r:=by
 rw[q3w r (by omega)]
 have h1:FT.neg r=false:=by unfold FT.neg;simp;omega
 unfold negV
 rw[if_neg (by rw[h1];simp)]
 rfl
set_option maxRecDepth 10000 in
set_option maxHeartbeats 4000000 in
theorem q8g (w:World) (b K:Nat) (sa:Int) (sb:Nat) (hK:K≤10000) (hK1:100≤K) (h0:sa≠0) (hsb:0<sb) (ha2:sa.natAbs<2^(32*K)) (hb2:sb<2^(32*K)) (hst:q1k sa.natAbs sb 53 (-1074)≤5990)
  (hb:b<w.heap.size) (h:RatIs w b sa (sb:Int)):
  Calls Tryz.prog 45 #[.pointer (some ⟨b,0,none⟩)] w (qbM w (FT.wrd (decide (sa<0)) (flV sa.natAbs sb))):=by
 have HS:Hid _:=q2a w b sa sb h
 have ht:((sa.sign:Int)==0)=false:=by simp;exact h0
 have hR:=h
 obtain⟨⟨n,v,a,⟨c1,-,-,-⟩,-,h1,h2⟩,-⟩:=h
 have hn:=qcd h1 h2
 have HR:Hid (RatIs w b sa (sb:Int)):=hR
 have o9:Hid ((sb:Int)≠0):=by show (sb:Int)≠0;omega
 have HA2:Hid (sa.natAbs<2^(32*K)):=ha2
 have HB2:Hid (sb<2^(32*K)):=hb2
 have ng:Hid (sa.natAbs≠0):=by show sa.natAbs≠0;omega
 have HB0:Hid (sb≠0):=by show sb≠0;omega
 have HST:Hid (q1k sa.natAbs sb 53 (-1074)≤5990):=hst
 have OJ:Hid (flV sa.natAbs sb<2^63):=by show flV sa.natAbs sb<2^63;have:=Nat.min_le_right ((q0M sa.natAbs sb+1074).toNat*2^52+q1w sa.natAbs sb (q0M sa.natAbs sb)) (2047*2^52);unfold flV;omega
 rw[← hn]
 clear ha2 hb2 hst h1 h2 hR hsb h0
 generalize sa.sign=sg at *
 have HN:Hid _:=hn
 clear hn
 go_enter Tryz.func45,Tryz.ntmps45
 go_wp2_with fail
 refine Calls.mono (P:=Tryz.prog) HS.out ?_
 rintro e w2 ⟨rfl,hg2⟩
 clear HS
 as_aux_lemma=>
  go_wp2_with fail
  have hn0:=NI.new hg2 38
  have fM:=hg2.alloc (.cells #[.bool false,.slice none 0 0] 38)
  generalize w2.heap.size=pn at *
  generalize w2.alloc (.cells #[.bool false,.slice none 0 0] 38)=wa at *
  have HL:Hid _:=qbz wa pn 0 b 0 0 sa K (by omega) HA2.out hn0.2.1 hn0.2.2 (IntIs.G HR.out.1 hb fM)
  have fF:Hid (NI w wa pn 0):=hn0
  clear hn0 hg2
  refine Calls.mono (P:=Tryz.prog) HL.out ?_
  intro e w3 hs
  obtain⟨rfl,hG3,l5,-,-⟩:=SetTo.step fM fF.out hs
  have jP:Hid (NI w w3 pn (sa.natAbs:Int)):=l5
  clear hs l5 HL fF fM
  go_wp2_with fail
  refine Calls.mono (P:=Tryz.prog) (q1y w3 b sa sb o9.out (HR.out.G hb hG3)) ?_
  rintro e w4 ⟨rfl,hg4⟩
  have hG4:=G.trans hG3 hg4
  have uK:=jP.out.G hg4
  have OL:Hid _:=qbp w4 pn 0 b 2 sa.natAbs sb 53 K (-1074) hK hK1 ng.out HB0.out HA2.out HB2.out (by omega) (by omega) (by omega) (by omega) uK.2.1 (G.lt hG4 hb) uK.2.2 (HR.out.G hb hG4).2
  clear hg4 uK jP hG3
  go_wp2_with fail
  refine Calls.mono (P:=Tryz.prog) OL.out ?_
  intro e w5 hs
  obtain⟨q,m,P,p,x,rfl,hg5,OM,hout,hat⟩:=hs
  have iK:=G.trans hG4 hg5
  obtain⟨hm,hP1,hval⟩:=qap ng.out HB0.out hat hout
  have hP2:P≤6000:=by
   have:=HST.out
   obtain⟨(⟨-,-,h⟩|⟨-,-,-,h⟩),-⟩:=hout<;>rcases hat with h'|⟨h',-⟩<;>omega
  have HU:Hid _:=q7I w5 q 0 (m:Int) (by rw[Int.natAbs_natCast];omega) OM.2.2
  rw[Int.natAbs_natCast] at HU
  have hfl:=q5p m (by omega)
  have HX:Hid _:=fun w=>qaJ m P w hm hP1 hP2
  rw[hval] at HX
  have FD:=OJ.out
  generalize flV sa.natAbs sb=r at *
  have HI:Hid _:=fun w=>q2f r w (by omega)
  have uO:=q4y r FD
  have hw0:=q3S r
  have c5:w5.cell? ⟨b,0,none⟩=some (.bool n):=G.cell iK hb c1
  clear hg5 OM hout hat hm hP1 hP2 hval OL hG4 OJ FD HN HST HR HA2 HB2 ng HB0 o9 c1
  as_aux_lemma=>
   go_wp2_with fail
   refine Calls.mono (P:=Tryz.prog) HU.out ?_
   rintro e w6 ⟨rfl,Mk⟩
   have xg:=G.trans iK Mk
   have hb5:=G.lt iK hb
   have c6:w6.cell? ⟨b,0,none⟩=some (.bool n):=G.cell Mk hb5 c5
   clear c5 HU
   go_wp2_with fail
   refine Calls.mono (P:=Tryz.prog) (HX.out _) ?_
   rintro e w7 ⟨rfl,ou⟩
   have Ff:=G.trans xg ou
   have c7:w7.cell? ⟨b,0,none⟩=some (.bool n):=G.cell ou (G.lt xg hb) c6
   clear c6 Mk iK
   go_wp2_with fail
   refine Calls.mono (P:=Tryz.prog) (HI.out _) ?_
   rintro e w8 ⟨rfl,uh⟩
   have xO:=G.trans Ff uh
   have c8:w8.cell? ⟨b,0,none⟩=some (.bool n):=G.cell uh (G.lt Ff hb) c7
   clear c7 uh ou xg HX HI hfl
   generalize decide (FT.rung r=FT.infR)=inf at *
   have xD:Ending.returned (Value.tuple #[.float .f64 (Op.negFloat .f64 r),.bool x])= .returned (.tuple #[.float .f64 (FT.wrd true r),.bool x]):=by rw[uO]
   have Ml:Ending.returned (Value.tuple #[.float .f64 (Op.negFloat .f64 r),.bool false])= .returned (.tuple #[.float .f64 (FT.wrd true r),.bool false]):=by rw[uO]
   clear uO
   cases n
   ·rw[hw0]
    cases inf
    ·as_aux_lemma=>
      go_wp2_with fail
      go_ret2
      exact⟨_,rfl,xO⟩
    ·as_aux_lemma=>
      go_wp2_with fail
      go_ret2
      exact⟨_,rfl,xO⟩
   ·cases inf
    ·as_aux_lemma=>
      go_wp2_with fail
      go_ret2
      exact⟨_,xD,xO⟩
    ·as_aux_lemma=>
      go_wp2_with fail
      go_ret2
      exact⟨_,Ml,xO⟩
end Go.Proofs.YtljkfjjchkehaaaGreatDoor
namespace Go.Proofs.YtljkfjjchkehaaaGreatDoor
open Go.ChangeShapes Go.WideShapes Go.ChangeAt Go.RowKit
open BN
attribute [local go_sem] q0r q0J q0Q
set_option maxRecDepth 10000 in
set_option maxHeartbeats 4000000 in
theorem q6O (w:World) (bz b mag DD k:Nat) (s:Bool) (S NN s1 s2:Int) (K:Nat) (hK:K≤1000) (xw:mag<2^53) (hS:S=if s then -(mag:Int) else mag)
  (L1:bits BinOp.and IntKind.u64 ((b:Int)/4503599627370496) 2047=0) (L2:bits BinOp.and IntKind.u64 (b:Int) 4503599627370495=(mag:Int)) (L4:((b:Int)/9223372036854775808==1)=s)
  (hk:(k:Int)=1074) (zB:NN=S) (zC:(DD:Int)=2^k)
  (hB:NN.natAbs<2^(32*K)∧DD<2^(32*K)∧0<DD) (hbz:bz<w.heap.size) (hz:RatIs w bz s1 s2):
  Calls Tryz.prog 66 #[.pointer (some ⟨bz,0,none⟩),.float .f64 b] w (NormTo w bz (Int.tdiv NN (Nat.gcd NN.natAbs DD:Nat)) (DD/Nat.gcd NN.natAbs DD)):=by
 have HB:Hid (NN.natAbs<2^(32*K)∧DD<2^(32*K)∧0<DD):=hB
 have HZ:Hid (RatIs w bz s1 s2):=hz
 have wE:Hid (mag<2^64):=by show mag<2^64;omega
 have o9:Hid (S.natAbs<2^(32*2)):=by show S.natAbs<2^(32*2);rw[hS];split<;>omega
 have nY:Hid (bz<w.heap.size):=hbz
 clear hB hz xw hbz
 have nT:Hid (NN=S):=zB
 have um:Hid ((DD:Int)=2^k):=zC
 have HKK:Hid ((k:Int)=1074):=hk
 have hk2:k≤10000:=by omega
 clear zB zC hk
 cases s
 ·have kE:Hid (S=(mag:Int)):=hS
  clear hS
  go_enter Tryz.func66,Tryz.ntmps66
  go_wp2_with fail
  have hn0:=NI.new (G.refl w) 38
  have fM:=(G.refl w).alloc (.cells #[.bool false,.slice none 0 0] 38)
  generalize w.heap.size=pn at hn0 ⊢
  generalize w.alloc (.cells #[.bool false,.slice none 0 0] 38)=wa at *
  have HL:Hid _:=q3G wa pn 0 mag 0 wE.out hn0.2.1 hn0.2.2
  have fF:Hid (NI w wa pn 0):=hn0
  clear hn0
  refine Calls.mono (P:=Tryz.prog) HL.out ?_
  intro e w2 hs
  obtain⟨rfl,hG2,lU,-,-⟩:=SetTo.step fM fF.out hs
  have gY:Hid (NI w w2 pn (mag:Int)):=lU
  clear hs lU HL fF fM
  have jP:Hid (NI w w2 pn S):=by rw[kE.out];exact gY
  have hG3:=hG2
  clear gY hG2
  go_wp2_with fail
  refine Calls.mono (P:=Tryz.prog) (q2m _ 1 (by omega)) ?_
  intro e w4 h
  obtain⟨pd,rfl,hg4,jQ,jv,jw⟩:=h
  have hG4:=G.trans hG3 hg4
  have jG:Hid (NI w w4 pn S):=jP.out.G hg4
  have hsz:=hG3.size
  have HD4:Hid (NI w w4 pd 1):=⟨by omega,jv,jw⟩
  have hne:pn≠pd:=by have:=jP.out.2.1;omega
  clear hg4 jQ jv jw hsz jP hG3
  go_wp2_with fail
  rw[← HKK.out]
  have HL:Hid _:=q2u w4 pd 0 pd 0 k 1 1 2 (by omega) (by omega) (by decide) HD4.out.2.1 HD4.out.2.1 HD4.out.2.2 HD4.out.2.2
  refine Calls.mono (P:=Tryz.prog) HL.out ?_
  intro e w5 hs
  obtain⟨rfl,iK,kG,-,hkp⟩:=SetTo.step hG4 HD4.out hs
  have jJ:Hid (NI w w5 pn NN):=by rw[nT.out];exact hkp pn S hne jG.out
  rw[Int.one_mul,← um.out] at kG
  have HD5:Hid (NI w w5 pd (DD:Int)):=kG
  clear hs kG HL hkp jG HD4 hG4
  have HF:Hid _:=q17 w5 bz pn 0 pd 0 s1 s2 NN DD K (by omega) HB.out.1 HB.out.2.1 HB.out.2.2 (G.lt iK nY.out) jJ.out.2.1 HD5.out.2.1 (HZ.out.G nY.out iK) jJ.out.2.2 HD5.out.2.2
  clear jJ HD5 HB HZ nY
  go_wp2_with fail
  refine Calls.mono (P:=Tryz.prog) HF.out ?_
  intro e w6 hs
  obtain⟨rfl,k1,k2⟩:=NormTo.after iK hs
  have lZ:Hid _:=k2
  clear hs k2 HF
  go_wp2_with fail
  go_ret
  exact⟨rfl,k1,lZ.out⟩
 ·have kE:Hid (S= -(mag:Int)):=hS
  clear hS
  go_enter Tryz.func66,Tryz.ntmps66
  go_wp2_with fail
  have hn0:=NI.new (G.refl w) 38
  have fM:=(G.refl w).alloc (.cells #[.bool false,.slice none 0 0] 38)
  generalize w.heap.size=pn at hn0 ⊢
  generalize w.alloc (.cells #[.bool false,.slice none 0 0] 38)=wa at *
  have HL:Hid _:=q3G wa pn 0 mag 0 wE.out hn0.2.1 hn0.2.2
  have fF:Hid (NI w wa pn 0):=hn0
  clear hn0
  refine Calls.mono (P:=Tryz.prog) HL.out ?_
  intro e w2 hs
  obtain⟨rfl,hG2,lU,-,-⟩:=SetTo.step fM fF.out hs
  have gY:Hid (NI w w2 pn (mag:Int)):=lU
  clear hs lU HL fF fM
  have HL:Hid _:=q4R w2 pn 0 pn 0 (mag:Int) (mag:Int) 2 (by omega) (by rw[Int.natAbs_natCast];exact wE.out) gY.out.2.1 gY.out.2.1 gY.out.2.2 gY.out.2.2
  go_wp2_with fail
  refine Calls.mono (P:=Tryz.prog) HL.out ?_
  intro e w3 hs
  obtain⟨rfl,hG3,l5,-,-⟩:=SetTo.step hG2 gY.out hs
  rw[← kE.out] at l5
  have jP:Hid (NI w w3 pn S):=l5
  clear hs l5 HL gY hG2
  go_wp2_with fail
  refine Calls.mono (P:=Tryz.prog) (q2m _ 1 (by omega)) ?_
  intro e w4 h
  obtain⟨pd,rfl,hg4,jQ,jv,jw⟩:=h
  have hG4:=G.trans hG3 hg4
  have jG:Hid (NI w w4 pn S):=jP.out.G hg4
  have hsz:=hG3.size
  have HD4:Hid (NI w w4 pd 1):=⟨by omega,jv,jw⟩
  have hne:pn≠pd:=by have:=jP.out.2.1;omega
  clear hg4 jQ jv jw hsz jP hG3
  go_wp2_with fail
  rw[← HKK.out]
  have HL:Hid _:=q2u w4 pd 0 pd 0 k 1 1 2 (by omega) (by omega) (by decide) HD4.out.2.1 HD4.out.2.1 HD4.out.2.2 HD4.out.2.2
  refine Calls.mono (P:=Tryz.prog) HL.out ?_
  intro e w5 hs
  obtain⟨rfl,iK,kG,-,hkp⟩:=SetTo.step hG4 HD4.out hs
  have jJ:Hid (NI w w5 pn NN):=by rw[nT.out];exact hkp pn S hne jG.out
  rw[Int.one_mul,← um.out] at kG
  have HD5:Hid (NI w w5 pd (DD:Int)):=kG
  clear hs kG HL hkp jG HD4 hG4
  have HF:Hid _:=q17 w5 bz pn 0 pd 0 s1 s2 NN DD K (by omega) HB.out.1 HB.out.2.1 HB.out.2.2 (G.lt iK nY.out) jJ.out.2.1 HD5.out.2.1 (HZ.out.G nY.out iK) jJ.out.2.2 HD5.out.2.2
  clear jJ HD5 HB HZ nY
  go_wp2_with fail
  refine Calls.mono (P:=Tryz.prog) HF.out ?_
  intro e w6 hs
  obtain⟨rfl,k1,k2⟩:=NormTo.after iK hs
  have lZ:Hid _:=k2
  clear hs k2 HF
  go_wp2_with fail
  go_ret
  exact⟨rfl,k1,lZ.out⟩
set_option maxRecDepth 10000 in
set_option maxHeartbeats 4000000 in
theorem q8I (w:World) (bz b ex fr mag DD k:Nat) (s:Bool) (S NN s1 s2:Int) (K:Nat) (hK:K≤1000) (xw:mag<2^53) (hS:S=if s then -(mag:Int) else mag) (h1:ex<2047) (h2:1075≤ex)
  (L1:bits BinOp.and IntKind.u64 ((b:Int)/4503599627370496) 2047=(ex:Int)) (L2:bits BinOp.and IntKind.u64 (b:Int) 4503599627370495=(fr:Int)) (L3:bits BinOp.or IntKind.u64 (fr:Int) 4503599627370496=(mag:Int))
  (L4:((b:Int)/9223372036854775808==1)=s)
  (hk:(k:Int)=ex-1075) (zB:NN=S*2^k) (zC:(DD:Int)=1)
  (hB:NN.natAbs<2^(32*K)∧DD<2^(32*K)∧0<DD) (hbz:bz<w.heap.size) (hz:RatIs w bz s1 s2):
  Calls Tryz.prog 66 #[.pointer (some ⟨bz,0,none⟩),.float .f64 b] w (NormTo w bz (Int.tdiv NN (Nat.gcd NN.natAbs DD:Nat)) (DD/Nat.gcd NN.natAbs DD)):=by
 have HB:Hid (NN.natAbs<2^(32*K)∧DD<2^(32*K)∧0<DD):=hB
 have HZ:Hid (RatIs w bz s1 s2):=hz
 have wE:Hid (mag<2^64):=by show mag<2^64;omega
 have o9:Hid (S.natAbs<2^(32*2)):=by show S.natAbs<2^(32*2);rw[hS];split<;>omega
 have nY:Hid (bz<w.heap.size):=hbz
 clear hB hz xw hbz
 have nT:Hid (NN=S*2^k):=zB
 have um:Hid ((DD:Int)=1):=zC
 have t1:((ex:Int)==2047)=false:=by simp;omega
 have t2:((ex:Int)==0)=false:=by simp;omega
 have t3:decide ((1075:Int)≤ex)=true:=decide_eq_true (by omega)
 have HKK:Hid (IntKind.u64.wrap ((ex:Int)-1075)=(k:Int)):=by show IntKind.u64.wrap ((ex:Int)-1075)=(k:Int);rw[IntKind.wrap_u64];omega
 have TB:Hid (wrap64 ((ex:Int)-1075)=(k:Int)):=by show wrap64 ((ex:Int)-1075)=(k:Int);rw[IntWalk.wrap64_in _ (by omega)];omega
 have hkb:(ex:Int)-1075=(k:Int):=hk.symm
 have hk2:k≤10000:=by omega
 clear zB zC hk h1 h2
 cases s
 ·have kE:Hid (S=(mag:Int)):=hS
  clear hS
  go_enter Tryz.func66,Tryz.ntmps66
  go_wp2_with fail
  have hn0:=NI.new (G.refl w) 38
  have fM:=(G.refl w).alloc (.cells #[.bool false,.slice none 0 0] 38)
  generalize w.heap.size=pn at hn0 ⊢
  generalize w.alloc (.cells #[.bool false,.slice none 0 0] 38)=wa at *
  have HL:Hid _:=q3G wa pn 0 mag 0 wE.out hn0.2.1 hn0.2.2
  have fF:Hid (NI w wa pn 0):=hn0
  clear hn0
  refine Calls.mono (P:=Tryz.prog) HL.out ?_
  intro e w2 hs
  obtain⟨rfl,hG2,lU,-,-⟩:=SetTo.step fM fF.out hs
  have gY:Hid (NI w w2 pn (mag:Int)):=lU
  clear hs lU HL fF fM
  have jP:Hid (NI w w2 pn S):=by rw[kE.out];exact gY
  have hG3:=hG2
  clear gY hG2
  go_wp2_with fail
  refine Calls.mono (P:=Tryz.prog) (q2m _ 1 (by omega)) ?_
  intro e w4 h
  obtain⟨pd,rfl,hg4,jQ,jv,jw⟩:=h
  have hG4:=G.trans hG3 hg4
  have jG:Hid (NI w w4 pn S):=jP.out.G hg4
  have hsz:=hG3.size
  have HD4:Hid (NI w w4 pd 1):=⟨by omega,jv,jw⟩
  have hne:pn≠pd:=by have:=jP.out.2.1;omega
  clear hg4 jQ jv jw hsz jP hG3
  go_wp2_with fail
  have HL:Hid _:=q2u w4 pn 0 pn 0 k S S 2 (by omega) (by omega) o9.out jG.out.2.1 jG.out.2.1 jG.out.2.2 jG.out.2.2
  refine Calls.mono (P:=Tryz.prog) HL.out ?_
  intro e w5 hs
  obtain⟨rfl,iK,kG,-,hkp⟩:=SetTo.step hG4 jG.out hs
  have HD5:Hid (NI w w5 pd (DD:Int)):=by rw[um.out];exact hkp pd 1 hne.symm HD4.out
  rw[← nT.out] at kG
  have jJ:Hid (NI w w5 pn NN):=kG
  clear hs kG HL hkp jG HD4 hG4
  have HF:Hid _:=q17 w5 bz pn 0 pd 0 s1 s2 NN DD K (by omega) HB.out.1 HB.out.2.1 HB.out.2.2 (G.lt iK nY.out) jJ.out.2.1 HD5.out.2.1 (HZ.out.G nY.out iK) jJ.out.2.2 HD5.out.2.2
  clear jJ HD5 HB HZ nY
  go_wp2_with fail
  refine Calls.mono (P:=Tryz.prog) HF.out ?_
  intro e w6 hs
  obtain⟨rfl,k1,k2⟩:=NormTo.after iK hs
  have lZ:Hid _:=k2
  clear hs k2 HF
  go_wp2_with fail
  go_ret
  exact⟨rfl,k1,lZ.out⟩
 ·have kE:Hid (S= -(mag:Int)):=hS
  clear hS
  go_enter Tryz.func66,Tryz.ntmps66
  go_wp2_with fail
  have hn0:=NI.new (G.refl w) 38
  have fM:=(G.refl w).alloc (.cells #[.bool false,.slice none 0 0] 38)
  generalize w.heap.size=pn at hn0 ⊢
  generalize w.alloc (.cells #[.bool false,.slice none 0 0] 38)=wa at *
  have HL:Hid _:=q3G wa pn 0 mag 0 wE.out hn0.2.1 hn0.2.2
  have fF:Hid (NI w wa pn 0):=hn0
  clear hn0
  refine Calls.mono (P:=Tryz.prog) HL.out ?_
  intro e w2 hs
  obtain⟨rfl,hG2,lU,-,-⟩:=SetTo.step fM fF.out hs
  have gY:Hid (NI w w2 pn (mag:Int)):=lU
  clear hs lU HL fF fM
  have HL:Hid _:=q4R w2 pn 0 pn 0 (mag:Int) (mag:Int) 2 (by omega) (by rw[Int.natAbs_natCast];exact wE.out) gY.out.2.1 gY.out.2.1 gY.out.2.2 gY.out.2.2
  go_wp2_with fail
  refine Calls.mono (P:=Tryz.prog) HL.out ?_
  intro e w3 hs
  obtain⟨rfl,hG3,l5,-,-⟩:=SetTo.step hG2 gY.out hs
  rw[← kE.out] at l5
  have jP:Hid (NI w w3 pn S):=l5
  clear hs l5 HL gY hG2
  go_wp2_with fail
  refine Calls.mono (P:=Tryz.prog) (q2m _ 1 (by omega)) ?_
  intro e w4 h
  obtain⟨pd,rfl,hg4,jQ,jv,jw⟩:=h
  have hG4:=G.trans hG3 hg4
  have jG:Hid (NI w w4 pn S):=jP.out.G hg4
  have hsz:=hG3.size
  have HD4:Hid (NI w w4 pd 1):=⟨by omega,jv,jw⟩
  have hne:pn≠pd:=by have:=jP.out.2.1;omega
  clear hg4 jQ jv jw hsz jP hG3
  go_wp2_with fail
  have HL:Hid _:=q2u w4 pn 0 pn 0 k S S 2 (by omega) (by omega) o9.out jG.out.2.1 jG.out.2.1 jG.out.2.2 jG.out.2.2
  refine Calls.mono (P:=Tryz.prog) HL.out ?_
  intro e w5 hs
  obtain⟨rfl,iK,kG,-,hkp⟩:=SetTo.step hG4 jG.out hs
  have HD5:Hid (NI w w5 pd (DD:Int)):=by rw[um.out];exact hkp pd 1 hne.symm HD4.out
  rw[← nT.out] at kG
  have jJ:Hid (NI w w5 pn NN):=kG
  clear hs kG HL hkp jG HD4 hG4
  have HF:Hid _:=q17 w5 bz pn 0 pd 0 s1 s2 NN DD K (by omega) HB.out.1 HB.out.2.1 HB.out.2.2 (G.lt iK nY.out) jJ.out.2.1 HD5.out.2.1 (HZ.out.G nY.out iK) jJ.out.2.2 HD5.out.2.2
  clear jJ HD5 HB HZ nY
  go_wp2_with fail
  refine Calls.mono (P:=Tryz.prog) HF.out ?_
  intro e w6 hs
  obtain⟨rfl,k1,k2⟩:=NormTo.after iK hs
  have lZ:Hid _:=k2
  clear hs k2 HF
  go_wp2_with fail
  go_ret
  exact⟨rfl,k1,lZ.out⟩
set_option maxRecDepth 10000 in
set_option maxHeartbeats 4000000 in
theorem q96 (w:World) (bz b ex fr mag DD k:Nat) (s:Bool) (S NN s1 s2:Int) (K:Nat) (hK:K≤1000) (xw:mag<2^53) (hS:S=if s then -(mag:Int) else mag) (h1:1≤ex) (h2:ex<1075)
  (L1:bits BinOp.and IntKind.u64 ((b:Int)/4503599627370496) 2047=(ex:Int)) (L2:bits BinOp.and IntKind.u64 (b:Int) 4503599627370495=(fr:Int)) (L3:bits BinOp.or IntKind.u64 (fr:Int) 4503599627370496=(mag:Int))
  (L4:((b:Int)/9223372036854775808==1)=s)
  (hk:(k:Int)=1075-ex) (zB:NN=S) (zC:(DD:Int)=2^k)
  (hB:NN.natAbs<2^(32*K)∧DD<2^(32*K)∧0<DD) (hbz:bz<w.heap.size) (hz:RatIs w bz s1 s2):
  Calls Tryz.prog 66 #[.pointer (some ⟨bz,0,none⟩),.float .f64 b] w (NormTo w bz (Int.tdiv NN (Nat.gcd NN.natAbs DD:Nat)) (DD/Nat.gcd NN.natAbs DD)):=by
 have HB:Hid (NN.natAbs<2^(32*K)∧DD<2^(32*K)∧0<DD):=hB
 have HZ:Hid (RatIs w bz s1 s2):=hz
 have wE:Hid (mag<2^64):=by show mag<2^64;omega
 have o9:Hid (S.natAbs<2^(32*2)):=by show S.natAbs<2^(32*2);rw[hS];split<;>omega
 have nY:Hid (bz<w.heap.size):=hbz
 clear hB hz xw hbz
 have nT:Hid (NN=S):=zB
 have um:Hid ((DD:Int)=2^k):=zC
 have t1:((ex:Int)==2047)=false:=by simp;omega
 have t2:((ex:Int)==0)=false:=by simp;omega
 have t3:decide ((1075:Int)≤ex)=false:=decide_eq_false (by omega)
 have hkb:(1075:Int)-ex=(k:Int):=hk.symm
 have hk2:k≤10000:=by omega
 clear zB zC hk h1 h2
 cases s
 ·have kE:Hid (S=(mag:Int)):=hS
  clear hS
  go_enter Tryz.func66,Tryz.ntmps66
  go_wp2_with fail
  have hn0:=NI.new (G.refl w) 38
  have fM:=(G.refl w).alloc (.cells #[.bool false,.slice none 0 0] 38)
  generalize w.heap.size=pn at hn0 ⊢
  generalize w.alloc (.cells #[.bool false,.slice none 0 0] 38)=wa at *
  have HL:Hid _:=q3G wa pn 0 mag 0 wE.out hn0.2.1 hn0.2.2
  have fF:Hid (NI w wa pn 0):=hn0
  clear hn0
  refine Calls.mono (P:=Tryz.prog) HL.out ?_
  intro e w2 hs
  obtain⟨rfl,hG2,lU,-,-⟩:=SetTo.step fM fF.out hs
  have gY:Hid (NI w w2 pn (mag:Int)):=lU
  clear hs lU HL fF fM
  have jP:Hid (NI w w2 pn S):=by rw[kE.out];exact gY
  have hG3:=hG2
  clear gY hG2
  go_wp2_with fail
  refine Calls.mono (P:=Tryz.prog) (q2m _ 1 (by omega)) ?_
  intro e w4 h
  obtain⟨pd,rfl,hg4,jQ,jv,jw⟩:=h
  have hG4:=G.trans hG3 hg4
  have jG:Hid (NI w w4 pn S):=jP.out.G hg4
  have hsz:=hG3.size
  have HD4:Hid (NI w w4 pd 1):=⟨by omega,jv,jw⟩
  have hne:pn≠pd:=by have:=jP.out.2.1;omega
  clear hg4 jQ jv jw hsz jP hG3
  go_wp2_with fail
  have HL:Hid _:=q2u w4 pd 0 pd 0 k 1 1 2 (by omega) (by omega) (by decide) HD4.out.2.1 HD4.out.2.1 HD4.out.2.2 HD4.out.2.2
  refine Calls.mono (P:=Tryz.prog) HL.out ?_
  intro e w5 hs
  obtain⟨rfl,iK,kG,-,hkp⟩:=SetTo.step hG4 HD4.out hs
  have jJ:Hid (NI w w5 pn NN):=by rw[nT.out];exact hkp pn S hne jG.out
  rw[Int.one_mul,← um.out] at kG
  have HD5:Hid (NI w w5 pd (DD:Int)):=kG
  clear hs kG HL hkp jG HD4 hG4
  have HF:Hid _:=q17 w5 bz pn 0 pd 0 s1 s2 NN DD K (by omega) HB.out.1 HB.out.2.1 HB.out.2.2 (G.lt iK nY.out) jJ.out.2.1 HD5.out.2.1 (HZ.out.G nY.out iK) jJ.out.2.2 HD5.out.2.2
  clear jJ HD5 HB HZ nY
  go_wp2_with fail
  refine Calls.mono (P:=Tryz.prog) HF.out ?_
  intro e w6 hs
  obtain⟨rfl,k1,k2⟩:=NormTo.after iK hs
  have lZ:Hid _:=k2
  clear hs k2 HF
  go_wp2_with fail
  go_ret
  exact⟨rfl,k1,lZ.out⟩
 ·have kE:Hid (S= -(mag:Int)):=hS
  clear hS
  go_enter Tryz.func66,Tryz.ntmps66
  go_wp2_with fail
  have hn0:=NI.new (G.refl w) 38
  have fM:=(G.refl w).alloc (.cells #[.bool false,.slice none 0 0] 38)
  generalize w.heap.size=pn at hn0 ⊢
  generalize w.alloc (.cells #[.bool false,.slice none 0 0] 38)=wa at *
  have HL:Hid _:=q3G wa pn 0 mag 0 wE.out hn0.2.1 hn0.2.2
  have fF:Hid (NI w wa pn 0):=hn0
  clear hn0
  refine Calls.mono (P:=Tryz.prog) HL.out ?_
  intro e w2 hs
  obtain⟨rfl,hG2,lU,-,-⟩:=SetTo.step fM fF.out hs
  have gY:Hid (NI w w2 pn (mag:Int)):=lU
  clear hs lU HL fF fM
  have HL:Hid _:=q4R w2 pn 0 pn 0 (mag:Int) (mag:Int) 2 (by omega) (by rw[Int.natAbs_natCast];exact wE.out) gY.out.2.1 gY.out.2.1 gY.out.2.2 gY.out.2.2
  go_wp2_with fail
  refine Calls.mono (P:=Tryz.prog) HL.out ?_
  intro e w3 hs
  obtain⟨rfl,hG3,l5,-,-⟩:=SetTo.step hG2 gY.out hs
  rw[← kE.out] at l5
  have jP:Hid (NI w w3 pn S):=l5
  clear hs l5 HL gY hG2
  go_wp2_with fail
  refine Calls.mono (P:=Tryz.prog) (q2m _ 1 (by omega)) ?_
  intro e w4 h
  obtain⟨pd,rfl,hg4,jQ,jv,jw⟩:=h
  have hG4:=G.trans hG3 hg4
  have jG:Hid (NI w w4 pn S):=jP.out.G hg4
  have hsz:=hG3.size
  have HD4:Hid (NI w w4 pd 1):=⟨by omega,jv,jw⟩
  have hne:pn≠pd:=by have:=jP.out.2.1;omega
  clear hg4 jQ jv jw hsz jP hG3
  go_wp2_with fail
  have HL:Hid _:=q2u w4 pd 0 pd 0 k 1 1 2 (by omega) (by omega) (by decide) HD4.out.2.1 HD4.out.2.1 HD4.out.2.2 HD4.out.2.2
  refine Calls.mono (P:=Tryz.prog) HL.out ?_
  intro e w5 hs
  obtain⟨rfl,iK,kG,-,hkp⟩:=SetTo.step hG4 HD4.out hs
  have jJ:Hid (NI w w5 pn NN):=by rw[nT.out];exact hkp pn S hne jG.out
  rw[Int.one_mul,← um.out] at kG
  have HD5:Hid (NI w w5 pd (DD:Int)):=kG
  clear hs kG HL hkp jG HD4 hG4
  have HF:Hid _:=q17 w5 bz pn 0 pd 0 s1 s2 NN DD K (by omega) HB.out.1 HB.out.2.1 HB.out.2.2 (G.lt iK nY.out) jJ.out.2.1 HD5.out.2.1 (HZ.out.G nY.out iK) jJ.out.2.2 HD5.out.2.2
  clear jJ HD5 HB HZ nY
  go_wp2_with fail
  refine Calls.mono (P:=Tryz.prog) HF.out ?_
  intro e w6 hs
  obtain⟨rfl,k1,k2⟩:=NormTo.after iK hs
  have lZ:Hid _:=k2
  clear hs k2 HF
  go_wp2_with fail
  go_ret
  exact⟨rfl,k1,lZ.out⟩
/-- The upper and the lower part of a float, ahead of lowest terms. -/
def frS (s:Bool) (mag:Nat):Int:=if s then -(mag:Int) else mag
def frN (s:Bool) (mag ex:Nat):Int:=frS s mag*2^(max ex 1-1075)
def frD (ex:Nat):Nat:=2^(1075-max ex 1)
theorem q5A (ex:Nat):0<frD ex:=Nat.two_pow_pos _
theorem q7L (s:Bool) (mag ex:Nat):(frN s mag ex).natAbs=mag*2^(max ex 1-1075):=by
 unfold frN frS
 rw[FT.ipow,Int.natAbs_mul,Int.natAbs_natCast]
 congr 1
 split<;>omega
theorem qcu (s:Bool) (mag ex K:Nat) (hm:mag<2^53) (hex:ex<2047) (hK:K=40):(frN s mag ex).natAbs<2^(32*K)∧frD ex<2^(32*K)∧0<frD ex:=by
 refine⟨?_,?_,q5A ex⟩
 ·rw[q7L]
  calc mag*2^(max ex 1-1075)<2^53*2^(max ex 1-1075):=Nat.mul_lt_mul_of_pos_right hm (Nat.two_pow_pos _)
   _=2^(53+(max ex 1-1075)):=by rw[Nat.pow_add]
   _≤2^(32*K):=Nat.pow_le_pow_right (by omega) (by omega)
 ·unfold frD
  exact Nat.pow_lt_pow_right (by omega) (by omega)
theorem qb2 (w:World) (bz b ex fr mag:Nat) (s1 s2:Int) (h0:b<2^64) (he:b/2^52%2^11=ex) (hf:b%2^52=fr) (hex:ex<2047) (hm:(if ex=0 then fr else 2^52+fr)=mag)
  (hbz:bz<w.heap.size) (hz:RatIs w bz s1 s2):
  Calls Tryz.prog 66 #[.pointer (some ⟨bz,0,none⟩),.float .f64 b] w
   (NormTo w bz (Int.tdiv (frN (FT.neg b) mag ex) (Nat.gcd (frN (FT.neg b) mag ex).natAbs (frD ex):Nat)) (frD ex/Nat.gcd (frN (FT.neg b) mag ex).natAbs (frD ex))):=by
 obtain⟨K,hK⟩:∃ K:Nat,K=40:=⟨_,rfl⟩
 have hfr:fr<2^52:=by omega
 have xw:mag<2^53:=by rw[← hm];split<;>omega
 have hB:=qcu (FT.neg b) mag ex K xw hex hK
 have hrf:=FT.rung_fields b
 rw[he,hf] at hrf
 have hbw:b=FT.wrd (FT.neg b) (ex*2^52+fr):=by
  rw[← hrf]
  rcases FT.neg_cases b h0 with ⟨a1,a2⟩|⟨a1,a2⟩<;>rw[a1]<;>exact a2
 have L1:=FT.exp_field (FT.neg b) ex fr (by omega) hfr
 rw[← hbw] at L1
 have L2:=FT.and_mask b 52 h0 (by omega)
 rw[hf,show (2:Int)^52-1=4503599627370495 from rfl] at L2
 have L4:((b:Int)/9223372036854775808==1)=FT.neg b:=by
  rcases FT.neg_cases b h0 with ⟨a1,a2⟩|⟨a1,a2⟩
  ·have:=FT.rung_lt b
   rw[a1];simp;omega
  ·have:=FT.rung_lt b
   rw[a1];simp;omega
 have hS:frS (FT.neg b) mag=if FT.neg b then -(mag:Int) else mag:=rfl
 by_cases hz0:ex=0
 ·rw[if_pos hz0] at hm
  rw[hz0] at L1
  rw[hm] at L2
  refine q6O w bz b mag (frD ex) (1075-max ex 1) _ _ _ s1 s2 K (by omega) xw hS L1 L2 L4 (by omega) ?_ (FT.ipow _).symm hB hbz hz
  unfold frN
  rw[show max ex 1-1075=0 from by omega,Int.pow_zero,Int.mul_one]
 ·rw[if_neg hz0] at hm
  have L3:=qbc hfr (by omega:52≤63)
  rw[Nat.add_comm,hm,show (2:Int)^52=4503599627370496 from rfl] at L3
  by_cases hu:1075≤ex
  ·refine q8I w bz b ex fr mag (frD ex) (ex-1075) _ _ _ s1 s2 K (by omega) xw hS hex hu L1 L2 L3 L4 (by omega) ?_ ?_ hB hbz hz
   ·unfold frN;rw[show max ex 1=ex from by omega]
   ·unfold frD;rw[show 1075-max ex 1=0 from by omega];rfl
  ·refine q96 w bz b ex fr mag (frD ex) (1075-max ex 1) _ _ _ s1 s2 K (by omega) xw hS (by omega) (by omega) L1 L2 L3 L4 (by omega) ?_ (FT.ipow _).symm hB hbz hz
   unfold frN
   rw[show max ex 1-1075=0 from by omega,Int.pow_zero,Int.mul_one]
/-- The reference's ratio of a float. -/
theorem qbS (w:World) (b ex fr mag:Nat) (h0:b<2^64) (he:b/2^52%2^11=ex) (hf:b%2^52=fr) (hex:ex<2047) (hm:(if ex=0 then fr else 2^52+fr)=mag):
  Calls Tryz.prog 30 #[.float .f64 b] w
   (RetR w (Int.tdiv (frN (FT.neg b) mag ex) (Nat.gcd (frN (FT.neg b) mag ex).natAbs (frD ex):Nat)) (frD ex/Nat.gcd (frN (FT.neg b) mag ex).natAbs (frD ex))):=by
 have HS:Hid (∀ w1 p,p<w1.heap.size→RatIs w1 p 0 0→_):=fun w1 p hp hr=>qb2 w1 p b ex fr mag 0 0 h0 he hf hex hm hp hr
 generalize Int.tdiv (frN (FT.neg b) mag ex) (Nat.gcd (frN (FT.neg b) mag ex).natAbs (frD ex):Nat)=A at *
 generalize frD ex/Nat.gcd (frN (FT.neg b) mag ex).natAbs (frD ex)=B at *
 clear h0 he hf hex hm
 go_enter Tryz.func30,Tryz.ntmps30
 go_wp2_with fail
 have hr0:=q0s w 40
 have hga:=(G.refl w).alloc (.cells #[.bool false,.slice none 0 0,.bool false,.slice none 0 0] 40)
 have hzs:w.heap.size<(w.alloc (.cells #[.bool false,.slice none 0 0,.bool false,.slice none 0 0] 40)).heap.size:=by simp
 have hz0:w.heap.size≤w.heap.size:=Nat.le_refl _
 generalize w.alloc (.cells #[.bool false,.slice none 0 0,.bool false,.slice none 0 0] 40)=w3 at *
 refine Calls.mono (P:=Tryz.prog) (HS.out w3 _ hzs hr0) ?_
 intro e w4 hs
 obtain⟨p,rfl,k1,k2,k3,k4⟩:=NormTo.ret hga hz0 hzs hs
 have CV:Hid (RatIs w4 p A (B:Int)):=k4
 clear hs k4 HS
 go_wp2_with fail
 go_ret
 exact⟨p,rfl,k1,k2,k3,CV.out⟩
end Go.Proofs.YtljkfjjchkehaaaGreatDoor
