/- What is proved here: the float nearest to a ratio, its arithmetic (no program).
What is proved here: contracts of the reference's ratios: Float64, over this seat's translation.
What is proved here: contracts of the reference: Made, over this seat's translation.
What is proved here: contracts of the reference's ratios: SetFloat64, over this seat's translation.
What is proved here: contracts of the reference: NewRat over 1, powers of two of either sign, over this seat's translation. -/
import Derived.Test.YtbfjihniphldaaaGreatDoorC32
import Derived.Test.YtbfjihniphldaaaGreatDoorC34
import Derived.Test.YtbfjihniphldaaaGreatDoorC11
import Derived.Test.YtbfjihniphldaaaGreatDoorC14
import Derived.Test.YtbfjihniphldaaaGreatDoorC7
namespace Go.Proofs.YtbfjihniphldaaaGreatDoor
open Go.RowKit
open BN
theorem q3L (N D k:Nat) (hk:0<k):q0w (N*k) (D*k)=q0w N D:=by
 unfold q0w;rw[Nat.mul_div_mul_right _ _ hk,Nat.mul_mod_mul_right];have e1:2*(N%D*k)=(2*(N%D))*k:=by rw[Nat.mul_assoc]
 rw[e1]
 congr 1
 have h1:D*k<2*(N%D)*k↔D<2*(N%D):=Nat.mul_lt_mul_right hk;have h2:2*(N%D)*k=D*k↔2*(N%D)=D:=Nat.mul_left_inj (by omega);simp only[h1,h2]
theorem q33 {N D N' D':Nat} (hD:0<D) (hD':0<D') (h:N*D'=N'*D):q0w N D=q0w N' D':=by
 rw[← q3L N D D' hD',h,← q3L N' D' D hD,Nat.mul_comm D' D]
theorem q4H {N D T:Nat} (hD:0<D) (h:T*D≤N):T≤q0w N D:=by
 have:T≤N/D:=(Nat.le_div_iff_mul_le hD).2 h;unfold q0w;omega
theorem q6D (x:Nat):q0w x 1=x:=by
 unfold q0w;rw[Nat.div_one,Nat.mod_one,if_neg (by omega)];rfl
theorem q6N (mag d:Nat) (hd:1≤d):rnd mag d=q0w mag (2^d):=by
 unfold rnd q0w;have e:2^d=2*2^(d-1):=by
  obtain⟨k,rfl⟩:∃ k,d=k+1:=⟨d-1,by omega⟩;simp [Nat.pow_succ,Nat.mul_comm]
 congr 1
 generalize mag%2^d=r;generalize mag/2^d=q;rw[e];generalize 2^(d-1)=h;by_cases c1:h<r
 ·rw[if_pos (Or.inl c1),if_pos (Or.inl (by omega))]
 ·by_cases c2:r=h∧q%2=1
  ·rw[if_pos (Or.inr c2),if_pos (Or.inr ⟨by omega,c2.2⟩)]
  ·rw[if_neg (by rintro(h|h);exact c1 h;exact c2 h),if_neg (by rintro(h|h);omega;exact c2 ⟨by omega,h.2⟩)]
theorem q7S (mag:Nat) (n:Int) (hm:mag<2^64):shV mag n=q0w (mag*2^n.toNat) (2^(-n).toNat):=by
 unfold shV;by_cases hn:0≤n
 ·rw[if_pos hn,show (-n).toNat=0 from by omega,Nat.pow_zero,q6D]
 ·rw[if_neg hn,show n.toNat=0 from by omega,Nat.pow_zero,Nat.mul_one];by_cases h2:n< -64
  ·rw[if_pos h2];have h3:2^65≤2^(-n).toNat:=q0Q (by omega);generalize 2^(-n).toNat=D at *;unfold q0w;rw[Nat.div_eq_of_lt (by omega),Nat.mod_eq_of_lt (by omega),if_neg (by omega)]
  ·rw[if_neg h2];exact q6N _ _ (by omega)
/-- The power of two at or below A / B. -/
def expo (A B:Nat):Int:=if B*2^((blen A:Int)-blen B).toNat≤A*2^(-((blen A:Int)-blen B)).toNat then (blen A:Int)-blen B else (blen A:Int)-blen B-1
def q0D (A B:Nat):Int:=max (expo A B-52) (-1074)
/-- The float nearest to A / B (its place among the floats from 0 on). -/
def flV (A B:Nat):Nat:=min ((q0D A B+1074).toNat*2^52+q1C A B (q0D A B)) (2047*2^52)
/-- Powers below 0 away: K is great enough. -/
theorem q4d {X Y:Nat} {p:Int} (K:Nat) (h: -(K:Int)≤p):∃ c,X*2^K=X*2^(-p).toNat*2^c∧Y*2^((K:Int)+p).toNat=Y*2^p.toNat*2^c:=by
 refine⟨K-(-p).toNat,?_,?_⟩
 ·rw[Nat.mul_assoc,← Nat.pow_add,show (-p).toNat+(K-(-p).toNat)=K from by omega]
 ·rw[Nat.mul_assoc,← Nat.pow_add,show p.toNat+(K-(-p).toNat)=((K:Int)+p).toNat from by omega]
theorem q2c {X Y:Nat} {p:Int} (K:Nat) (h: -(K:Int)≤p):Y*2^p.toNat≤X*2^(-p).toNat↔Y*2^((K:Int)+p).toNat≤X*2^K:=by
 obtain⟨c,h1,h2⟩:=q4d (X:=X) (Y:=Y) K h;rw[h1,h2];exact(Nat.mul_le_mul_right_iff (Nat.two_pow_pos c)).symm
theorem q2d {X Y:Nat} {p:Int} (K:Nat) (h: -(K:Int)≤p):X*2^(-p).toNat<Y*2^p.toNat↔X*2^K<Y*2^((K:Int)+p).toNat:=by
 obtain⟨c,h1,h2⟩:=q4d (X:=X) (Y:=Y) K h;rw[h1,h2];exact(Nat.mul_lt_mul_right (Nat.two_pow_pos c)).symm
theorem q6c {X Y:Nat} {p:Int} (K:Nat) (h: -(K:Int)≤p):X*2^(-p).toNat=Y*2^p.toNat↔X*2^K=Y*2^((K:Int)+p).toNat:=by
 obtain⟨c,h1,h2⟩:=q4d (X:=X) (Y:=Y) K h;rw[h1,h2];exact(Nat.mul_left_inj (Nat.ne_of_gt (Nat.two_pow_pos c))).symm
theorem qap {A B:Nat}:expo A B=(blen A:Int)-blen B∨expo A B=(blen A:Int)-blen B-1:=by unfold expo;split;exact Or.inl rfl;exact Or.inr rfl
/-- 2 ^ expo is at or below, ... -/
theorem q23 {A B:Nat} (hA:A≠0) (hB:B≠0) (K:Nat) (hK: -(K:Int)≤expo A B):B*2^((K:Int)+expo A B).toNat≤A*2^K:=by
 rw[← q2c K hK];unfold expo;split
 ·assumption
 ·obtain⟨a1,a2,a3⟩:=q29 hA;obtain⟨b1,b2,b3⟩:=q29 hB;generalize hd:(blen A:Int)-blen B-1=d
  calc B*2^d.toNat≤2^blen B*2^d.toNat:=Nat.mul_le_mul_right _ (by omega)
   _=2^(blen B+d.toNat):=by rw[Nat.pow_add]
   _≤2^(blen A-1+(-d).toNat):=Nat.pow_le_pow_right (by omega) (by omega)
   _=2^(blen A-1)*2^(-d).toNat:=by rw[Nat.pow_add]
   _≤A*2^(-d).toNat:=Nat.mul_le_mul_right _ a2
/-- ... and 2 ^ (expo + 1) above. -/
theorem q3d {A B:Nat} (hA:A≠0) (hB:B≠0) (K:Nat) (hK: -(K:Int)≤expo A B):A*2^K<B*2^((K:Int)+(expo A B+1)).toNat:=by
 rw[← q2d K (by omega)];unfold expo;split
 ·obtain⟨a1,a2,a3⟩:=q29 hA;obtain⟨b1,b2,b3⟩:=q29 hB;generalize hd:(blen A:Int)-blen B+1=d
  calc A*2^(-d).toNat<2^blen A*2^(-d).toNat:=Nat.mul_lt_mul_of_pos_right a3 (Nat.two_pow_pos _)
   _=2^(blen A+(-d).toNat):=by rw[Nat.pow_add]
   _≤2^(blen B-1+d.toNat):=Nat.pow_le_pow_right (by omega) (by omega)
   _=2^(blen B-1)*2^d.toNat:=by rw[Nat.pow_add]
   _≤B*2^d.toNat:=Nat.mul_le_mul_right _ b2
 ·rename_i h
  rw[show (blen A:Int)-blen B-1+1=(blen A:Int)-blen B from by omega];exact Nat.lt_of_not_le h
theorem q0O {a b:Nat} (h:2^a<2^b):a<b:=(Nat.pow_lt_pow_iff_right (by omega:1<2)).1 h
theorem qaK {A B mag:Nat} {e:Int} (hA:A≠0) (hB:B≠0) (h0:mag≠0) (h:A*2^(-e).toNat=mag*B*2^e.toNat):expo A B=e+mag.log2:=by
 have l1:=Nat.log2_self_le h0;have l2:=Nat.lt_log2_self (n:=mag);obtain⟨K,hK⟩:∃ K:Nat,K=e.natAbs+(expo A B).natAbs+1:=⟨_,rfl⟩;have hE:=(q6c K (by omega)).1 h;have h1:=q23 hA hB K (by omega);have h2:=q3d hA hB K (by omega);rw[hE] at h1 h2;generalize expo A B=L at *;have hB':0<B:=by omega
 have g1:B*2^((K:Int)+L).toNat<B*2^(mag.log2+1+((K:Int)+e).toNat):=by
  refine Nat.lt_of_le_of_lt h1 ?_;rw[Nat.mul_comm mag B,Nat.mul_assoc,Nat.pow_add];exact Nat.mul_lt_mul_of_pos_left (Nat.mul_lt_mul_of_pos_right l2 (Nat.two_pow_pos _)) hB'
 have g2:B*2^(mag.log2+((K:Int)+e).toNat)<B*2^((K:Int)+(L+1)).toNat:=by
  refine Nat.lt_of_le_of_lt ?_ h2;rw[Nat.mul_comm mag B,Nat.mul_assoc,Nat.pow_add];exact Nat.mul_le_mul_left _ (Nat.mul_le_mul_right _ l1)
 have q1:=q0O (Nat.lt_of_mul_lt_mul_left g1);have q2:=q0O (Nat.lt_of_mul_lt_mul_left g2);omega
/-- A / B in units of 2^p is mag * 2^e in units of 2^p. -/
theorem q8P {A B mag:Nat} {e:Int} (p:Int) (hB:B≠0) (h:A*2^(-e).toNat=mag*B*2^e.toNat):q1C A B p=q0w (mag*2^(e-p).toNat) (2^(-(e-p)).toNat):=by
 unfold q1C upP loP;refine q33 (Nat.mul_pos (by omega) (Nat.two_pow_pos _)) (Nat.two_pow_pos _) ?_;obtain⟨K,hK⟩:∃ K:Nat,K=(-p).toNat+(-(e-p)).toNat+(-e).toNat:=⟨_,rfl⟩;have hE:=(q6c K (by omega)).1 h;have e1:A*2^(-p).toNat*2^(-(e-p)).toNat*2^(-e).toNat=A*2^K:=by
  rw[Nat.mul_assoc,Nat.mul_assoc,← Nat.pow_add,← Nat.pow_add];congr 2;omega
 have e2:mag*2^(e-p).toNat*(B*2^p.toNat)*2^(-e).toNat=mag*B*2^((K:Int)+e).toNat:=by
  rw[show mag*2^(e-p).toNat*(B*2^p.toNat)=mag*B*(2^(e-p).toNat*2^p.toNat) from by ac_rfl,← Nat.pow_add,Nat.mul_assoc,← Nat.pow_add]
  congr 2;omega
 exact Nat.eq_of_mul_eq_mul_right (Nat.two_pow_pos (-e).toNat) (by rw[e1,e2,hE])
/-- What 'nearest' of package bits gives is the float nearest to a ratio that is mag * 2^e. -/
theorem q7k {A B mag:Nat} {e:Int} (hA:A≠0) (hB:B≠0) (h0:mag≠0) (hm:mag<2^64) (h:A*2^(-e).toNat=mag*B*2^e.toNat):q17 11 52 mag e=flV A B:=by
 have hL:=qaK hA hB h0 h;have hle:=q47 mag e;unfold flV;have hQ:=q8P (q0D A B) hB h;rw[← q7S mag _ hm] at hQ;rw[hQ];unfold q0D;rw[hL];have hs:=q40 false mag e h0 hm;unfold Ieee.Format.nearest at hs;rw[if_neg h0,FT.leastPlace_eq,FT.infRung_eq,FT.binade_eq,FT.word_eq] at hs;have hl:(max (e+(mag.log2:Int)-(52:Nat)) (-1074))=max (e+(mag.log2:Int)-52) (-1074):=rfl;have hs2:FT.wrd false (min ((max (e+(mag.log2:Int)-(52:Nat)) (-1074)- -1074).toNat*2^52+Ieee.Toward.even.cut false (mag<<<(e-max (e+(mag.log2:Int)-(52:Nat)) (-1074)).toNat) (max (e+(mag.log2:Int)-(52:Nat)) (-1074)-e).toNat) (2047*2^52))=FT.wrd false (q17 11 52 mag e):=hs;rw[hl] at hs2;generalize max (e+(mag.log2:Int)-52) (-1074)=last at *;have hc:=q7I false mag (e-last) h0 hm;rw[show (-(e-last)).toNat=(last-e).toNat from by omega] at hc;rw[← hc,show (last- -1074).toNat=(last+1074).toNat from by omega] at hs2;have hw:∀ x:Nat,FT.wrd false x=x:=fun x=>rfl;rw[hw,hw] at hs2;exact hs2.symm
theorem q2F {v:Nat} {P:Int} (hv:v<2^53) (hP: -1074≤P) (h:P= -1074∨2^52≤v):q17 11 52 v P=min ((P+1074).toNat*2^52+v) (2047*2^52):=by
 unfold q17;by_cases h0:v=0
 ·subst h0;have:P= -1074:=by omega
  subst this;rfl
 rw[if_neg h0];have h2:(2:Int)^(11-1)=1024:=rfl;rw[h2];have hs0:shV v 0=v:=by unfold shV;simp
 have l1:=Nat.log2_self_le h0;have l2:=Nat.lt_log2_self (n:=v);by_cases hv2:2^52≤v
 ·have AQ:v.log2=52:=by
   have a:v.log2<53:=(Nat.log2_lt h0).2 hv;have b:¬ v.log2<52:=by rw[Nat.log2_lt h0];omega
   omega
  rw[AQ];by_cases hbig:(1024:Int)-1<P+(52:Nat)
  ·rw[if_pos hbig];have:2046*2^52≤(P+1074).toNat*2^52:=Nat.mul_le_mul_right _ (by omega);omega
  ·rw[if_neg hbig];have hp:max (P+((52:Nat):Int)) (2-1024)=P+52:=by omega
   rw[hp,show P-(P+52-(52:Nat))=0 from by omega,hs0,show (P+52-(2-1024)).toNat=(P+1074).toNat from by omega];have:(P+1074).toNat*2^52≤2045*2^52:=Nat.mul_le_mul_right _ (by omega);omega
 ·have hP2:P= -1074:=by omega
  subst hP2;have AQ:v.log2<52:=(Nat.log2_lt h0).2 (by omega);rw[if_neg (by omega)];have hp:max (-1074+(v.log2:Int)) (2-1024)= -1022:=by omega
  rw[hp];show 0*2^52+shV v 0=min (0*2^52+v) _;rw[hs0];omega
theorem q5H {N D:Nat} (hD:0<D) (hN:2^53*D≤N) (h:q0w N D=2^53):q0w N (2*D)=2^52:=by
 have hq:2^53≤N/D:=(Nat.le_div_iff_mul_le hD).2 hN;have hm:=Nat.div_add_mod N D;have hr:=Nat.mod_lt N hD;unfold q0w at h;have hq2:N/D=2^53:=by omega
 rw[hq2] at h hm;have hle:2*(N%D)≤D:=by
  by_cases c:D<2*(N%D)
  ·rw[if_pos (Or.inl c)] at h;omega
  ·omega
 generalize N%D=r at *;have ik:N=r+2*D*2^52:=by omega
 unfold q0w;rw[ik,Nat.add_mul_div_left _ _ (by omega),Nat.add_mul_mod_self_left,Nat.div_eq_of_lt (by omega),Nat.mod_eq_of_lt (by omega),if_neg (by omega)]
theorem q8I (a:Nat):min ((a+1)*2^52+2^52) (2047*2^52)=min (a*2^52+2^53) (2047*2^52):=by omega
theorem q7B {Q v:Nat} {last P:Int} (h1:Q≤2^53) (h2:last= -1074∨2^52≤Q) (h3: -1074≤last)
  (ho:(blen Q≤53∧v=Q∧P=last)∨(blen Q=53+1∧Q%2^53=0∧v=Q/2∧P=last+1)):
  v<2^53∧ -1074≤P∧q17 11 52 v P=min ((last+1074).toNat*2^52+Q) (2047*2^52):=by
 rcases ho with ⟨c1,rfl,rfl⟩|⟨c1,c2,c4,rfl⟩
 ·have c3:v<2^53:=blen_le_iff.1 c1;exact⟨c3,h3,q2F c3 h3 h2⟩
 ·have c3:¬ Q<2^53:=by rw[← blen_le_iff];omega
  have c5:Q=2^53:=by omega
  have c6:v=2^52:=by omega
  clear c1 c2 c3 c4 h1 h2;have c7:v<2^53:=by omega
  have c8:2^52≤v:=by omega
  refine⟨c7,by omega,?_⟩;rw[q2F c7 (by omega) (Or.inr c8),show (last+1+1074).toNat=(last+1074).toNat+1 from by omega,c5,c6];exact q8I _
/-- What 'near' of the reference gives, as a float. -/
theorem qaI {A B v:Nat} {p P:Int} {x:Bool} (hA:A≠0) (hB:B≠0) (hat:q2h A B 53 (q1o A B 53 (-1074)) p) (ho:q5F A B 53 p v P x):
  v<2^53∧ -1074≤P∧q17 11 52 v P=flV A B:=by
 have hE:=qap (A:=A) (B:=B);obtain⟨K,hK⟩:∃ K:Nat,K=(expo A B).natAbs+2000:=⟨_,rfl⟩;have hlo:=q23 hA hB K (by omega);have hhi:=q3d hA hB K (by omega);have hS:q1o A B 53 (-1074)=max ((blen A:Int)-blen B-53) (-1074):=by unfold q1o;split<;>omega
 have hl:q0D A B=max (expo A B-52) (-1074):=rfl
 -- sizes of q1C
 have up:∀ q:Int,-(K:Int)≤q→expo A B-52≤q→q1C A B q≤2^53:=by
  intro q hq hq2;unfold q1C;refine q51 ?_;unfold upP loP;rw[← Nat.mul_assoc,q2d K hq];refine Nat.lt_of_lt_of_le hhi ?_;rw[Nat.mul_comm (2^53) B,Nat.mul_assoc,← Nat.pow_add];exact Nat.mul_le_mul_left _ (Nat.pow_le_pow_right (by omega) (by omega))
 have dn:∀ (q:Int) (t:Nat),-(K:Int)≤q→q+t≤expo A B→2^t*loP B q≤upP A q:=by
  intro q t hq hq2;unfold upP loP;rw[← Nat.mul_assoc,q2c K hq];refine Nat.le_trans ?_ hlo;rw[Nat.mul_comm (2^t) B,Nat.mul_assoc,← Nat.pow_add];exact Nat.mul_le_mul_left _ (Nat.pow_le_pow_right (by omega) (by omega))
 have hlast: -(K:Int)≤q0D A B:=by omega
 have main:∀ (v:Nat) (P:Int),q5F A B 53 (q0D A B) v P x→v<2^53∧ -1074≤P∧q17 11 52 v P=flV A B:=by
  intro v P ho;have h1:=up (q0D A B) hlast (by omega);have h2:q0D A B= -1074∨2^52≤q1C A B (q0D A B):=by
   by_cases hc:q0D A B= -1074
   ·exact Or.inl hc
   ·exact Or.inr (q4H (q2V hB) (dn _ 52 hlast (by omega)))
  unfold flV;have h3: -1074≤q0D A B:=by omega
  exact q7B h1 h2 h3 ho.1
 rcases hat with hp|⟨hp,hns⟩
 ·by_cases hc:q1o A B 53 (-1074)=q0D A B
  ·rw[hp,hc] at ho;exact main v P ho
  ·-- one below the last place
   have e1:q0D A B=p+1:=by omega
   have e2:p+53≤expo A B:=by omega
   have hd:=dn p 53 (by omega) e2;have hge:2^53≤q1C A B p:=q4H (q2V hB) hd;obtain⟨(⟨c1,rfl,rfl⟩|⟨c1,c2,c6,rfl⟩),c5⟩:=ho
   ·have:=blen_le_iff.1 c1;omega
   ·have c3:q1C A B p<2^54:=blen_le_iff.1 (by omega);have c4:q1C A B p=2^53:=by omega
    have hh:q1C A B (p+1)=2^52:=by
     have:=q5H (q2V hB) hd c4;rw[← this];unfold q1C;refine q33 (q2V hB) (by have:=q2V (p:=p) hB;omega) ?_;unfold upP loP;by_cases hp0:0≤p
     ·rw[show (-(p+1)).toNat=0 from by omega,show (-p).toNat=0 from by omega,show (p+1).toNat=p.toNat+1 from by omega,Nat.pow_succ]
      ac_rfl
     ·rw[show (-p).toNat=(-(p+1)).toNat+1 from by omega,show (p+1).toNat=0 from by omega,show p.toNat=0 from by omega,Nat.pow_succ]
      ac_rfl
    have c7:v=2^52:=by omega
    have c8:2^52≤v:=by omega
    have c9:v<2^53:=by omega
    refine⟨c9,by omega,?_⟩;unfold flV;rw[e1,hh,q2F c9 (by omega) (Or.inr c8),c7]
 ·by_cases hc:q1o A B 53 (-1074)=q0D A B
  ·exact absurd (q3u (by rw[hc];exact up _ hlast (by omega))) hns
  ·rw[show p=q0D A B from by omega] at ho;exact main v P ho
end Go.Proofs.YtbfjihniphldaaaGreatDoor
namespace Go.Proofs.YtbfjihniphldaaaGreatDoor
open Go.ChangeShapes Go.WideShapes Go.ChangeAt Go.RowKit
open BN
attribute [local go_sem] q0i q0q q0P
/-- A float is handed back, and a word on whether it is just that. -/
def q7D (w:World) (r:Nat) (e:Ending) (w':World):Prop:=∃ x:Bool,e= .returned (.tuple #[.float .f64 r,.bool x])∧G w w'
theorem q5b (w:World) (b:Nat) (sb:Int) (h:RatIs w b 0 sb):
  Calls Tryz.prog 63 #[.pointer (some ⟨b,0,none⟩)] w (q7D w 0):=by
 have HS:Hid _:=q4i w b 0 sb h;have he:(0:Int).sign=0:=rfl;rw[he] at HS;clear h he;go_enter Tryz.func63,Tryz.ntmps63;go_wp2_with fail;refine q00 HS.out ?_;rintro e w2 ⟨rfl,hg2⟩;go_wp2_with fail
 go_ret2
 exact⟨_,rfl,hg2⟩
theorem qb6 {n:Bool} {a:Nat} {s:Int} (h:sg n a=s) (h2:n=true→a≠0):n=decide (s<0):=by
 subst h;unfold sg;cases n
 ·exact(decide_eq_false (by simp)).symm
 ·have:=h2 rfl;exact(decide_eq_true (by simp;omega)).symm
theorem q5f (r:Nat) (hr:r<2^63):Op.negFloat .f64 r=FT.wrd true r:=by
 rw[q2m r (by omega)];have h1:FT.neg r=false:=by unfold FT.neg;simp;omega
 unfold negV;rw[if_neg (by rw[h1];simp)];rfl
set_option maxRecDepth 10000 in
set_option maxHeartbeats 4000000 in
theorem q80 (w:World) (b K:Nat) (sa:Int) (sb:Nat) (hK:K≤10000) (hK1:100≤K) (h0:sa≠0) (hsb:0<sb) (ha2:sa.natAbs<2^(32*K)) (hb2:sb<2^(32*K)) (hst:q1o sa.natAbs sb 53 (-1074)≤29000)
  (hb:b<w.heap.size) (h:RatIs w b sa (sb:Int)):
  Calls Tryz.prog 63 #[.pointer (some ⟨b,0,none⟩)] w (q7D w (FT.wrd (decide (sa<0)) (flV sa.natAbs sb))):=by
 have HS:Hid _:=q4i w b sa sb h;have ht:((sa.sign:Int)==0)=false:=by simp;exact h0
 have hR:=h;obtain⟨⟨n,v,a,⟨c1,-,-,-⟩,-,h1,h2⟩,-⟩:=h;have hn:=qb6 h1 h2;have HR:Hid (RatIs w b sa (sb:Int)):=hR;have jT:Hid ((sb:Int)≠0):=by show (sb:Int)≠0;omega
 have HA2:Hid (sa.natAbs<2^(32*K)):=ha2;have HB2:Hid (sb<2^(32*K)):=hb2;have jU:Hid (sa.natAbs≠0):=by show sa.natAbs≠0;omega
 have HB0:Hid (sb≠0):=by show sb≠0;omega
 have HST:Hid (q1o sa.natAbs sb 53 (-1074)≤29000):=hst;have Ol:Hid (flV sa.natAbs sb<2^63):=by show flV sa.natAbs sb<2^63;have:=Nat.min_le_right ((q0D sa.natAbs sb+1074).toNat*2^52+q1C sa.natAbs sb (q0D sa.natAbs sb)) (2047*2^52);unfold flV;omega
 rw[← hn];clear ha2 hb2 hst h1 h2 hR hsb h0;generalize sa.sign=sg at *;have HN:Hid _:=hn;clear hn;go_enter Tryz.func63,Tryz.ntmps63;go_wp2_with fail;refine q00 HS.out ?_;rintro e w2 ⟨rfl,hg2⟩;clear HS
 as_aux_lemma=>
  go_wp2_with fail;have hn0:=NI.new hg2 38;have bK:=hg2.alloc (.cells #[.bool false,.slice none 0 0] 38);generalize w2.heap.size=pn at *;generalize w2.alloc (.cells #[.bool false,.slice none 0 0] 38)=wa at *;have HL:Hid _:=qcd wa pn 0 b 0 0 sa K (by omega) HA2.out hn0.2.1 hn0.2.2 (IntIs.G HR.out.1 hb bK);have cZ:Hid (NI w wa pn 0):=hn0;clear hn0 hg2;refine q00 HL.out ?_;intro e w3 hs;obtain⟨rfl,hG3,fV,-,-⟩:=SetTo.step bK cZ.out hs;have fJ:Hid (NI w w3 pn (sa.natAbs:Int)):=fV;clear hs fV HL cZ bK;go_wp2_with fail;refine q00 (q4q w3 b sa sb jT.out (HR.out.G hb hG3)) ?_;rintro e w4 ⟨rfl,hg4⟩;have hG4:=G.trans hG3 hg4;have nz:=fJ.out.G hg4;have wu:Hid _:=qbF w4 pn 0 b 2 sa.natAbs sb 53 K (-1074) hK hK1 jU.out HB0.out HA2.out HB2.out (by omega) (by omega) (by omega) (by omega) nz.2.1 (G.lt hG4 hb) nz.2.2 (HR.out.G hb hG4).2;clear hg4 nz fJ hG3;go_wp2_with fail;refine q00 wu.out ?_;intro e w5 hs;obtain⟨q,m,P,p,x,rfl,hg5,Om,hout,hat⟩:=hs;have bV:=G.trans hG4 hg5;obtain⟨hm,hP1,hval⟩:=qaI jU.out HB0.out hat hout;have hP2:P≤30000:=by
   have:=HST.out;obtain⟨(⟨-,-,h⟩|⟨-,-,-,h⟩),-⟩:=hout<;>rcases hat with h'|⟨h',-⟩<;>omega
  have HU:Hid _:=q85 w5 q 0 (m:Int) (by rw[Int.natAbs_natCast];omega) Om.2.2;rw[Int.natAbs_natCast] at HU;have hfl:=q5I m (by omega);have HX:Hid _:=fun w=>qas m P w hm hP1 hP2;rw[hval] at HX;have EX:=Ol.out;generalize flV sa.natAbs sb=r at *;have HI:Hid _:=fun w=>q2W r w (by omega);have sj:=q5f r EX;have hw0:=q3R r;have c5:w5.cell? ⟨b,0,none⟩=some (.bool n):=G.cell bV hb c1;clear hg5 Om hout hat hm hP1 hP2 hval wu hG4 Ol EX HN HST HR HA2 HB2 jU HB0 jT c1
  as_aux_lemma=>
   go_wp2_with fail;refine q00 HU.out ?_;rintro e w6 ⟨rfl,Lb⟩;have pJ:=G.trans bV Lb;have hb5:=G.lt bV hb;have c6:w6.cell? ⟨b,0,none⟩=some (.bool n):=G.cell Lb hb5 c5;clear c5 HU;go_wp2_with fail;refine q00 (HX.out _) ?_;rintro e w7 ⟨rfl,kY⟩;have ED:=G.trans pJ kY;have c7:w7.cell? ⟨b,0,none⟩=some (.bool n):=G.cell kY (G.lt pJ hb) c6;clear c6 Lb bV;go_wp2_with fail;refine q00 (HI.out _) ?_;rintro e w8 ⟨rfl,pO⟩;have vL:=G.trans ED pO;have c8:w8.cell? ⟨b,0,none⟩=some (.bool n):=G.cell pO (G.lt ED hb) c7;clear c7 pO kY pJ HX HI hfl;generalize decide (FT.rung r=FT.infR)=inf at *;have vE:Ending.returned (Value.tuple #[.float .f64 (Op.negFloat .f64 r),.bool x])= .returned (.tuple #[.float .f64 (FT.wrd true r),.bool x]):=by rw[sj]
   have Lc:Ending.returned (Value.tuple #[.float .f64 (Op.negFloat .f64 r),.bool false])= .returned (.tuple #[.float .f64 (FT.wrd true r),.bool false]):=by rw[sj]
   clear sj;cases n
   ·rw[hw0];cases inf
    ·as_aux_lemma=>
      go_wp2_with fail
      go_ret2
      exact⟨_,rfl,vL⟩
    ·as_aux_lemma=>
      go_wp2_with fail
      go_ret2
      exact⟨_,rfl,vL⟩
   ·cases inf
    ·as_aux_lemma=>
      go_wp2_with fail
      go_ret2
      exact⟨_,vE,vL⟩
    ·as_aux_lemma=>
      go_wp2_with fail
      go_ret2
      exact⟨_,Lc,vL⟩
end Go.Proofs.YtbfjihniphldaaaGreatDoor
namespace Go.Proofs.YtbfjihniphldaaaGreatDoor
open Go.ChangeShapes Go.WideShapes Go.ChangeAt Go.RowKit
open BN
/-- A new Rat that nothing has written yet. -/
def RatZ (w:World) (p:Nat):Prop:=q5E w p 0 false (.slice none 0 0)∧q5E w p 2 false (.slice none 0 0)
theorem RatZ.new (w:World) (t:TypeId):RatZ (w.alloc (.cells #[.bool false,.slice none 0 0,.bool false,.slice none 0 0] t)) w.heap.size:=by
 refine⟨⟨?_,?_,World.frozen?_alloc_at _ _ _ _ rfl,World.frozen?_alloc_at _ _ _ _ rfl⟩,⟨?_,?_,World.frozen?_alloc_at _ _ _ _ rfl,World.frozen?_alloc_at _ _ _ _ rfl⟩⟩
 all_goals rw[World.cell?_alloc_at _ _ _ _ rfl];rfl
theorem RatZ.G {w w':World} {p:Nat} (h:RatZ w p) (hp:p<w.heap.size) (g:G w w'):RatZ w' p:=by
 obtain⟨⟨a1,a2,a3,a4⟩,⟨b1,b2,b3,b4⟩⟩:=h;exact⟨⟨G.cell g hp a1,G.cell g hp a2,(Below.frozen g hp).trans a3,(Below.frozen g hp).trans a4⟩,⟨G.cell g hp b1,G.cell g hp b2,(Below.frozen g hp).trans b3,(Below.frozen g hp).trans b4⟩⟩
theorem RatZ.GX {w w':World} {p b:Nat} (h:RatZ w p) (hp:p<w.heap.size) (hne:p≠b) (g:GX b w w'):RatZ w' p:=by
 have hb:=g.block p hp (fun e=>hne (Option.some.inj e));obtain⟨⟨a1,a2,a3,a4⟩,⟨b1,b2,b3,b4⟩⟩:=h;exact⟨⟨(World.cell?_of_block hb).trans a1,(World.cell?_of_block hb).trans a2,(World.frozen?_of_block hb).trans a3,(World.frozen?_of_block hb).trans a4⟩,⟨(World.cell?_of_block hb).trans b1,(World.cell?_of_block hb).trans b2,(World.frozen?_of_block hb).trans b3,(World.frozen?_of_block hb).trans b4⟩⟩
attribute [local go_sem] q0i q0q q0P
set_option maxRecDepth 10000 in
set_option maxHeartbeats 4000000 in
theorem q6B (w:World) (bz b mag DD k:Nat) (s:Bool) (S NN s1 s2:Int) (K:Nat) (hK:K≤1000) (uF:mag<2^53) (hS:S=if s then -(mag:Int) else mag)
  (L1:bits BinOp.and IntKind.u64 ((b:Int)/4503599627370496) 2047=0) (L2:bits BinOp.and IntKind.u64 (b:Int) 4503599627370495=(mag:Int)) (L4:((b:Int)/9223372036854775808==1)=s)
  (hk:(k:Int)=1074) (wY:NN=S) (wZ:(DD:Int)=2^k)
  (hB:NN.natAbs<2^(32*K)∧DD<2^(32*K)∧0<DD) (hbz:bz<w.heap.size) (hz:RatIs w bz s1 s2):
  Calls Tryz.prog 52 #[.pointer (some ⟨bz,0,none⟩),.float .f64 b] w (NormTo w bz (Int.tdiv NN (Nat.gcd NN.natAbs DD:Nat)) (DD/Nat.gcd NN.natAbs DD)):=by
 have HB:Hid (NN.natAbs<2^(32*K)∧DD<2^(32*K)∧0<DD):=hB;have HZ:Hid (RatIs w bz s1 s2):=hz;have tL:Hid (mag<2^64):=by show mag<2^64;omega
 have jT:Hid (S.natAbs<2^(32*2)):=by show S.natAbs<2^(32*2);rw[hS];split<;>omega
 have kT:Hid (bz<w.heap.size):=hbz;clear hB hz uF hbz;have kP:Hid (NN=S):=wY;have qg:Hid ((DD:Int)=2^k):=wZ;have HKK:Hid ((k:Int)=1074):=hk;have hk2:k≤10000:=by omega
 clear wY wZ hk;cases s
 ·have gN:Hid (S=(mag:Int)):=hS;clear hS;go_enter Tryz.func52,Tryz.ntmps52;go_wp2_with fail;have hn0:=NI.new (G.refl w) 38;have bK:=(G.refl w).alloc (.cells #[.bool false,.slice none 0 0] 38);generalize w.heap.size=pn at hn0 ⊢;generalize w.alloc (.cells #[.bool false,.slice none 0 0] 38)=wa at *;have HL:Hid _:=q3N wa pn 0 mag 0 tL.out hn0.2.1 hn0.2.2;have cZ:Hid (NI w wa pn 0):=hn0;clear hn0;refine q00 HL.out ?_;intro e w2 hs;obtain⟨rfl,hG2,ik,-,-⟩:=SetTo.step bK cZ.out hs;have bW:Hid (NI w w2 pn (mag:Int)):=ik;clear hs ik HL cZ bK;have fJ:Hid (NI w w2 pn S):=by rw[gN.out];exact bW
  have hG3:=hG2;clear bW hG2;go_wp2_with fail;refine q00 (q1q _ 1 (by omega)) ?_;intro e w4 h;obtain⟨pd,rfl,hg4,mo,gD,eD⟩:=h;have hG4:=G.trans hG3 hg4;have eB:Hid (NI w w4 pn S):=fJ.out.G hg4;have hsz:=hG3.size;have HD4:Hid (NI w w4 pd 1):=⟨by omega,gD,eD⟩;have hne:pn≠pd:=by have:=fJ.out.2.1;omega
  clear hg4 mo gD eD hsz fJ hG3;go_wp2_with fail;rw[← HKK.out];have HL:Hid _:=q1L w4 pd 0 pd 0 k 1 1 2 (by omega) (by omega) (by decide) HD4.out.2.1 HD4.out.2.1 HD4.out.2.2 HD4.out.2.2;refine q00 HL.out ?_;intro e w5 hs;obtain⟨rfl,bV,gL,-,hkp⟩:=SetTo.step hG4 HD4.out hs;have fZ:Hid (NI w w5 pn NN):=by rw[kP.out];exact hkp pn S hne eB.out
  rw[Int.one_mul,← qg.out] at gL;have HD5:Hid (NI w w5 pd (DD:Int)):=gL;clear hs gL HL hkp eB HD4 hG4;have HF:Hid _:=q0Z w5 bz pn 0 pd 0 s1 s2 NN DD K (by omega) HB.out.1 HB.out.2.1 HB.out.2.2 (G.lt bV kT.out) fZ.out.2.1 HD5.out.2.1 (HZ.out.G kT.out bV) fZ.out.2.2 HD5.out.2.2;clear fZ HD5 HB HZ kT;go_wp2_with fail;refine q00 HF.out ?_;intro e w6 hs;obtain⟨rfl,k1,k2⟩:=NormTo.after bV hs;have iP:Hid _:=k2;clear hs k2 HF;go_wp2_with fail;go_ret;exact⟨rfl,k1,iP.out⟩
 ·have gN:Hid (S= -(mag:Int)):=hS;clear hS;go_enter Tryz.func52,Tryz.ntmps52;go_wp2_with fail;have hn0:=NI.new (G.refl w) 38;have bK:=(G.refl w).alloc (.cells #[.bool false,.slice none 0 0] 38);generalize w.heap.size=pn at hn0 ⊢;generalize w.alloc (.cells #[.bool false,.slice none 0 0] 38)=wa at *;have HL:Hid _:=q3N wa pn 0 mag 0 tL.out hn0.2.1 hn0.2.2;have cZ:Hid (NI w wa pn 0):=hn0;clear hn0;refine q00 HL.out ?_;intro e w2 hs;obtain⟨rfl,hG2,ik,-,-⟩:=SetTo.step bK cZ.out hs;have bW:Hid (NI w w2 pn (mag:Int)):=ik;clear hs ik HL cZ bK;have HL:Hid _:=q4M w2 pn 0 pn 0 (mag:Int) (mag:Int) 2 (by omega) (by rw[Int.natAbs_natCast];exact tL.out) bW.out.2.1 bW.out.2.1 bW.out.2.2 bW.out.2.2;go_wp2_with fail;refine q00 HL.out ?_;intro e w3 hs;obtain⟨rfl,hG3,fV,-,-⟩:=SetTo.step hG2 bW.out hs;rw[← gN.out] at fV;have fJ:Hid (NI w w3 pn S):=fV;clear hs fV HL bW hG2;go_wp2_with fail;refine q00 (q1q _ 1 (by omega)) ?_;intro e w4 h;obtain⟨pd,rfl,hg4,mo,gD,eD⟩:=h;have hG4:=G.trans hG3 hg4;have eB:Hid (NI w w4 pn S):=fJ.out.G hg4;have hsz:=hG3.size;have HD4:Hid (NI w w4 pd 1):=⟨by omega,gD,eD⟩;have hne:pn≠pd:=by have:=fJ.out.2.1;omega
  clear hg4 mo gD eD hsz fJ hG3;go_wp2_with fail;rw[← HKK.out];have HL:Hid _:=q1L w4 pd 0 pd 0 k 1 1 2 (by omega) (by omega) (by decide) HD4.out.2.1 HD4.out.2.1 HD4.out.2.2 HD4.out.2.2;refine q00 HL.out ?_;intro e w5 hs;obtain⟨rfl,bV,gL,-,hkp⟩:=SetTo.step hG4 HD4.out hs;have fZ:Hid (NI w w5 pn NN):=by rw[kP.out];exact hkp pn S hne eB.out
  rw[Int.one_mul,← qg.out] at gL;have HD5:Hid (NI w w5 pd (DD:Int)):=gL;clear hs gL HL hkp eB HD4 hG4;have HF:Hid _:=q0Z w5 bz pn 0 pd 0 s1 s2 NN DD K (by omega) HB.out.1 HB.out.2.1 HB.out.2.2 (G.lt bV kT.out) fZ.out.2.1 HD5.out.2.1 (HZ.out.G kT.out bV) fZ.out.2.2 HD5.out.2.2;clear fZ HD5 HB HZ kT;go_wp2_with fail;refine q00 HF.out ?_;intro e w6 hs;obtain⟨rfl,k1,k2⟩:=NormTo.after bV hs;have iP:Hid _:=k2;clear hs k2 HF;go_wp2_with fail;go_ret;exact⟨rfl,k1,iP.out⟩
set_option maxRecDepth 10000 in
set_option maxHeartbeats 4000000 in
theorem q8W (w:World) (bz b ex fr mag DD k:Nat) (s:Bool) (S NN s1 s2:Int) (K:Nat) (hK:K≤1000) (uF:mag<2^53) (hS:S=if s then -(mag:Int) else mag) (h1:ex<2047) (h2:1075≤ex)
  (L1:bits BinOp.and IntKind.u64 ((b:Int)/4503599627370496) 2047=(ex:Int)) (L2:bits BinOp.and IntKind.u64 (b:Int) 4503599627370495=(fr:Int)) (L3:bits BinOp.or IntKind.u64 (fr:Int) 4503599627370496=(mag:Int))
  (L4:((b:Int)/9223372036854775808==1)=s)
  (hk:(k:Int)=ex-1075) (wY:NN=S*2^k) (wZ:(DD:Int)=1)
  (hB:NN.natAbs<2^(32*K)∧DD<2^(32*K)∧0<DD) (hbz:bz<w.heap.size) (hz:RatIs w bz s1 s2):
  Calls Tryz.prog 52 #[.pointer (some ⟨bz,0,none⟩),.float .f64 b] w (NormTo w bz (Int.tdiv NN (Nat.gcd NN.natAbs DD:Nat)) (DD/Nat.gcd NN.natAbs DD)):=by
 have HB:Hid (NN.natAbs<2^(32*K)∧DD<2^(32*K)∧0<DD):=hB;have HZ:Hid (RatIs w bz s1 s2):=hz;have tL:Hid (mag<2^64):=by show mag<2^64;omega
 have jT:Hid (S.natAbs<2^(32*2)):=by show S.natAbs<2^(32*2);rw[hS];split<;>omega
 have kT:Hid (bz<w.heap.size):=hbz;clear hB hz uF hbz;have kP:Hid (NN=S*2^k):=wY;have qg:Hid ((DD:Int)=1):=wZ;have t1:((ex:Int)==2047)=false:=by simp;omega
 have t2:((ex:Int)==0)=false:=by simp;omega
 have t3:decide ((1075:Int)≤ex)=true:=decide_eq_true (by omega);have HKK:Hid (IntKind.u64.wrap ((ex:Int)-1075)=(k:Int)):=by show IntKind.u64.wrap ((ex:Int)-1075)=(k:Int);rw[IntKind.wrap_u64];omega
 have Uv:Hid (wrap64 ((ex:Int)-1075)=(k:Int)):=by show wrap64 ((ex:Int)-1075)=(k:Int);rw[IntWalk.wrap64_in _ (by omega)];omega
 have hkb:(ex:Int)-1075=(k:Int):=hk.symm;have hk2:k≤10000:=by omega
 clear wY wZ hk h1 h2;cases s
 ·have gN:Hid (S=(mag:Int)):=hS;clear hS;go_enter Tryz.func52,Tryz.ntmps52;go_wp2_with fail;have hn0:=NI.new (G.refl w) 38;have bK:=(G.refl w).alloc (.cells #[.bool false,.slice none 0 0] 38);generalize w.heap.size=pn at hn0 ⊢;generalize w.alloc (.cells #[.bool false,.slice none 0 0] 38)=wa at *;have HL:Hid _:=q3N wa pn 0 mag 0 tL.out hn0.2.1 hn0.2.2;have cZ:Hid (NI w wa pn 0):=hn0;clear hn0;refine q00 HL.out ?_;intro e w2 hs;obtain⟨rfl,hG2,ik,-,-⟩:=SetTo.step bK cZ.out hs;have bW:Hid (NI w w2 pn (mag:Int)):=ik;clear hs ik HL cZ bK;have fJ:Hid (NI w w2 pn S):=by rw[gN.out];exact bW
  have hG3:=hG2;clear bW hG2;go_wp2_with fail;refine q00 (q1q _ 1 (by omega)) ?_;intro e w4 h;obtain⟨pd,rfl,hg4,mo,gD,eD⟩:=h;have hG4:=G.trans hG3 hg4;have eB:Hid (NI w w4 pn S):=fJ.out.G hg4;have hsz:=hG3.size;have HD4:Hid (NI w w4 pd 1):=⟨by omega,gD,eD⟩;have hne:pn≠pd:=by have:=fJ.out.2.1;omega
  clear hg4 mo gD eD hsz fJ hG3;go_wp2_with fail;have HL:Hid _:=q1L w4 pn 0 pn 0 k S S 2 (by omega) (by omega) jT.out eB.out.2.1 eB.out.2.1 eB.out.2.2 eB.out.2.2;refine q00 HL.out ?_;intro e w5 hs;obtain⟨rfl,bV,gL,-,hkp⟩:=SetTo.step hG4 eB.out hs;have HD5:Hid (NI w w5 pd (DD:Int)):=by rw[qg.out];exact hkp pd 1 hne.symm HD4.out
  rw[← kP.out] at gL;have fZ:Hid (NI w w5 pn NN):=gL;clear hs gL HL hkp eB HD4 hG4;have HF:Hid _:=q0Z w5 bz pn 0 pd 0 s1 s2 NN DD K (by omega) HB.out.1 HB.out.2.1 HB.out.2.2 (G.lt bV kT.out) fZ.out.2.1 HD5.out.2.1 (HZ.out.G kT.out bV) fZ.out.2.2 HD5.out.2.2;clear fZ HD5 HB HZ kT;go_wp2_with fail;refine q00 HF.out ?_;intro e w6 hs;obtain⟨rfl,k1,k2⟩:=NormTo.after bV hs;have iP:Hid _:=k2;clear hs k2 HF;go_wp2_with fail;go_ret;exact⟨rfl,k1,iP.out⟩
 ·have gN:Hid (S= -(mag:Int)):=hS;clear hS;go_enter Tryz.func52,Tryz.ntmps52;go_wp2_with fail;have hn0:=NI.new (G.refl w) 38;have bK:=(G.refl w).alloc (.cells #[.bool false,.slice none 0 0] 38);generalize w.heap.size=pn at hn0 ⊢;generalize w.alloc (.cells #[.bool false,.slice none 0 0] 38)=wa at *;have HL:Hid _:=q3N wa pn 0 mag 0 tL.out hn0.2.1 hn0.2.2;have cZ:Hid (NI w wa pn 0):=hn0;clear hn0;refine q00 HL.out ?_;intro e w2 hs;obtain⟨rfl,hG2,ik,-,-⟩:=SetTo.step bK cZ.out hs;have bW:Hid (NI w w2 pn (mag:Int)):=ik;clear hs ik HL cZ bK;have HL:Hid _:=q4M w2 pn 0 pn 0 (mag:Int) (mag:Int) 2 (by omega) (by rw[Int.natAbs_natCast];exact tL.out) bW.out.2.1 bW.out.2.1 bW.out.2.2 bW.out.2.2;go_wp2_with fail;refine q00 HL.out ?_;intro e w3 hs;obtain⟨rfl,hG3,fV,-,-⟩:=SetTo.step hG2 bW.out hs;rw[← gN.out] at fV;have fJ:Hid (NI w w3 pn S):=fV;clear hs fV HL bW hG2;go_wp2_with fail;refine q00 (q1q _ 1 (by omega)) ?_;intro e w4 h;obtain⟨pd,rfl,hg4,mo,gD,eD⟩:=h;have hG4:=G.trans hG3 hg4;have eB:Hid (NI w w4 pn S):=fJ.out.G hg4;have hsz:=hG3.size;have HD4:Hid (NI w w4 pd 1):=⟨by omega,gD,eD⟩;have hne:pn≠pd:=by have:=fJ.out.2.1;omega
  clear hg4 mo gD eD hsz fJ hG3;go_wp2_with fail;have HL:Hid _:=q1L w4 pn 0 pn 0 k S S 2 (by omega) (by omega) jT.out eB.out.2.1 eB.out.2.1 eB.out.2.2 eB.out.2.2;refine q00 HL.out ?_;intro e w5 hs;obtain⟨rfl,bV,gL,-,hkp⟩:=SetTo.step hG4 eB.out hs;have HD5:Hid (NI w w5 pd (DD:Int)):=by rw[qg.out];exact hkp pd 1 hne.symm HD4.out
  rw[← kP.out] at gL;have fZ:Hid (NI w w5 pn NN):=gL;clear hs gL HL hkp eB HD4 hG4;have HF:Hid _:=q0Z w5 bz pn 0 pd 0 s1 s2 NN DD K (by omega) HB.out.1 HB.out.2.1 HB.out.2.2 (G.lt bV kT.out) fZ.out.2.1 HD5.out.2.1 (HZ.out.G kT.out bV) fZ.out.2.2 HD5.out.2.2;clear fZ HD5 HB HZ kT;go_wp2_with fail;refine q00 HF.out ?_;intro e w6 hs;obtain⟨rfl,k1,k2⟩:=NormTo.after bV hs;have iP:Hid _:=k2;clear hs k2 HF;go_wp2_with fail;go_ret;exact⟨rfl,k1,iP.out⟩
set_option maxRecDepth 10000 in
set_option maxHeartbeats 4000000 in
theorem q9e (w:World) (bz b ex fr mag DD k:Nat) (s:Bool) (S NN s1 s2:Int) (K:Nat) (hK:K≤1000) (uF:mag<2^53) (hS:S=if s then -(mag:Int) else mag) (h1:1≤ex) (h2:ex<1075)
  (L1:bits BinOp.and IntKind.u64 ((b:Int)/4503599627370496) 2047=(ex:Int)) (L2:bits BinOp.and IntKind.u64 (b:Int) 4503599627370495=(fr:Int)) (L3:bits BinOp.or IntKind.u64 (fr:Int) 4503599627370496=(mag:Int))
  (L4:((b:Int)/9223372036854775808==1)=s)
  (hk:(k:Int)=1075-ex) (wY:NN=S) (wZ:(DD:Int)=2^k)
  (hB:NN.natAbs<2^(32*K)∧DD<2^(32*K)∧0<DD) (hbz:bz<w.heap.size) (hz:RatIs w bz s1 s2):
  Calls Tryz.prog 52 #[.pointer (some ⟨bz,0,none⟩),.float .f64 b] w (NormTo w bz (Int.tdiv NN (Nat.gcd NN.natAbs DD:Nat)) (DD/Nat.gcd NN.natAbs DD)):=by
 have HB:Hid (NN.natAbs<2^(32*K)∧DD<2^(32*K)∧0<DD):=hB;have HZ:Hid (RatIs w bz s1 s2):=hz;have tL:Hid (mag<2^64):=by show mag<2^64;omega
 have jT:Hid (S.natAbs<2^(32*2)):=by show S.natAbs<2^(32*2);rw[hS];split<;>omega
 have kT:Hid (bz<w.heap.size):=hbz;clear hB hz uF hbz;have kP:Hid (NN=S):=wY;have qg:Hid ((DD:Int)=2^k):=wZ;have t1:((ex:Int)==2047)=false:=by simp;omega
 have t2:((ex:Int)==0)=false:=by simp;omega
 have t3:decide ((1075:Int)≤ex)=false:=decide_eq_false (by omega);have hkb:(1075:Int)-ex=(k:Int):=hk.symm;have hk2:k≤10000:=by omega
 clear wY wZ hk h1 h2;cases s
 ·have gN:Hid (S=(mag:Int)):=hS;clear hS;go_enter Tryz.func52,Tryz.ntmps52;go_wp2_with fail;have hn0:=NI.new (G.refl w) 38;have bK:=(G.refl w).alloc (.cells #[.bool false,.slice none 0 0] 38);generalize w.heap.size=pn at hn0 ⊢;generalize w.alloc (.cells #[.bool false,.slice none 0 0] 38)=wa at *;have HL:Hid _:=q3N wa pn 0 mag 0 tL.out hn0.2.1 hn0.2.2;have cZ:Hid (NI w wa pn 0):=hn0;clear hn0;refine q00 HL.out ?_;intro e w2 hs;obtain⟨rfl,hG2,ik,-,-⟩:=SetTo.step bK cZ.out hs;have bW:Hid (NI w w2 pn (mag:Int)):=ik;clear hs ik HL cZ bK;have fJ:Hid (NI w w2 pn S):=by rw[gN.out];exact bW
  have hG3:=hG2;clear bW hG2;go_wp2_with fail;refine q00 (q1q _ 1 (by omega)) ?_;intro e w4 h;obtain⟨pd,rfl,hg4,mo,gD,eD⟩:=h;have hG4:=G.trans hG3 hg4;have eB:Hid (NI w w4 pn S):=fJ.out.G hg4;have hsz:=hG3.size;have HD4:Hid (NI w w4 pd 1):=⟨by omega,gD,eD⟩;have hne:pn≠pd:=by have:=fJ.out.2.1;omega
  clear hg4 mo gD eD hsz fJ hG3;go_wp2_with fail;have HL:Hid _:=q1L w4 pd 0 pd 0 k 1 1 2 (by omega) (by omega) (by decide) HD4.out.2.1 HD4.out.2.1 HD4.out.2.2 HD4.out.2.2;refine q00 HL.out ?_;intro e w5 hs;obtain⟨rfl,bV,gL,-,hkp⟩:=SetTo.step hG4 HD4.out hs;have fZ:Hid (NI w w5 pn NN):=by rw[kP.out];exact hkp pn S hne eB.out
  rw[Int.one_mul,← qg.out] at gL;have HD5:Hid (NI w w5 pd (DD:Int)):=gL;clear hs gL HL hkp eB HD4 hG4;have HF:Hid _:=q0Z w5 bz pn 0 pd 0 s1 s2 NN DD K (by omega) HB.out.1 HB.out.2.1 HB.out.2.2 (G.lt bV kT.out) fZ.out.2.1 HD5.out.2.1 (HZ.out.G kT.out bV) fZ.out.2.2 HD5.out.2.2;clear fZ HD5 HB HZ kT;go_wp2_with fail;refine q00 HF.out ?_;intro e w6 hs;obtain⟨rfl,k1,k2⟩:=NormTo.after bV hs;have iP:Hid _:=k2;clear hs k2 HF;go_wp2_with fail;go_ret;exact⟨rfl,k1,iP.out⟩
 ·have gN:Hid (S= -(mag:Int)):=hS;clear hS;go_enter Tryz.func52,Tryz.ntmps52;go_wp2_with fail;have hn0:=NI.new (G.refl w) 38;have bK:=(G.refl w).alloc (.cells #[.bool false,.slice none 0 0] 38);generalize w.heap.size=pn at hn0 ⊢;generalize w.alloc (.cells #[.bool false,.slice none 0 0] 38)=wa at *;have HL:Hid _:=q3N wa pn 0 mag 0 tL.out hn0.2.1 hn0.2.2;have cZ:Hid (NI w wa pn 0):=hn0;clear hn0;refine q00 HL.out ?_;intro e w2 hs;obtain⟨rfl,hG2,ik,-,-⟩:=SetTo.step bK cZ.out hs;have bW:Hid (NI w w2 pn (mag:Int)):=ik;clear hs ik HL cZ bK;have HL:Hid _:=q4M w2 pn 0 pn 0 (mag:Int) (mag:Int) 2 (by omega) (by rw[Int.natAbs_natCast];exact tL.out) bW.out.2.1 bW.out.2.1 bW.out.2.2 bW.out.2.2;go_wp2_with fail;refine q00 HL.out ?_;intro e w3 hs;obtain⟨rfl,hG3,fV,-,-⟩:=SetTo.step hG2 bW.out hs;rw[← gN.out] at fV;have fJ:Hid (NI w w3 pn S):=fV;clear hs fV HL bW hG2;go_wp2_with fail;refine q00 (q1q _ 1 (by omega)) ?_;intro e w4 h;obtain⟨pd,rfl,hg4,mo,gD,eD⟩:=h;have hG4:=G.trans hG3 hg4;have eB:Hid (NI w w4 pn S):=fJ.out.G hg4;have hsz:=hG3.size;have HD4:Hid (NI w w4 pd 1):=⟨by omega,gD,eD⟩;have hne:pn≠pd:=by have:=fJ.out.2.1;omega
  clear hg4 mo gD eD hsz fJ hG3;go_wp2_with fail;have HL:Hid _:=q1L w4 pd 0 pd 0 k 1 1 2 (by omega) (by omega) (by decide) HD4.out.2.1 HD4.out.2.1 HD4.out.2.2 HD4.out.2.2;refine q00 HL.out ?_;intro e w5 hs;obtain⟨rfl,bV,gL,-,hkp⟩:=SetTo.step hG4 HD4.out hs;have fZ:Hid (NI w w5 pn NN):=by rw[kP.out];exact hkp pn S hne eB.out
  rw[Int.one_mul,← qg.out] at gL;have HD5:Hid (NI w w5 pd (DD:Int)):=gL;clear hs gL HL hkp eB HD4 hG4;have HF:Hid _:=q0Z w5 bz pn 0 pd 0 s1 s2 NN DD K (by omega) HB.out.1 HB.out.2.1 HB.out.2.2 (G.lt bV kT.out) fZ.out.2.1 HD5.out.2.1 (HZ.out.G kT.out bV) fZ.out.2.2 HD5.out.2.2;clear fZ HD5 HB HZ kT;go_wp2_with fail;refine q00 HF.out ?_;intro e w6 hs;obtain⟨rfl,k1,k2⟩:=NormTo.after bV hs;have iP:Hid _:=k2;clear hs k2 HF;go_wp2_with fail;go_ret;exact⟨rfl,k1,iP.out⟩
/-- The upper and the lower part of a float, ahead of lowest terms. -/
def frS (s:Bool) (mag:Nat):Int:=if s then -(mag:Int) else mag
def frN (s:Bool) (mag ex:Nat):Int:=frS s mag*2^(max ex 1-1075)
def frD (ex:Nat):Nat:=2^(1075-max ex 1)
theorem q5P (ex:Nat):0<frD ex:=Nat.two_pow_pos _
theorem q7v (s:Bool) (mag ex:Nat):(frN s mag ex).natAbs=mag*2^(max ex 1-1075):=by
 unfold frN frS;rw[FT.ipow,Int.natAbs_mul,Int.natAbs_natCast]
 congr 1
 split<;>omega
theorem qcu (s:Bool) (mag ex K:Nat) (hm:mag<2^53) (hex:ex<2047) (hK:K=40):(frN s mag ex).natAbs<2^(32*K)∧frD ex<2^(32*K)∧0<frD ex:=by
 refine⟨?_,?_,q5P ex⟩
 ·rw[q7v]
  calc mag*2^(max ex 1-1075)<2^53*2^(max ex 1-1075):=Nat.mul_lt_mul_of_pos_right hm (Nat.two_pow_pos _)
   _=2^(53+(max ex 1-1075)):=by rw[Nat.pow_add]
   _≤2^(32*K):=Nat.pow_le_pow_right (by omega) (by omega)
 ·unfold frD;exact Nat.pow_lt_pow_right (by omega) (by omega)
theorem qaq (w:World) (bz b ex fr mag:Nat) (s1 s2:Int) (h0:b<2^64) (he:b/2^52%2^11=ex) (hf:b%2^52=fr) (hex:ex<2047) (hm:(if ex=0 then fr else 2^52+fr)=mag)
  (hbz:bz<w.heap.size) (hz:RatIs w bz s1 s2):
  Calls Tryz.prog 52 #[.pointer (some ⟨bz,0,none⟩),.float .f64 b] w
   (NormTo w bz (Int.tdiv (frN (FT.neg b) mag ex) (Nat.gcd (frN (FT.neg b) mag ex).natAbs (frD ex):Nat)) (frD ex/Nat.gcd (frN (FT.neg b) mag ex).natAbs (frD ex))):=by
 obtain⟨K,hK⟩:∃ K:Nat,K=40:=⟨_,rfl⟩;have hfr:fr<2^52:=by omega
 have uF:mag<2^53:=by rw[← hm];split<;>omega
 have hB:=qcu (FT.neg b) mag ex K uF hex hK;have hrf:=FT.rung_fields b;rw[he,hf] at hrf;have hbw:b=FT.wrd (FT.neg b) (ex*2^52+fr):=by
  rw[← hrf];rcases FT.neg_cases b h0 with ⟨a1,a2⟩|⟨a1,a2⟩<;>rw[a1]<;>exact a2
 have L1:=FT.exp_field (FT.neg b) ex fr (by omega) hfr;rw[← hbw] at L1;have L2:=FT.and_mask b 52 h0 (by omega);rw[hf,show (2:Int)^52-1=4503599627370495 from rfl] at L2;have L4:((b:Int)/9223372036854775808==1)=FT.neg b:=by
  rcases FT.neg_cases b h0 with ⟨a1,a2⟩|⟨a1,a2⟩
  ·have:=FT.rung_lt b;rw[a1];simp;omega
  ·have:=FT.rung_lt b;rw[a1];simp;omega
 have hS:frS (FT.neg b) mag=if FT.neg b then -(mag:Int) else mag:=rfl;by_cases hz0:ex=0
 ·rw[if_pos hz0] at hm;rw[hz0] at L1;rw[hm] at L2;refine q6B w bz b mag (frD ex) (1075-max ex 1) _ _ _ s1 s2 K (by omega) uF hS L1 L2 L4 (by omega) ?_ (FT.ipow _).symm hB hbz hz;unfold frN;rw[show max ex 1-1075=0 from by omega,Int.pow_zero,Int.mul_one]
 ·rw[if_neg hz0] at hm;have L3:=qbS hfr (by omega:52≤63);rw[Nat.add_comm,hm,show (2:Int)^52=4503599627370496 from rfl] at L3;by_cases hu:1075≤ex
  ·refine q8W w bz b ex fr mag (frD ex) (ex-1075) _ _ _ s1 s2 K (by omega) uF hS hex hu L1 L2 L3 L4 (by omega) ?_ ?_ hB hbz hz
   ·unfold frN;rw[show max ex 1=ex from by omega]
   ·unfold frD;rw[show 1075-max ex 1=0 from by omega];rfl
  ·refine q9e w bz b ex fr mag (frD ex) (1075-max ex 1) _ _ _ s1 s2 K (by omega) uF hS (by omega) (by omega) L1 L2 L3 L4 (by omega) ?_ (FT.ipow _).symm hB hbz hz;unfold frN;rw[show max ex 1-1075=0 from by omega,Int.pow_zero,Int.mul_one]
/-- The reference's ratio of a float. -/
theorem qb9 (w:World) (b ex fr mag:Nat) (h0:b<2^64) (he:b/2^52%2^11=ex) (hf:b%2^52=fr) (hex:ex<2047) (hm:(if ex=0 then fr else 2^52+fr)=mag):
  Calls Tryz.prog 10 #[.float .f64 b] w
   (RetR w (Int.tdiv (frN (FT.neg b) mag ex) (Nat.gcd (frN (FT.neg b) mag ex).natAbs (frD ex):Nat)) (frD ex/Nat.gcd (frN (FT.neg b) mag ex).natAbs (frD ex))):=by
 have HS:Hid (∀ w1 p,p<w1.heap.size→RatIs w1 p 0 0→_):=fun w1 p hp hr=>qaq w1 p b ex fr mag 0 0 h0 he hf hex hm hp hr;generalize Int.tdiv (frN (FT.neg b) mag ex) (Nat.gcd (frN (FT.neg b) mag ex).natAbs (frD ex):Nat)=A at *;generalize frD ex/Nat.gcd (frN (FT.neg b) mag ex).natAbs (frD ex)=B at *;clear h0 he hf hex hm;go_enter Tryz.func10,Tryz.ntmps10;go_wp2_with fail;have hr0:=q2S w 40;have hga:=(G.refl w).alloc (.cells #[.bool false,.slice none 0 0,.bool false,.slice none 0 0] 40);have hzs:w.heap.size<(w.alloc (.cells #[.bool false,.slice none 0 0,.bool false,.slice none 0 0] 40)).heap.size:=by simp
 have hz0:w.heap.size≤w.heap.size:=Nat.le_refl _;generalize w.alloc (.cells #[.bool false,.slice none 0 0,.bool false,.slice none 0 0] 40)=w3 at *;refine q00 (HS.out w3 _ hzs hr0) ?_;intro e w4 hs;obtain⟨p,rfl,k1,k2,k3,k4⟩:=NormTo.ret hga hz0 hzs hs;have xL:Hid (RatIs w4 p A (B:Int)):=k4;clear hs k4 HS;go_wp2_with fail;go_ret;exact⟨p,rfl,k1,k2,k3,xL.out⟩
end Go.Proofs.YtbfjihniphldaaaGreatDoor
namespace Go.Proofs.YtbfjihniphldaaaGreatDoor
open Go.ChangeShapes Go.WideShapes Go.ChangeAt Go.RowKit
open BN
theorem qb2 (P:Int) (h1: -1100≤P) (h2:P≤1100) (w:World):Calls Tryz.prog 74 #[.int .i64 P] w (RetR w (2^P.toNat:Nat) (2^(-P).toNat)):=by
 by_cases h:0≤P
 ·obtain⟨k,rfl⟩:=Int.eq_ofNat_of_zero_le h;rw[Int.toNat_natCast,show (-(k:Int)).toNat=0 from by omega,Nat.pow_zero];exact qa8 w k 40 (by omega) (by omega) (by omega)
 ·obtain⟨k,hk⟩:∃ k:Nat,P= -(k:Int):=⟨(-P).toNat,by omega⟩;subst hk;rw[show (-(k:Int)).toNat=0 from by omega,Int.neg_neg,Int.toNat_natCast,Nat.pow_zero];exact q7K w k 40 (by omega) (by omega) (by omega) (by omega)
end Go.Proofs.YtbfjihniphldaaaGreatDoor
