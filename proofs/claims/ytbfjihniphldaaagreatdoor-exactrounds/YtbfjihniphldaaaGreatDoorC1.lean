/- What is proved here: plain facts on floats as words of 64 bits (no program): how two words compare, what their magnitudes are, and which word an exactly representable number is written as.
What is proved here: plain facts on the lowest bit of a number and on the table by which zeros are counted (no program).
What is proved here: plain facts on the tests of package math on words (no program).
What is proved here: plain facts on neighbours and signs of words (no program).
What is proved here: plain facts on products of words by powers of two (no program).
What is proved here: plain facts on products by which Ldexp is made (no program). -/
import Ieee.Arith
import Derived.Laws.FloatArith
import Derived.Laws.BitsAllLaws
import Derived.IntWalk
namespace Go.Proofs.YtbfjihniphldaaaGreatDoor.FT
/-- The magnitude of a rung, in units of 2 to the power of -1074. -/
def v (r:Nat):Nat:=if r<2^52 then r else (2^52+r%2^52)*2^(r/2^52-1)
def neg (b:Nat):Bool:=b/2^63%2==1
def rung (b:Nat):Nat:=b%2^63
def infR:Nat:=2047*2^52
def nan (b:Nat):Bool:=decide (infR<rung b)
/-- Keys: they stand as floats do (both zeros at 0). -/
def key (b:Nat):Int:=if neg b then -(rung b:Int) else rung b
theorem q0U:Ieee.double.signWeight=2^63:=rfl
theorem binade_eq:Ieee.double.binade=2^52:=rfl
theorem infRung_eq:Ieee.double.infRung=2047*2^52:=rfl
theorem leastPlace_eq:Ieee.double.leastPlace= -1074:=by decide
theorem v_sub {r:Nat} (h:r<2^52):v r=r:=by unfold v;rw[if_pos h]
theorem v_nor {r:Nat} (h:¬ r<2^52):v r=(2^52+r%2^52)*2^(r/2^52-1):=by unfold v;rw[if_neg h]
theorem v_lt {r s:Nat} (h:r<s):v r<v s:=by
 by_cases hr:r<2^52
 ·rw[v_sub hr];by_cases hs:s<2^52
  ·rw[v_sub hs];exact h
  ·rw[v_nor hs];have h1:0<2^(s/2^52-1):=Nat.two_pow_pos _;have h2:(2^52+s%2^52)*1≤(2^52+s%2^52)*2^(s/2^52-1):=Nat.mul_le_mul_left _ h1;omega
 ·have hs:¬ s<2^52:=by omega
  rw[v_nor hr,v_nor hs];by_cases he:r/2^52=s/2^52
  ·rw[he];exact Nat.mul_lt_mul_of_pos_right (by omega) (Nat.two_pow_pos _)
  ·have hlt:r/2^52<s/2^52:=by omega
   have h1:(2^52+r%2^52)*2^(r/2^52-1)<2^53*2^(r/2^52-1):=
    Nat.mul_lt_mul_of_pos_right (by omega) (Nat.two_pow_pos _)
   have h2:2^53*2^(r/2^52-1)≤2^52*2^(s/2^52-1):=by
    rw[← Nat.pow_add,← Nat.pow_add];exact Nat.pow_le_pow_right (by omega) (by omega)
   have h3:2^52*2^(s/2^52-1)≤(2^52+s%2^52)*2^(s/2^52-1):=Nat.mul_le_mul_right _ (by omega);omega
theorem qbi {r s:Nat} (h:v r=v s):r=s:=by
 rcases Nat.lt_trichotomy r s with h1|h1|h1
 ·have:=v_lt h1;omega
 ·exact h1
 ·have:=v_lt h1;omega
theorem v_le {r s:Nat}:v r≤v s↔r≤s:=by
 constructor
 ·intro h;rcases Nat.lt_or_ge s r with h1|h1
  ·have:=v_lt h1;omega
  ·exact h1
 ·intro h;rcases Nat.eq_or_lt_of_le h with h1|h1
  ·rw[h1];exact Nat.le_refl _
  ·exact Nat.le_of_lt (v_lt h1)
/-- What a word that is a number reads as. -/
theorem q2p {b:Nat} (h:rung b<infR):
  ∃ m p,Ieee.double.read b= .number (neg b) m p∧ -1074≤p∧m*2^(p+1074).toNat=v (rung b)∧(m=0↔rung b=0):=by
 unfold infR at h;by_cases hs:rung b<2^52
 ·refine⟨rung b,-1074,?_,by omega,by rw[v_sub hs];simp,Iff.rfl⟩;unfold Ieee.Format.read;rw[q0U,binade_eq,leastPlace_eq];show (if rung b<2^52 then _ else _)=_;rw[if_pos hs];rfl
 ·refine⟨2^52+rung b%2^52,-1074+(rung b/2^52-1:Nat),?_,by omega,?_,by constructor<;>intro h'<;>omega⟩
  ·unfold Ieee.Format.read;rw[q0U,binade_eq,leastPlace_eq,infRung_eq];show (if rung b<2^52 then _ else if rung b<2047*2^52 then _ else _)=_;rw[if_neg hs,if_pos h];rfl
  ·rw[v_nor hs]
   congr 2
   omega
theorem q44 {b:Nat} (h:rung b=infR):Ieee.double.read b= .infinity (neg b):=by
 unfold infR at h;unfold Ieee.Format.read;rw[q0U,binade_eq,leastPlace_eq,infRung_eq];show (if rung b<2^52 then _ else if rung b<2047*2^52 then _ else if rung b=2047*2^52 then _ else _)=_;rw[if_neg (by omega),if_neg (by omega),if_pos h];rfl
theorem q6d {b:Nat} (h:infR<rung b):Ieee.double.read b= .nan (neg b) (rung b-infR):=by
 unfold infR at *;unfold Ieee.Format.read;rw[q0U,binade_eq,leastPlace_eq,infRung_eq];show (if rung b<2^52 then _ else if rung b<2047*2^52 then _ else if rung b=2047*2^52 then _ else _)=_;rw[if_neg (by omega),if_neg (by omega),if_neg (by omega)];rfl
theorem q4C (s:Bool) (m k:Nat):Ieee.signed s m k=(if s then -1 else 1)*((m*2^k:Nat):Int):=by
 unfold Ieee.signed;rw[Nat.shiftLeft_eq];cases s<;>simp
theorem q4j {x y:Int} {k:Nat} (hk:0<k):compare (x*k) (y*k)=compare x y:=by
 have hk':(0:Int)<k:=by omega
 rcases Int.lt_trichotomy x y with h|h|h
 ·rw[Int.compare_eq_lt.2 h,Int.compare_eq_lt.2 (Int.mul_lt_mul_of_pos_right h hk')]
 ·rw[h];simp
 ·rw[Int.compare_eq_gt.2 h,Int.compare_eq_gt.2 (Int.mul_lt_mul_of_pos_right h hk')]
def sv (s:Bool) (r:Nat):Int:=(if s then -1 else 1)*(v r:Int)
theorem q6J (s t:Bool) (a c:Nat):
  compare (sv s a) (sv t c)=compare (if s then -(a:Int) else a) (if t then -(c:Int) else c):=by
 have hz:v 0=0:=rfl;have ha:v 0≤v a:=v_le.2 (Nat.zero_le _);have hc:v 0≤v c:=v_le.2 (Nat.zero_le _);have e1:v a<v c↔a<c:=by
  constructor
  ·intro h;rcases Nat.lt_or_ge a c with h1|h1
   ·exact h1
   ·have:=v_le.2 h1;omega
  ·exact v_lt
 have e2:v c<v a↔c<a:=by
  constructor
  ·intro h;rcases Nat.lt_or_ge c a with h1|h1
   ·exact h1
   ·have:=v_le.2 h1;omega
  ·exact v_lt
 have e3:v a=0↔a=0:=⟨fun h=>qbi (h.trans hz.symm),fun h=>by rw[h,hz]⟩;have e4:v c=0↔c=0:=⟨fun h=>qbi (h.trans hz.symm),fun h=>by rw[h,hz]⟩;unfold sv;cases s<;>cases t<;>simp only[if_true,if_false,Bool.false_eq_true,Int.one_mul,Int.neg_mul]<;>
  (simp only[compare,compareOfLessAndEq];repeat' split)<;>first|rfl|omega
/-- HOW TWO WORDS COMPARE. -/
theorem q9m (a b:Nat):
  Ieee.double.order a b=if nan a||nan b then none else some (compare (key a) (key b)):=by
 unfold Ieee.Format.order;by_cases ha:infR<rung a
 ·rw[q6d ha];have:nan a=true:=by simp [nan,ha]
  simp [this,Ieee.Datum.order]
 by_cases hb:infR<rung b
 ·rw[q6d hb];have hn:nan b=true:=by simp [nan,hb]
  cases Ieee.double.read a<;>simp [hn,Ieee.Datum.order]
 have na:nan a=false:=by simp [nan];omega
 have nb:nan b=false:=by simp [nan];omega
 simp only[na,nb,Bool.or_self,Bool.false_eq_true,if_false];unfold key;by_cases ia:rung a=infR
 ·rw[q44 ia];by_cases ib:rung b=infR
  ·rw[q44 ib];simp only[Ieee.Datum.order,ia,ib];cases neg a<;>cases neg b<;>rfl
  ·have hb':rung b<infR:=by omega
   obtain⟨m,p,e,-,-,-⟩:=q2p hb';rw[e,ia];simp only[Ieee.Datum.order]
   congr 1
   cases neg a<;>cases neg b<;>simp only[if_true,if_false,Bool.false_eq_true]<;>symm<;>
    first|(rw[Int.compare_eq_gt];omega)|(rw[Int.compare_eq_lt];omega)
 ·have ha':rung a<infR:=by omega
  obtain⟨m,p,e,hp,hm,-⟩:=q2p ha';rw[e];by_cases ib:rung b=infR
  ·rw[q44 ib,ib];simp only[Ieee.Datum.order]
   congr 1
   cases neg a<;>cases neg b<;>simp only[if_true,if_false,Bool.false_eq_true]<;>symm<;>
    first|(rw[Int.compare_eq_gt];omega)|(rw[Int.compare_eq_lt];omega)
  ·have hb':rung b<infR:=by omega
   obtain⟨n,q,e',hq,hn,-⟩:=q2p hb';rw[e'];simp only[Ieee.Datum.order]
   congr 1
   rw[← q6J];have hbase: -1074≤min p q:=by omega
   rw[← q4j (k:=2^(min p q+1074).toNat) (Nat.two_pow_pos _)];have f1:Ieee.signed (neg a) m (p-min p q).toNat*((2^(min p q+1074).toNat:Nat):Int)=sv (neg a) (rung a):=by
    rw[q4C,Int.mul_assoc,← Int.natCast_mul,Nat.mul_assoc,← Nat.pow_add];unfold sv;rw[← hm]
    congr 4
    omega
   have f2:Ieee.signed (neg b) n (q-min p q).toNat*((2^(min p q+1074).toNat:Nat):Int)=sv (neg b) (rung b):=by
    rw[q4C,Int.mul_assoc,← Int.natCast_mul,Nat.mul_assoc,← Nat.pow_add];unfold sv;rw[← hn]
    congr 4
    omega
   rw[f1,f2]
theorem q1G {x k:Nat} (hx:x≠0):(x*2^k).log2=x.log2+k:=by
 have hp:0<2^k:=Nat.two_pow_pos k;have hne:x*2^k≠0:=Nat.mul_ne_zero hx (by omega);have h1:=Nat.log2_self_le hx;have h2:=Nat.lt_log2_self (n:=x);have h3:=Nat.log2_self_le hne;have h4:=Nat.lt_log2_self (n:=x*2^k);have a1:2^(x.log2+k)≤x*2^k:=by rw[Nat.pow_add];exact Nat.mul_le_mul_right _ h1
 have a2:x*2^k<2^(x.log2+1+k):=by rw[Nat.pow_add];exact Nat.mul_lt_mul_of_pos_right h2 hp
 have b1:2^(x.log2+k)<2^((x*2^k).log2+1):=by omega
 have b2:2^(x*2^k).log2<2^(x.log2+1+k):=by omega
 have c1:=(Nat.pow_lt_pow_iff_right (by omega:1<2)).1 b1;have c2:=(Nat.pow_lt_pow_iff_right (by omega:1<2)).1 b2;omega
theorem q76 (neg:Bool) (x drop:Nat) (hx:x≠0):Ieee.Toward.even.cut neg (x*2^drop) drop=x:=by
 unfold Ieee.Toward.cut;rw[q1G hx];have hm:min drop (x.log2+drop+2)=drop:=by omega
 have hp:0<2^drop:=Nat.two_pow_pos _;simp only[hm,Nat.shiftLeft_eq,Nat.one_mul,Nat.mul_div_cancel _ hp,Nat.mul_mod_left];have e1:decide (2^drop<2*0)=false:=by simp
 have e2:(2^drop==2*0)=false:=by simp
 rw[e1,e2];simp
theorem cut_zero (neg:Bool) (x:Nat):Ieee.Toward.even.cut neg x 0=x:=by
 unfold Ieee.Toward.cut;simp [Nat.mod_one]
theorem q6U {r:Nat} (h:¬ r<2^52):(v r).log2=51+r/2^52:=by
 rw[v_nor h,q1G (by omega)];have:(2^52+r%2^52).log2=52:=(Nat.log2_eq_iff (by omega)).2 ⟨by omega,by omega⟩;rw[this];omega
theorem q6G {r:Nat} (h:r<2^52) (h0:r≠0):(v r).log2<52:=by
 rw[v_sub h];exact(Nat.log2_lt h0).2 h
/-- THE WORD OF A NUMBER THAT THE FORMAT HAS. -/
theorem q2D (s:Bool) (m:Nat) (p:Int) (r:Nat) (hr:r<infR) (hm:m≠0)
  (h:m*2^(p+1074).toNat=v r*2^(-1074-p).toNat):Ieee.double.nearest s m p=Ieee.double.word s r:=by
 unfold infR at hr;have uB:v r≠0:=by
  intro h0;rw[h0,Nat.zero_mul] at h;rcases Nat.mul_eq_zero.1 h with h|h
  ·exact hm h
  ·have:=Nat.two_pow_pos (p+1074).toNat;omega
 have hr0:r≠0:=by intro h0;rw[h0] at uB;exact uB rfl
 have hl:m.log2+(p+1074).toNat=(v r).log2+(-1074-p).toNat:=by
  rw[← q1G hm,← q1G uB,h]
 unfold Ieee.Format.nearest;rw[if_neg hm,leastPlace_eq,infRung_eq,binade_eq];show Ieee.Format.word _ s (min ((max (p+(m.log2:Int)-(52:Nat)) (-1074)- -1074).toNat*2^52+Ieee.Toward.even.cut s (m<<<(p-max (p+(m.log2:Int)-(52:Nat)) (-1074)).toNat) (max (p+(m.log2:Int)-(52:Nat)) (-1074)-p).toNat) (2047*2^52))=_
 -- the place of the last digit
 have key:∀ (last:Int) (kept:Nat),max (p+(m.log2:Int)-(52:Nat)) (-1074)=last→ -1074≤last→kept≠0→v r=kept*2^(last+1074).toNat→
   (last+1074).toNat*2^52+kept=r→Ieee.double.word s (min ((max (p+(m.log2:Int)-(52:Nat)) (-1074)- -1074).toNat*2^52+Ieee.Toward.even.cut s (m<<<(p-max (p+(m.log2:Int)-(52:Nat)) (-1074)).toNat) (max (p+(m.log2:Int)-(52:Nat)) (-1074)-p).toNat) (2047*2^52))=Ieee.double.word s r:=by
  intro last kept hlast hge hk0 hv hsum;rw[hlast];have hcut:Ieee.Toward.even.cut s (m<<<(p-last).toNat) (last-p).toNat=kept:=by
   rw[hv] at h;rcases Int.le_total last p with hle|hle
   ·have e0:(last-p).toNat=0:=by omega
    have e1:(p+1074).toNat=(p-last).toNat+(last+1074).toNat:=by omega
    have e2:(-1074-p).toNat=0:=by omega
    rw[e0,cut_zero,Nat.shiftLeft_eq];rw[e1,e2,Nat.pow_zero,Nat.mul_one,Nat.pow_add,← Nat.mul_assoc] at h;exact Nat.eq_of_mul_eq_mul_right (Nat.two_pow_pos _) h
   ·have e0:(p-last).toNat=0:=by omega
    rw[e0,Nat.shiftLeft_zero];have hmk:m=kept*2^(last-p).toNat:=by
     rcases Int.le_total (-1074) p with hq|hq
     ·have e2:(-1074-p).toNat=0:=by omega
      have e3:(last+1074).toNat=(last-p).toNat+(p+1074).toNat:=by omega
      rw[e2,e3,Nat.pow_zero,Nat.mul_one,Nat.pow_add,← Nat.mul_assoc] at h;exact Nat.eq_of_mul_eq_mul_right (Nat.two_pow_pos _) h
     ·have e2:(p+1074).toNat=0:=by omega
      have e3:(last-p).toNat=(last+1074).toNat+(-1074-p).toNat:=by omega
      rw[e2,Nat.pow_zero,Nat.mul_one] at h;rw[h,e3,Nat.pow_add,Nat.mul_assoc]
    rw[hmk];exact q76 _ _ _ hk0
  rw[hcut];have e4:(last- -1074).toNat=(last+1074).toNat:=by omega
  rw[e4,hsum,Nat.min_eq_left (by omega)]
 by_cases hs:r<2^52
 ·have hlt:=q6G hs hr0;refine key (-1074) r (by omega) (by omega) hr0 (by rw[v_sub hs];simp) (by simp)
 ·have AQ:=q6U hs;refine key ((r/2^52:Nat)-1-1074) (2^52+r%2^52) (by omega) (by omega) (by omega) ?_ ?_
  ·rw[v_nor hs]
   congr 2
   omega
  ·have:(((r/2^52:Nat):Int)-1-1074+1074).toNat=r/2^52-1:=by omega
   rw[this];omega
/-! Bits of whole numbers, in the walk's spelling. -/
theorem ipow (k:Nat):((2:Int)^k)=((2^k:Nat):Int):=by simp
theorem and_mask (x F:Nat) (hx:x<2^64) (hF:F≤63):bits .and .u64 (x:Int) (2^F-1)=((x%2^F:Nat):Int):=by
 have hp:1≤2^F:=Nat.two_pow_pos F;have hq:2^F≤2^63:=Nat.pow_le_pow_right (by omega) hF;rw[ipow,show (((2^F:Nat):Int)-1)=((2^F-1:Nat):Int) from by omega,u64_and_nat x _ hx (by omega),Nat.and_two_pow_sub_one_eq_mod]
theorem and_mask_i64 (x E:Nat) (hx:x<2^63) (hE:E≤62):bits .and .i64 (x:Int) (2^E-1)=((x%2^E:Nat):Int):=by
 have hp:1≤2^E:=Nat.two_pow_pos E;have hq:2^E≤2^62:=Nat.pow_le_pow_right (by omega) hE;rw[ipow,show (((2^E:Nat):Int)-1)=((2^E-1:Nat):Int) from by omega];have hm:x%2^E<2^E:=Nat.mod_lt _ hp;have e1:(BitVec.ofInt 64 (x:Int)).toNat=x:=ofInt_u64 x (by omega);have e2:(BitVec.ofInt 64 ((2^E-1:Nat):Int)).toNat=2^E-1:=ofInt_u64 _ (by omega);have e:(BitVec.ofInt 64 (x:Int)&&&BitVec.ofInt 64 ((2^E-1:Nat):Int)).toNat=x%2^E:=by
  rw[BitVec.toNat_and,e1,e2,Nat.and_two_pow_sub_one_eq_mod]
 show IntKind.i64.wrap (((BitVec.ofInt 64 (x:Int)&&&BitVec.ofInt 64 ((2^E-1:Nat):Int)).toNat:Nat):Int)=_;rw[e,IntWalk.i64_in _ (by omega)]
theorem and_bit (x k:Nat) (hx:x<2^64) (hk:k≤63):(bits .and .u64 (x:Int) (2^k) != 0)=(x/2^k%2==1):=by
 have hp:1≤2^k:=Nat.two_pow_pos k;have hq:2^k≤2^63:=Nat.pow_le_pow_right (by omega) hk;rw[ipow,u64_and_nat x _ hx (by omega),nat_bit];have h2:x/2^k%2=0∨x/2^k%2=1:=by omega
 generalize x/2^k%2=r at *;generalize 2^k=q at *;rcases h2 with rfl|rfl
 ·simp
 ·simp;omega
theorem or_sign (b:Nat) (hb:b<2^63):bits .or .u64 (b:Int) 9223372036854775808=((b+2^63:Nat):Int):=by
 rw[show (9223372036854775808:Int)=((2^63:Nat):Int) from rfl,u64_or_nat b _ (by omega) (by omega),Nat.or_comm,nat_join 63 (2^63) b (by omega) hb,Nat.add_comm]
theorem odd_part:∀ x:Nat,x≠0→∃ j k,x=(2*j+1)*2^k:=by
 intro x
 induction x using Nat.strongRecOn with
 |ind x ih=>
  intro h;rcases Nat.mod_two_eq_zero_or_one x with h2|h2
  ·obtain⟨j,k,e⟩:=ih (x/2) (by omega) (by omega);refine⟨j,k+1,?_⟩;rw[Nat.pow_succ,← Nat.mul_assoc,← e];omega
  ·exact⟨x/2,0,by simp;omega⟩
theorem tz_lt {j k:Nat} (h:(2*j+1)*2^k<2^64):k<64:=by
 rcases Nat.lt_or_ge k 64 with h1|h1
 ·exact h1
 ·have h2:2^64≤2^k:=Nat.pow_le_pow_right (by omega) h1;have h3:1*2^k≤(2*j+1)*2^k:=Nat.mul_le_mul_right _ (by omega);omega
theorem qab (j k:Nat) (h:(2*j+1)*2^k<2^64):
  (2*j+1)*2^k&&&(2^64-(2*j+1)*2^k)=2^k:=by
 have hk:=tz_lt h;have hp:0<2^k:=Nat.two_pow_pos k;have e:(2*j+1)*2^k=(2*j*2^k+(2^k-1))+1:=by rw[Nat.add_mul];omega
 apply Nat.eq_of_testBit_eq;intro i;rw[Nat.testBit_and];have e2:2^64-(2*j+1)*2^k=2^64-(2*j*2^k+(2^k-1)+1):=by rw[← e]
 rw[e2,Nat.testBit_two_pow_sub_succ (by omega),Nat.testBit_mul_two_pow,Nat.testBit_two_pow];by_cases hi:i<k
 ·have h1:¬ k≤i:=by omega
  have h2:¬ k=i:=by omega
  simp [h1,h2]
 ·have h1:k≤i:=by omega
  have e3:2*j*2^k+(2^k-1)=2^k*(2*j)+(2^k-1):=by rw[Nat.mul_comm]
  rw[e3,Nat.testBit_two_pow_mul_add _ (by omega),if_neg hi];by_cases h2:k=i
  ·subst h2;have:(2*j+1).testBit 0=true:=by simp [Nat.testBit_zero]
   have h3:(2*j).testBit 0=false:=by simp [Nat.testBit_zero]
   simp [this,h3,hk]
  ·obtain⟨d,hd⟩:∃ d,i-k=d+1:=⟨i-k-1,by omega⟩;rw[hd];have e4:(2*j+1).testBit (d+1)=j.testBit d:=by rw[Nat.testBit_succ];congr 1;omega
   have e5:(2*j).testBit (d+1)=j.testBit d:=by rw[Nat.testBit_succ];congr 1;omega
   rw[e4,e5];cases j.testBit d<;>simp [h2]
def tab:List Nat:=[0,1,56,2,57,49,28,3,61,58,42,50,38,29,17,4,62,47,59,36,45,43,51,22,53,39,33,30,24,18,12,5,63,55,48,27,60,41,37,16,46,35,44,21,52,32,23,11,54,26,40,15,34,20,31,10,25,14,19,9,13,8,7,6]
def ix (k:Nat):Nat:=2^k*285870213051353865%2^64/2^58
theorem q7w:∀ k:Fin 64,ix k.val<64∧tab.getD (ix k.val) 0=k.val:=by decide+kernel
theorem ix_lt {k:Nat} (h:k<64):ix k<64:=(q7w ⟨k,h⟩).1
theorem tab_ix {k:Nat} (h:k<64):tab.getD (ix k) 0=k:=(q7w ⟨k,h⟩).2
/-- The walk's own term for the place in the table. -/
theorem place (x j k:Nat) (e:x=(2*j+1)*2^k) (h:x<2^64):
  IntKind.u64.wrap (bits BinOp.and IntKind.u64 (x:Int) (IntKind.u64.wrap (-(x:Int)))*285870213051353865)/288230376151711744=(ix k:Int):=by
 have hx0:x≠0:=by
  rw[e];exact Nat.mul_ne_zero (by omega) (by have:=Nat.two_pow_pos k;omega)
 have w1:IntKind.u64.wrap (-(x:Int))=((2^64-x:Nat):Int):=by
  rw[IntKind.wrap_u64];omega
 rw[w1,u64_and_nat x _ h (by omega)];have w2:x&&&(2^64-x)=2^k:=by rw[e] at h ⊢;exact qab j k h
 rw[w2,IntKind.wrap_u64];unfold ix;generalize 2^k=q;omega
theorem ord_f (a b:Nat):FloatKind.f64.format.order a b=if nan a||nan b then none else some (compare (key a) (key b)):=q9m a b
theorem neq_self (b:Nat):(FloatKind.f64.format.order b b != some .eq)=nan b:=by
 rw[ord_f];cases h:nan b<;>simp
theorem neg_cases (b:Nat) (h:b<2^64):(neg b=true∧b=rung b+2^63)∨(neg b=false∧b=rung b):=by
 unfold neg rung;rcases Nat.lt_or_ge b (2^63) with h1|h1
 ·right;have:b/2^63=0:=by omega
  rw[this];exact⟨rfl,by omega⟩
 ·left;have:b/2^63=1:=by omega
  rw[this];exact⟨rfl,by omega⟩
theorem rung_lt (b:Nat):rung b<2^63:=Nat.mod_lt _ (by omega)
theorem q4v (b:Nat):rung (rung b)=rung b:=by unfold rung;omega
theorem q8U (b:Nat):neg (rung b)=false:=by unfold neg rung;have:b%2^63/2^63=0:=by omega
                                           rw[this];rfl
theorem q60 (b:Nat):nan (rung b)=nan b:=by unfold nan;rw[q4v]
theorem q6p (b:Nat):key (rung b)=rung b:=by unfold key;rw[q8U,q4v];rfl
theorem q9u {a b:Int} (h:a<b):compare a b= .lt:=Int.compare_eq_lt.2 h
theorem q61 {a b:Int} (h:b<a):compare a b= .gt:=Int.compare_eq_gt.2 h
theorem rung_small {c:Nat} (h:c<2^63):rung c=c:=by unfold rung;omega
theorem neg_small {c:Nat} (h:c<2^63):neg c=false:=by
 unfold neg;have:c/2^63=0:=by omega
 rw[this];rfl
theorem key_small {c:Nat} (h:c<2^63):key c=c:=by unfold key;rw[neg_small h,rung_small h];rfl
theorem q8G (b c:Nat) (hc:c<infR):(FloatKind.f64.format.order (rung b) c==some .gt)=decide (c<rung b∧rung b≤infR):=by
 have hc':c<2^63:=by unfold infR at hc;omega
 rw[ord_f,q60,q6p,key_small hc'];have hn:nan c=false:=by unfold nan;rw[rung_small hc'];simp;omega
 rw[hn];unfold nan;by_cases h1:infR<rung b
 ·have h2:¬ rung b≤infR:=by omega
  simp [h1,h2]
 ·by_cases h2:c<rung b
  ·have:=q61 (a:=(rung b:Int)) (b:=(c:Int)) (by omega);have h3:rung b≤infR:=by omega
   simp [h1,h2,this,h3]
  ·have:compare (rung b:Int) (c:Int)≠ .gt:=fun h=>h2 (by have:=Int.compare_eq_gt.1 h;omega);simp [h1,h2,this]
/-- |b| against the greatest finite float. -/
theorem gt_max (b:Nat):(FloatKind.f64.format.order (rung b) 9218868437227405311==some .gt)=decide (rung b=infR):=by
 rw[q8G b _ (by unfold infR;omega)]
 congr 1
 unfold infR;apply propext;omega
/-- |b| against a finite float that isn't below 0. -/
theorem lt_const (b c:Nat) (hc:c<infR):(FloatKind.f64.format.order (rung b) c==some .lt)=decide (rung b<c):=by
 have hc':c<2^63:=by unfold infR at hc;omega
 rw[ord_f,q60,q6p,key_small hc'];have hn:nan c=false:=by unfold nan;rw[rung_small hc'];simp;omega
 rw[hn];unfold nan;by_cases h1:infR<rung b
 ·have h2:¬ rung b<c:=by omega
  simp [h1,h2]
 ·by_cases h2:rung b<c
  ·have:=q9u (a:=(rung b:Int)) (b:=(c:Int)) (by omega);simp [h1,h2,this]
  ·have:compare (rung b:Int) (c:Int)≠ .lt:=fun h=>h2 (by have:=Int.compare_eq_lt.1 h;omega);simp [h1,h2,this]
theorem eq_zero (b:Nat):(FloatKind.f64.format.order b 0==some .eq)=decide (rung b=0):=by
 rw[ord_f];have hn:nan 0=false:=by decide
 have hk:key 0=0:=by decide
 rw[hn,hk];unfold nan key;by_cases h1:infR<rung b
 ·have h2:¬ rung b=0:=by omega
  simp [h1,h2]
 ·have e:∀ z:Int,(compare z 0= .eq↔z=0):=fun z=>Int.compare_eq_eq;by_cases h2:rung b=0
  ·rw[h2];cases neg b<;>simp
  ·have:¬ (if neg b=true then -(rung b:Int) else (rung b:Int))=0:=by split<;>omega
   simp [h1,h2,this]
theorem andnot_sign (b:Nat) (h:b<2^64):bits BinOp.andNot IntKind.u64 (b:Int) 9223372036854775808=((rung b:Nat):Int):=by
 rw[show (9223372036854775808:Int)=((2^63:Nat):Int) from rfl,u64_andNot_nat b _ (by omega) (by omega)];have e:(18446744073709551615-2^63:Nat)=2^63-1:=rfl;rw[e,Nat.and_two_pow_sub_one_eq_mod];rfl
theorem and_sign (b:Nat) (h:b<2^64):bits BinOp.and IntKind.u64 (b:Int) 9223372036854775808=((if neg b then 2^63 else 0:Nat):Int):=by
 rw[show (9223372036854775808:Int)=((2^63:Nat):Int) from rfl,u64_and_nat b _ (by omega) (by omega),nat_bit];unfold neg;have h2:b/2^63%2=0∨b/2^63%2=1:=by omega
 rcases h2 with h2|h2<;>rw[h2]<;>rfl
def ninf:Nat:=infR+2^63
def qnan:Nat:=9221120237041090561
theorem nan_false {b:Nat} (h:nan b=false):rung b≤infR:=by unfold nan at h;simp at h;omega
theorem q7P:key infR=infR:=key_small (by decide)
theorem nan_inf:nan infR=false:=by unfold nan;rw[rung_small (by decide)];simp
theorem neg_ninf:neg ninf=true:=by unfold neg ninf infR;decide
theorem q5g:rung ninf=infR:=by unfold rung ninf infR;decide
theorem q6m:key ninf= -infR:=by unfold key;rw[neg_ninf,q5g];rfl
theorem nan_ninf:nan ninf=false:=by unfold nan;rw[q5g];simp
theorem cmp_ne_gt {a b:Int} (h:¬ b<a):¬ compare a b= .gt:=fun h'=>h (Int.compare_eq_gt.1 h')
theorem q7f {a b:Int} (h:¬ a<b):¬ compare a b= .lt:=fun h'=>h (Int.compare_eq_lt.1 h')
theorem q2w {a b:Int} (h:¬ a=b):¬ compare a b= .eq:=fun h'=>h (Int.compare_eq_eq.1 h')
theorem q2f (a b:Ordering):((some a:Option Ordering)==some b)=decide (a=b):=by cases a<;>cases b<;>rfl
theorem gt_zero (b:Nat) (hn:nan b=false):(FloatKind.f64.format.order b 0==some .gt)=(!neg b&&decide (rung b≠0)):=by
 rw[ord_f,hn,show nan 0=false from by decide,show key 0=0 from by decide];simp only[Bool.or_self,Bool.false_eq_true,if_false,q2f];unfold key;cases neg b
 ·by_cases h:rung b=0
  ·simp [h]
  ·have:=q61 (a:=(rung b:Int)) (b:=0) (by omega);simp [h,this]
 ·have:=cmp_ne_gt (a:= -(rung b:Int)) (b:=0) (by omega);simp [this]
theorem eq_inf (b:Nat) (hn:nan b=false):(FloatKind.f64.format.order b infR==some .eq)=(!neg b&&decide (rung b=infR)):=by
 rw[ord_f,hn,nan_inf,q7P];simp only[Bool.or_self,Bool.false_eq_true,if_false,q2f];have hi:0<infR:=by decide
 unfold key;cases neg b
 ·by_cases h:rung b=infR
  ·simp [h]
  ·have:=q2w (a:=(rung b:Int)) (b:=infR) (by omega);simp [h,this]
 ·have:=q2w (a:= -(rung b:Int)) (b:=infR) (by omega);simp [this]
theorem eq_ninf (b:Nat) (hn:nan b=false):(FloatKind.f64.format.order b ninf==some .eq)=(neg b&&decide (rung b=infR)):=by
 rw[ord_f,hn,nan_ninf,q6m];simp only[Bool.or_self,Bool.false_eq_true,if_false,q2f];have hi:0<infR:=by decide
 unfold key;cases neg b
 ·have:=q2w (a:=(rung b:Int)) (b:= -(infR:Int)) (by omega);simp [this]
 ·by_cases h:rung b=infR
  ·simp [h]
  ·have:=q2w (a:= -(rung b:Int)) (b:= -(infR:Int)) (by omega);simp [h,this]
theorem gt_inf (b:Nat) (hn:nan b=false):(FloatKind.f64.format.order infR b==some .gt)= !(!neg b&&decide (rung b=infR)):=by
 have hr:=nan_false hn;rw[ord_f,hn,nan_inf,q7P];simp only[Bool.or_self,Bool.false_eq_true,if_false,q2f];have hi:0<infR:=by decide
 unfold key;cases neg b
 ·by_cases h:rung b=infR
  ·simp [h]
  ·have:=q61 (a:=(infR:Int)) (b:=(rung b:Int)) (by omega);simp [h,this]
 ·have:=q61 (a:=(infR:Int)) (b:= -(rung b:Int)) (by omega);simp [this]
theorem gt_ninf (b:Nat) (hn:nan b=false):(FloatKind.f64.format.order ninf b==some .gt)=false:=by
 have hr:=nan_false hn;rw[ord_f,hn,nan_ninf,q6m];simp only[Bool.or_self,Bool.false_eq_true,if_false,q2f];unfold key;cases neg b
 ·have:=cmp_ne_gt (a:= -(infR:Int)) (b:=(rung b:Int)) (by omega);simp [this]
 ·have:=cmp_ne_gt (a:= -(infR:Int)) (b:= -(rung b:Int)) (by omega);simp [this]
/-- The word of a sign and a rung. -/
def wrd (s:Bool) (r:Nat):Nat:=if s then r+2^63 else r
theorem word_eq (s:Bool) (r:Nat):Ieee.double.word s r=wrd s r:=by
 unfold Ieee.Format.word wrd;rw[q0U];cases s<;>simp [Nat.add_comm]
theorem wrd_rung (s:Bool) (r:Nat) (h:r<2^63):rung (wrd s r)=r:=by unfold rung wrd;split<;>omega
theorem wrd_neg (s:Bool) (r:Nat) (h:r<2^63):neg (wrd s r)=s:=by
 unfold neg wrd;cases s
 ·have:r/2^63=0:=by omega
  simp [this]
 ·have:(r+2^63)/2^63=1:=by omega
  simp [this]
theorem wrd_lt (s:Bool) (r:Nat) (h:r<2^63):wrd s r<2^64:=by unfold wrd;split<;>omega
/-- A word's exponent and fraction, by its rung. -/
theorem rung_fields (b:Nat):rung b=b/2^52%2^11*2^52+b%2^52:=by unfold rung;omega
theorem q2Q (s:Bool) (e f:Nat) (he:e<2048) (hf:f<2^52):wrd s (e*2^52+f)/2^52%2^11=e∧wrd s (e*2^52+f)%2^52=f:=by
 unfold wrd;split<;>omega
theorem q39 (s:Bool) (e f:Nat) (h1:1≤e) (h2:e<2047) (hf:f<2^52):
  Ieee.double.read (wrd s (e*2^52+f))= .number s (2^52+f) ((e:Int)-1075):=by
 have hr:=wrd_rung s (e*2^52+f) (by omega);have hn:=wrd_neg s (e*2^52+f) (by omega);generalize wrd s (e*2^52+f)=b at *;unfold Ieee.Format.read;rw[q0U,binade_eq,leastPlace_eq,infRung_eq];show (if rung b<2^52 then _ else if rung b<2047*2^52 then Ieee.Datum.number (neg b) (2^52+rung b%2^52) (-1074+((rung b/2^52-1:Nat):Int)) else _)=_;rw[if_neg (by omega),if_pos (by omega),hn,hr]
 congr 1
 ·omega
 ·omega
theorem v_nor' (e f:Nat) (h1:1≤e) (hf:f<2^52):v (e*2^52+f)=(2^52+f)*2^(e-1):=by
 rw[v_nor (by omega)]
 congr 2
 ·omega
 ·congr 1
  omega
theorem q7s (s:Bool) (r:Nat) (hr:r<2^63):wrd s r=(if s then 2^63 else 0)|||r:=by
 unfold wrd;cases s
 ·simp
 ·simp only[if_true];rw[nat_join 63 (2^63) r (by omega) hr];omega
theorem exp_field (s:Bool) (e t:Nat) (he:e<2048) (ht:t<2^52):
  bits BinOp.and IntKind.u64 ((wrd s (e*2^52+t):Int)/4503599627370496) 2047=(e:Int):=by
 have hw:=wrd_lt s (e*2^52+t) (by omega);have hf:=(q2Q s e t he ht).1;rw[show ((wrd s (e*2^52+t):Int)/4503599627370496)=((wrd s (e*2^52+t)/2^52:Nat):Int) from by omega];have:=and_mask (wrd s (e*2^52+t)/2^52) 11 (by omega) (by omega);rw[hf] at this;exact this
theorem clear_exp (s:Bool) (e t:Nat) (he:e<2048) (ht:t<2^52):
  bits BinOp.andNot IntKind.u64 (wrd s (e*2^52+t):Int) 9218868437227405312=(wrd s t:Int):=by
 have hw:=wrd_lt s (e*2^52+t) (by omega);have hf:=(q2Q s e t he ht).2;have hn:=wrd_neg s (e*2^52+t) (by omega);rw[show (9218868437227405312:Int)=((2047*2^52:Nat):Int) from by omega,u64_andNot_nat _ _ (by omega) (by omega)];have hc:(18446744073709551615-2047*2^52:Nat)=2^63|||(2^52-1):=by
  rw[nat_join 63 (2^63) (2^52-1) (by omega) (by omega)]
 rw[hc,Nat.and_or_distrib_left,nat_bit,Nat.and_two_pow_sub_one_eq_mod,hf,q7s s t (by omega)];unfold neg at hn;cases s
 ·have:wrd false (e*2^52+t)/2^63%2=0:=by simp at hn;omega
  rw[this];simp
 ·have:wrd true (e*2^52+t)/2^63%2=1:=by simpa using hn
  rw[this];simp
theorem c1:(4607182418800017408:Nat)=wrd false (1023*2^52+0):=by unfold wrd;rw[if_neg (by simp)]
theorem cm53:(4368491638549381120:Nat)=wrd false (970*2^52+0):=by unfold wrd;rw[if_neg (by simp)]
theorem mul_one (s:Bool) (e t:Nat) (h1:1≤e) (h2:e<2047) (ht:t<2^52):
  floatBits .mul .f64 4607182418800017408 (wrd s (e*2^52+t))=some (wrd s (e*2^52+t)):=by
 show Ieee.double.mul 4607182418800017408 (wrd s (e*2^52+t))=_;unfold Ieee.Format.mul;rw[c1,q39 s e t h1 h2 ht,q39 false 1023 0 (by omega) (by omega) (by omega)];have hx:(false^^s)=s:=by cases s<;>rfl
 simp only[Ieee.Datum.product,Option.map_some,Ieee.Format.write,hx];rw[q2D s _ _ (e*2^52+t) (by unfold infR;omega) (Nat.mul_ne_zero (by omega) (by omega)) ?_,word_eq];rw[v_nor' _ _ h1 ht,Nat.add_zero];by_cases h:53≤e
 ·obtain⟨a,ha⟩:∃ a,e=a+53:=⟨e-53,by omega⟩;subst ha;have e1:((((1023:Nat):Int)-1075)+(((a+53:Nat):Int)-1075)+1074).toNat=a:=by omega
  have e2:(-1074-((((1023:Nat):Int)-1075)+(((a+53:Nat):Int)-1075))).toNat=0:=by omega
  rw[e1,e2,Nat.pow_zero,Nat.mul_one,Nat.mul_comm (2^52),Nat.mul_assoc,← Nat.pow_add]
  congr 2
  omega
 ·obtain⟨a,ha⟩:∃ a,53=e+a:=⟨53-e,by omega⟩;have e1:((((1023:Nat):Int)-1075)+((e:Int)-1075)+1074).toNat=0:=by omega
  have e2:(-1074-((((1023:Nat):Int)-1075)+((e:Int)-1075))).toNat=a:=by omega
  rw[e1,e2,Nat.pow_zero,Nat.mul_one,Nat.mul_comm (2^52),Nat.mul_assoc,← Nat.pow_add,show e-1+a=52 from by omega]
theorem mul_den (s:Bool) (e t r:Nat) (h1:1≤e) (h2:e≤53) (ht:t<2^52) (hr:r<2^52) (h:2^52+t=r*2^(54-e)):
  floatBits .mul .f64 4368491638549381120 (wrd s (e*2^52+t))=some (wrd s r):=by
 show Ieee.double.mul 4368491638549381120 (wrd s (e*2^52+t))=_;unfold Ieee.Format.mul;rw[cm53,q39 s e t h1 (by omega) ht,q39 false 970 0 (by omega) (by omega) (by omega)];have hx:(false^^s)=s:=by cases s<;>rfl
 simp only[Ieee.Datum.product,Option.map_some,Ieee.Format.write,hx];rw[q2D s _ _ r (by unfold infR;omega) (Nat.mul_ne_zero (by omega) (by omega)) ?_,word_eq];have e1:((((970:Nat):Int)-1075)+((e:Int)-1075)+1074).toNat=0:=by omega
 have e2:(-1074-((((970:Nat):Int)-1075)+((e:Int)-1075))).toNat=54-e+52:=by omega
 rw[e1,e2,v_sub hr,Nat.pow_zero,Nat.mul_one,h,Nat.pow_add,Nat.add_zero,Nat.mul_comm (2^52),Nat.mul_assoc]
theorem exp_field_i64 (s:Bool) (e t:Nat) (he:e<2048) (ht:t<2^52):
  bits BinOp.and IntKind.i64 ((wrd s (e*2^52+t):Int)/4503599627370496) 2047=(e:Int):=by
 have hw:=wrd_lt s (e*2^52+t) (by omega);have hf:=(q2Q s e t he ht).1;rw[show ((wrd s (e*2^52+t):Int)/4503599627370496)=((wrd s (e*2^52+t)/2^52:Nat):Int) from by omega];have:=and_mask_i64 (wrd s (e*2^52+t)/2^52) 11 (by omega) (by omega);rw[hf] at this;exact this
theorem put_exp (s:Bool) (e t:Nat) (he:e<2047) (ht:t<2^52):
  bits BinOp.or IntKind.u64 (wrd s t:Int) ((e:Int)*4503599627370496)=(wrd s (e*2^52+t):Int):=by
 have hw:=wrd_lt s t (by omega);rw[show ((e:Int)*4503599627370496)=((e*2^52:Nat):Int) from by omega,u64_or_nat _ _ (by omega) (by omega),q7s s t (by omega),q7s s _ (by omega),
  ← nat_join 52 (e*2^52) t (by simp) ht,Nat.or_assoc,Nat.or_comm t]
theorem lt_zero (b:Nat) (hn:nan b=false):(FloatKind.f64.format.order b 0==some .lt)=(neg b&&decide (rung b≠0)):=by
 rw[ord_f,hn,show nan 0=false from by decide,show key 0=0 from by decide];simp only[Bool.or_self,Bool.false_eq_true,if_false,q2f];unfold key;cases neg b
 ·have:=q7f (a:=(rung b:Int)) (b:=0) (by omega);simp [this]
 ·by_cases h:rung b=0
  ·simp [h]
  ·have:=q9u (a:= -(rung b:Int)) (b:=0) (by omega);simp [h,this]
end Go.Proofs.YtbfjihniphldaaaGreatDoor.FT
