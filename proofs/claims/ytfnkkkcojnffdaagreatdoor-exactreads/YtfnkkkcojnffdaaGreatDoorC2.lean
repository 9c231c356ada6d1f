/- What is proved here: plain facts on floats as words of 64 bits (no program): how two words compare, what their magnitudes are, and which word an exactly representable number is written as.
What is proved here: plain facts on the lowest bit of a number and on the table by which zeros are counted (no program).
What is proved here: plain facts on the tests of package math on words (no program).
What is proved here: plain facts on products of words by powers of two (no program).
What is proved here: plain facts on products by which Ldexp is made (no program). -/
import Derived.Test.YtfnkkkcojnffdaaGreatDoorC1
import Ieee.Arith
import Derived.Laws.FloatArith
import Derived.Laws.BitsAllLaws
import Derived.IntWalk
namespace Go.Proofs.YtfnkkkcojnffdaaGreatDoor.FT
/-- The magnitude of a rung, in units of 2 to the power of -1074. -/
def v (r:Nat):Nat:=if r<2^52 then r else (2^52+r%2^52)*2^(r/2^52-1)
def neg (b:Nat):Bool:=b/2^63%2==1
def rung (b:Nat):Nat:=b%2^63
def infR:Nat:=2047*2^52
def nan (b:Nat):Bool:=decide (infR<rung b)
/-- Keys: they stand as floats do (both zeros at 0). -/
def key (b:Nat):Int:=if neg b then -(rung b:Int) else rung b
theorem eS:Ieee.double.signWeight=2^63:=rfl
theorem binade_eq:Ieee.double.binade=2^52:=rfl
theorem infRung_eq:Ieee.double.infRung=2047*2^52:=rfl
theorem leastPlace_eq:Ieee.double.leastPlace= -1074:=by decide
theorem lY {r:Nat} (h:r<2^52):v r=r:=by unfold v;rw[if_pos h]
theorem jM {r:Nat} (h:¬ r<2^52):v r=(2^52+r%2^52)*2^(r/2^52-1):=by unfold v;rw[if_neg h]
theorem v_lt {r s:Nat} (h:r<s):v r<v s:=by
 by_cases B:r<2^52
 ·rw[lY B];by_cases A:s<2^52
  ·rw[lY A];exact h
  ·rw[jM A];have h1:0<2^(s/2^52-1):=ae _;have h2:(2^52+s%2^52)*1≤(2^52+s%2^52)*2^(s/2^52-1):=au _ h1;omega
 ·have A:¬ s<2^52:=by omega
  rw[jM B,jM A];by_cases C:r/2^52=s/2^52
  ·rw[C];exact aD dT (ae _)
  ·have D:r/2^52<s/2^52:=by omega
   have h1:(2^52+r%2^52)*2^(r/2^52-1)<2^53*2^(r/2^52-1):=
    aD dT (ae _)
   have h2:2^53*2^(r/2^52-1)≤2^52*2^(s/2^52-1):=by
    rw[← ah,← ah];exact ak dT dT
   have h3:2^52*2^(s/2^52-1)≤(2^52+s%2^52)*2^(s/2^52-1):=aq _ dT;omega
theorem q1k {r s:Nat} (h:v r=v s):r=s:=by
 rcases Nat.lt_trichotomy r s with h1|h1|h1
 ·have:=v_lt h1;omega
 ·exact h1
 ·have:=v_lt h1;omega
theorem v_le {r s:Nat}:v r≤v s↔r≤s:=by
 constructor
 ·intro h;rcases bg s r with h1|h1
  ·have:=v_lt h1;omega
  ·exact h1
 ·intro h;rcases Nat.eq_or_lt_of_le h with h1|h1
  ·rw[h1];exact ay _
  ·exact cy (v_lt h1)
/-- What a word that is a number reads as. -/
theorem gG {b:Nat} (h:rung b<infR):
  ∃ m p,Ieee.double.read b= .number (neg b) m p∧ -1074≤p∧m*2^(p+1074).toNat=v (rung b)∧(m=0↔rung b=0):=by
 unfold infR at h;by_cases A:rung b<2^52
 ·refine⟨rung b,-1074,?_,by omega,by rw[lY A];simp,Iff.rfl⟩;unfold Ieee.Format.read;rw[eS,binade_eq,leastPlace_eq];show (if rung b<2^52 then _ else _)=_;rw[if_pos A];rfl
 ·refine⟨2^52+rung b%2^52,-1074+(rung b/2^52-1:Nat),?_,by omega,?_,by constructor<;>intro B<;>omega⟩
  ·unfold Ieee.Format.read;rw[eS,binade_eq,leastPlace_eq,infRung_eq];show (if rung b<2^52 then _ else if rung b<2047*2^52 then _ else _)=_;rw[if_neg A,if_pos h];rfl
  ·rw[jM A]
   congr 2
   omega
theorem jA {b:Nat} (h:rung b=infR):Ieee.double.read b= .infinity (neg b):=by
 unfold infR at h;unfold Ieee.Format.read;rw[eS,binade_eq,leastPlace_eq,infRung_eq];show (if rung b<2^52 then _ else if rung b<2047*2^52 then _ else if rung b=2047*2^52 then _ else _)=_;rw[if_neg dT,if_neg dT,if_pos h];rfl
theorem lM {b:Nat} (h:infR<rung b):Ieee.double.read b= .nan (neg b) (rung b-infR):=by
 unfold infR at *;unfold Ieee.Format.read;rw[eS,binade_eq,leastPlace_eq,infRung_eq];show (if rung b<2^52 then _ else if rung b<2047*2^52 then _ else if rung b=2047*2^52 then _ else _)=_;rw[if_neg dT,if_neg dT,if_neg dT];rfl
theorem kg (s:Bool) (m k:Nat):Ieee.signed s m k=(if s then -1 else 1)*((m*2^k:Nat):Int):=by
 unfold Ieee.signed;rw[dA];cases s<;>simp
theorem jQ {x y:Int} {k:Nat} (B:0<k):compare (x*k) (y*k)=compare x y:=by
 have A:(0:Int)<k:=by omega
 rcases Int.lt_trichotomy x y with h|h|h
 ·rw[Int.compare_eq_lt.2 h,Int.compare_eq_lt.2 (Int.mul_lt_mul_of_pos_right h A)]
 ·rw[h];simp
 ·rw[Int.compare_eq_gt.2 h,Int.compare_eq_gt.2 (Int.mul_lt_mul_of_pos_right h A)]
def sv (s:Bool) (r:Nat):Int:=(if s then -1 else 1)*(v r:Int)
theorem mi (s t:Bool) (a c:Nat):
  compare (sv s a) (sv t c)=compare (if s then -(a:Int) else a) (if t then -(c:Int) else c):=by
 have A:v 0=0:=rfl;have F:v 0≤v a:=v_le.2 (bo _);have I:v 0≤v c:=v_le.2 (bo _);have B:v a<v c↔a<c:=by
  constructor
  ·intro h;rcases bg a c with h1|h1
   ·exact h1
   ·have:=v_le.2 h1;omega
  ·exact v_lt
 have C:v c<v a↔c<a:=by
  constructor
  ·intro h;rcases bg c a with h1|h1
   ·exact h1
   ·have:=v_le.2 h1;omega
  ·exact v_lt
 have D:v a=0↔a=0:=⟨fun h=>q1k (h.trans A.symm),fun h=>by rw[h,A]⟩;have E:v c=0↔c=0:=⟨fun h=>q1k (h.trans A.symm),fun h=>by rw[h,A]⟩;unfold sv;cases s<;>cases t<;>simp only[if_true,if_false,aE,Int.one_mul,Int.neg_mul]<;>
  (simp only[compare,compareOfLessAndEq];repeat' split)<;>first|rfl|omega
/-- HOW TWO WORDS COMPARE. -/
theorem ql (a b:Nat):
  Ieee.double.order a b=if nan a||nan b then none else some (compare (key a) (key b)):=by
 unfold Ieee.Format.order;by_cases I:infR<rung a
 ·rw[lM I];have:nan a=true:=by simp [nan,I]
  simp [this,Ieee.Datum.order]
 by_cases hb:infR<rung b
 ·rw[lM hb];have E:nan b=true:=by simp [nan,hb]
  cases Ieee.double.read a<;>simp [E,Ieee.Datum.order]
 have na:nan a=false:=by simp [nan];omega
 have nb:nan b=false:=by simp [nan];omega
 simp only[na,nb,Bool.or_self,aE,if_false];unfold key;by_cases F:rung a=infR
 ·rw[jA F];by_cases B:rung b=infR
  ·rw[jA B];simp only[Ieee.Datum.order,F,B];cases neg a<;>cases neg b<;>rfl
  ·have A:rung b<infR:=by omega
   obtain⟨m,p,e,-,-,-⟩:=gG A;rw[e,F];simp only[Ieee.Datum.order]
   congr 1
   cases neg a<;>cases neg b<;>simp only[if_true,if_false,aE]<;>symm<;>
    first|(rw[Int.compare_eq_gt];omega)|(rw[Int.compare_eq_lt];omega)
 ·have C:rung a<infR:=by omega
  obtain⟨m,p,e,L,K,-⟩:=gG C;rw[e];by_cases B:rung b=infR
  ·rw[jA B,B];simp only[Ieee.Datum.order]
   congr 1
   cases neg a<;>cases neg b<;>simp only[if_true,if_false,aE]<;>symm<;>
    first|(rw[Int.compare_eq_gt];omega)|(rw[Int.compare_eq_lt];omega)
  ·have A:rung b<infR:=by omega
   obtain⟨n,q,J,M,E,-⟩:=gG A;rw[J];simp only[Ieee.Datum.order]
   congr 1
   rw[← mi];have D: -1074≤min p q:=by omega
   rw[← jQ (k:=2^(min p q+1074).toNat) (ae _)];have f1:Ieee.signed (neg a) m (p-min p q).toNat*((2^(min p q+1074).toNat:Nat):Int)=sv (neg a) (rung a):=by
    rw[kg,Int.mul_assoc,← aV,aj,← ah];unfold sv;rw[← K]
    congr 4
    omega
   have f2:Ieee.signed (neg b) n (q-min p q).toNat*((2^(min p q+1074).toNat:Nat):Int)=sv (neg b) (rung b):=by
    rw[kg,Int.mul_assoc,← aV,aj,← ah];unfold sv;rw[← E]
    congr 4
    omega
   rw[f1,f2]
theorem fK {x k:Nat} (B:x≠0):(x*2^k).log2=x.log2+k:=by
 have E:0<2^k:=ae k;have A:x*2^k≠0:=ct B dT;have h1:=cB B;have h2:=cg (n:=x);have h3:=cB A;have J:=cg (n:=x*2^k);have F:2^(x.log2+k)≤x*2^k:=by rw[ah];exact aq _ h1
 have a2:x*2^k<2^(x.log2+1+k):=by rw[ah];exact aD h2 E
 have C:2^(x.log2+k)<2^((x*2^k).log2+1):=by omega
 have D:2^(x*2^k).log2<2^(x.log2+1+k):=by omega
 have c1:=(aY (by omega:1<2)).1 C;have I:=(aY (by omega:1<2)).1 D;omega
theorem oq (neg:Bool) (x drop:Nat) (E:x≠0):Ieee.Toward.even.cut neg (x*2^drop) drop=x:=by
 unfold Ieee.Toward.cut;rw[fK E];have C:min drop (x.log2+drop+2)=drop:=by omega
 have D:0<2^drop:=ae _;simp only[C,dA,aW,cD _ D,dQ];have A:decide (2^drop<2*0)=false:=by simp
 have B:(2^drop==2*0)=false:=by simp
 rw[A,B];simp
theorem cut_zero (neg:Bool) (x:Nat):Ieee.Toward.even.cut neg x 0=x:=by
 unfold Ieee.Toward.cut;simp [Nat.mod_one]
theorem mB {r:Nat} (h:¬ r<2^52):(v r).log2=51+r/2^52:=by
 rw[jM h,fK dT];have:(2^52+r%2^52).log2=52:=(cV dT).2 ⟨by omega,by omega⟩;rw[this];omega
theorem mC {r:Nat} (h:r<2^52) (A:r≠0):(v r).log2<52:=by
 rw[lY h];exact(cA A).2 h
/-- THE WORD OF A NUMBER THAT THE FORMAT HAS. -/
theorem jS (s:Bool) (m:Nat) (p:Int) (r:Nat) (X:r<infR) (L:m≠0)
  (h:m*2^(p+1074).toNat=v r*2^(-1074-p).toNat):Ieee.double.nearest s m p=Ieee.double.word s r:=by
 unfold infR at X;have B:v r≠0:=by
  intro J;rw[J,bJ] at h;rcases Nat.mul_eq_zero.1 h with h|h
  ·exact L h
  ·have:=ae (p+1074).toNat;omega
 have D:r≠0:=by intro J;rw[J] at B;exact B rfl
 have Y:m.log2+(p+1074).toNat=(v r).log2+(-1074-p).toNat:=by
  rw[← fK L,← fK B,h]
 unfold Ieee.Format.nearest;rw[if_neg L,leastPlace_eq,infRung_eq,binade_eq];show Ieee.Format.word _ s (min ((max (p+(m.log2:Int)-(52:Nat)) (-1074)- -1074).toNat*2^52+Ieee.Toward.even.cut s (m<<<(p-max (p+(m.log2:Int)-(52:Nat)) (-1074)).toNat) (max (p+(m.log2:Int)-(52:Nat)) (-1074)-p).toNat) (2047*2^52))=_
 -- the place of the last digit
 have key:∀ (last:Int) (kept:Nat),max (p+(m.log2:Int)-(52:Nat)) (-1074)=last→ -1074≤last→kept≠0→v r=kept*2^(last+1074).toNat→
   (last+1074).toNat*2^52+kept=r→Ieee.double.word s (min ((max (p+(m.log2:Int)-(52:Nat)) (-1074)- -1074).toNat*2^52+Ieee.Toward.even.cut s (m<<<(p-max (p+(m.log2:Int)-(52:Nat)) (-1074)).toNat) (max (p+(m.log2:Int)-(52:Nat)) (-1074)-p).toNat) (2047*2^52))=Ieee.double.word s r:=by
  intro last kept A R K hv E;rw[A];have hcut:Ieee.Toward.even.cut s (m<<<(p-last).toNat) (last-p).toNat=kept:=by
   rw[hv] at h;rcases Int.le_total last p with hle|hle
   ·have e0:(last-p).toNat=0:=by omega
    have N:(p+1074).toNat=(p-last).toNat+(last+1074).toNat:=by omega
    have C:(-1074-p).toNat=0:=by omega
    rw[e0,cut_zero,dA];rw[N,C,bW,bw,ah,← aj] at h;exact dc (ae _) h
   ·have e0:(p-last).toNat=0:=by omega
    rw[e0,Nat.shiftLeft_zero];have M:m=kept*2^(last-p).toNat:=by
     rcases Int.le_total (-1074) p with W|W
     ·have C:(-1074-p).toNat=0:=by omega
      have I:(last+1074).toNat=(last-p).toNat+(p+1074).toNat:=by omega
      rw[C,I,bW,bw,ah,← aj] at h;exact dc (ae _) h
     ·have C:(p+1074).toNat=0:=by omega
      have I:(last-p).toNat=(last+1074).toNat+(-1074-p).toNat:=by omega
      rw[C,bW,bw] at h;rw[h,I,ah,aj]
    rw[M];exact oq _ _ _ K
  rw[hcut];have O:(last- -1074).toNat=(last+1074).toNat:=by omega
  rw[O,E,bE dT]
 by_cases F:r<2^52
 ·have U:=mC F D;refine key (-1074) r dT dT D (by rw[lY F];simp) eO
 ·have S:=mB F;refine key ((r/2^52:Nat)-1-1074) (2^52+r%2^52) dT dT dT ?_ ?_
  ·rw[jM F]
   congr 2
   omega
  ·have:(((r/2^52:Nat):Int)-1-1074+1074).toNat=r/2^52-1:=by omega
   rw[this];omega
/-! Bits of whole numbers, in the walk's spelling. -/
theorem ipow (k:Nat):((2:Int)^k)=((2^k:Nat):Int):=by simp
theorem and_mask (x F:Nat) (B:x<2^64) (A:F≤63):bits .and .u64 (x:Int) (2^F-1)=((x%2^F:Nat):Int):=by
 have C:1≤2^F:=ae F;have D:2^F≤2^63:=ak dT A;rw[ipow,show (((2^F:Nat):Int)-1)=((2^F-1:Nat):Int) from by omega,u64_and_nat x _ B dT,Nat.and_two_pow_sub_one_eq_mod]
theorem or_sign (b:Nat) (hb:b<2^63):bits .or .u64 (b:Int) 9223372036854775808=((b+2^63:Nat):Int):=by
 rw[show (9223372036854775808:Int)=((2^63:Nat):Int) from rfl,u64_or_nat b _ dT dT,dO,nat_join 63 (2^63) b dT hb,bt]
theorem odd_part:∀ x:Nat,x≠0→∃ j k,x=(2*j+1)*2^k:=by
 intro x
 induction x using Nat.strongRecOn with
 |ind x A=>
  intro h;rcases Nat.mod_two_eq_zero_or_one x with h2|h2
  ·obtain⟨j,k,e⟩:=A (x/2) dT dT;refine⟨j,k+1,?_⟩;rw[bF,← aj,← e];omega
  ·exact⟨x/2,0,by simp;omega⟩
theorem tz_lt {j k:Nat} (h:(2*j+1)*2^k<2^64):k<64:=by
 rcases bg k 64 with h1|h1
 ·exact h1
 ·have h2:2^64≤2^k:=ak dT h1;have h3:1*2^k≤(2*j+1)*2^k:=aq _ dT;omega
theorem q0E (j k:Nat) (h:(2*j+1)*2^k<2^64):
  (2*j+1)*2^k&&&(2^64-(2*j+1)*2^k)=2^k:=by
 have F:=tz_lt h;have I:0<2^k:=ae k;have e:(2*j+1)*2^k=(2*j*2^k+(2^k-1))+1:=by rw[aH];omega
 apply Nat.eq_of_testBit_eq;intro i;rw[Nat.testBit_and];have A:2^64-(2*j+1)*2^k=2^64-(2*j*2^k+(2^k-1)+1):=by rw[← e]
 rw[A,Nat.testBit_two_pow_sub_succ dT,Nat.testBit_mul_two_pow,Nat.testBit_two_pow];by_cases hi:i<k
 ·have h1:¬ k≤i:=by omega
  have h2:¬ k=i:=by omega
  simp [h1,h2]
 ·have h1:k≤i:=by omega
  have B:2*j*2^k+(2^k-1)=2^k*(2*j)+(2^k-1):=by rw[aF]
  rw[B,Nat.testBit_two_pow_mul_add _ dT,if_neg hi];by_cases h2:k=i
  ·subst h2;have:(2*j+1).testBit 0=true:=by simp [Nat.testBit_zero]
   have h3:(2*j).testBit 0=false:=by simp [Nat.testBit_zero]
   simp [this,h3,F]
  ·obtain⟨d,E⟩:∃ d,i-k=d+1:=⟨i-k-1,by omega⟩;rw[E];have C:(2*j+1).testBit (d+1)=j.testBit d:=by rw[Nat.testBit_succ];congr 1;omega
   have D:(2*j).testBit (d+1)=j.testBit d:=by rw[Nat.testBit_succ];congr 1;omega
   rw[C,D];cases j.testBit d<;>simp [h2]
def tab:List Nat:=[0,1,56,2,57,49,28,3,61,58,42,50,38,29,17,4,62,47,59,36,45,43,51,22,53,39,33,30,24,18,12,5,63,55,48,27,60,41,37,16,46,35,44,21,52,32,23,11,54,26,40,15,34,20,31,10,25,14,19,9,13,8,7,6]
def ix (k:Nat):Nat:=2^k*285870213051353865%2^64/2^58
theorem nS:∀ k:Fin 64,ix k.val<64∧tab.getD (ix k.val) 0=k.val:=by decide+kernel
theorem ix_lt {k:Nat} (h:k<64):ix k<64:=(nS ⟨k,h⟩).1
theorem tab_ix {k:Nat} (h:k<64):tab.getD (ix k) 0=k:=(nS ⟨k,h⟩).2
/-- The walk's own term for the place in the table. -/
theorem place (x j k:Nat) (e:x=(2*j+1)*2^k) (h:x<2^64):
  IntKind.u64.wrap (bits BinOp.and IntKind.u64 (x:Int) (IntKind.u64.wrap (-(x:Int)))*285870213051353865)/288230376151711744=(ix k:Int):=by
 have A:x≠0:=by
  rw[e];exact ct dT (by have:=ae k;omega)
 have B:IntKind.u64.wrap (-(x:Int))=((2^64-x:Nat):Int):=by
  rw[IntKind.wrap_u64];omega
 rw[B,u64_and_nat x _ h dT];have C:x&&&(2^64-x)=2^k:=by rw[e] at h ⊢;exact q0E j k h
 rw[C,IntKind.wrap_u64];unfold ix;generalize 2^k=q;omega
theorem q21 (a b:Nat):FloatKind.f64.format.order a b=if nan a||nan b then none else some (compare (key a) (key b)):=ql a b
theorem neq_self (b:Nat):(FloatKind.f64.format.order b b != some .eq)=nan b:=by
 rw[q21];cases h:nan b<;>simp
theorem neg_cases (b:Nat) (h:b<2^64):(neg b=true∧b=rung b+2^63)∨(neg b=false∧b=rung b):=by
 unfold neg rung;rcases bg b (2^63) with h1|h1
 ·right;have:b/2^63=0:=by omega
  rw[this];exact⟨rfl,by omega⟩
 ·left;have:b/2^63=1:=by omega
  rw[this];exact⟨rfl,by omega⟩
theorem rung_lt (b:Nat):rung b<2^63:=aU _ dT
/-- The word of a sign and a rung. -/
def wrd (s:Bool) (r:Nat):Nat:=if s then r+2^63 else r
theorem word_eq (s:Bool) (r:Nat):Ieee.double.word s r=wrd s r:=by
 unfold Ieee.Format.word wrd;rw[eS];cases s<;>simp [Nat.add_comm]
theorem q04 (s:Bool) (r:Nat) (h:r<2^63):rung (wrd s r)=r:=by unfold rung wrd;split<;>omega
theorem q0Z (s:Bool) (r:Nat) (h:r<2^63):neg (wrd s r)=s:=by
 unfold neg wrd;cases s
 ·have:r/2^63=0:=by omega
  simp [this]
 ·have:(r+2^63)/2^63=1:=by omega
  simp [this]
theorem lN (s:Bool) (e f:Nat) (h1:1≤e) (h2:e<2047) (C:f<2^52):
  Ieee.double.read (wrd s (e*2^52+f))= .number s (2^52+f) ((e:Int)-1075):=by
 have B:=q04 s (e*2^52+f) dT;have A:=q0Z s (e*2^52+f) dT;generalize wrd s (e*2^52+f)=b at *;unfold Ieee.Format.read;rw[eS,binade_eq,leastPlace_eq,infRung_eq];show (if rung b<2^52 then _ else if rung b<2047*2^52 then Ieee.Datum.number (neg b) (2^52+rung b%2^52) (-1074+((rung b/2^52-1:Nat):Int)) else _)=_;rw[if_neg dT,if_pos dT,A,B]
 congr 1
 ·omega
 ·omega
theorem q1V (e f:Nat) (h1:1≤e) (A:f<2^52):v (e*2^52+f)=(2^52+f)*2^(e-1):=by
 rw[jM dT]
 congr 2
 ·omega
 ·congr 1
  omega
theorem c1:(4607182418800017408:Nat)=wrd false (1023*2^52+0):=by unfold wrd;rw[if_neg eO]
theorem mul_one (s:Bool) (e t:Nat) (h1:1≤e) (h2:e<2047) (D:t<2^52):
  floatBits .mul .f64 4607182418800017408 (wrd s (e*2^52+t))=some (wrd s (e*2^52+t)):=by
 show Ieee.double.mul 4607182418800017408 (wrd s (e*2^52+t))=_;unfold Ieee.Format.mul;rw[c1,lN s e t h1 h2 D,lN false 1023 0 dT dT dT];have E:(false^^s)=s:=by cases s<;>rfl
 simp only[Ieee.Datum.product,cq,Ieee.Format.write,E];rw[jS s _ _ (e*2^52+t) (by unfold infR;omega) (ct dT dT) ?_,word_eq];rw[q1V _ _ h1 D,aP];by_cases h:53≤e
 ·obtain⟨a,C⟩:∃ a,e=a+53:=⟨e-53,by omega⟩;subst C;have A:((((1023:Nat):Int)-1075)+(((a+53:Nat):Int)-1075)+1074).toNat=a:=by omega
  have B:(-1074-((((1023:Nat):Int)-1075)+(((a+53:Nat):Int)-1075))).toNat=0:=by omega
  rw[A,B,bW,bw,aF (2^52),aj,← ah]
  congr 2
  omega
 ·obtain⟨a,C⟩:∃ a,53=e+a:=⟨53-e,by omega⟩;have A:((((1023:Nat):Int)-1075)+((e:Int)-1075)+1074).toNat=0:=by omega
  have B:(-1074-((((1023:Nat):Int)-1075)+((e:Int)-1075))).toNat=a:=by omega
  rw[A,B,bW,bw,aF (2^52),aj,← ah,show e-1+a=52 from by omega]
end Go.Proofs.YtfnkkkcojnffdaaGreatDoor.FT
