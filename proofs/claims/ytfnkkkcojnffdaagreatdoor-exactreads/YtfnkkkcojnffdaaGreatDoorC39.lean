/- What is proved here: the float nearest to a ratio, its arithmetic (no program).
What is proved here: contracts of the reference: Made, over this seat's translation.
What is proved here: contracts of the reference's ratios: SetFloat64, over this seat's translation. -/
import Derived.Test.YtfnkkkcojnffdaaGreatDoorC1
import Derived.Test.YtfnkkkcojnffdaaGreatDoorC38
import Derived.Test.YtfnkkkcojnffdaaGreatDoorC27
import Derived.OwnWalk
import Derived.Test.YtfnkkkcojnffdaaGreatDoorC17
namespace Go.Proofs.YtfnkkkcojnffdaaGreatDoor
open Go.RowKit
open BN
theorem jB (N D k:Nat) (A:0<k):fB (N*k) (D*k)=fB N D:=by
 unfold fB;rw[cf _ _ A,cG];have B:2*(N%D*k)=(2*(N%D))*k:=by rw[aj]
 rw[B]
 congr 1
 have h1:D*k<2*(N%D)*k↔D<2*(N%D):=Nat.mul_lt_mul_right A;have h2:2*(N%D)*k=D*k↔2*(N%D)=D:=Nat.mul_left_inj dT;simp only[h1,h2]
theorem kG {N D B A:Nat} (E:0<D) (C:0<A) (h:N*A=B*D):fB N D=fB B A:=by
 rw[← jB N D A C,h,← jB B A D E,aF A D]
theorem mR (x:Nat):fB x 1=x:=by
 unfold fB;rw[dD,Nat.mod_one,if_neg dT];rfl
theorem mQ (mag d:Nat) (B:1≤d):rnd mag d=fB mag (2^d):=by
 unfold rnd fB;have e:2^d=2*2^(d-1):=by
  obtain⟨k,rfl⟩:∃ k,d=k+1:=⟨d-1,by omega⟩;simp [Nat.pow_succ,Nat.mul_comm]
 congr 1
 generalize mag%2^d=r;generalize mag/2^d=q;rw[e];generalize 2^(d-1)=h;by_cases c1:h<r
 ·rw[if_pos (Or.inl c1),if_pos (Or.inl dT)]
 ·by_cases A:r=h∧q%2=1
  ·rw[if_pos (Or.inr A),if_pos (Or.inr ⟨by omega,A.2⟩)]
  ·rw[if_neg (by rintro(h|h);exact c1 h;exact A h),if_neg (by rintro(h|h);omega;exact A ⟨by omega,h.2⟩)]
theorem oP (mag:Nat) (n:Int) (B:mag<2^64):shV mag n=fB (mag*2^n.toNat) (2^(-n).toNat):=by
 unfold shV;by_cases A:0≤n
 ·rw[if_pos A,show (-n).toNat=0 from by omega,bW,mR]
 ·rw[if_neg A,show n.toNat=0 from by omega,bW,bw];by_cases h2:n< -64
  ·rw[if_pos h2];have h3:2^65≤2^(-n).toNat:=eM dT;generalize 2^(-n).toNat=D at *;unfold fB;rw[aN dT,aM dT,if_neg dT]
  ·rw[if_neg h2];exact mQ _ _ dT
/-- The power of two at or below A / B. -/
def expo (A B:Nat):Int:=if B*2^((blen A:Int)-blen B).toNat≤A*2^(-((blen A:Int)-blen B)).toNat then (blen A:Int)-blen B else (blen A:Int)-blen B-1
def fO (A B:Nat):Int:=max (expo A B-52) (-1074)
/-- The float nearest to A / B (its place among the floats from 0 on). -/
def flV (A B:Nat):Nat:=min ((fO A B+1074).toNat*2^52+qe A B (fO A B)) (2047*2^52)
/-- Powers below 0 away: K is great enough. -/
theorem jF {X Y:Nat} {p:Int} (K:Nat) (h: -(K:Int)≤p):∃ c,X*2^K=X*2^(-p).toNat*2^c∧Y*2^((K:Int)+p).toNat=Y*2^p.toNat*2^c:=by
 refine⟨K-(-p).toNat,?_,?_⟩
 ·rw[aj,← ah,show (-p).toNat+(K-(-p).toNat)=K from by omega]
 ·rw[aj,← ah,show p.toNat+(K-(-p).toNat)=((K:Int)+p).toNat from by omega]
theorem jD {X Y:Nat} {p:Int} (K:Nat) (h: -(K:Int)≤p):Y*2^p.toNat≤X*2^(-p).toNat↔Y*2^((K:Int)+p).toNat≤X*2^K:=by
 obtain⟨c,h1,h2⟩:=jF (X:=X) (Y:=Y) K h;rw[h1,h2];exact(Nat.mul_le_mul_right_iff (ae c)).symm
theorem jE {X Y:Nat} {p:Int} (K:Nat) (h: -(K:Int)≤p):X*2^(-p).toNat<Y*2^p.toNat↔X*2^K<Y*2^((K:Int)+p).toNat:=by
 obtain⟨c,h1,h2⟩:=jF (X:=X) (Y:=Y) K h;rw[h1,h2];exact(Nat.mul_lt_mul_right (ae c)).symm
theorem lR {X Y:Nat} {p:Int} (K:Nat) (h: -(K:Int)≤p):X*2^(-p).toNat=Y*2^p.toNat↔X*2^K=Y*2^((K:Int)+p).toNat:=by
 obtain⟨c,h1,h2⟩:=jF (X:=X) (Y:=Y) K h;rw[h1,h2];exact(Nat.mul_left_inj (Nat.ne_of_gt (ae c))).symm
/-- 2 ^ expo is at or below, ... -/
theorem nt {A B:Nat} (C:A≠0) (D:B≠0) (K:Nat) (E: -(K:Int)≤expo A B):B*2^((K:Int)+expo A B).toNat≤A*2^K:=by
 rw[← jD K E];unfold expo;split
 ·assumption
 ·obtain⟨F,a2,a3⟩:=ig C;obtain⟨I,J,L⟩:=ig D;generalize M:(blen A:Int)-blen B-1=d
  calc B*2^d.toNat≤2^blen B*2^d.toNat:=aq _ dT
   _=2^(blen B+d.toNat):=by rw[ah]
   _≤2^(blen A-1+(-d).toNat):=ak dT dT
   _=2^(blen A-1)*2^(-d).toNat:=by rw[ah]
   _≤A*2^(-d).toNat:=aq _ a2
/-- ... and 2 ^ (expo + 1) above. -/
theorem nu {A B:Nat} (D:A≠0) (E:B≠0) (K:Nat) (L: -(K:Int)≤expo A B):A*2^K<B*2^((K:Int)+(expo A B+1)).toNat:=by
 rw[← jE K dT];unfold expo;split
 ·obtain⟨F,a2,a3⟩:=ig D;obtain⟨I,C,J⟩:=ig E;generalize M:(blen A:Int)-blen B+1=d
  calc A*2^(-d).toNat<2^blen A*2^(-d).toNat:=aD a3 (ae _)
   _=2^(blen A+(-d).toNat):=by rw[ah]
   _≤2^(blen B-1+d.toNat):=ak dT dT
   _=2^(blen B-1)*2^d.toNat:=by rw[ah]
   _≤B*2^d.toNat:=aq _ C
 ·rename_i h
  rw[show (blen A:Int)-blen B-1+1=(blen A:Int)-blen B from by omega];exact Nat.lt_of_not_le h
theorem fN {a b:Nat} (h:2^a<2^b):a<b:=(aY (by omega:1<2)).1 h
theorem q0o {A B mag:Nat} {e:Int} (D:A≠0) (E:B≠0) (F:mag≠0) (h:A*2^(-e).toNat=mag*B*2^e.toNat):expo A B=e+mag.log2:=by
 have J:=cB F;have M:=cg (n:=mag);obtain⟨K,N⟩:∃ K:Nat,K=e.natAbs+(expo A B).natAbs+1:=⟨_,rfl⟩;have I:=(lR K dT).1 h;have h1:=nt D E K dT;have h2:=nu D E K dT;rw[I] at h1 h2;generalize expo A B=L at *;have C:0<B:=by omega
 have g1:B*2^((K:Int)+L).toNat<B*2^(mag.log2+1+((K:Int)+e).toNat):=by
  refine aG h1 ?_;rw[aF mag B,aj,ah];exact Nat.mul_lt_mul_of_pos_left (aD M (ae _)) C
 have g2:B*2^(mag.log2+((K:Int)+e).toNat)<B*2^((K:Int)+(L+1)).toNat:=by
  refine aG ?_ h2;rw[aF mag B,aj,ah];exact au _ (aq _ J)
 have O:=fN (cH g1);have R:=fN (cH g2);omega
/-- A / B in units of 2^p is mag * 2^e in units of 2^p. -/
theorem qf {A B mag:Nat} {e:Int} (p:Int) (F:B≠0) (h:A*2^(-e).toNat=mag*B*2^e.toNat):qe A B p=fB (mag*2^(e-p).toNat) (2^(-(e-p)).toNat):=by
 unfold qe upP loP;refine kG (bT dT (ae _)) (ae _) ?_;obtain⟨K,I⟩:∃ K:Nat,K=(-p).toNat+(-(e-p)).toNat+(-e).toNat:=⟨_,rfl⟩;have E:=(lR K dT).1 h;have C:A*2^(-p).toNat*2^(-(e-p)).toNat*2^(-e).toNat=A*2^K:=by
  rw[aj,aj,← ah,← ah];congr 2;omega
 have D:mag*2^(e-p).toNat*(B*2^p.toNat)*2^(-e).toNat=mag*B*2^((K:Int)+e).toNat:=by
  rw[show mag*2^(e-p).toNat*(B*2^p.toNat)=mag*B*(2^(e-p).toNat*2^p.toNat) from by ac_rfl,← ah,aj,← ah]
  congr 2;omega
 exact dc (ae (-e).toNat) (by rw[C,D,E])
/-- What 'nearest' of package bits gives is the float nearest to a ratio that is mag * 2^e. -/
theorem nv {A B mag:Nat} {e:Int} (M:A≠0) (I:B≠0) (D:mag≠0) (E:mag<2^64) (h:A*2^(-e).toNat=mag*B*2^e.toNat):fu 11 52 mag e=flV A B:=by
 have N:=q0o M I D h;have hle:=jv mag e;unfold flV;have J:=qf (fO A B) I h;rw[← oP mag _ E] at J;rw[J];unfold fO;rw[N];have F:=mG false mag e D E;unfold Ieee.Format.nearest at F;rw[if_neg D,FT.leastPlace_eq,FT.infRung_eq,FT.binade_eq,FT.word_eq] at F;have O:(max (e+(mag.log2:Int)-(52:Nat)) (-1074))=max (e+(mag.log2:Int)-52) (-1074):=rfl;have C:FT.wrd false (min ((max (e+(mag.log2:Int)-(52:Nat)) (-1074)- -1074).toNat*2^52+Ieee.Toward.even.cut false (mag<<<(e-max (e+(mag.log2:Int)-(52:Nat)) (-1074)).toNat) (max (e+(mag.log2:Int)-(52:Nat)) (-1074)-e).toNat) (2047*2^52))=FT.wrd false (fu 11 52 mag e):=F;rw[O] at C;generalize max (e+(mag.log2:Int)-52) (-1074)=last at *;have K:=nM false mag (e-last) D E;rw[show (-(e-last)).toNat=(last-e).toNat from by omega] at K;rw[← K,show (last- -1074).toNat=(last+1074).toNat from by omega] at C;have L:∀ x:Nat,FT.wrd false x=x:=fun x=>rfl;rw[L,L] at C;exact C.symm
theorem lG {v:Nat} {P:Int} (hv:v<2^53) (J: -1074≤P) (h:P= -1074∨2^52≤v):fu 11 52 v P=min ((P+1074).toNat*2^52+v) (2047*2^52):=by
 unfold fu;by_cases B:v=0
 ·subst B;have:P= -1074:=by omega
  subst this;rfl
 rw[if_neg B];have h2:(2:Int)^(11-1)=1024:=rfl;rw[h2];have D:shV v 0=v:=by unfold shV;simp
 have K:=cB B;have L:=cg (n:=v);by_cases I:2^52≤v
 ·have C:v.log2=52:=by
   have a:v.log2<53:=(cA B).2 hv;have b:¬ v.log2<52:=by rw[cA B];omega
   omega
  rw[C];by_cases A:(1024:Int)-1<P+(52:Nat)
  ·rw[if_pos A];have:2046*2^52≤(P+1074).toNat*2^52:=aq _ dT;omega
  ·rw[if_neg A];have F:max (P+((52:Nat):Int)) (2-1024)=P+52:=by omega
   rw[F,show P-(P+52-(52:Nat))=0 from by omega,D,show (P+52-(2-1024)).toNat=(P+1074).toNat from by omega];have:(P+1074).toNat*2^52≤2045*2^52:=aq _ dT;omega
 ·have E:P= -1074:=by omega
  subst E;have C:v.log2<52:=(cA B).2 dT;rw[if_neg dT];have F:max (-1074+(v.log2:Int)) (2-1024)= -1022:=by omega
  rw[F];show 0*2^52+shV v 0=min (0*2^52+v) _;rw[D];omega
end Go.Proofs.YtfnkkkcojnffdaaGreatDoor
namespace Go.Proofs.YtfnkkkcojnffdaaGreatDoor
open Go.ChangeShapes Go.WideShapes Go.ChangeAt Go.RowKit
open BN
/-- A new Rat that nothing has written yet. -/
def RatZ (w:World) (p:Nat):Prop:=jT w p 0 false (.slice none 0 0)∧jT w p 2 false (.slice none 0 0)
theorem RatZ.new (w:World) (t:TypeId):RatZ (w.alloc (.cells #[.bool false,.slice none 0 0,.bool false,.slice none 0 0] t)) w.heap.size:=by
 refine⟨⟨?_,?_,World.frozen?_alloc_at _ _ _ _ rfl,World.frozen?_alloc_at _ _ _ _ rfl⟩,⟨?_,?_,World.frozen?_alloc_at _ _ _ _ rfl,World.frozen?_alloc_at _ _ _ _ rfl⟩⟩
 all_goals rw[World.cell?_alloc_at _ _ _ _ rfl];rfl
theorem RatZ.G {w B:World} {p:Nat} (h:RatZ w p) (A:p<w.heap.size) (g:G w B):RatZ B p:=by
 obtain⟨⟨C,a2,a3,a4⟩,⟨D,E,F,I⟩⟩:=h;exact⟨⟨G.cell g A C,G.cell g A a2,(Below.frozen g A).trans a3,(Below.frozen g A).trans a4⟩,⟨G.cell g A D,G.cell g A E,(Below.frozen g A).trans F,(Below.frozen g A).trans I⟩⟩
theorem RatZ.GX {w B:World} {p b:Nat} (h:RatZ w p) (J:p<w.heap.size) (A:p≠b) (g:GX b w B):RatZ B p:=by
 have hb:=g.block p J (fun e=>A (bp e));obtain⟨⟨C,a2,a3,a4⟩,⟨D,E,F,I⟩⟩:=h;exact⟨⟨(World.cell?_of_block hb).trans C,(World.cell?_of_block hb).trans a2,(World.frozen?_of_block hb).trans a3,(World.frozen?_of_block hb).trans a4⟩,⟨(World.cell?_of_block hb).trans D,(World.cell?_of_block hb).trans E,(World.frozen?_of_block hb).trans F,(World.frozen?_of_block hb).trans I⟩⟩
attribute [local go_sem] eH ff gu
/-- The upper and the lower part of a float, ahead of lowest terms. -/
def frS (s:Bool) (mag:Nat):Int:=if s then -(mag:Int) else mag
def frN (s:Bool) (mag ex:Nat):Int:=frS s mag*2^(max ex 1-1075)
def frD (ex:Nat):Nat:=2^(1075-max ex 1)
end Go.Proofs.YtfnkkkcojnffdaaGreatDoor
