/- What is proved here: the float nearest to a ratio, its arithmetic (no program).
What is proved here: contracts of the reference's ratios: Float64, over this seat's translation.
What is proved here: contracts of the reference: Made, over this seat's translation.
What is proved here: contracts of the reference's ratios: SetFloat64, over this seat's translation.
What is proved here: contracts of the reference: NewRat over 1, powers of two of either sign, over this seat's translation. -/
import Derived.Test.YtohcneeihdkfgaaGreatDoorQ1
import Derived.Test.YtohcneeihdkfgaaGreatDoorQ34
import Derived.Test.YtohcneeihdkfgaaGreatDoorQ35
import Derived.Test.YtohcneeihdkfgaaGreatDoorQ22
import Derived.Test.YtohcneeihdkfgaaGreatDoorQ3
import Derived.Test.YtohcneeihdkfgaaGreatDoorQ8
import Derived.Test.YtohcneeihdkfgaaGreatDoorQ6
namespace Go.Proofs.YtohcneeihdkfgaaGreatDoor
open Go.RowKit
open BN
theorem nK (N D k:Nat) (A:0<k):fQ (N*k) (D*k)=fQ N D:=by
 unfold fQ;rw[cW _ _ A,dj];have B:2*(N%D*k)=(2*(N%D))*k:=by rw[ar]
 rw[B]
 congr 1
 have h1:D*k<2*(N%D)*k↔D<2*(N%D):=dF A;have h2:2*(N%D)*k=D*k↔2*(N%D)=D:=dK eX;simp only[h1,h2]
theorem lK {N D B A:Nat} (E:0<D) (C:0<A) (h:N*A=B*D):fQ N D=fQ B A:=by
 rw[← nK N D A C,h,← nK B A D E,aJ A D]
theorem oQ {N D T:Nat} (A:0<D) (h:T*D≤N):T≤fQ N D:=by
 have:T≤N/D:=(aZ A).2 h;unfold fQ;omega
theorem q0j (x:Nat):fQ x 1=x:=by
 unfold fQ;rw[dU,Nat.mod_one,if_neg eX];rfl
theorem q0g (mag d:Nat) (B:1≤d):rnd mag d=fQ mag (2^d):=by
 unfold rnd fQ;have e:2^d=2*2^(d-1):=by
  obtain⟨k,rfl⟩:∃ k,d=k+1:=⟨d-1,by omega⟩;simp [Nat.pow_succ,Nat.mul_comm]
 congr 1
 generalize mag%2^d=r;generalize mag/2^d=q;rw[e];generalize 2^(d-1)=h;by_cases c1:h<r
 ·rw[if_pos (Or.inl c1),if_pos (Or.inl eX)]
 ·by_cases A:r=h∧q%2=1
  ·rw[if_pos (Or.inr A),if_pos (Or.inr ⟨by omega,A.2⟩)]
  ·rw[if_neg (by rintro(h|h);exact c1 h;exact A h),if_neg (by rintro(h|h);omega;exact A ⟨by omega,h.2⟩)]
theorem q1W (mag:Nat) (n:Int) (B:mag<2^64):shV mag n=fQ (mag*2^n.toNat) (2^(-n).toNat):=by
 unfold shV;by_cases A:0≤n
 ·rw[if_pos A,show (-n).toNat=0 from by omega,cf,q0j]
 ·rw[if_neg A,show n.toNat=0 from by omega,cf,bV];by_cases h2:n< -64
  ·rw[if_pos h2];have h3:2^65≤2^(-n).toNat:=gD eX;generalize 2^(-n).toNat=D at *;unfold fQ;rw[b9 eX,bh eX,if_neg eX]
  ·rw[if_neg h2];exact q0g _ _ eX
/-- The power of two at or below A / B. -/
def expo (A B:Nat):Int:=if B*2^((blen A:Int)-blen B).toNat≤A*2^(-((blen A:Int)-blen B)).toNat then (blen A:Int)-blen B else (blen A:Int)-blen B-1
def fM (A B:Nat):Int:=max (expo A B-52) (-1074)
/-- The float nearest to A / B (its place among the floats from 0 on). -/
def flV (A B:Nat):Nat:=min ((fM A B+1074).toNat*2^52+ij A B (fM A B)) (2047*2^52)
/-- Powers below 0 away: K is great enough. -/
theorem nL {X Y:Nat} {p:Int} (K:Nat) (h: -(K:Int)≤p):∃ c,X*2^K=X*2^(-p).toNat*2^c∧Y*2^((K:Int)+p).toNat=Y*2^p.toNat*2^c:=by
 refine⟨K-(-p).toNat,?_,?_⟩
 ·rw[ar,← ah,show (-p).toNat+(K-(-p).toNat)=K from by omega]
 ·rw[ar,← ah,show p.toNat+(K-(-p).toNat)=((K:Int)+p).toNat from by omega]
theorem jQ {X Y:Nat} {p:Int} (K:Nat) (h: -(K:Int)≤p):Y*2^p.toNat≤X*2^(-p).toNat↔Y*2^((K:Int)+p).toNat≤X*2^K:=by
 obtain⟨c,h1,h2⟩:=nL (X:=X) (Y:=Y) K h;rw[h1,h2];exact(Nat.mul_le_mul_right_iff (ae c)).symm
theorem jR {X Y:Nat} {p:Int} (K:Nat) (h: -(K:Int)≤p):X*2^(-p).toNat<Y*2^p.toNat↔X*2^K<Y*2^((K:Int)+p).toNat:=by
 obtain⟨c,h1,h2⟩:=nL (X:=X) (Y:=Y) K h;rw[h1,h2];exact(dF (ae c)).symm
theorem rJ {X Y:Nat} {p:Int} (K:Nat) (h: -(K:Int)≤p):X*2^(-p).toNat=Y*2^p.toNat↔X*2^K=Y*2^((K:Int)+p).toNat:=by
 obtain⟨c,h1,h2⟩:=nL (X:=X) (Y:=Y) K h;rw[h1,h2];exact(dK (Nat.ne_of_gt (ae c))).symm
theorem q4v {A B:Nat}:expo A B=(blen A:Int)-blen B∨expo A B=(blen A:Int)-blen B-1:=by unfold expo;split;exact Or.inl rfl;exact Or.inr rfl
/-- 2 ^ expo is at or below, ... -/
theorem jz {A B:Nat} (C:A≠0) (D:B≠0) (K:Nat) (E: -(K:Int)≤expo A B):B*2^((K:Int)+expo A B).toNat≤A*2^K:=by
 rw[← jQ K E];unfold expo;split
 ·assumption
 ·obtain⟨F,a2,a3⟩:=jv C;obtain⟨I,J,L⟩:=jv D;generalize M:(blen A:Int)-blen B-1=d
  calc B*2^d.toNat≤2^blen B*2^d.toNat:=au _ eX
   _=2^(blen B+d.toNat):=by rw[ah]
   _≤2^(blen A-1+(-d).toNat):=ao eX eX
   _=2^(blen A-1)*2^(-d).toNat:=by rw[ah]
   _≤A*2^(-d).toNat:=au _ a2
/-- ... and 2 ^ (expo + 1) above. -/
theorem lz {A B:Nat} (D:A≠0) (E:B≠0) (K:Nat) (L: -(K:Int)≤expo A B):A*2^K<B*2^((K:Int)+(expo A B+1)).toNat:=by
 rw[← jR K eX];unfold expo;split
 ·obtain⟨F,a2,a3⟩:=jv D;obtain⟨I,C,J⟩:=jv E;generalize M:(blen A:Int)-blen B+1=d
  calc A*2^(-d).toNat<2^blen A*2^(-d).toNat:=av a3 (ae _)
   _=2^(blen A+(-d).toNat):=by rw[ah]
   _≤2^(blen B-1+d.toNat):=ao eX eX
   _=2^(blen B-1)*2^d.toNat:=by rw[ah]
   _≤B*2^d.toNat:=au _ C
 ·rename_i h
  rw[show (blen A:Int)-blen B-1+1=(blen A:Int)-blen B from by omega];exact Nat.lt_of_not_le h
theorem gG {a b:Nat} (h:2^a<2^b):a<b:=(aV (by omega:1<2)).1 h
theorem q4u {A B mag:Nat} {e:Int} (D:A≠0) (E:B≠0) (F:mag≠0) (h:A*2^(-e).toNat=mag*B*2^e.toNat):expo A B=e+mag.log2:=by
 have J:=dm F;have M:=cK (n:=mag);obtain⟨K,N⟩:∃ K:Nat,K=e.natAbs+(expo A B).natAbs+1:=⟨_,rfl⟩;have I:=(rJ K eX).1 h;have h1:=jz D E K eX;have h2:=lz D E K eX;rw[I] at h1 h2;generalize expo A B=L at *;have C:0<B:=by omega
 have g1:B*2^((K:Int)+L).toNat<B*2^(mag.log2+1+((K:Int)+e).toNat):=by
  refine aD h1 ?_;rw[aJ mag B,ar,ah];exact Nat.mul_lt_mul_of_pos_left (av M (ae _)) C
 have g2:B*2^(mag.log2+((K:Int)+e).toNat)<B*2^((K:Int)+(L+1)).toNat:=by
  refine aD ?_ h2;rw[aJ mag B,ar,ah];exact aB _ (au _ J)
 have O:=gG (cS g1);have R:=gG (cS g2);omega
/-- A / B in units of 2^p is mag * 2^e in units of 2^p. -/
theorem q2S {A B mag:Nat} {e:Int} (p:Int) (F:B≠0) (h:A*2^(-e).toNat=mag*B*2^e.toNat):ij A B p=fQ (mag*2^(e-p).toNat) (2^(-(e-p)).toNat):=by
 unfold ij upP loP;refine lK (aM eX (ae _)) (ae _) ?_;obtain⟨K,I⟩:∃ K:Nat,K=(-p).toNat+(-(e-p)).toNat+(-e).toNat:=⟨_,rfl⟩;have E:=(rJ K eX).1 h;have C:A*2^(-p).toNat*2^(-(e-p)).toNat*2^(-e).toNat=A*2^K:=by
  rw[ar,ar,← ah,← ah];congr 2;omega
 have D:mag*2^(e-p).toNat*(B*2^p.toNat)*2^(-e).toNat=mag*B*2^((K:Int)+e).toNat:=by
  rw[show mag*2^(e-p).toNat*(B*2^p.toNat)=mag*B*(2^(e-p).toNat*2^p.toNat) from by ac_rfl,← ah,ar,← ah]
  congr 2;omega
 exact cC (ae (-e).toNat) (by rw[C,D,E])
/-- What 'nearest' of package bits gives is the float nearest to a ratio that is mag * 2^e. -/
theorem q0B {A B mag:Nat} {e:Int} (M:A≠0) (I:B≠0) (D:mag≠0) (E:mag<2^64) (h:A*2^(-e).toNat=mag*B*2^e.toNat):gz 11 52 mag e=flV A B:=by
 have N:=q4u M I D h;have hle:=nu mag e;unfold flV;have J:=q2S (fM A B) I h;rw[← q1W mag _ E] at J;rw[J];unfold fM;rw[N];have F:=nt false mag e D E;unfold Ieee.Format.nearest at F;rw[if_neg D,FT.leastPlace_eq,FT.infRung_eq,FT.binade_eq,FT.word_eq] at F;have O:(max (e+(mag.log2:Int)-(52:Nat)) (-1074))=max (e+(mag.log2:Int)-52) (-1074):=rfl;have C:FT.wrd false (min ((max (e+(mag.log2:Int)-(52:Nat)) (-1074)- -1074).toNat*2^52+Ieee.Toward.even.cut false (mag<<<(e-max (e+(mag.log2:Int)-(52:Nat)) (-1074)).toNat) (max (e+(mag.log2:Int)-(52:Nat)) (-1074)-e).toNat) (2047*2^52))=FT.wrd false (gz 11 52 mag e):=F;rw[O] at C;generalize max (e+(mag.log2:Int)-52) (-1074)=last at *;have K:=q0Q false mag (e-last) D E;rw[show (-(e-last)).toNat=(last-e).toNat from by omega] at K;rw[← K,show (last- -1074).toNat=(last+1074).toNat from by omega] at C;have L:∀ x:Nat,FT.wrd false x=x:=fun x=>rfl;rw[L,L] at C;exact C.symm
theorem kt {v:Nat} {P:Int} (hv:v<2^53) (J: -1074≤P) (h:P= -1074∨2^52≤v):gz 11 52 v P=min ((P+1074).toNat*2^52+v) (2047*2^52):=by
 unfold gz;by_cases B:v=0
 ·subst B;have:P= -1074:=by omega
  subst this;rfl
 rw[if_neg B];have h2:(2:Int)^(11-1)=1024:=rfl;rw[h2];have D:shV v 0=v:=by unfold shV;simp
 have K:=dm B;have L:=cK (n:=v);by_cases I:2^52≤v
 ·have C:v.log2=52:=by
   have a:v.log2<53:=(cT B).2 hv;have b:¬ v.log2<52:=by rw[cT B];omega
   omega
  rw[C];by_cases A:(1024:Int)-1<P+(52:Nat)
  ·rw[if_pos A];have:2046*2^52≤(P+1074).toNat*2^52:=au _ eX;omega
  ·rw[if_neg A];have F:max (P+((52:Nat):Int)) (2-1024)=P+52:=by omega
   rw[F,show P-(P+52-(52:Nat))=0 from by omega,D,show (P+52-(2-1024)).toNat=(P+1074).toNat from by omega];have:(P+1074).toNat*2^52≤2045*2^52:=au _ eX;omega
 ·have E:P= -1074:=by omega
  subst E;have C:v.log2<52:=(cT B).2 eX;rw[if_neg eX];have F:max (-1074+(v.log2:Int)) (2-1024)= -1022:=by omega
  rw[F];show 0*2^52+shV v 0=min (0*2^52+v) _;rw[D];omega
theorem rE {N D:Nat} (C:0<D) (E:2^53*D≤N) (h:fQ N D=2^53):fQ N (2*D)=2^52:=by
 have I:2^53≤N/D:=(aZ C).2 E;have F:=cu N D;have J:=aW N C;unfold fQ at h;have B:N/D=2^53:=by omega
 rw[B] at h F;have hle:2*(N%D)≤D:=by
  by_cases c:D<2*(N%D)
  ·rw[if_pos (Or.inl c)] at h;omega
  ·omega
 generalize N%D=r at *;have A:N=r+2*D*2^52:=by omega
 unfold fQ;rw[A,cZ _ _ eX,dh,b9 eX,bh eX,if_neg eX]
theorem q2D (a:Nat):min ((a+1)*2^52+2^52) (2047*2^52)=min (a*2^52+2^53) (2047*2^52):=by omega
theorem q1D {Q v:Nat} {last P:Int} (h1:Q≤2^53) (h2:last= -1074∨2^52≤Q) (h3: -1074≤last)
  (J:(blen Q≤53∧v=Q∧P=last)∨(blen Q=53+1∧Q%2^53=0∧v=Q/2∧P=last+1)):
  v<2^53∧ -1074≤P∧gz 11 52 v P=min ((last+1074).toNat*2^52+Q) (2047*2^52):=by
 rcases J with ⟨c1,rfl,rfl⟩|⟨c1,C,D,rfl⟩
 ·have A:v<2^53:=blen_le_iff.1 c1;exact⟨A,h3,kt A h3 h2⟩
 ·have A:¬ Q<2^53:=by rw[← blen_le_iff];omega
  have E:Q=2^53:=by omega
  have F:v=2^52:=by omega
  clear c1 C A D h1 h2;have B:v<2^53:=by omega
  have I:2^52≤v:=by omega
  refine⟨B,by omega,?_⟩;rw[kt B eX (Or.inr I),show (last+1+1074).toNat=(last+1074).toNat+1 from by omega,E,F];exact q2D _
/-- What 'near' of the reference gives, as a float. -/
theorem q4Q {A B v:Nat} {p P:Int} {x:Bool} (S:A≠0) (D:B≠0) (I:jF A B 53 (iq A B 53 (-1074)) p) (E:pg A B 53 p v P x):
  v<2^53∧ -1074≤P∧gz 11 52 v P=flV A B:=by
 have hE:=q4v (A:=A) (B:=B);obtain⟨K,hK⟩:∃ K:Nat,K=(expo A B).natAbs+2000:=⟨_,rfl⟩;have L:=jz S D K eX;have J:=lz S D K eX;have hS:iq A B 53 (-1074)=max ((blen A:Int)-blen B-53) (-1074):=by unfold iq;split<;>omega
 have hl:fM A B=max (expo A B-52) (-1074):=rfl
 -- sizes of ij
 have X:∀ q:Int,-(K:Int)≤q→expo A B-52≤q→ij A B q≤2^53:=by
  intro q N O;unfold ij;refine oR ?_;unfold upP loP;rw[← ar,jR K N];refine aj J ?_;rw[aJ (2^53) B,ar,← ah];exact aB _ (ao eX eX)
 have dn:∀ (q:Int) (t:Nat),-(K:Int)≤q→q+t≤expo A B→2^t*loP B q≤upP A q:=by
  intro q t N O;unfold upP loP;rw[← ar,jQ K N];refine bt ?_ L;rw[aJ (2^t) B,ar,← ah];exact aB _ (ao eX eX)
 have C: -(K:Int)≤fM A B:=by omega
 have main:∀ (v:Nat) (P:Int),pg A B 53 (fM A B) v P x→v<2^53∧ -1074≤P∧gz 11 52 v P=flV A B:=by
  intro v P E;have h1:=X (fM A B) C eX;have h2:fM A B= -1074∨2^52≤ij A B (fM A B):=by
   by_cases F:fM A B= -1074
   ·exact Or.inl F
   ·exact Or.inr (oQ (kO D) (dn _ 52 C eX))
  unfold flV;have h3: -1074≤fM A B:=by omega
  exact q1D h1 h2 h3 E.1
 rcases I with W|⟨W,M⟩
 ·by_cases F:iq A B 53 (-1074)=fM A B
  ·rw[W,F] at E;exact main v P E
  ·-- one below the last place
   have d:fM A B=p+1:=by omega
   have i:p+53≤expo A B:=by omega
   have U:=dn p 53 eX i;have j:2^53≤ij A B p:=oQ (kO D) U;obtain⟨(⟨c1,rfl,rfl⟩|⟨c1,o,e,rfl⟩),y⟩:=E
   ·have:=blen_le_iff.1 c1;omega
   ·have s:ij A B p<2^54:=blen_le_iff.1 eX;have Y:ij A B p=2^53:=by omega
    have k:ij A B (p+1)=2^52:=by
     have:=rE (kO D) U Y;rw[← this];unfold ij;refine lK (kO D) (by have:=kO (p:=p) D;omega) ?_;unfold upP loP;by_cases m:0≤p
     ·rw[show (-(p+1)).toNat=0 from by omega,show (-p).toNat=0 from by omega,show (p+1).toNat=p.toNat+1 from by omega,bH]
      ac_rfl
     ·rw[show (-p).toNat=(-(p+1)).toNat+1 from by omega,show (p+1).toNat=0 from by omega,show p.toNat=0 from by omega,bH]
      ac_rfl
    have Z:v=2^52:=by omega
    have c:2^52≤v:=by omega
    have R:v<2^53:=by omega
    refine⟨R,by omega,?_⟩;unfold flV;rw[d,k,kt R eX (Or.inr c),Z]
 ·by_cases F:iq A B 53 (-1074)=fM A B
  ·exact absurd (mz (by rw[F];exact X _ C eX)) M
  ·rw[show p=fM A B from by omega] at E;exact main v P E
end Go.Proofs.YtohcneeihdkfgaaGreatDoor
namespace Go.Proofs.YtohcneeihdkfgaaGreatDoor
open Go.ChangeShapes Go.WideShapes Go.ChangeAt Go.RowKit
open BN
attribute [local go_sem] fE fN gI
/-- A float is handed back, and a word on whether it is just that. -/
def qq (w:World) (r:Nat) (e:Ending) (A:World):Prop:=∃ x:Bool,e= .returned (.tuple #[.float .f64 r,.bool x])∧G w A
theorem pJ (w:World) (b:Nat) (D:Int) (h:RatIs w b 0 D):
  Calls Tryz.prog 256 #[.pointer (some ⟨b,0,none⟩)] w (qq w 0):=by
 have B:=hi9 (mN w b 0 D h);have C:(0:Int).sign=0:=rfl;rw[C] at B;clear h C;go_enter Tryz.func256,Tryz.ntmps256;go_wp2_with fail;refine eW B.out ?_;rintro e E ⟨rfl,A⟩;go_wp2_with fail
 go_ret2
 exact⟨_,rfl,A⟩
theorem q6v {n:Bool} {a:Nat} {s:Int} (h:sg n a=s) (h2:n=true→a≠0):n=decide (s<0):=by
 subst h;unfold sg;cases n
 ·exact(decide_eq_false fX).symm
 ·have:=h2 rfl;exact(decide_eq_true (by simp;omega)).symm
theorem pT (r:Nat) (A:r<2^63):Op.negFloat .f64 r=FT.wrd true r:=by
 rw[ku r eX];have h1:FT.neg r=false:=by unfold FT.neg;simp;omega
 unfold negV;rw[if_neg (by rw[h1];simp)];rfl
set_option maxRecDepth 10000 in
set_option maxHeartbeats 4000000 in
theorem q1k (w:World) (b K:Nat) (sa:Int) (A:Nat) (hK:K≤10000) (bu:100≤K) (h0:sa≠0) (bz:0<A) (bi:sa.natAbs<2^(32*K)) (bl:A<2^(32*K)) (bs:iq sa.natAbs A 53 (-1074)≤29000)
  (hb:b<w.heap.size) (h:RatIs w b sa (A:Int)):
  Calls Tryz.prog 256 #[.pointer (some ⟨b,0,none⟩)] w (qq w (FT.wrd (decide (sa<0)) (flV sa.natAbs A))):=by
 have HS:=hi9 (mN w b sa A h);have ht:((sa.sign:Int)==0)=false:=by simp;exact h0
 have hR:=h;obtain⟨⟨n,v,a,⟨c1,-,-,-⟩,-,h1,h2⟩,-⟩:=h;have hn:=q6v h1 h2;have HR:Hid (RatIs w b sa (A:Int)):=hR;have af:Hid ((A:Int)≠0):=by show (A:Int)≠0;omega
 have M:Hid (sa.natAbs<2^(32*K)):=bi;have j:Hid (A<2^(32*K)):=bl;have L:Hid (sa.natAbs≠0):=by show sa.natAbs≠0;omega
 have N:Hid (A≠0):=by show A≠0;omega
 have ag:Hid (iq sa.natAbs A 53 (-1074)≤29000):=bs;have k:Hid (flV sa.natAbs A<2^63):=by show flV sa.natAbs A<2^63;have:=Nat.min_le_right ((fM sa.natAbs A+1074).toNat*2^52+ij sa.natAbs A (fM sa.natAbs A)) (2047*2^52);unfold flV;omega
 rw[← hn];clear bi bl bs h1 h2 hR bz h0;generalize sa.sign=sg at *;have HN:=hi9 hn;clear hn;go_enter Tryz.func256,Tryz.ntmps256;go_wp2_with fail;refine eW HS.out ?_;rintro e w2 ⟨rfl,X⟩;clear HS
 as_aux_lemma=>
  go_wp2_with fail;have F:=ei X 43;have S:=X.alloc (.cells #[.bool false,.slice none 0 0] 43);generalize w2.heap.size=pn at *;generalize w2.alloc (.cells #[.bool false,.slice none 0 0] 43)=wa at *;have HL:=hi9 (q5H wa pn 0 b 0 0 sa K eX M.out F.2.1 F.2.2 (df HR.out.1 hb S));have o:Hid (NI w wa pn 0):=F;clear F X;refine eW HL.out ?_;intro e w3 hs;obtain⟨rfl,O,al,-,-⟩:=bj S o.out hs;have s:Hid (NI w w3 pn (sa.natAbs:Int)):=al;clear hs al HL o S;go_wp2_with fail;refine eW (lx w3 b sa A af.out (HR.out.G hb O)) ?_;rintro e w4 ⟨rfl,Y⟩;have C:=ab O Y;have U:=s.out.G Y;have y:=hi9 (q66 w4 pn 0 b 2 sa.natAbs A 53 K (-1074) hK bu L.out N.out M.out j.out eX eX eX eX U.2.1 (de C hb) U.2.2 (HR.out.G hb C).2);clear Y U s O;go_wp2_with fail;refine eW y.out ?_;intro e w5 hs;obtain⟨q,m,P,p,x,rfl,bm,am,B,W⟩:=hs;have D:=ab C bm;obtain⟨hm,an,J⟩:=q4Q L.out N.out W B;have ap:P≤30000:=by
   have:=ag.out;obtain⟨(⟨-,-,h⟩|⟨-,-,-,h⟩),-⟩:=B<;>rcases W with h'|⟨h',-⟩<;>omega
  have HU:Hid _:=q23 w5 q 0 (m:Int) (by rw[aA];omega) am.2.2;rw[aA] at HU;have bw:=qG m eX;have HX:Hid _:=fun w=>q4E m P w hm an ap;rw[J] at HX;have I:=k.out;generalize flV sa.natAbs A=r at *;have HI:Hid _:=fun w=>jg r w eX;have i:=pT r I;have ca:=nY r;have c5:w5.cell? ⟨b,0,none⟩=some (.bool n):=G.cell D hb c1;clear bm am B W hm an ap J y C k I HN ag HR M j L N af c1
  as_aux_lemma=>
   go_wp2_with fail;refine eW HU.out ?_;rintro e w6 ⟨rfl,Z⟩;have R:=ab D Z;have bv:=de D hb;have c6:w6.cell? ⟨b,0,none⟩=some (.bool n):=G.cell Z bv c5;clear c5 HU;go_wp2_with fail;refine eW (HX.out _) ?_;rintro e w7 ⟨rfl,c⟩;have ai:=ab R c;have c7:w7.cell? ⟨b,0,none⟩=some (.bool n):=G.cell c (de R hb) c6;clear c6 Z D;go_wp2_with fail;refine eW (HI.out _) ?_;rintro e w8 ⟨rfl,d⟩;have E:=ab ai d;have c8:w8.cell? ⟨b,0,none⟩=some (.bool n):=G.cell d (de ai hb) c7;clear c7 d c R HX HI bw;generalize decide (FT.rung r=FT.infR)=inf at *;have bn:Ending.returned (Value.tuple #[.float .f64 (Op.negFloat .f64 r),.bool x])= .returned (.tuple #[.float .f64 (FT.wrd true r),.bool x]):=by rw[i]
   have bq:Ending.returned (Value.tuple #[.float .f64 (Op.negFloat .f64 r),.bool false])= .returned (.tuple #[.float .f64 (FT.wrd true r),.bool false]):=by rw[i]
   clear i;cases n
   ·rw[ca];cases inf
    ·as_aux_lemma=>
      go_wp2_with fail
      go_ret2
      exact⟨_,rfl,E⟩
    ·as_aux_lemma=>
      go_wp2_with fail
      go_ret2
      exact⟨_,rfl,E⟩
   ·cases inf
    ·as_aux_lemma=>
      go_wp2_with fail
      go_ret2
      exact⟨_,bn,E⟩
    ·as_aux_lemma=>
      go_wp2_with fail
      go_ret2
      exact⟨_,bq,E⟩
end Go.Proofs.YtohcneeihdkfgaaGreatDoor
namespace Go.Proofs.YtohcneeihdkfgaaGreatDoor
open Go.ChangeShapes Go.WideShapes Go.ChangeAt Go.RowKit
open BN
/-- A new Rat that nothing has written yet. -/
def RatZ (w:World) (p:Nat):Prop:=mQ w p 0 false (.slice none 0 0)∧mQ w p 2 false (.slice none 0 0)
theorem RatZ.new (w:World) (t:TypeId):RatZ (w.alloc (.cells #[.bool false,.slice none 0 0,.bool false,.slice none 0 0] t)) w.heap.size:=by
 refine⟨⟨?_,?_,World.frozen?_alloc_at _ _ _ _ rfl,World.frozen?_alloc_at _ _ _ _ rfl⟩,⟨?_,?_,World.frozen?_alloc_at _ _ _ _ rfl,World.frozen?_alloc_at _ _ _ _ rfl⟩⟩
 all_goals rw[World.cell?_alloc_at _ _ _ _ rfl];rfl
theorem RatZ.G {w B:World} {p:Nat} (h:RatZ w p) (A:p<w.heap.size) (g:G w B):RatZ B p:=by
 obtain⟨⟨C,a2,a3,a4⟩,⟨D,E,F,I⟩⟩:=h;exact⟨⟨G.cell g A C,G.cell g A a2,(Below.frozen g A).trans a3,(Below.frozen g A).trans a4⟩,⟨G.cell g A D,G.cell g A E,(Below.frozen g A).trans F,(Below.frozen g A).trans I⟩⟩
theorem RatZ.GX {w B:World} {p b:Nat} (h:RatZ w p) (J:p<w.heap.size) (A:p≠b) (g:GX b w B):RatZ B p:=by
 have hb:=g.block p J (fun e=>A (ct e));obtain⟨⟨C,a2,a3,a4⟩,⟨D,E,F,I⟩⟩:=h;exact⟨⟨(World.cell?_of_block hb).trans C,(World.cell?_of_block hb).trans a2,(World.frozen?_of_block hb).trans a3,(World.frozen?_of_block hb).trans a4⟩,⟨(World.cell?_of_block hb).trans D,(World.cell?_of_block hb).trans E,(World.frozen?_of_block hb).trans F,(World.frozen?_of_block hb).trans I⟩⟩
attribute [local go_sem] fE fN gI
set_option maxRecDepth 10000 in
set_option maxHeartbeats 4000000 in
theorem q0k (w:World) (bz b mag X k:Nat) (s:Bool) (S i s1 s2:Int) (K:Nat) (hK:K≤1000) (bv:mag<2^53) (hS:S=if s then -(mag:Int) else mag)
  (L1:bits BinOp.and IntKind.u64 ((b:Int)/4503599627370496) 2047=0) (L2:bits BinOp.and IntKind.u64 (b:Int) 4503599627370495=(mag:Int)) (L4:((b:Int)/9223372036854775808==1)=s)
  (hk:(k:Int)=1074) (bs:i=S) (bq:(X:Int)=2^k)
  (hB:i.natAbs<2^(32*K)∧X<2^(32*K)∧0<X) (bu:bz<w.heap.size) (hz:RatIs w bz s1 s2):
  Calls Tryz.prog 102 #[.pointer (some ⟨bz,0,none⟩),.float .f64 b] w (NormTo w bz (Int.tdiv i (Nat.gcd i.natAbs X:Nat)) (X/Nat.gcd i.natAbs X)):=by
 have HB:Hid (i.natAbs<2^(32*K)∧X<2^(32*K)∧0<X):=hB;have HZ:Hid (RatIs w bz s1 s2):=hz;have ai:Hid (mag<2^64):=by show mag<2^64;omega
 have bw:Hid (S.natAbs<2^(32*2)):=by show S.natAbs<2^(32*2);rw[hS];split<;>omega
 have Y:Hid (bz<w.heap.size):=bu;clear hB hz bv bu;have bn:Hid (i=S):=bs;have bl:Hid ((X:Int)=2^k):=bq;have bm:Hid ((k:Int)=1074):=hk;have ca:k≤10000:=by omega
 clear bs bq hk;cases s
 ·have al:Hid (S=(mag:Int)):=hS;clear hS;go_enter Tryz.func102,Tryz.ntmps102;go_wp2_with fail;have B:=ei (ad w) 43;have o:=(ad w).alloc (.cells #[.bool false,.slice none 0 0] 43);generalize w.heap.size=C at B ⊢;generalize w.alloc (.cells #[.bool false,.slice none 0 0] 43)=wa at *;have W:=hi9 (lZ wa C 0 mag 0 ai.out B.2.1 B.2.2);have c:Hid (NI w wa C 0):=B;clear B;refine eW W.out ?_;intro e w2 D;obtain⟨rfl,j,y,-,-⟩:=bj o c.out D;have E:Hid (NI w w2 C (mag:Int)):=y;clear D y W c o;have L:Hid (NI w w2 C S):=by rw[al.out];exact E
  have N:=j;clear E j;go_wp2_with fail;refine eW (gW _ 1 eX) ?_;intro e w4 h;obtain⟨Z,rfl,U,ap,I,F⟩:=h;have m:=ab N U;have d:Hid (NI w w4 C S):=L.out.G U;have bi:=N.size;have A:Hid (NI w w4 Z 1):=⟨by omega,I,F⟩;have an:C≠Z:=by have:=L.out.2.1;omega
  clear U ap I F bi L N;go_wp2_with fail;rw[← bm.out];have W:=hi9 (iS w4 Z 0 Z 0 k 1 1 2 eX eX fk A.out.2.1 A.out.2.1 A.out.2.2 A.out.2.2);refine eW W.out ?_;intro e w5 D;obtain⟨rfl,O,R,-,af⟩:=bj m A.out D;have M:Hid (NI w w5 C i):=by rw[bn.out];exact af C S an d.out
  rw[dV,← bl.out] at R;have J:Hid (NI w w5 Z (X:Int)):=R;clear D R W af d A m;have HF:=hi9 (gM w5 bz C 0 Z 0 s1 s2 i X K eX HB.out.1 HB.out.2.1 HB.out.2.2 (de O Y.out) M.out.2.1 J.out.2.1 (HZ.out.G Y.out O) M.out.2.2 J.out.2.2);clear M J HB HZ Y;go_wp2_with fail;refine eW HF.out ?_;intro e w6 D;obtain⟨rfl,k1,k2⟩:=NormTo.after O D;have ag:=hi9 k2;clear D k2 HF;go_wp2_with fail;go_ret;exact⟨rfl,k1,ag.out⟩
 ·have al:Hid (S= -(mag:Int)):=hS;clear hS;go_enter Tryz.func102,Tryz.ntmps102;go_wp2_with fail;have B:=ei (ad w) 43;have o:=(ad w).alloc (.cells #[.bool false,.slice none 0 0] 43);generalize w.heap.size=C at B ⊢;generalize w.alloc (.cells #[.bool false,.slice none 0 0] 43)=wa at *;have W:=hi9 (lZ wa C 0 mag 0 ai.out B.2.1 B.2.2);have c:Hid (NI w wa C 0):=B;clear B;refine eW W.out ?_;intro e w2 D;obtain⟨rfl,j,y,-,-⟩:=bj o c.out D;have E:Hid (NI w w2 C (mag:Int)):=y;clear D y W c o;have W:Hid _:=nv w2 C 0 C 0 (mag:Int) (mag:Int) 2 eX (by rw[aA];exact ai.out) E.out.2.1 E.out.2.1 E.out.2.2 E.out.2.2;go_wp2_with fail;refine eW W.out ?_;intro e w3 D;obtain⟨rfl,N,am,-,-⟩:=bj j E.out D;rw[← al.out] at am;have L:Hid (NI w w3 C S):=am;clear D am W E j;go_wp2_with fail;refine eW (gW _ 1 eX) ?_;intro e w4 h;obtain⟨Z,rfl,U,ap,I,F⟩:=h;have m:=ab N U;have d:Hid (NI w w4 C S):=L.out.G U;have bi:=N.size;have A:Hid (NI w w4 Z 1):=⟨by omega,I,F⟩;have an:C≠Z:=by have:=L.out.2.1;omega
  clear U ap I F bi L N;go_wp2_with fail;rw[← bm.out];have W:=hi9 (iS w4 Z 0 Z 0 k 1 1 2 eX eX fk A.out.2.1 A.out.2.1 A.out.2.2 A.out.2.2);refine eW W.out ?_;intro e w5 D;obtain⟨rfl,O,R,-,af⟩:=bj m A.out D;have M:Hid (NI w w5 C i):=by rw[bn.out];exact af C S an d.out
  rw[dV,← bl.out] at R;have J:Hid (NI w w5 Z (X:Int)):=R;clear D R W af d A m;have HF:=hi9 (gM w5 bz C 0 Z 0 s1 s2 i X K eX HB.out.1 HB.out.2.1 HB.out.2.2 (de O Y.out) M.out.2.1 J.out.2.1 (HZ.out.G Y.out O) M.out.2.2 J.out.2.2);clear M J HB HZ Y;go_wp2_with fail;refine eW HF.out ?_;intro e w6 D;obtain⟨rfl,k1,k2⟩:=NormTo.after O D;have ag:=hi9 k2;clear D k2 HF;go_wp2_with fail;go_ret;exact⟨rfl,k1,ag.out⟩
set_option maxRecDepth 10000 in
set_option maxHeartbeats 4000000 in
theorem q3G (w:World) (bz b ex fr mag X k:Nat) (s:Bool) (S d s1 s2:Int) (K:Nat) (hK:K≤1000) (bu:mag<2^53) (hS:S=if s then -(mag:Int) else mag) (h1:ex<2047) (h2:1075≤ex)
  (L1:bits BinOp.and IntKind.u64 ((b:Int)/4503599627370496) 2047=(ex:Int)) (L2:bits BinOp.and IntKind.u64 (b:Int) 4503599627370495=(fr:Int)) (L3:bits BinOp.or IntKind.u64 (fr:Int) 4503599627370496=(mag:Int))
  (L4:((b:Int)/9223372036854775808==1)=s)
  (hk:(k:Int)=ex-1075) (bq:d=S*2^k) (bn:(X:Int)=1)
  (hB:d.natAbs<2^(32*K)∧X<2^(32*K)∧0<X) (bs:bz<w.heap.size) (hz:RatIs w bz s1 s2):
  Calls Tryz.prog 102 #[.pointer (some ⟨bz,0,none⟩),.float .f64 b] w (NormTo w bz (Int.tdiv d (Nat.gcd d.natAbs X:Nat)) (X/Nat.gcd d.natAbs X)):=by
 have HB:Hid (d.natAbs<2^(32*K)∧X<2^(32*K)∧0<X):=hB;have HZ:Hid (RatIs w bz s1 s2):=hz;have ag:Hid (mag<2^64):=by show mag<2^64;omega
 have bm:Hid (S.natAbs<2^(32*2)):=by show S.natAbs<2^(32*2);rw[hS];split<;>omega
 have Y:Hid (bz<w.heap.size):=bs;clear hB hz bu bs;have bl:Hid (d=S*2^k):=bq;have bi:Hid ((X:Int)=1):=bn;have t1:((ex:Int)==2047)=false:=by simp;omega
 have t2:((ex:Int)==0)=false:=by simp;omega
 have t3:decide ((1075:Int)≤ex)=true:=decide_eq_true eX;have bv:Hid (IntKind.u64.wrap ((ex:Int)-1075)=(k:Int)):=by show IntKind.u64.wrap ((ex:Int)-1075)=(k:Int);rw[IntKind.wrap_u64];omega
 have bw:Hid (wrap64 ((ex:Int)-1075)=(k:Int)):=by show wrap64 ((ex:Int)-1075)=(k:Int);rw[IntWalk.wrap64_in _ eX];omega
 have cb:(ex:Int)-1075=(k:Int):=hk.symm;have ca:k≤10000:=by omega
 clear bq bn hk h1 h2;cases s
 ·have ai:Hid (S=(mag:Int)):=hS;clear hS;go_enter Tryz.func102,Tryz.ntmps102;go_wp2_with fail;have B:=ei (ad w) 43;have m:=(ad w).alloc (.cells #[.bool false,.slice none 0 0] 43);generalize w.heap.size=C at B ⊢;generalize w.alloc (.cells #[.bool false,.slice none 0 0] 43)=wa at *;have W:=hi9 (lZ wa C 0 mag 0 ag.out B.2.1 B.2.2);have c:Hid (NI w wa C 0):=B;clear B;refine eW W.out ?_;intro e w2 D;obtain⟨rfl,i,o,-,-⟩:=bj m c.out D;have E:Hid (NI w w2 C (mag:Int)):=o;clear D o W c m;have L:Hid (NI w w2 C S):=by rw[ai.out];exact E
  have N:=i;clear E i;go_wp2_with fail;refine eW (gW _ 1 eX) ?_;intro e w4 h;obtain⟨pd,rfl,U,an,I,F⟩:=h;have j:=ab N U;have A:Hid (NI w w4 C S):=L.out.G U;have ap:=N.size;have Z:Hid (NI w w4 pd 1):=⟨by omega,I,F⟩;have am:C≠pd:=by have:=L.out.2.1;omega
  clear U an I F ap L N;go_wp2_with fail;have W:=hi9 (iS w4 C 0 C 0 k S S 2 eX eX bm.out A.out.2.1 A.out.2.1 A.out.2.2 A.out.2.2);refine eW W.out ?_;intro e w5 D;obtain⟨rfl,O,R,-,y⟩:=bj j A.out D;have J:Hid (NI w w5 pd (X:Int)):=by rw[bi.out];exact y pd 1 am.symm Z.out
  rw[← bl.out] at R;have M:Hid (NI w w5 C d):=R;clear D R W y A Z j;have HF:=hi9 (gM w5 bz C 0 pd 0 s1 s2 d X K eX HB.out.1 HB.out.2.1 HB.out.2.2 (de O Y.out) M.out.2.1 J.out.2.1 (HZ.out.G Y.out O) M.out.2.2 J.out.2.2);clear M J HB HZ Y;go_wp2_with fail;refine eW HF.out ?_;intro e w6 D;obtain⟨rfl,k1,k2⟩:=NormTo.after O D;have af:=hi9 k2;clear D k2 HF;go_wp2_with fail;go_ret;exact⟨rfl,k1,af.out⟩
 ·have ai:Hid (S= -(mag:Int)):=hS;clear hS;go_enter Tryz.func102,Tryz.ntmps102;go_wp2_with fail;have B:=ei (ad w) 43;have m:=(ad w).alloc (.cells #[.bool false,.slice none 0 0] 43);generalize w.heap.size=C at B ⊢;generalize w.alloc (.cells #[.bool false,.slice none 0 0] 43)=wa at *;have W:=hi9 (lZ wa C 0 mag 0 ag.out B.2.1 B.2.2);have c:Hid (NI w wa C 0):=B;clear B;refine eW W.out ?_;intro e w2 D;obtain⟨rfl,i,o,-,-⟩:=bj m c.out D;have E:Hid (NI w w2 C (mag:Int)):=o;clear D o W c m;have W:Hid _:=nv w2 C 0 C 0 (mag:Int) (mag:Int) 2 eX (by rw[aA];exact ag.out) E.out.2.1 E.out.2.1 E.out.2.2 E.out.2.2;go_wp2_with fail;refine eW W.out ?_;intro e w3 D;obtain⟨rfl,N,al,-,-⟩:=bj i E.out D;rw[← ai.out] at al;have L:Hid (NI w w3 C S):=al;clear D al W E i;go_wp2_with fail;refine eW (gW _ 1 eX) ?_;intro e w4 h;obtain⟨pd,rfl,U,an,I,F⟩:=h;have j:=ab N U;have A:Hid (NI w w4 C S):=L.out.G U;have ap:=N.size;have Z:Hid (NI w w4 pd 1):=⟨by omega,I,F⟩;have am:C≠pd:=by have:=L.out.2.1;omega
  clear U an I F ap L N;go_wp2_with fail;have W:=hi9 (iS w4 C 0 C 0 k S S 2 eX eX bm.out A.out.2.1 A.out.2.1 A.out.2.2 A.out.2.2);refine eW W.out ?_;intro e w5 D;obtain⟨rfl,O,R,-,y⟩:=bj j A.out D;have J:Hid (NI w w5 pd (X:Int)):=by rw[bi.out];exact y pd 1 am.symm Z.out
  rw[← bl.out] at R;have M:Hid (NI w w5 C d):=R;clear D R W y A Z j;have HF:=hi9 (gM w5 bz C 0 pd 0 s1 s2 d X K eX HB.out.1 HB.out.2.1 HB.out.2.2 (de O Y.out) M.out.2.1 J.out.2.1 (HZ.out.G Y.out O) M.out.2.2 J.out.2.2);clear M J HB HZ Y;go_wp2_with fail;refine eW HF.out ?_;intro e w6 D;obtain⟨rfl,k1,k2⟩:=NormTo.after O D;have af:=hi9 k2;clear D k2 HF;go_wp2_with fail;go_ret;exact⟨rfl,k1,af.out⟩
set_option maxRecDepth 10000 in
set_option maxHeartbeats 4000000 in
theorem q3F (w:World) (bz b ex fr mag X k:Nat) (s:Bool) (S i s1 s2:Int) (K:Nat) (hK:K≤1000) (bu:mag<2^53) (hS:S=if s then -(mag:Int) else mag) (h1:1≤ex) (h2:ex<1075)
  (L1:bits BinOp.and IntKind.u64 ((b:Int)/4503599627370496) 2047=(ex:Int)) (L2:bits BinOp.and IntKind.u64 (b:Int) 4503599627370495=(fr:Int)) (L3:bits BinOp.or IntKind.u64 (fr:Int) 4503599627370496=(mag:Int))
  (L4:((b:Int)/9223372036854775808==1)=s)
  (hk:(k:Int)=1075-ex) (bq:i=S) (bn:(X:Int)=2^k)
  (hB:i.natAbs<2^(32*K)∧X<2^(32*K)∧0<X) (bs:bz<w.heap.size) (hz:RatIs w bz s1 s2):
  Calls Tryz.prog 102 #[.pointer (some ⟨bz,0,none⟩),.float .f64 b] w (NormTo w bz (Int.tdiv i (Nat.gcd i.natAbs X:Nat)) (X/Nat.gcd i.natAbs X)):=by
 have HB:Hid (i.natAbs<2^(32*K)∧X<2^(32*K)∧0<X):=hB;have HZ:Hid (RatIs w bz s1 s2):=hz;have ai:Hid (mag<2^64):=by show mag<2^64;omega
 have bv:Hid (S.natAbs<2^(32*2)):=by show S.natAbs<2^(32*2);rw[hS];split<;>omega
 have Y:Hid (bz<w.heap.size):=bs;clear hB hz bu bs;have bm:Hid (i=S):=bq;have bl:Hid ((X:Int)=2^k):=bn;have t1:((ex:Int)==2047)=false:=by simp;omega
 have t2:((ex:Int)==0)=false:=by simp;omega
 have t3:decide ((1075:Int)≤ex)=false:=decide_eq_false eX;have ca:(1075:Int)-ex=(k:Int):=hk.symm;have bw:k≤10000:=by omega
 clear bq bn hk h1 h2;cases s
 ·have al:Hid (S=(mag:Int)):=hS;clear hS;go_enter Tryz.func102,Tryz.ntmps102;go_wp2_with fail;have B:=ei (ad w) 43;have o:=(ad w).alloc (.cells #[.bool false,.slice none 0 0] 43);generalize w.heap.size=C at B ⊢;generalize w.alloc (.cells #[.bool false,.slice none 0 0] 43)=wa at *;have W:=hi9 (lZ wa C 0 mag 0 ai.out B.2.1 B.2.2);have c:Hid (NI w wa C 0):=B;clear B;refine eW W.out ?_;intro e w2 D;obtain⟨rfl,j,y,-,-⟩:=bj o c.out D;have E:Hid (NI w w2 C (mag:Int)):=y;clear D y W c o;have L:Hid (NI w w2 C S):=by rw[al.out];exact E
  have N:=j;clear E j;go_wp2_with fail;refine eW (gW _ 1 eX) ?_;intro e w4 h;obtain⟨Z,rfl,U,ap,I,F⟩:=h;have m:=ab N U;have d:Hid (NI w w4 C S):=L.out.G U;have bi:=N.size;have A:Hid (NI w w4 Z 1):=⟨by omega,I,F⟩;have an:C≠Z:=by have:=L.out.2.1;omega
  clear U ap I F bi L N;go_wp2_with fail;have W:=hi9 (iS w4 Z 0 Z 0 k 1 1 2 eX eX fk A.out.2.1 A.out.2.1 A.out.2.2 A.out.2.2);refine eW W.out ?_;intro e w5 D;obtain⟨rfl,O,R,-,af⟩:=bj m A.out D;have M:Hid (NI w w5 C i):=by rw[bm.out];exact af C S an d.out
  rw[dV,← bl.out] at R;have J:Hid (NI w w5 Z (X:Int)):=R;clear D R W af d A m;have HF:=hi9 (gM w5 bz C 0 Z 0 s1 s2 i X K eX HB.out.1 HB.out.2.1 HB.out.2.2 (de O Y.out) M.out.2.1 J.out.2.1 (HZ.out.G Y.out O) M.out.2.2 J.out.2.2);clear M J HB HZ Y;go_wp2_with fail;refine eW HF.out ?_;intro e w6 D;obtain⟨rfl,k1,k2⟩:=NormTo.after O D;have ag:=hi9 k2;clear D k2 HF;go_wp2_with fail;go_ret;exact⟨rfl,k1,ag.out⟩
 ·have al:Hid (S= -(mag:Int)):=hS;clear hS;go_enter Tryz.func102,Tryz.ntmps102;go_wp2_with fail;have B:=ei (ad w) 43;have o:=(ad w).alloc (.cells #[.bool false,.slice none 0 0] 43);generalize w.heap.size=C at B ⊢;generalize w.alloc (.cells #[.bool false,.slice none 0 0] 43)=wa at *;have W:=hi9 (lZ wa C 0 mag 0 ai.out B.2.1 B.2.2);have c:Hid (NI w wa C 0):=B;clear B;refine eW W.out ?_;intro e w2 D;obtain⟨rfl,j,y,-,-⟩:=bj o c.out D;have E:Hid (NI w w2 C (mag:Int)):=y;clear D y W c o;have W:Hid _:=nv w2 C 0 C 0 (mag:Int) (mag:Int) 2 eX (by rw[aA];exact ai.out) E.out.2.1 E.out.2.1 E.out.2.2 E.out.2.2;go_wp2_with fail;refine eW W.out ?_;intro e w3 D;obtain⟨rfl,N,am,-,-⟩:=bj j E.out D;rw[← al.out] at am;have L:Hid (NI w w3 C S):=am;clear D am W E j;go_wp2_with fail;refine eW (gW _ 1 eX) ?_;intro e w4 h;obtain⟨Z,rfl,U,ap,I,F⟩:=h;have m:=ab N U;have d:Hid (NI w w4 C S):=L.out.G U;have bi:=N.size;have A:Hid (NI w w4 Z 1):=⟨by omega,I,F⟩;have an:C≠Z:=by have:=L.out.2.1;omega
  clear U ap I F bi L N;go_wp2_with fail;have W:=hi9 (iS w4 Z 0 Z 0 k 1 1 2 eX eX fk A.out.2.1 A.out.2.1 A.out.2.2 A.out.2.2);refine eW W.out ?_;intro e w5 D;obtain⟨rfl,O,R,-,af⟩:=bj m A.out D;have M:Hid (NI w w5 C i):=by rw[bm.out];exact af C S an d.out
  rw[dV,← bl.out] at R;have J:Hid (NI w w5 Z (X:Int)):=R;clear D R W af d A m;have HF:=hi9 (gM w5 bz C 0 Z 0 s1 s2 i X K eX HB.out.1 HB.out.2.1 HB.out.2.2 (de O Y.out) M.out.2.1 J.out.2.1 (HZ.out.G Y.out O) M.out.2.2 J.out.2.2);clear M J HB HZ Y;go_wp2_with fail;refine eW HF.out ?_;intro e w6 D;obtain⟨rfl,k1,k2⟩:=NormTo.after O D;have ag:=hi9 k2;clear D k2 HF;go_wp2_with fail;go_ret;exact⟨rfl,k1,ag.out⟩
/-- The upper and the lower part of a float, ahead of lowest terms. -/
def frS (s:Bool) (mag:Nat):Int:=if s then -(mag:Int) else mag
def frN (s:Bool) (mag ex:Nat):Int:=frS s mag*2^(max ex 1-1075)
def frD (ex:Nat):Nat:=2^(1075-max ex 1)
theorem pL (ex:Nat):0<frD ex:=ae _
theorem q0D (s:Bool) (mag ex:Nat):(frN s mag ex).natAbs=mag*2^(max ex 1-1075):=by
 unfold frN frS;rw[FT.ipow,cn,aA]
 congr 1
 split<;>omega
theorem q6O (s:Bool) (mag ex K:Nat) (A:mag<2^53) (hex:ex<2047) (B:K=40):(frN s mag ex).natAbs<2^(32*K)∧frD ex<2^(32*K)∧0<frD ex:=by
 refine⟨?_,?_,pL ex⟩
 ·rw[q0D]
  calc mag*2^(max ex 1-1075)<2^53*2^(max ex 1-1075):=av A (ae _)
   _=2^(53+(max ex 1-1075)):=by rw[ah]
   _≤2^(32*K):=ao eX eX
 ·unfold frD;exact bk eX eX
theorem q52 (w:World) (C b ex B mag:Nat) (O R:Int) (W:b<2^64) (j:b/2^52%2^11=ex) (d:b%2^52=B) (hex:ex<2047) (M:(if ex=0 then B else 2^52+B)=mag)
  (D:C<w.heap.size) (c:RatIs w C O R):
  Calls Tryz.prog 102 #[.pointer (some ⟨C,0,none⟩),.float .f64 b] w
   (NormTo w C (Int.tdiv (frN (FT.neg b) mag ex) (Nat.gcd (frN (FT.neg b) mag ex).natAbs (frD ex):Nat)) (frD ex/Nat.gcd (frN (FT.neg b) mag ex).natAbs (frD ex))):=by
 obtain⟨K,i⟩:∃ K:Nat,K=40:=⟨_,rfl⟩;have L:B<2^52:=by omega
 have A:mag<2^53:=by rw[← M];split<;>omega
 have X:=q6O (FT.neg b) mag ex K A hex i;have N:=FT.rung_fields b;rw[j,d] at N;have Z:b=FT.wrd (FT.neg b) (ex*2^52+B):=by
  rw[← N];rcases FT.neg_cases b W with ⟨F,a2⟩|⟨F,a2⟩<;>rw[F]<;>exact a2
 have I:=FT.exp_field (FT.neg b) ex B eX L;rw[← Z] at I;have J:=FT.and_mask b 52 W eX;rw[d,show (2:Int)^52-1=4503599627370495 from rfl] at J;have U:((b:Int)/9223372036854775808==1)=FT.neg b:=by
  rcases FT.neg_cases b W with ⟨F,a2⟩|⟨F,a2⟩
  ·have:=FT.rung_lt b;rw[F];simp;omega
  ·have:=FT.rung_lt b;rw[F];simp;omega
 have Y:frS (FT.neg b) mag=if FT.neg b then -(mag:Int) else mag:=rfl;by_cases E:ex=0
 ·rw[if_pos E] at M;rw[E] at I;rw[M] at J;refine q0k w C b mag (frD ex) (1075-max ex 1) _ _ _ O R K eX A Y I J U eX ?_ (FT.ipow _).symm X D c;unfold frN;rw[show max ex 1-1075=0 from by omega,Int.pow_zero,cU]
 ·rw[if_neg E] at M;have S:=q69 L (by omega:52≤63);rw[cR,M,show (2:Int)^52=4503599627370496 from rfl] at S;by_cases hu:1075≤ex
  ·refine q3G w C b ex B mag (frD ex) (ex-1075) _ _ _ O R K eX A Y hex hu I J S U eX ?_ ?_ X D c
   ·unfold frN;rw[show max ex 1=ex from by omega]
   ·unfold frD;rw[show 1075-max ex 1=0 from by omega];rfl
  ·refine q3F w C b ex B mag (frD ex) (1075-max ex 1) _ _ _ O R K eX A Y eX eX I J S U eX ?_ (FT.ipow _).symm X D c;unfold frN;rw[show max ex 1-1075=0 from by omega,Int.pow_zero,cU]
/-- The reference's ratio of a float. -/
theorem q6i (w:World) (b ex D mag:Nat) (M:b<2^64) (N:b/2^52%2^11=ex) (O:b%2^52=D) (hex:ex<2047) (R:(if ex=0 then D else 2^52+D)=mag):
  Calls Tryz.prog 38 #[.float .f64 b] w
   (RetR w (Int.tdiv (frN (FT.neg b) mag ex) (Nat.gcd (frN (FT.neg b) mag ex).natAbs (frD ex):Nat)) (frD ex/Nat.gcd (frN (FT.neg b) mag ex).natAbs (frD ex))):=by
 have L:Hid (∀ E p,p<E.heap.size→RatIs E p 0 0→_):=fun E p W X=>q52 E p b ex D mag 0 0 M N O hex R W X;generalize Int.tdiv (frN (FT.neg b) mag ex) (Nat.gcd (frN (FT.neg b) mag ex).natAbs (frD ex):Nat)=A at *;generalize frD ex/Nat.gcd (frN (FT.neg b) mag ex).natAbs (frD ex)=B at *;clear M N O hex R;go_enter Tryz.func38,Tryz.ntmps38;go_wp2_with fail;have J:=iY w 45;have I:=(ad w).alloc (.cells #[.bool false,.slice none 0 0,.bool false,.slice none 0 0] 45);have C:w.heap.size<(w.alloc (.cells #[.bool false,.slice none 0 0,.bool false,.slice none 0 0] 45)).heap.size:=by simp
 have K:w.heap.size≤w.heap.size:=aI _;generalize w.alloc (.cells #[.bool false,.slice none 0 0,.bool false,.slice none 0 0] 45)=d at *;refine eW (L.out d _ C J) ?_;intro e i S;obtain⟨p,rfl,Y,Z,c,U⟩:=NormTo.ret I K C S;have F:Hid (RatIs i p A (B:Int)):=U;clear S U L;go_wp2_with fail;go_ret;exact⟨p,rfl,Y,Z,c,F.out⟩
end Go.Proofs.YtohcneeihdkfgaaGreatDoor
namespace Go.Proofs.YtohcneeihdkfgaaGreatDoor
open Go.ChangeShapes Go.WideShapes Go.ChangeAt Go.RowKit
open BN
theorem q2W (w:World) (x:Int) (s: -9223372036854775808≤x∧x≤9223372036854775807):
  Calls Tryz.prog 213 #[.int .i64 x,.int .i64 1] w (RetR w x 1):=by
 have h2:x.natAbs<2^(32*2):=by omega
 have j:Hid (∀ w,Calls _ _ _ w (RetI w x)):=fun w=>gW w x s;have W:Hid (∀ C z q p,z<C.heap.size→RatIs C z 0 0→q<C.heap.size→IntIs C q 0 x→p<C.heap.size→IntIs C p 0 1→_):=fun C z q p hz c hq Z hp hi=>gM C z q 0 p 0 0 0 x 1 2 eX h2 eX eX hz hq hp c Z hi;have U:Hid (Int.tdiv x (Nat.gcd x.natAbs 1:Nat)=x∧1/Nat.gcd x.natAbs 1=1):=by
  rw[dG];exact⟨Int.tdiv_one x,rfl⟩
 rw[U.out.1,U.out.2] at W;clear h2 U s;go_enter Tryz.func213,Tryz.ntmps213;go_wp2_with fail;have S:=iY w 45;have M:=(ad w).alloc (.cells #[.bool false,.slice none 0 0,.bool false,.slice none 0 0] 45);have I:w.heap.size<(w.alloc (.cells #[.bool false,.slice none 0 0,.bool false,.slice none 0 0] 45)).heap.size:=by simp
 have d:w.heap.size≤w.heap.size:=aI _;generalize w.alloc (.cells #[.bool false,.slice none 0 0,.bool false,.slice none 0 0] 45)=C at *;have J:Hid (RatIs C w.heap.size 0 0):=S;clear S;refine Calls.mono (P:=Tryz.prog) (j.out C) ?_;intro e i h;obtain⟨q,rfl,D,-,F,R⟩:=h;have k:Hid (IntIs i q 0 x):=R;have L:=ab M D;have B:=de D I;have K:Hid (RatIs i w.heap.size 0 0):=J.out.G I D;clear R j J I M D;go_wp2_with fail;refine Calls.mono (P:=Tryz.prog) (gW i 1 eX) ?_;intro e w3 h;obtain⟨p,rfl,A,-,N,O⟩:=h;have Y:=ab L A;have E:=de A B;have m:=hi9 (W.out w3 w.heap.size q p E (K.out.G B A) (de A F) (df k.out F A) N O);clear W N O L A K k F B;go_wp2_with fail;refine Calls.mono (P:=Tryz.prog) m.out ?_;intro e w4 o;obtain⟨r,rfl,k1,k2,k3,y⟩:=NormTo.ret Y d E o;have X:Hid (RatIs w4 r x ((1:Nat):Int)):=y;clear o y m;go_wp2_with fail;go_ret;exact⟨r,rfl,k1,k2,k3,X.out⟩
theorem q6a (P:Int) (h1: -1100≤P) (h2:P≤1100) (w:World):Calls Tryz.prog 212 #[.int .i64 P] w (RetR w (2^P.toNat:Nat) (2^(-P).toNat)):=by
 by_cases h:0≤P
 ·obtain⟨k,rfl⟩:=Int.eq_ofNat_of_zero_le h;rw[dw,show (-(k:Int)).toNat=0 from by omega,cf];exact q4S w k 40 eX eX eX
 ·obtain⟨k,A⟩:∃ k:Nat,P= -(k:Int):=⟨(-P).toNat,by omega⟩;subst A;rw[show (-(k:Int)).toNat=0 from by omega,Int.neg_neg,dw,cf];exact q1N w k 40 eX eX eX eX
end Go.Proofs.YtohcneeihdkfgaaGreatDoor
