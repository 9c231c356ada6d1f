/- What is proved here: contracts of package bits, Join to Make, over this seat's translation.
What is proved here: contracts of package bits, Whole and shift, over this seat's translation.
What is proved here: contracts of package bits, nearest and Make, over this seat's translation.
What is proved here: contracts of neighbours and keys, over this seat's translation.
What is proved here: what 'nearest' gives against the exact rounding; contracts of Ulp, over this seat's translation. -/
import Derived.Test.YtfnkkkcojnffdaaGreatDoorC1
import Derived.Test.YtfnkkkcojnffdaaGreatDoorC14
import Derived.Test.YtfnkkkcojnffdaaGreatDoorC2
import Derived.Test.YtfnkkkcojnffdaaGreatDoorC16
import Derived.Shelf.Strconv.Itoa0
import Derived.Test.YtfnkkkcojnffdaaGreatDoorC3
namespace Go.Proofs.YtfnkkkcojnffdaaGreatDoor
open Go.ChangeShapes Go.WideShapes Go.ChangeAt Go.RowKit
attribute [local go_sem] eH ff
/-- The library's table lies where it was laid. -/
def Tab (w:World):Prop:=1<w.heap.size∧∀ i,i<64→w.cell? ⟨1,i,none⟩=some (.int .u8 (FT.tab.getD i 0:Nat))
theorem Tab.G {w A:World} (h:Tab w) (g:G w A):Tab A:=
 ⟨ad h.1 g.size,fun i hi=>g.cell h.1 (h.2 i hi)⟩
theorem jb (x:Nat) (w:World) (h:x<2^64):Calls Tryz.prog 174 #[.int .u64 x] w fun e A=>e= .returned (.int .i64 (Lib.bitLen x))∧G w A:=
 (Tryz.bits_Len64 x w dT dT).mono (by rintro e A ⟨rfl,rfl⟩;exact⟨by simp,af _⟩)
theorem q0Y (x k q:Nat) (w:World) (_hx:x<2^64) (E:((x:Int)==0)=false) (hi:q<64) (C:k<64) (B:w.cell? ⟨1,q,none⟩=some (.int .u8 k))
  (D:IntKind.u64.wrap (bits BinOp.and IntKind.u64 (x:Int) (IntKind.u64.wrap (-(x:Int)))*285870213051353865)/288230376151711744=(q:Int)):
  Calls Tryz.prog 139 #[.int .u64 x] w fun e A=>e= .returned (.int .i64 k)∧A=w:=by
 go_enter Tryz.func139,Tryz.ntmps139;go_wp2;go_ret;exact⟨rfl,rfl⟩
theorem tz_c (x j k:Nat) (w:World) (E:Tab w) (B:x<2^64) (e:x=(2*j+1)*2^k):
  Calls Tryz.prog 139 #[.int .u64 x] w fun e D=>e= .returned (.int .i64 k)∧G w D:=by
 have A:k<64:=by rw[e] at B;exact FT.tz_lt B
 have C:=E.2 _ (FT.ix_lt A);rw[FT.tab_ix A] at C;have F:((x:Int)==0)=false:=by
  have:x≠0:=by rw[e];exact ct dT (by have:=ae k;omega)
  simp;omega
 refine(q0Y x k (FT.ix k) w B F (FT.ix_lt A) A C (FT.place x j k e B)).mono ?_;rintro e D ⟨rfl,rfl⟩;exact⟨rfl,af _⟩
end Go.Proofs.YtfnkkkcojnffdaaGreatDoor
namespace Go.Proofs.YtfnkkkcojnffdaaGreatDoor
open Go.ChangeShapes Go.WideShapes Go.ChangeAt Go.RowKit
attribute [local go_sem] eH ff
/-! Rounding by a shift. -/
def rnd (mag d:Nat):Nat:=mag/2^d+(if 2^(d-1)<mag%2^d∨(mag%2^d=2^(d-1)∧mag/2^d%2=1) then 1 else 0)
theorem mS (mag n:Nat) (w:World) (h:mag*2^n<2^64) (C:n<64):
  Calls Tryz.prog 224 #[.int .u64 mag,.int .i64 n] w fun e B=>e= .returned (.int .u64 (mag*2^n:Nat))∧G w B:=by
 have A:IntKind.u64.wrap ((mag:Int)*2^n)=((mag*2^n:Nat):Int):=by
  rw[IntKind.wrap_u64,FT.ipow,← aV];generalize mag*2^n=q at *;omega
 have F1:=hi9 A;clear A h;go_enter Tryz.func224,Tryz.ntmps224;go_wp2;go_ret;exact⟨er F1.out,af _⟩
theorem lS (mag:Nat) (n:Int) (w:World) (B:n< -64):
  Calls Tryz.prog 224 #[.int .u64 mag,.int .i64 n] w fun e A=>e= .returned (.int .u64 0)∧G w A:=by
 go_enter Tryz.func224,Tryz.ntmps224;go_wp2;go_ret;exact⟨rfl,af _⟩
theorem q0F (mag d:Nat) (h1:1≤d) (h2:d≤64) (C:mag<2^64):
  bits BinOp.and IntKind.u64 (mag:Int) (bits BinOp.or IntKind.u64 (2^(d-1)) (2^(d-1)-1))=((mag%2^d:Nat):Int):=by
 have D:1≤2^(d-1):=ae (d-1);have E:2^(d-1)≤2^63:=eM dT;have B:2^d=2*2^(d-1):=by
  obtain⟨e,rfl⟩:∃ e,d=e+1:=⟨d-1,by omega⟩;simp [Nat.pow_succ,Nat.mul_comm]
 have A:bits BinOp.or IntKind.u64 (2^(d-1)) (2^(d-1)-1)=((2^d-1:Nat):Int):=by
  rw[FT.ipow,show (((2^(d-1):Nat):Int)-1)=((2^(d-1)-1:Nat):Int) from by omega,u64_or_nat _ _ dT dT,
   nat_join (d-1) (2^(d-1)) (2^(d-1)-1) eO dT]
  congr 1
  omega
 rw[A,u64_and_nat mag _ dT dT,Nat.and_two_pow_sub_one_eq_mod]
theorem kH (mag d:Nat) (w:World) (F:mag<2^64) (h1:1≤d) (h2:d≤64):
  Calls Tryz.prog 224 #[.int .u64 mag,.int .i64 (-(d:Int))] w fun e O=>e= .returned (.int .u64 (rnd mag d:Nat))∧G w O:=by
 have M:=q0F mag d h1 h2 F;have N:=fR (show d-1≤63 by omega);have R:(mag:Int)/2^d=((mag/2^d:Nat):Int):=by simp
 have L:mag/2^d<2^63:=by
  have:2^1≤2^d:=eM h1;rw[aX dT]
  calc mag<2^64:=F
   _=2^63*2^1:=by rfl
   _≤2^63*2^d:=au _ this
 have B:bits BinOp.and IntKind.u64 ((mag/2^d:Nat):Int) 1=((mag/2^d%2:Nat):Int):=by
  have:=FT.and_mask (mag/2^d) 1 dT dT;simpa using this
 have D:((2^(d-1):Nat):Int)=2^(d-1):=by simp
 unfold rnd;have S:mag%2^d<2^64:=by have:=Nat.mod_le mag (2^d);omega
 generalize mag%2^d=lost at *;generalize mag/2^d=kept at *;rw[← D] at N;generalize K:2^(d-1)=half at *;clear K;have E:=D.symm;clear D;rw[E] at M;have A:kept%2=0∨kept%2=1:=by omega
 by_cases c1:half<lost
 ·have C:(half:Int)<lost:=by omega
  rw[if_pos (Or.inl c1)];go_enter Tryz.func224,Tryz.ntmps224;go_wp2;go_ret;exact⟨er eO,af _⟩
 ·have C:¬ (half:Int)<lost:=by omega
  by_cases I:lost=half
  ·subst I;rcases A with A|A<;>rw[A] at B
   ·rw[if_neg dT];go_enter Tryz.func224,Tryz.ntmps224;go_wp2;go_ret;exact⟨er eO,af _⟩
   ·rw[if_pos dT];go_enter Tryz.func224,Tryz.ntmps224;go_wp2;go_ret;exact⟨er eO,af _⟩
  ·have J:((lost:Int)==half)=false:=by simp;omega
   rw[if_neg dT];go_enter Tryz.func224,Tryz.ntmps224;go_wp2;go_ret;exact⟨er eO,af _⟩
end Go.Proofs.YtfnkkkcojnffdaaGreatDoor
namespace Go.Proofs.YtfnkkkcojnffdaaGreatDoor
open Go.ChangeShapes Go.WideShapes Go.ChangeAt Go.RowKit
attribute [local go_sem] eH ff
def shV (mag:Nat) (n:Int):Nat:=if 0≤n then mag*2^n.toNat else if n< -64 then 0 else rnd mag (-n).toNat
theorem q0R (mag:Nat) (n:Int) (w:World) (B:mag<2^64) (h:0≤n→n<64∧mag*2^n.toNat<2^64):
  Calls Tryz.prog 224 #[.int .u64 mag,.int .i64 n] w fun e C=>e= .returned (.int .u64 (shV mag n:Nat))∧G w C:=by
 unfold shV;by_cases A:0≤n
 ·obtain⟨k,rfl⟩:=Int.eq_ofNat_of_zero_le A;obtain⟨h1,h2⟩:=h A;rw[if_pos A];rw[Int.toNat_natCast] at h2 ⊢;exact mS mag k w h2 dT
 ·rw[if_neg A];by_cases h1:n< -64
  ·rw[if_pos h1];exact lS mag n w h1
  ·rw[if_neg h1];have:=kH mag (-n).toNat w B dT dT;rw[show (-(((-n).toNat:Nat):Int))=n from by omega] at this;exact this
theorem oc (x:Nat) (h:x<2^64):Lib.bitLen x≤64:=Lib.bitLen_le x 64 dT h
theorem eW {x:Nat} (B:x≠0) (h:x<2^64):Lib.bitLen x=x.log2+1:=by
 have h1:=cB B;have h2:=cg (n:=x);rw[Lib.bitLen_shift x.log2 x h1 h];have h3:x/2^x.log2=1:=by
  have A:=ae x.log2;have a:x/2^x.log2<2:=by rw[aX A];rw[bF] at h2;omega
  have b:1≤x/2^x.log2:=by rw[cX A];omega
  omega
 rw[h3];rfl
/-- What 'nearest' gives. -/
def fu (E F mag:Nat) (e:Int):Nat:=
 if mag=0 then 0
 else if 2^(E-1)-1<e+mag.log2 then (2^E-1)*2^F
 else (max (e+mag.log2) (2-2^(E-1))-(2-2^(E-1))).toNat*2^F+shV mag (e-(max (e+mag.log2) (2-2^(E-1))-F))
theorem q1L (mag d:Nat) (C:mag<2^64) (A:1≤d):rnd mag d≤2^63:=by
 have B:mag/2^d<2^63:=by
  have:2^1≤2^d:=eM A;rw[aX dT]
  calc mag<2^64:=C
   _=2^63*2^1:=by rfl
   _≤2^63*2^d:=au _ this
 unfold rnd;split<;>omega
theorem q1O (mag:Nat) (n:Int) (B:mag<2^64) (h:0≤n→mag*2^n.toNat<2^63):shV mag n≤2^63:=by
 unfold shV;split
 ·rename_i A;have:=h A;omega
 ·split
  ·omega
  ·exact q1L _ _ B dT
set_option maxRecDepth 100000 in
theorem oK (mag E F:Nat) (e:Int) (w:World) (X:mag<2^64) (hE:2≤E) (W:E≤11) (hF:1≤F) (O:F≤52) (cr: -6000≤e) (cs:e≤6000):
  Calls Tryz.prog 198 #[.int .u64 mag,.int .i64 e,.agg #[.int .i64 E,.int .i64 F]] w fun r w'=>r= .returned (.int .u64 (fu E F mag e:Nat))∧G w w':=by
 by_cases hz:mag=0
 ·subst hz;go_enter Tryz.func198,Tryz.ntmps198;go_wp2;go_ret;exact⟨er (by simp [fu]),ny⟩
 have hl:=eW hz X;have am:=oc mag X;have an:=fR (show E-1≤10 by omega);have bv:(2:Int)≤2^(E-1):=by
  have:2^1≤2^(E-1):=eM dT;rw[FT.ipow];omega
 have ao:=fR O;have cx:((mag:Int)==0)=false:=by simp;omega
 have k:Hid _:=fun w=>jb mag w X;have m:Hid _:=fun w=>mA E F w dT W;have C3:Hid _:=fun w=>mw E F w W O;rw[hl] at k;have bq:mag.log2<64:=by omega
 have N:=cg (n:=mag);unfold fu;rw[if_neg hz]
 -- the shift
 have o:Hid _:=fun n w=>q0R mag n w X;have S:∀ n:Int,n+mag.log2≤F→0≤n→n<64∧mag*2^n.toNat<2^63:=by
  intro n h1 h2;refine⟨by omega,?_⟩;have hp:=ae n.toNat
  calc mag*2^n.toNat<2^(mag.log2+1)*2^n.toNat:=aD N hp
   _=2^(mag.log2+1+n.toNat):=by rw[← ah]
   _≤2^63:=eM dT
 have Z:∀ n:Int,n+mag.log2≤F→shV mag n≤2^63:=fun n h=>q1O mag n X (fun j=>(S n h j).2);have i:=hi9 S;have s:=hi9 Z;clear S Z N hl am;generalize mag.log2=U at *;have hM:(2:Int)^(E-1)≤1024:=by omega
 have L:((2:Int)^E)=2*2^(E-1):=by
  obtain⟨d,rfl⟩:∃ d,E=d+1:=⟨E-1,by omega⟩;simp [Int.pow_succ,Int.mul_comm]
 have H3:=hi9 L;clear L;by_cases D:(2:Int)^(E-1)-1<e+U
 ·rw[if_pos D];have hN:((2:Int)^E-1)*2^F=(((2^E-1)*2^F:Nat):Int):=by
   have:=ae E;rw[aV,show ((2^E-1:Nat):Int)=((2^E:Nat):Int)-1 from by omega];simp
  rw[hN] at C3;clear hN;generalize (2:Int)^(E-1)=M at *;generalize (2^E-1)*2^F=r at *;clear i s H3 o ao an;have al:M-1<e+(U+1)-1:=by omega
  go_enter Tryz.func198,Tryz.ntmps198;go_wp2_with fail;refine(k.out _).mono ?_;rintro e w1 ⟨rfl,A⟩;have bz:=A.cell (p:=⟨w.heap.size,0,none⟩) (v:= .int .i64 E) (by first|(simp;done)|(simp;omega)|omega) (by first|assumption|(simp [go_sem];done)|(simp [*,go_sem];done));have ca:=A.cell (p:=⟨w.heap.size,1,none⟩) (v:= .int .i64 F) (by first|(simp;done)|(simp;omega)|omega) (by first|assumption|(simp [go_sem];done)|(simp [*,go_sem];done));have I:=A.size
  try simp at I
  go_wp2_with fail;refine(m.out _).mono ?_;rintro e w2 ⟨rfl,B⟩;have cb:=B.cell (p:=⟨w.heap.size,0,none⟩) (v:= .int .i64 E) (by first|(simp;done)|(simp;omega)|omega) (by first|assumption|(simp [go_sem];done)|(simp [*,go_sem];done));have cc:=B.cell (p:=⟨w.heap.size,1,none⟩) (v:= .int .i64 F) (by first|(simp;done)|(simp;omega)|omega) (by first|assumption|(simp [go_sem];done)|(simp [*,go_sem];done));have J:=B.size
  try simp at J
  go_wp2_with fail;refine(C3.out _).mono ?_;rintro e w3 ⟨rfl,C⟩;have K:=C.size
  try simp at K
  go_wp2;go_ret;exact⟨rfl,ny⟩
 ·rw[if_neg D];generalize y:(2:Int)^(E-1)=M at *;generalize ap:max (e+(U:Int)) (2-M)=place at *;have hn:(e-(place-F))+U≤F:=by omega
  have hs:=s.out _ hn;have hS:Hid _:=fun w=>o.out (e-(place-F)) w (fun j=>⟨(i.out _ hn j).1,by have:=(i.out _ hn j).2;omega⟩);have bu:((place-(2-M)).toNat*2^F:Nat)≤2046*2^52:=by
   have:2^F≤2^52:=eM O;exact cj dT this
  have Y:(place-(2-M))*2^F=(((place-(2-M)).toNat*2^F:Nat):Int):=by
   rw[aV,← FT.ipow]
   congr 1
   omega
  have H5:=hi9 Y;clear Y;generalize (place-(2-M)).toNat*2^F=hi at *;generalize shV mag (e-(place-F))=lo at *;clear i s H3 o y;have t1:¬ M-1<e+(U+1)-1:=by omega
  have P:Hid (max (e+((U:Int)+1)-1) (1-(M-1))=place):=by show max (e+((U:Int)+1)-1) (1-(M-1))=place;omega
  have b1:0≤place-(2-M):=by omega
  have b2:place-(2-M)≤2046:=by omega
  clear ap D;go_enter Tryz.func198,Tryz.ntmps198;go_wp2_with fail;refine(k.out _).mono ?_;rintro e w1 ⟨rfl,A⟩;have cd:=A.cell (p:=⟨w.heap.size,0,none⟩) (v:= .int .i64 E) (by first|(simp;done)|(simp;omega)|omega) (by first|assumption|(simp [go_sem];done)|(simp [*,go_sem];done));have ce:=A.cell (p:=⟨w.heap.size,1,none⟩) (v:= .int .i64 F) (by first|(simp;done)|(simp;omega)|omega) (by first|assumption|(simp [go_sem];done)|(simp [*,go_sem];done));have I:=A.size
  try simp at I
  go_wp2_with fail;refine(m.out _).mono ?_;rintro e w2 ⟨rfl,B⟩;have ci:=B.cell (p:=⟨w.heap.size,0,none⟩) (v:= .int .i64 E) (by first|(simp;done)|(simp;omega)|omega) (by first|assumption|(simp [go_sem];done)|(simp [*,go_sem];done));have cl:=B.cell (p:=⟨w.heap.size,1,none⟩) (v:= .int .i64 F) (by first|(simp;done)|(simp;omega)|omega) (by first|assumption|(simp [go_sem];done)|(simp [*,go_sem];done));have J:=B.size
  try simp at J
  go_wp2_with fail;refine(m.out _).mono ?_;rintro e w3 ⟨rfl,C⟩;have cn:=C.cell (p:=⟨w.heap.size,0,none⟩) (v:= .int .i64 E) (by first|(simp;done)|(simp;omega)|omega) (by first|assumption|(simp [go_sem];done)|(simp [*,go_sem];done));have bi:=C.cell (p:=⟨w.heap.size,1,none⟩) (v:= .int .i64 F) (by first|(simp;done)|(simp;omega)|omega) (by first|assumption|(simp [go_sem];done)|(simp [*,go_sem];done));have K:=C.size
  try simp at K
  go_wp2_with fail;rw[P.out];refine(hS.out _).mono ?_;rintro e w4 ⟨rfl,R⟩;have bl:=R.cell (p:=⟨w.heap.size,0,none⟩) (v:= .int .i64 E) (by first|(simp;done)|(simp;omega)|omega) (by first|assumption|(simp [go_sem];done)|(simp [*,go_sem];done));have bn:=R.cell (p:=⟨w.heap.size,1,none⟩) (v:= .int .i64 F) (by first|(simp;done)|(simp;omega)|omega) (by first|assumption|(simp [go_sem];done)|(simp [*,go_sem];done));have c:=R.size
  try simp at c
  go_wp2;go_ret;exact⟨er (by rw[show place-(1-(M-1))=place-(2-M) from by omega,H5.out,IntWalk.u64_in (hi:Int) dT,IntWalk.u64_in _ dT];omega),ny⟩
theorem q0Q (mag F:Nat) (n:Int) (h:n+mag.log2≤F):shV mag n≤2^(F+1):=by
 have A:=cg (n:=mag);have h1:1≤2^(F+1):=ae _;unfold shV;split
 ·rename_i D
  have B:=ae n.toNat;have:mag*2^n.toNat<2^(mag.log2+1)*2^n.toNat:=aD A B;have e:2^(mag.log2+1)*2^n.toNat=2^(mag.log2+1+n.toNat):=by rw[← ah]
  have l:2^(mag.log2+1+n.toNat)≤2^(F+1):=eM dT;omega
 ·split
  ·omega
  ·generalize C:(-n).toNat=d;have B:=ae d;have E:mag/2^d<2^(F+1):=by
    rw[aX B,← ah];have l:2^(mag.log2+1)≤2^(F+1+d):=eM dT;omega
   unfold rnd;split<;>omega
set_option maxRecDepth 100000 in
theorem jv (mag:Nat) (e:Int):fu 11 52 mag e≤2047*2^52:=by
 unfold fu;split
 ·omega
 ·split
  ·omega
  ·rename_i h1
   simp only[show (2:Int)^(11-1)=1024 from rfl] at h1 ⊢;generalize C:max (e+(mag.log2:Int)) (2-1024)=place;have B:=q0Q mag 52 (e-(place-(52:Nat))) dT;have A:(place-(2-1024)).toNat*2^52≤2045*2^52:=aq _ dT;have h3:(2:Nat)^(52+1)=2*2^52:=rfl;rw[h3] at B;have key:∀ hi lo:Nat,hi≤2045*2^52→lo≤2*2^52→hi+lo≤2047*2^52:=by intro hi lo a b;omega
   exact key _ _ A B
def fV (e:Int):Int:=max (-5000) (min 5000 e)
set_option maxRecDepth 100000 in
theorem q1x (m e:Int) (w:World) (Y: -9223372036854775808≤m) (Z:m≤9223372036854775807) (U: -9223372036854775808≤e) (W:e≤9223372036854775807):
  Calls Tryz.prog 154 #[.int .i64 m,.int .i64 e] w fun r k=>
   r= .returned (.float .f64 (if m<0 then fu 11 52 m.natAbs (fV e)+2^63 else fu 11 52 m.natAbs (fV e)))∧G w k:=by
 have X:=jv m.natAbs (fV e);have L:min (max e (-5000)) 5000=fV e:=by unfold fV;omega
 have R: -5000≤fV e∧fV e≤5000:=by unfold fV;omega
 have N:Hid _:=fun w=>oK m.natAbs 11 52 (fV e) w dT dT dT dT dT dT dT;have S:Hid _:=fun s w=>fF s (fu 11 52 m.natAbs (fV e)) w dT;generalize fu 11 52 m.natAbs (fV e)=r at *;have C:=hi9 L;clear L;generalize fV e=c at *;by_cases O:m<0
 ·rw[if_pos O];have A:((m.natAbs:Nat):Int)= -m:=by omega
  rw[A] at N;have i:IntKind.u64.wrap m=m+18446744073709551616:=by rw[IntKind.wrap_u64];omega
  have j:IntKind.u64.wrap (-(m+18446744073709551616))= -m:=by rw[IntKind.wrap_u64];omega
  have K:=S.out true;have M:=hi9 K;clear S K A;go_enter Tryz.func154,Tryz.ntmps154;go_wp2_with fail;refine(jm _).mono ?_;rintro e o ⟨rfl,F⟩;have B:=F.size
  try simp at B
  go_wp2_with fail;rw[C.out];refine(N.out _).mono ?_;rintro e y ⟨rfl,I⟩;have D:=I.size
  try simp at D
  go_wp2_with fail;refine(M.out _).mono ?_;rintro e w3 ⟨rfl,J⟩;have E:=J.size
  try simp at E
  go_wp2;go_ret;exact⟨by simp,ny⟩
 ·rw[if_neg O];have A:((m.natAbs:Nat):Int)=m:=by omega
  rw[A] at N;have d:0≤m:=by omega
  have K:=S.out false;have M:=hi9 K;clear S K A;go_enter Tryz.func154,Tryz.ntmps154;go_wp2_with fail;refine(jm _).mono ?_;rintro e o ⟨rfl,F⟩;have B:=F.size
  try simp at B
  go_wp2_with fail;rw[C.out];refine(N.out _).mono ?_;rintro e y ⟨rfl,I⟩;have D:=I.size
  try simp at D
  go_wp2_with fail;refine(M.out _).mono ?_;rintro e w3 ⟨rfl,J⟩;have E:=J.size
  try simp at E
  go_wp2;go_ret;exact⟨by simp,ny⟩
end Go.Proofs.YtfnkkkcojnffdaaGreatDoor
namespace Go.Proofs.YtfnkkkcojnffdaaGreatDoor
open Go.ChangeShapes Go.WideShapes Go.ChangeAt Go.RowKit
attribute [local go_sem] eH ff
theorem gu (k:FloatKind) (b:Nat):Op.unary .neg (.float k b)=pure (.float k (Op.negFloat k b)):=rfl
attribute [local go_sem] gu
def negV (b:Nat):Nat:=if FT.neg b then b-2^63 else b+2^63
theorem lI (b:Nat) (h:b<2^64):Op.negFloat .f64 b=negV b:=by
 unfold negV;show b^^^2^63=_;rcases FT.neg_cases b h with ⟨h1,h2⟩|⟨h1,h2⟩
 ·rw[if_pos h1];have A:=FT.rung_lt b;generalize FT.rung b=r at *;subst h2;have e:r+2^63=2^63|||r:=by rw[nat_join 63 (2^63) r dT A];omega
  apply Nat.eq_of_testBit_eq;intro i;rw[e,Nat.testBit_xor,Nat.testBit_or,Nat.testBit_two_pow];have B:(2^63|||r)-2^63=r:=by rw[← e];omega
  rw[B];by_cases hi:63=i
  ·subst hi;rw[Nat.testBit_lt_two_pow A];rfl
  ·simp [hi]
 ·rw[if_neg (by rw[h1];simp)];have A:=FT.rung_lt b;rw[← h2] at A;have e:b+2^63=2^63|||b:=by rw[nat_join 63 (2^63) b dT A];omega
  apply Nat.eq_of_testBit_eq;intro i;rw[e,Nat.testBit_xor,Nat.testBit_or,Nat.testBit_two_pow];by_cases hi:63=i
  ·subst hi;rw[Nat.testBit_lt_two_pow A];rfl
  ·simp [hi]
end Go.Proofs.YtfnkkkcojnffdaaGreatDoor
namespace Go.Proofs.YtfnkkkcojnffdaaGreatDoor
open Go.ChangeShapes Go.WideShapes Go.ChangeAt Go.RowKit
attribute [local go_sem] eH ff gu
theorem q0M (s:Bool) (mag d:Nat) (I:mag≠0) (J:1≤d):Ieee.Toward.even.cut s mag d=rnd mag d:=by
 have h1:=cB I;have h2:=cg (n:=mag);have B:2^d=2*2^(d-1):=by
  obtain⟨e,rfl⟩:∃ e,d=e+1:=⟨d-1,by omega⟩;simp [Nat.pow_succ,Nat.mul_comm]
 unfold Ieee.Toward.cut rnd;by_cases h:d≤mag.log2+2
 ·have C:min d (mag.log2+2)=d:=by omega
  simp only[C,dA,aW]
  congr 1
  generalize mag%2^d=rest;generalize mag/2^d%2=D;rw[B];generalize 2^(d-1)=half;by_cases c1:half<rest
  ·have E:2*half<2*rest:=by omega
   simp [c1]
  ·have E:¬ 2*half<2*rest:=by omega
   by_cases F:rest=half
   ·subst F;by_cases A:D=1<;>simp [A]
   ·have A:¬ 2*half=2*rest:=by omega
    simp [c1,F,A]
 ·have C:min d (mag.log2+2)=mag.log2+2:=by omega
  have K:2^(mag.log2+2)=2*2^(mag.log2+1):=by rw[bF 2 (mag.log2+1),aF]
  have L:2^(mag.log2+2)≤2^(d-1):=eM dT;have M:2^(d-1)≤2^d:=eM dT;simp only[C,dA,aW];rw[aN (show mag<2^(mag.log2+2) by omega),aM (show mag<2^(mag.log2+2) by omega),
   aN (show mag<2^d by omega),aM (show mag<2^d by omega)]
  rw[if_neg dT];have c1:¬ 2^(mag.log2+2)<2*mag:=by omega
  have E:¬ 2^(mag.log2+2)=2*mag:=by omega
  simp [c1]
theorem nM (s:Bool) (mag:Nat) (n:Int) (B:mag≠0) (C:mag<2^64):shV mag n=Ieee.Toward.even.cut s (mag<<<n.toNat) (-n).toNat:=by
 unfold shV;by_cases A:0≤n
 ·rw[if_pos A,show (-n).toNat=0 from by omega,FT.cut_zero,dA]
 ·rw[if_neg A,show n.toNat=0 from by omega,Nat.shiftLeft_zero,q0M s mag _ B dT];split
  ·have:2^64≤2^((-n).toNat-1):=eM dT;have h2:2^((-n).toNat-1)≤2^(-n).toNat:=eM dT;unfold rnd;rw[aN dT,aM dT,if_neg dT]
  ·rfl
theorem mG (s:Bool) (mag:Nat) (e:Int) (B:mag≠0) (F:mag<2^64):
  Ieee.double.nearest s mag e=FT.wrd s (fu 11 52 mag e):=by
 have hle:=jv mag e;have h1:=cB B;unfold Ieee.Format.nearest;rw[if_neg B,FT.leastPlace_eq,FT.infRung_eq,FT.binade_eq,FT.word_eq]
 congr 1
 show min ((max (e+(mag.log2:Int)-(52:Nat)) (-1074)- -1074).toNat*2^52+Ieee.Toward.even.cut s (mag<<<(e-max (e+(mag.log2:Int)-(52:Nat)) (-1074)).toNat) (max (e+(mag.log2:Int)-(52:Nat)) (-1074)-e).toNat) (2047*2^52)=_;generalize O:max (e+(mag.log2:Int)-(52:Nat)) (-1074)=last;have E:=nM s mag (e-last) B F;rw[show (-(e-last)).toNat=(last-e).toNat from by omega] at E;rw[← E];unfold fu at hle ⊢;rw[if_neg B] at hle ⊢;have h2:(2:Int)^(11-1)=1024:=rfl;rw[h2] at hle ⊢;by_cases A:(1024:Int)-1<e+mag.log2
 ·rw[if_pos A];have D:last=e+mag.log2-52:=by omega
  have L:2^52≤shV mag (e-last):=by
   unfold shV;by_cases I:0≤e-last
   ·rw[if_pos I];have:2^mag.log2*2^(e-last).toNat≤mag*2^(e-last).toNat:=aq _ h1;rw[← ah,show mag.log2+(e-last).toNat=52 from by omega] at this;exact this
   ·rw[if_neg I];have M:mag.log2<64:=(cA B).2 F;rw[if_neg dT];unfold rnd;have:2^52≤mag/2^(-(e-last)).toNat:=by
     rw[cX (ae _),← ah,show 52+(-(e-last)).toNat=mag.log2 from by omega];exact h1
    omega
  have C:2046*2^52≤(last- -1074).toNat*2^52:=aq _ dT;have key:∀ hi lo:Nat,2046*2^52≤hi→2^52≤lo→min (hi+lo) (2047*2^52)=(2^11-1)*2^52:=by intro hi lo a b;omega
  exact key _ _ C L
 ·rw[if_neg A] at hle ⊢;have N:max (e+(mag.log2:Int)) (2-1024)=last+52:=by omega
  rw[N] at hle ⊢;have J:(last+52-(2-1024)).toNat=(last- -1074).toNat:=by omega
  have K:e-(last+52-(52:Nat))=e-last:=by omega
  rw[J,K] at hle ⊢;exact bE hle
end Go.Proofs.YtfnkkkcojnffdaaGreatDoor
