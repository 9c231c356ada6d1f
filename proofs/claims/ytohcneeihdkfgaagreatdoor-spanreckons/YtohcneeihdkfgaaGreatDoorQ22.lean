/- What is proved here: contracts of package bits, Join to Make, over this seat's translation.
What is proved here: contracts of package bits, Whole and shift, over this seat's translation.
What is proved here: contracts of package bits, nearest and Make, over this seat's translation.
What is proved here: contracts of neighbours (package bits, package math, the reference), over this seat's translation.
What is proved here: contracts of neighbours and keys, over this seat's translation.
What is proved here: contracts of Frexp and of the reference's kinds and odd parts, over this seat's translation.
What is proved here: contracts of Ldexp, of the reference's odd parts and units, and of Ulp, over this seat's translation.
What is proved here: contracts of the reference's odd parts and units, and of Ulp; what 'nearest' gives against the exact rounding, over this seat's translation.
What is proved here: what 'nearest' gives against the exact rounding; contracts of Ulp, over this seat's translation.
What is proved here: the float of a number below 2^53, and Ldexp of it, over this seat's translation.
What is proved here: contracts of package bits, small and Pack, over this seat's translation. -/
import Derived.Test.YtohcneeihdkfgaaGreatDoorQ1
import Derived.Test.YtohcneeihdkfgaaGreatDoorQ13
import Derived.Test.YtohcneeihdkfgaaGreatDoorQ2
import Derived.Test.YtohcneeihdkfgaaGreatDoorQ21
import Derived.Shelf.Strconv.Itoa0
import Derived.Test.YtohcneeihdkfgaaGreatDoorQ3
namespace Go.Proofs.YtohcneeihdkfgaaGreatDoor
open Go.ChangeShapes Go.WideShapes Go.ChangeAt Go.RowKit
attribute [local go_sem] fE fN
/-- The library's table lies where it was laid. -/
def Tab (w:World):Prop:=1<w.heap.size∧∀ i,i<64→w.cell? ⟨1,i,none⟩=some (.int .u8 (FT.tab.getD i 0:Nat))
theorem Tab.G {w A:World} (h:Tab w) (g:G w A):Tab A:=
 ⟨aj h.1 g.size,fun i hi=>g.cell h.1 (h.2 i hi)⟩
theorem mE (x:Nat) (w:World) (h:x<2^64):Calls Tryz.prog 237 #[.int .u64 x] w fun e A=>e= .returned (.int .i64 (Lib.bitLen x))∧G w A:=
 (Tryz.bits_Len64 x w eX eX).mono (by rintro e A ⟨rfl,rfl⟩;exact⟨by simp,ad _⟩)
theorem q5k (x k q:Nat) (w:World) (_hx:x<2^64) (E:((x:Int)==0)=false) (hi:q<64) (C:k<64) (B:w.cell? ⟨1,q,none⟩=some (.int .u8 k))
  (D:IntKind.u64.wrap (bits BinOp.and IntKind.u64 (x:Int) (IntKind.u64.wrap (-(x:Int)))*285870213051353865)/288230376151711744=(q:Int)):
  Calls Tryz.prog 184 #[.int .u64 x] w fun e A=>e= .returned (.int .i64 k)∧A=w:=by
 go_enter Tryz.func184,Tryz.ntmps184;go_wp2;go_ret;exact⟨rfl,rfl⟩
theorem tz_c (x j k:Nat) (w:World) (E:Tab w) (B:x<2^64) (e:x=(2*j+1)*2^k):
  Calls Tryz.prog 184 #[.int .u64 x] w fun e D=>e= .returned (.int .i64 k)∧G w D:=by
 have A:k<64:=by rw[e] at B;exact FT.tz_lt B
 have C:=E.2 _ (FT.ix_lt A);rw[FT.tab_ix A] at C;have F:((x:Int)==0)=false:=by
  have:x≠0:=by rw[e];exact bK eX (by have:=ae k;omega)
  simp;omega
 refine(q5k x k (FT.ix k) w B F (FT.ix_lt A) A C (FT.place x j k e B)).mono ?_;rintro e D ⟨rfl,rfl⟩;exact⟨rfl,ad _⟩
end Go.Proofs.YtohcneeihdkfgaaGreatDoor
namespace Go.Proofs.YtohcneeihdkfgaaGreatDoor
open Go.ChangeShapes Go.WideShapes Go.ChangeAt Go.RowKit
attribute [local go_sem] fE fN
theorem q6n {a A b B c:Int} (h1:a=A) (h2:b=B):Ending.returned (.tuple #[.int .i64 a,.int .i64 b,.int .i64 c])= .returned (.tuple #[.int .i64 A,.int .i64 B,.int .i64 c]):=by rw[h1,h2]
set_option maxRecDepth 100000 in
theorem qk (b:Nat) (w:World) (E:b<2^64) (C:b/2^52%2^11=0) (D:b%2^52=0):
  Calls Tryz.prog 98 #[.float .f64 b] w fun e F=>e= .returned (.tuple #[.int .i64 0,.int .i64 0,.int .i64 0])∧G w F:=by
 have K:Hid _:=fun w=>q0T b 0 0 w E C D;have S:Hid _:=fun w=>ju 0 0 11 52 w eX eX eX eX eX;clear C D;go_enter Tryz.func98,Tryz.ntmps98;go_wp2_with (first|(go_at_call 180;refine(K.out _).mono ?_;rintro e B ⟨rfl,A⟩)|(go_at_call 182;refine(jm _).mono ?_;rintro e B ⟨rfl,A⟩)|(go_at_call 181;refine(jZ 11 52 _ eX).mono ?_;rintro e B ⟨rfl,A⟩)|(go_at_call 183;refine(S.out _).mono ?_;rintro e B ⟨rfl,A⟩))
 go_ret3
 exact⟨rfl,gv⟩
set_option maxRecDepth 100000 in
theorem q5o (b ex B mag j k:Nat) (w:World) (c:Tab w) (s:b<2^64) (he:b/2^52%2^11=ex) (hf:b%2^52=B) (h1:ex<2047)
  (o:(if ex=0 then B else 2^52+B)=mag) (m:mag=(2*j+1)*2^k):
  Calls Tryz.prog 98 #[.float .f64 b] w fun e w'=>e= .returned (.tuple #[.int .i64 (if FT.neg b then -(2*j+1) else 2*j+1),.int .i64 ((max ex 1:Nat)-1075+k),.int .i64 0])∧G w w':=by
 have i:B<2^52:=by omega
 have af:mag<2^53:=by rw[← o];split<;>omega
 have hk:k<64:=FT.tz_lt (j:=j) eX;have A:0<2^k:=ae k;have ag:2*j+1≤mag:=by
  have:(2*j+1)*1≤(2*j+1)*2^k:=aB _ A;omega
 have y:(mag:Int)/2^k=2*(j:Int)+1:=by
  have:mag/2^k=2*j+1:=by rw[m];exact dk _ A
  rw[FT.ipow,← dA,this];omega
 have K:Hid _:=fun w=>q0T b ex B w s he hf;have S:Hid _:=fun w=>ju ex B 11 52 w i eX eX eX eX;rw[o] at S;have T:Hid _:=fun w c=>tz_c mag j k w c eX m;have hz:((mag:Int)==0)=false:=by simp;omega
 have al:((ex:Int)==2047)=false:=by simp;omega
 have ai:max ex 1≤2047:=by omega
 generalize max ex 1=mx at *;generalize FT.neg b=n at *;clear he hf o m A s;cases n
 all_goals
  go_enter Tryz.func98,Tryz.ntmps98;go_wp2_with fail;refine(K.out _).mono ?_;rintro e w1 ⟨rfl,C⟩;have R:=C.size
  try simp at R
  have J:=c.G C;go_wp2_with fail;refine(jm _).mono ?_;rintro e w2 ⟨rfl,D⟩;have U:=D.size
  try simp at U
  have L:=J.G D;go_wp2_with fail;refine(jZ 11 52 _ eX).mono ?_;rintro e w3 ⟨rfl,E⟩;have W:=E.size
  try simp at W
  have M:=L.G E;go_wp2_with fail;refine(jm _).mono ?_;rintro e w4 ⟨rfl,F⟩;have X:=F.size
  try simp at X
  have N:=M.G F;go_wp2_with fail;refine(S.out _).mono ?_;rintro e w5 ⟨rfl,I⟩;have Y:=I.size
  try simp at Y
  have O:=N.G I;clear c J L M N;go_wp2_with fail;refine(T.out _ O).mono ?_;rintro e w6 ⟨rfl,d⟩;have Z:=d.size
  try simp at Z
  clear O;go_wp2
  go_ret3
  exact⟨q6n eX eX,gv⟩
/-! Rounding by a shift. -/
def rnd (mag d:Nat):Nat:=mag/2^d+(if 2^(d-1)<mag%2^d∨(mag%2^d=2^(d-1)∧mag/2^d%2=1) then 1 else 0)
theorem q0l (mag n:Nat) (w:World) (h:mag*2^n<2^64) (C:n<64):
  Calls Tryz.prog 293 #[.int .u64 mag,.int .i64 n] w fun e B=>e= .returned (.int .u64 (mag*2^n:Nat))∧G w B:=by
 have A:IntKind.u64.wrap ((mag:Int)*2^n)=((mag*2^n:Nat):Int):=by
  rw[IntKind.wrap_u64,FT.ipow,← aG];generalize mag*2^n=q at *;omega
 have F1:=hi9 A;clear A h;go_enter Tryz.func293,Tryz.ntmps293;go_wp2;go_ret;exact⟨fU F1.out,ad _⟩
theorem rK (mag:Nat) (n:Int) (w:World) (B:n< -64):
  Calls Tryz.prog 293 #[.int .u64 mag,.int .i64 n] w fun e A=>e= .returned (.int .u64 0)∧G w A:=by
 go_enter Tryz.func293,Tryz.ntmps293;go_wp2;go_ret;exact⟨rfl,ad _⟩
theorem q4H (mag d:Nat) (h1:1≤d) (h2:d≤64) (C:mag<2^64):
  bits BinOp.and IntKind.u64 (mag:Int) (bits BinOp.or IntKind.u64 (2^(d-1)) (2^(d-1)-1))=((mag%2^d:Nat):Int):=by
 have D:1≤2^(d-1):=ae (d-1);have E:2^(d-1)≤2^63:=gD eX;have B:2^d=2*2^(d-1):=by
  obtain⟨e,rfl⟩:∃ e,d=e+1:=⟨d-1,by omega⟩;simp [Nat.pow_succ,Nat.mul_comm]
 have A:bits BinOp.or IntKind.u64 (2^(d-1)) (2^(d-1)-1)=((2^d-1:Nat):Int):=by
  rw[FT.ipow,show (((2^(d-1):Nat):Int)-1)=((2^(d-1)-1:Nat):Int) from by omega,u64_or_nat _ _ eX eX,
   nat_join (d-1) (2^(d-1)) (2^(d-1)-1) fX eX]
  congr 1
  omega
 rw[A,u64_and_nat mag _ eX eX,dp]
theorem qh (mag d:Nat) (w:World) (F:mag<2^64) (h1:1≤d) (h2:d≤64):
  Calls Tryz.prog 293 #[.int .u64 mag,.int .i64 (-(d:Int))] w fun e O=>e= .returned (.int .u64 (rnd mag d:Nat))∧G w O:=by
 have M:=q4H mag d h1 h2 F;have N:=iT (show d-1≤63 by omega);have R:(mag:Int)/2^d=((mag/2^d:Nat):Int):=by simp
 have L:mag/2^d<2^63:=by
  have:2^1≤2^d:=gD h1;rw[aO eX]
  calc mag<2^64:=F
   _=2^63*2^1:=by rfl
   _≤2^63*2^d:=aB _ this
 have B:bits BinOp.and IntKind.u64 ((mag/2^d:Nat):Int) 1=((mag/2^d%2:Nat):Int):=by
  have:=FT.and_mask (mag/2^d) 1 eX eX;simpa using this
 have D:((2^(d-1):Nat):Int)=2^(d-1):=by simp
 unfold rnd;have S:mag%2^d<2^64:=by have:=Nat.mod_le mag (2^d);omega
 generalize mag%2^d=lost at *;generalize mag/2^d=kept at *;rw[← D] at N;generalize K:2^(d-1)=half at *;clear K;have E:=D.symm;clear D;rw[E] at M;have A:kept%2=0∨kept%2=1:=by omega
 by_cases c1:half<lost
 ·have C:(half:Int)<lost:=by omega
  rw[if_pos (Or.inl c1)];go_enter Tryz.func293,Tryz.ntmps293;go_wp2;go_ret;exact⟨fU fX,ad _⟩
 ·have C:¬ (half:Int)<lost:=by omega
  by_cases I:lost=half
  ·subst I;rcases A with A|A<;>rw[A] at B
   ·rw[if_neg eX];go_enter Tryz.func293,Tryz.ntmps293;go_wp2;go_ret;exact⟨fU fX,ad _⟩
   ·rw[if_pos eX];go_enter Tryz.func293,Tryz.ntmps293;go_wp2;go_ret;exact⟨fU fX,ad _⟩
  ·have J:((lost:Int)==half)=false:=by simp;omega
   rw[if_neg eX];go_enter Tryz.func293,Tryz.ntmps293;go_wp2;go_ret;exact⟨fU fX,ad _⟩
end Go.Proofs.YtohcneeihdkfgaaGreatDoor
namespace Go.Proofs.YtohcneeihdkfgaaGreatDoor
open Go.ChangeShapes Go.WideShapes Go.ChangeAt Go.RowKit
attribute [local go_sem] fE fN
def shV (mag:Nat) (n:Int):Nat:=if 0≤n then mag*2^n.toNat else if n< -64 then 0 else rnd mag (-n).toNat
theorem q56 (mag:Nat) (n:Int) (w:World) (B:mag<2^64) (h:0≤n→n<64∧mag*2^n.toNat<2^64):
  Calls Tryz.prog 293 #[.int .u64 mag,.int .i64 n] w fun e C=>e= .returned (.int .u64 (shV mag n:Nat))∧G w C:=by
 unfold shV;by_cases A:0≤n
 ·obtain⟨k,rfl⟩:=Int.eq_ofNat_of_zero_le A;obtain⟨h1,h2⟩:=h A;rw[if_pos A];rw[dw] at h2 ⊢;exact q0l mag k w h2 eX
 ·rw[if_neg A];by_cases h1:n< -64
  ·rw[if_pos h1];exact rK mag n w h1
  ·rw[if_neg h1];have:=qh mag (-n).toNat w B eX eX;rw[show (-(((-n).toNat:Nat):Int))=n from by omega] at this;exact this
theorem q1b (x:Nat) (h:x<2^64):Lib.bitLen x≤64:=Lib.bitLen_le x 64 eX h
theorem ic {x:Nat} (B:x≠0) (h:x<2^64):Lib.bitLen x=x.log2+1:=by
 have h1:=dm B;have h2:=cK (n:=x);rw[Lib.bitLen_shift x.log2 x h1 h];have h3:x/2^x.log2=1:=by
  have A:=ae x.log2;have a:x/2^x.log2<2:=by rw[aO A];rw[bH] at h2;omega
  have b:1≤x/2^x.log2:=by rw[aZ A];omega
  omega
 rw[h3];rfl
/-- What 'nearest' gives. -/
def gz (E F mag:Nat) (e:Int):Nat:=
 if mag=0 then 0
 else if 2^(E-1)-1<e+mag.log2 then (2^E-1)*2^F
 else (max (e+mag.log2) (2-2^(E-1))-(2-2^(E-1))).toNat*2^F+shV mag (e-(max (e+mag.log2) (2-2^(E-1))-F))
theorem q6p (mag d:Nat) (C:mag<2^64) (A:1≤d):rnd mag d≤2^63:=by
 have B:mag/2^d<2^63:=by
  have:2^1≤2^d:=gD A;rw[aO eX]
  calc mag<2^64:=C
   _=2^63*2^1:=by rfl
   _≤2^63*2^d:=aB _ this
 unfold rnd;split<;>omega
theorem q6x (mag:Nat) (n:Int) (B:mag<2^64) (h:0≤n→mag*2^n.toNat<2^63):shV mag n≤2^63:=by
 unfold shV;split
 ·rename_i A;have:=h A;omega
 ·split
  ·omega
  ·exact q6p _ _ B eX
set_option maxRecDepth 100000 in
theorem q1F (mag E F:Nat) (e:Int) (w:World) (X:mag<2^64) (hE:2≤E) (W:E≤11) (hF:1≤F) (O:F≤52) (cd: -6000≤e) (ce:e≤6000):
  Calls Tryz.prog 265 #[.int .u64 mag,.int .i64 e,.agg #[.int .i64 E,.int .i64 F]] w fun r w'=>r= .returned (.int .u64 (gz E F mag e:Nat))∧G w w':=by
 by_cases hz:mag=0
 ·subst hz;go_enter Tryz.func265,Tryz.ntmps265;go_wp2;go_ret;exact⟨fU (by simp [gz]),gv⟩
 have hl:=ic hz X;have ag:=q1b mag X;have ai:=iT (show E-1≤10 by omega);have bn:(2:Int)≤2^(E-1):=by
  have:2^1≤2^(E-1):=gD eX;rw[FT.ipow];omega
 have al:=iT O;have ci:((mag:Int)==0)=false:=by simp;omega
 have k:Hid _:=fun w=>mE mag w X;have m:Hid _:=fun w=>sF E F w eX W;have C3:Hid _:=fun w=>sD E F w W O;rw[hl] at k;have bl:mag.log2<64:=by omega
 have N:=cK (n:=mag);unfold gz;rw[if_neg hz]
 -- the shift
 have o:Hid _:=fun n w=>q56 mag n w X;have S:∀ n:Int,n+mag.log2≤F→0≤n→n<64∧mag*2^n.toNat<2^63:=by
  intro n h1 h2;refine⟨by omega,?_⟩;have hp:=ae n.toNat
  calc mag*2^n.toNat<2^(mag.log2+1)*2^n.toNat:=av N hp
   _=2^(mag.log2+1+n.toNat):=by rw[← ah]
   _≤2^63:=gD eX
 have Z:∀ n:Int,n+mag.log2≤F→shV mag n≤2^63:=fun n h=>q6x mag n X (fun j=>(S n h j).2);have i:=hi9 S;have s:=hi9 Z;clear S Z N hl ag;generalize mag.log2=U at *;have hM:(2:Int)^(E-1)≤1024:=by omega
 have L:((2:Int)^E)=2*2^(E-1):=by
  obtain⟨d,rfl⟩:∃ d,E=d+1:=⟨E-1,by omega⟩;simp [Int.pow_succ,Int.mul_comm]
 have H3:=hi9 L;clear L;by_cases D:(2:Int)^(E-1)-1<e+U
 ·rw[if_pos D];have hN:((2:Int)^E-1)*2^F=(((2^E-1)*2^F:Nat):Int):=by
   have:=ae E;rw[aG,show ((2^E-1:Nat):Int)=((2^E:Nat):Int)-1 from by omega];simp
  rw[hN] at C3;clear hN;generalize (2:Int)^(E-1)=M at *;generalize (2^E-1)*2^F=r at *;clear i s H3 o al ai;have af:M-1<e+(U+1)-1:=by omega
  go_enter Tryz.func265,Tryz.ntmps265;go_wp2_with fail;refine(k.out _).mono ?_;rintro e w1 ⟨rfl,A⟩;have bq:=A.cell (p:=⟨w.heap.size,0,none⟩) (v:= .int .i64 E) (by first|(simp;done)|(simp;omega)|omega) (by first|assumption|(simp [go_sem];done)|(simp [*,go_sem];done));have bs:=A.cell (p:=⟨w.heap.size,1,none⟩) (v:= .int .i64 F) (by first|(simp;done)|(simp;omega)|omega) (by first|assumption|(simp [go_sem];done)|(simp [*,go_sem];done));have I:=A.size
  try simp at I
  go_wp2_with fail;refine(m.out _).mono ?_;rintro e w2 ⟨rfl,B⟩;have bu:=B.cell (p:=⟨w.heap.size,0,none⟩) (v:= .int .i64 E) (by first|(simp;done)|(simp;omega)|omega) (by first|assumption|(simp [go_sem];done)|(simp [*,go_sem];done));have bv:=B.cell (p:=⟨w.heap.size,1,none⟩) (v:= .int .i64 F) (by first|(simp;done)|(simp;omega)|omega) (by first|assumption|(simp [go_sem];done)|(simp [*,go_sem];done));have J:=B.size
  try simp at J
  go_wp2_with fail;refine(C3.out _).mono ?_;rintro e w3 ⟨rfl,C⟩;have K:=C.size
  try simp at K
  go_wp2;go_ret;exact⟨rfl,gv⟩
 ·rw[if_neg D];generalize y:(2:Int)^(E-1)=M at *;generalize am:max (e+(U:Int)) (2-M)=place at *;have hn:(e-(place-F))+U≤F:=by omega
  have hs:=s.out _ hn;have hS:Hid _:=fun w=>o.out (e-(place-F)) w (fun j=>⟨(i.out _ hn j).1,by have:=(i.out _ hn j).2;omega⟩);have bm:((place-(2-M)).toNat*2^F:Nat)≤2046*2^52:=by
   have:2^F≤2^52:=gD O;exact bF eX this
  have Y:(place-(2-M))*2^F=(((place-(2-M)).toNat*2^F:Nat):Int):=by
   rw[aG,← FT.ipow]
   congr 1
   omega
  have H5:=hi9 Y;clear Y;generalize (place-(2-M)).toNat*2^F=hi at *;generalize shV mag (e-(place-F))=lo at *;clear i s H3 o y;have t1:¬ M-1<e+(U+1)-1:=by omega
  have P:Hid (max (e+((U:Int)+1)-1) (1-(M-1))=place):=by show max (e+((U:Int)+1)-1) (1-(M-1))=place;omega
  have b1:0≤place-(2-M):=by omega
  have b2:place-(2-M)≤2046:=by omega
  clear am D;go_enter Tryz.func265,Tryz.ntmps265;go_wp2_with fail;refine(k.out _).mono ?_;rintro e w1 ⟨rfl,A⟩;have bw:=A.cell (p:=⟨w.heap.size,0,none⟩) (v:= .int .i64 E) (by first|(simp;done)|(simp;omega)|omega) (by first|assumption|(simp [go_sem];done)|(simp [*,go_sem];done));have bz:=A.cell (p:=⟨w.heap.size,1,none⟩) (v:= .int .i64 F) (by first|(simp;done)|(simp;omega)|omega) (by first|assumption|(simp [go_sem];done)|(simp [*,go_sem];done));have I:=A.size
  try simp at I
  go_wp2_with fail;refine(m.out _).mono ?_;rintro e w2 ⟨rfl,B⟩;have ca:=B.cell (p:=⟨w.heap.size,0,none⟩) (v:= .int .i64 E) (by first|(simp;done)|(simp;omega)|omega) (by first|assumption|(simp [go_sem];done)|(simp [*,go_sem];done));have cb:=B.cell (p:=⟨w.heap.size,1,none⟩) (v:= .int .i64 F) (by first|(simp;done)|(simp;omega)|omega) (by first|assumption|(simp [go_sem];done)|(simp [*,go_sem];done));have J:=B.size
  try simp at J
  go_wp2_with fail;refine(m.out _).mono ?_;rintro e w3 ⟨rfl,C⟩;have cc:=C.cell (p:=⟨w.heap.size,0,none⟩) (v:= .int .i64 E) (by first|(simp;done)|(simp;omega)|omega) (by first|assumption|(simp [go_sem];done)|(simp [*,go_sem];done));have an:=C.cell (p:=⟨w.heap.size,1,none⟩) (v:= .int .i64 F) (by first|(simp;done)|(simp;omega)|omega) (by first|assumption|(simp [go_sem];done)|(simp [*,go_sem];done));have K:=C.size
  try simp at K
  go_wp2_with fail;rw[P.out];refine(hS.out _).mono ?_;rintro e w4 ⟨rfl,R⟩;have ap:=R.cell (p:=⟨w.heap.size,0,none⟩) (v:= .int .i64 E) (by first|(simp;done)|(simp;omega)|omega) (by first|assumption|(simp [go_sem];done)|(simp [*,go_sem];done));have bi:=R.cell (p:=⟨w.heap.size,1,none⟩) (v:= .int .i64 F) (by first|(simp;done)|(simp;omega)|omega) (by first|assumption|(simp [go_sem];done)|(simp [*,go_sem];done));have c:=R.size
  try simp at c
  go_wp2;go_ret;exact⟨fU (by rw[show place-(1-(M-1))=place-(2-M) from by omega,H5.out,IntWalk.u64_in (hi:Int) eX,IntWalk.u64_in _ eX];omega),gv⟩
theorem q55 (mag F:Nat) (n:Int) (h:n+mag.log2≤F):shV mag n≤2^(F+1):=by
 have A:=cK (n:=mag);have h1:1≤2^(F+1):=ae _;unfold shV;split
 ·rename_i D
  have B:=ae n.toNat;have:mag*2^n.toNat<2^(mag.log2+1)*2^n.toNat:=av A B;have e:2^(mag.log2+1)*2^n.toNat=2^(mag.log2+1+n.toNat):=by rw[← ah]
  have l:2^(mag.log2+1+n.toNat)≤2^(F+1):=gD eX;omega
 ·split
  ·omega
  ·generalize C:(-n).toNat=d;have B:=ae d;have E:mag/2^d<2^(F+1):=by
    rw[aO B,← ah];have l:2^(mag.log2+1)≤2^(F+1+d):=gD eX;omega
   unfold rnd;split<;>omega
set_option maxRecDepth 100000 in
theorem nu (mag:Nat) (e:Int):gz 11 52 mag e≤2047*2^52:=by
 unfold gz;split
 ·omega
 ·split
  ·omega
  ·rename_i h1
   simp only[show (2:Int)^(11-1)=1024 from rfl] at h1 ⊢;generalize C:max (e+(mag.log2:Int)) (2-1024)=place;have B:=q55 mag 52 (e-(place-(52:Nat))) eX;have A:(place-(2-1024)).toNat*2^52≤2045*2^52:=au _ eX;have h3:(2:Nat)^(52+1)=2*2^52:=rfl;rw[h3] at B;have key:∀ hi lo:Nat,hi≤2045*2^52→lo≤2*2^52→hi+lo≤2047*2^52:=by intro hi lo a b;omega
   exact key _ _ A B
def jw (e:Int):Int:=max (-5000) (min 5000 e)
set_option maxRecDepth 100000 in
theorem q60 (m e:Int) (w:World) (Y: -9223372036854775808≤m) (Z:m≤9223372036854775807) (U: -9223372036854775808≤e) (W:e≤9223372036854775807):
  Calls Tryz.prog 217 #[.int .i64 m,.int .i64 e] w fun r k=>
   r= .returned (.float .f64 (if m<0 then gz 11 52 m.natAbs (jw e)+2^63 else gz 11 52 m.natAbs (jw e)))∧G w k:=by
 have X:=nu m.natAbs (jw e);have L:min (max e (-5000)) 5000=jw e:=by unfold jw;omega
 have R: -5000≤jw e∧jw e≤5000:=by unfold jw;omega
 have N:Hid _:=fun w=>q1F m.natAbs 11 52 (jw e) w eX eX eX eX eX eX eX;have S:Hid _:=fun s w=>im s (gz 11 52 m.natAbs (jw e)) w eX;generalize gz 11 52 m.natAbs (jw e)=r at *;have C:=hi9 L;clear L;generalize jw e=c at *;by_cases O:m<0
 ·rw[if_pos O];have A:((m.natAbs:Nat):Int)= -m:=by omega
  rw[A] at N;have i:IntKind.u64.wrap m=m+18446744073709551616:=by rw[IntKind.wrap_u64];omega
  have j:IntKind.u64.wrap (-(m+18446744073709551616))= -m:=by rw[IntKind.wrap_u64];omega
  have K:=S.out true;have M:=hi9 K;clear S K A;go_enter Tryz.func217,Tryz.ntmps217;go_wp2_with fail;refine(jm _).mono ?_;rintro e o ⟨rfl,F⟩;have B:=F.size
  try simp at B
  go_wp2_with fail;rw[C.out];refine(N.out _).mono ?_;rintro e y ⟨rfl,I⟩;have D:=I.size
  try simp at D
  go_wp2_with fail;refine(M.out _).mono ?_;rintro e w3 ⟨rfl,J⟩;have E:=J.size
  try simp at E
  go_wp2;go_ret;exact⟨by simp,gv⟩
 ·rw[if_neg O];have A:((m.natAbs:Nat):Int)=m:=by omega
  rw[A] at N;have d:0≤m:=by omega
  have K:=S.out false;have M:=hi9 K;clear S K A;go_enter Tryz.func217,Tryz.ntmps217;go_wp2_with fail;refine(jm _).mono ?_;rintro e o ⟨rfl,F⟩;have B:=F.size
  try simp at B
  go_wp2_with fail;rw[C.out];refine(N.out _).mono ?_;rintro e y ⟨rfl,I⟩;have D:=I.size
  try simp at D
  go_wp2_with fail;refine(M.out _).mono ?_;rintro e w3 ⟨rfl,J⟩;have E:=J.size
  try simp at E
  go_wp2;go_ret;exact⟨by simp,gv⟩
end Go.Proofs.YtohcneeihdkfgaaGreatDoor
namespace Go.Proofs.YtohcneeihdkfgaaGreatDoor
open Go.ChangeShapes Go.WideShapes Go.ChangeAt Go.RowKit
attribute [local go_sem] fE fN
theorem q5v (w:World):Calls Tryz.prog 143 #[] w fun e A=>e= .returned (.float .f64 FT.qnan)∧G w A:=by
 go_enter Tryz.func143,Tryz.ntmps143;go_wp2;go_ret;exact⟨iF rfl,ad _⟩
def upV (b:Nat):Nat:=
 if FT.nan b then FT.qnan else if b=FT.infR then b else if FT.rung b=0 then 1 else if FT.neg b then b-1 else b+1
def mo (b:Nat):Nat:=
 if FT.nan b then FT.qnan else if b=FT.ninf then b else if FT.rung b=0 then 1+2^63 else if FT.neg b then b+1 else b-1
set_option maxRecDepth 100000 in
theorem js (b:Nat) (w:World) (h:b<2^64):
  Calls Tryz.prog 60 #[.float .f64 b,.float .f64 FT.infR] w fun e w'=>e= .returned (.float .f64 (upV b))∧G w w':=by
 have J:Hid _:=fun w=>iJ b w;have K:Hid _:=fun w=>iJ FT.infR w;rw[FT.nan_inf] at K;have M:Hid _:=fun w=>kZ 1 FT.infR w eX fk;rw[FT.rung_small eX,FT.neg_small fk] at M;have hi:FT.infR=9218868437227405312:=rfl;have y:=FT.rung_lt b;unfold upV;by_cases O:FT.nan b=true
 ·rw[if_pos O];rw[O] at J;clear K M hi;generalize FT.infR=i at *;go_enter Tryz.func60,Tryz.ntmps60;go_wp2_with fail;refine(J.out _).mono ?_;rintro e W ⟨rfl,C⟩;have A:=C.size
  try simp at A
  go_wp2_with fail;refine(q5v _).mono ?_;rintro e X ⟨rfl,D⟩;have B:=D.size
  try simp at B
  go_wp2;go_ret;exact⟨rfl,gv⟩
 have E:FT.nan b=false:=by simpa using O
 rw[if_neg O];rw[E] at J;have S:=FT.eq_inf b E;have U:=FT.eq_zero b;have I:=FT.gt_zero b E;have Z:=FT.gt_inf b E;have k:=FT.nan_false E;have N:=FT.neg_cases b h;have F:b=FT.infR↔(FT.neg b=false∧FT.rung b=FT.infR):=by
  rcases N with ⟨h1,h2⟩|⟨h1,h2⟩<;>rw[h1]<;>unfold FT.infR at * <;>simp <;>omega
 clear O E hi;by_cases hb:b=FT.infR
 ·rw[if_pos hb];obtain⟨h1,h2⟩:=F.1 hb;rw[h1,h2] at S;simp at S;clear U I Z k N F h1 h2 hb M;generalize FT.infR=i at *;go_enter Tryz.func60,Tryz.ntmps60;go_wp2_with fail;refine(J.out _).mono ?_;rintro e W ⟨rfl,C⟩;have A:=C.size
  try simp at A
  go_wp2_with fail;refine(K.out _).mono ?_;rintro e X ⟨rfl,D⟩;have B:=D.size
  try simp at B
  go_wp2;go_ret;exact⟨rfl,gv⟩
 rw[if_neg hb];have j:(!FT.neg b&&decide (FT.rung b=FT.infR))=false:=by
  rw[Bool.eq_false_iff];intro m;simp only[aS,eo,decide_eq_true_eq] at m;exact hb (F.2 m)
 have s:(FloatKind.f64.format.order b FT.infR==some .eq)=false:=by rw[S,j]
 have c:(FloatKind.f64.format.order FT.infR b==some .gt)=true:=by rw[Z,j];rfl
 clear j;clear S Z F hb;by_cases L:FT.rung b=0
 ·rw[if_pos L];rw[L] at U;simp at U;clear I c k N;generalize FT.infR=i at *;go_enter Tryz.func60,Tryz.ntmps60;go_wp2_with fail;refine(J.out _).mono ?_;rintro e W ⟨rfl,C⟩;have A:=C.size
  try simp at A
  go_wp2_with fail;refine(K.out _).mono ?_;rintro e X ⟨rfl,D⟩;have B:=D.size
  try simp at B
  go_wp2_with fail;refine(M.out _).mono ?_;rintro e w3 ⟨rfl,d⟩;have R:=d.size
  try simp at R
  go_wp2;go_ret;exact⟨rfl,gv⟩
 rw[if_neg L];rw[decide_eq_false L] at U;rw[decide_eq_true L] at I;have o:1≤b∧b≤18446744073709551614:=by
  rcases N with ⟨h1,h2⟩|⟨h1,h2⟩<;>unfold FT.infR at * <;>omega
 have F:1≤(b:Int)∧(b:Int)≤18446744073709551614:=by omega
 clear k N L M;generalize FT.infR=i at *;cases hneg:FT.neg b
 ·rw[hneg] at I;have Y:(FloatKind.f64.format.order b 0==some .gt)=true:=I;clear hneg I;go_enter Tryz.func60,Tryz.ntmps60;go_wp2_with fail;refine(J.out _).mono ?_;rintro e W ⟨rfl,C⟩;have A:=C.size
  try simp at A
  go_wp2_with fail;refine(K.out _).mono ?_;rintro e X ⟨rfl,D⟩;have B:=D.size
  try simp at B
  go_wp2;go_ret;exact⟨iF fX,gv⟩
 ·rw[hneg] at I;have Y:(FloatKind.f64.format.order b 0==some .gt)=false:=I;clear hneg I;go_enter Tryz.func60,Tryz.ntmps60;go_wp2_with fail;refine(J.out _).mono ?_;rintro e W ⟨rfl,C⟩;have A:=C.size
  try simp at A
  go_wp2_with fail;refine(K.out _).mono ?_;rintro e X ⟨rfl,D⟩;have B:=D.size
  try simp at B
  go_wp2;go_ret;exact⟨iF fX,gv⟩
set_option maxRecDepth 100000 in
theorem jP (b:Nat) (w:World) (h:b<2^64):
  Calls Tryz.prog 60 #[.float .f64 b,.float .f64 FT.ninf] w fun e w'=>e= .returned (.float .f64 (mo b))∧G w w':=by
 have J:Hid _:=fun w=>iJ b w;have K:Hid _:=fun w=>iJ FT.ninf w;rw[FT.nan_ninf] at K;have M:Hid _:=fun w=>kZ 1 FT.ninf w eX fk;rw[FT.rung_small eX,FT.neg_ninf] at M;have y:=FT.rung_lt b;unfold mo;by_cases O:FT.nan b=true
 ·rw[if_pos O];rw[O] at J;clear K M;generalize FT.ninf=i at *;go_enter Tryz.func60,Tryz.ntmps60;go_wp2_with fail;refine(J.out _).mono ?_;rintro e W ⟨rfl,C⟩;have A:=C.size
  try simp at A
  go_wp2_with fail;refine(q5v _).mono ?_;rintro e X ⟨rfl,D⟩;have B:=D.size
  try simp at B
  go_wp2;go_ret;exact⟨rfl,gv⟩
 have E:FT.nan b=false:=by simpa using O
 rw[if_neg O];rw[E] at J;have S:=FT.eq_ninf b E;have U:=FT.eq_zero b;have I:=FT.gt_zero b E;have Z:=FT.gt_ninf b E;have j:=FT.nan_false E;have N:=FT.neg_cases b h;have F:b=FT.ninf↔(FT.neg b=true∧FT.rung b=FT.infR):=by
  rcases N with ⟨h1,h2⟩|⟨h1,h2⟩<;>rw[h1]<;>unfold FT.ninf FT.infR at * <;>simp <;>omega
 clear O E;by_cases hb:b=FT.ninf
 ·rw[if_pos hb];obtain⟨h1,h2⟩:=F.1 hb;rw[h1,h2] at S;simp at S;clear U I Z j N F h1 h2 hb M;generalize FT.ninf=i at *;go_enter Tryz.func60,Tryz.ntmps60;go_wp2_with fail;refine(J.out _).mono ?_;rintro e W ⟨rfl,C⟩;have A:=C.size
  try simp at A
  go_wp2_with fail;refine(K.out _).mono ?_;rintro e X ⟨rfl,D⟩;have B:=D.size
  try simp at B
  go_wp2;go_ret;exact⟨rfl,gv⟩
 rw[if_neg hb];have o:(FT.neg b&&decide (FT.rung b=FT.infR))=false:=by
  rw[Bool.eq_false_iff];intro k;simp only[aS,decide_eq_true_eq] at k;exact hb (F.2 k)
 have s:(FloatKind.f64.format.order b FT.ninf==some .eq)=false:=by rw[S,o]
 have c:(FloatKind.f64.format.order FT.ninf b==some .gt)=false:=Z;clear o;clear S Z F hb;by_cases L:FT.rung b=0
 ·rw[if_pos L];rw[L] at U;simp at U;clear I c j N;generalize FT.ninf=i at *;go_enter Tryz.func60,Tryz.ntmps60;go_wp2_with fail;refine(J.out _).mono ?_;rintro e W ⟨rfl,C⟩;have A:=C.size
  try simp at A
  go_wp2_with fail;refine(K.out _).mono ?_;rintro e X ⟨rfl,D⟩;have B:=D.size
  try simp at B
  go_wp2_with fail;refine(M.out _).mono ?_;rintro e w3 ⟨rfl,d⟩;have R:=d.size
  try simp at R
  go_wp2;go_ret;exact⟨rfl,gv⟩
 rw[if_neg L];rw[decide_eq_false L] at U;rw[decide_eq_true L] at I;have m:1≤b∧b≤18446744073709551614:=by
  rcases N with ⟨h1,h2⟩|⟨h1,h2⟩<;>unfold FT.infR at * <;>omega
 have F:1≤(b:Int)∧(b:Int)≤18446744073709551614:=by omega
 clear j N L M;generalize FT.ninf=i at *;cases hneg:FT.neg b
 ·rw[hneg] at I;have Y:(FloatKind.f64.format.order b 0==some .gt)=true:=I;clear hneg I;go_enter Tryz.func60,Tryz.ntmps60;go_wp2_with fail;refine(J.out _).mono ?_;rintro e W ⟨rfl,C⟩;have A:=C.size
  try simp at A
  go_wp2_with fail;refine(K.out _).mono ?_;rintro e X ⟨rfl,D⟩;have B:=D.size
  try simp at B
  go_wp2;go_ret;exact⟨iF fX,gv⟩
 ·rw[hneg] at I;have Y:(FloatKind.f64.format.order b 0==some .gt)=false:=I;clear hneg I;go_enter Tryz.func60,Tryz.ntmps60;go_wp2_with fail;refine(J.out _).mono ?_;rintro e W ⟨rfl,C⟩;have A:=C.size
  try simp at A
  go_wp2_with fail;refine(K.out _).mono ?_;rintro e X ⟨rfl,D⟩;have B:=D.size
  try simp at B
  go_wp2;go_ret;exact⟨iF fX,gv⟩
end Go.Proofs.YtohcneeihdkfgaaGreatDoor
namespace Go.Proofs.YtohcneeihdkfgaaGreatDoor
open Go.ChangeShapes Go.WideShapes Go.ChangeAt Go.RowKit
attribute [local go_sem] fE fN
theorem gI (k:FloatKind) (b:Nat):Op.unary .neg (.float k b)=pure (.float k (Op.negFloat k b)):=rfl
attribute [local go_sem] gI
theorem q2L (b:Nat) (w:World) (h:b<2^64):
  Calls Tryz.prog 101 #[.float .f64 b,.int .i64 1] w fun e C=>e= .returned (.bool (decide (b=FT.infR)))∧G w C:=by
 have D:(FloatKind.f64.format.order b 9218868437227405311==some .gt)=decide (b=FT.infR):=by
  rcases FT.neg_cases b h with ⟨h1,h2⟩|⟨h1,h2⟩
  ·have A:¬ b=FT.infR:=by unfold FT.infR;omega
   have e:(9218868437227405311:Nat)=FT.infR-1:=by unfold FT.infR;omega
   rw[decide_eq_false A,FT.ord_f,e,FT.key_small (c:=FT.infR-1) (by unfold FT.infR;omega)];cases FT.nan b
   ·have B:FT.nan (FT.infR-1)=false:=by unfold FT.nan;rw[FT.rung_small (by unfold FT.infR;omega)];simp
    rw[B];unfold FT.key;rw[h1];have:=FT.cmp_ne_gt (a:= -(FT.rung b:Int)) (b:=((FT.infR-1:Nat):Int)) eX;simp [this]
   ·simp
  ·have:=FT.gt_max b;rw[← h2] at this;exact this
 go_enter Tryz.func101,Tryz.ntmps101;go_wp2;go_ret;exact⟨rfl,ad _⟩
def negV (b:Nat):Nat:=if FT.neg b then b-2^63 else b+2^63
theorem ku (b:Nat) (h:b<2^64):Op.negFloat .f64 b=negV b:=by
 unfold negV;show b^^^2^63=_;rcases FT.neg_cases b h with ⟨h1,h2⟩|⟨h1,h2⟩
 ·rw[if_pos h1];have A:=FT.rung_lt b;generalize FT.rung b=r at *;subst h2;have e:r+2^63=2^63|||r:=by rw[nat_join 63 (2^63) r eX A];omega
  apply Nat.eq_of_testBit_eq;intro i;rw[e,Nat.testBit_xor,Nat.testBit_or,Nat.testBit_two_pow];have B:(2^63|||r)-2^63=r:=by rw[← e];omega
  rw[B];by_cases hi:63=i
  ·subst hi;rw[Nat.testBit_lt_two_pow A];rfl
  ·simp [hi]
 ·rw[if_neg (by rw[h1];simp)];have A:=FT.rung_lt b;rw[← h2] at A;have e:b+2^63=2^63|||b:=by rw[nat_join 63 (2^63) b eX A];omega
  apply Nat.eq_of_testBit_eq;intro i;rw[e,Nat.testBit_xor,Nat.testBit_or,Nat.testBit_two_pow];by_cases hi:63=i
  ·subst hi;rw[Nat.testBit_lt_two_pow A];rfl
  ·simp [hi]
end Go.Proofs.YtohcneeihdkfgaaGreatDoor
namespace Go.Proofs.YtohcneeihdkfgaaGreatDoor
open Go.ChangeShapes Go.WideShapes Go.ChangeAt Go.RowKit
attribute [local go_sem] fE fN gI
theorem je (b:Nat) (w:World) (h:b<2^64) (D:2^52≤FT.rung b):
  Calls Tryz.prog 306 #[.float .f64 b] w fun e E=>e= .returned (.tuple #[.float .f64 b,.int .i64 0])∧G w E:=by
 have A:Hid _:=fun w=>q5r b w h;have B:=FT.lt_const b 4503599627370496 fk;rw[decide_eq_false eX] at B;generalize FT.rung b=r at *;clear D h;go_enter Tryz.func306,Tryz.ntmps306;go_wp2_with (first|(go_at_call 185;refine(A.out _).mono ?_;rintro e F ⟨rfl,C⟩))
 go_ret2
 exact⟨rfl,gv⟩
end Go.Proofs.YtohcneeihdkfgaaGreatDoor
namespace Go.Proofs.YtohcneeihdkfgaaGreatDoor
open Go.ChangeShapes Go.WideShapes Go.ChangeAt Go.RowKit
attribute [local go_sem] fE fN gI
set_option maxRecDepth 100000 in
theorem nk (b e u z r:Nat) (n:Int) (w:World) (i:e<2048) (S: -30000≤n) (U:n≤30000)
  (hb:b<2^64) (C:FT.rung b<FT.infR) (B:2^52≤FT.rung b)
  (W: -1022≤n+((e:Int)-1023)) (X:n+((e:Int)-1023)≤1023)
  (Z:bits BinOp.and IntKind.i64 ((b:Int)/4503599627370496) 2047=(e:Int))
  (c:bits BinOp.andNot IntKind.u64 (b:Int) 9218868437227405312=(u:Int))
  (d:bits BinOp.or IntKind.u64 (u:Int) ((n+((e:Int)-1023)+1023)*4503599627370496)=(z:Int))
  (N:∀ w:World,(binOp .mul 22 (.float .f64 4607182418800017408) (.float .f64 z)).run Tryz.prog w= .ok (.float .f64 r) w):
  Calls Tryz.prog 305 #[.float .f64 b,.int .i64 n] w fun o Y=>o= .returned (.float .f64 r)∧G w Y:=by
 have L:Hid _:=fun w=>iJ b w;have M:Hid _:=fun w=>jg b w hb;have O:Hid _:=fun w=>je b w hb B;have A:FT.nan b=false:=by unfold FT.nan;simp;omega
 rw[A] at L;rw[decide_eq_false eX] at M;have R:=FT.eq_zero b;rw[decide_eq_false eX] at R;have j:wrap64 ((b:Int)/4503599627370496)=(b:Int)/4503599627370496:=IntWalk.wrap64_in _ eX;clear C A hb B;go_enter Tryz.func305,Tryz.ntmps305;go_wp2_with fail;refine(M.out _).mono ?_;rintro e k ⟨rfl,I⟩;have D:=I.size
 try simp at D
 go_wp2_with fail;refine(L.out _).mono ?_;rintro e m ⟨rfl,J⟩;have E:=J.size
 try simp at E
 go_wp2_with fail;refine(O.out _).mono ?_;rintro e s ⟨rfl,K⟩;have F:=K.size
 try simp at F
 go_wp2;go_ret;exact⟨rfl,gv⟩
set_option maxRecDepth 100000 in
theorem nj (b e u z r:Nat) (n:Int) (w:World) (i:e<2048) (S: -30000≤n) (U:n≤30000)
  (hb:b<2^64) (C:FT.rung b<FT.infR) (B:2^52≤FT.rung b)
  (W: -1075≤n+((e:Int)-1023)) (X:n+((e:Int)-1023)< -1022)
  (Z:bits BinOp.and IntKind.i64 ((b:Int)/4503599627370496) 2047=(e:Int))
  (c:bits BinOp.andNot IntKind.u64 (b:Int) 9218868437227405312=(u:Int))
  (d:bits BinOp.or IntKind.u64 (u:Int) ((n+((e:Int)-1023)+53+1023)*4503599627370496)=(z:Int))
  (N:∀ w:World,(binOp .mul 22 (.float .f64 4368491638549381120) (.float .f64 z)).run Tryz.prog w= .ok (.float .f64 r) w):
  Calls Tryz.prog 305 #[.float .f64 b,.int .i64 n] w fun o Y=>o= .returned (.float .f64 r)∧G w Y:=by
 have L:Hid _:=fun w=>iJ b w;have M:Hid _:=fun w=>jg b w hb;have O:Hid _:=fun w=>je b w hb B;have A:FT.nan b=false:=by unfold FT.nan;simp;omega
 rw[A] at L;rw[decide_eq_false eX] at M;have R:=FT.eq_zero b;rw[decide_eq_false eX] at R;have j:wrap64 ((b:Int)/4503599627370496)=(b:Int)/4503599627370496:=IntWalk.wrap64_in _ eX;clear C A hb B;go_enter Tryz.func305,Tryz.ntmps305;go_wp2_with fail;refine(M.out _).mono ?_;rintro e k ⟨rfl,I⟩;have D:=I.size
 try simp at D
 go_wp2_with fail;refine(L.out _).mono ?_;rintro e m ⟨rfl,J⟩;have E:=J.size
 try simp at E
 go_wp2_with fail;refine(O.out _).mono ?_;rintro e s ⟨rfl,K⟩;have F:=K.size
 try simp at F
 go_wp2;go_ret;exact⟨rfl,gv⟩
set_option maxRecDepth 100000 in
theorem nh (b e:Nat) (n:Int) (w:World) (m:e<2048) (W: -30000≤n) (X:n≤30000)
  (hb:b<2^64) (M:FT.rung b<FT.infR) (F:2^52≤FT.rung b)
  (Y:1023<n+((e:Int)-1023))
  (k:bits BinOp.and IntKind.i64 ((b:Int)/4503599627370496) 2047=(e:Int)):
  Calls Tryz.prog 305 #[.float .f64 b,.int .i64 n] w fun o Z=>o= .returned (.float .f64 (FT.wrd (FT.neg b) FT.infR))∧G w Z:=by
 have N:Hid _:=fun w=>iJ b w;have O:Hid _:=fun w=>jg b w hb;have S:Hid _:=fun w=>je b w hb F;have A:FT.nan b=false:=by unfold FT.nan;simp;omega
 rw[A] at N;rw[decide_eq_false eX] at O;have U:=FT.eq_zero b;rw[decide_eq_false eX] at U;have R:=FT.lt_zero b A;rw[decide_eq_true eX,Bool.and_true] at R;have s:wrap64 ((b:Int)/4503599627370496)=(b:Int)/4503599627370496:=IntWalk.wrap64_in _ eX;clear M A hb F;cases hs:FT.neg b
 ·rw[hs] at R;have hv:FT.wrd false FT.infR=FT.infR:=rfl;rw[hv];clear hs hv;go_enter Tryz.func305,Tryz.ntmps305;go_wp2_with fail;refine(O.out _).mono ?_;rintro e c ⟨rfl,I⟩;have B:=I.size
  try simp at B
  go_wp2_with fail;refine(N.out _).mono ?_;rintro e d ⟨rfl,J⟩;have C:=J.size
  try simp at C
  go_wp2_with fail;refine(S.out _).mono ?_;rintro e i ⟨rfl,K⟩;have D:=K.size
  try simp at D
  go_wp2_with fail;refine(q0H 1 _ eX).mono ?_;rintro e j ⟨rfl,L⟩;have E:=L.size
  try simp at E
  go_wp2;go_ret;exact⟨rfl,gv⟩
 ·rw[hs] at R;have hv:FT.wrd true FT.infR=FT.infR+2^63:=rfl;rw[hv];clear hs hv;go_enter Tryz.func305,Tryz.ntmps305;go_wp2_with fail;refine(O.out _).mono ?_;rintro e c ⟨rfl,I⟩;have B:=I.size
  try simp at B
  go_wp2_with fail;refine(N.out _).mono ?_;rintro e d ⟨rfl,J⟩;have C:=J.size
  try simp at C
  go_wp2_with fail;refine(S.out _).mono ?_;rintro e i ⟨rfl,K⟩;have D:=K.size
  try simp at D
  go_wp2_with fail;refine(q1p (-1) _ eX).mono ?_;rintro e j ⟨rfl,L⟩;have E:=L.size
  try simp at E
  go_wp2;go_ret;exact⟨rfl,gv⟩
theorem lp (s:Bool) (e t:Nat) (h1:1≤e) (h2:e<2047) (A:t<2^52):
  FT.wrd s (e*2^52+t)<2^64∧FT.rung (FT.wrd s (e*2^52+t))<FT.infR∧2^52≤FT.rung (FT.wrd s (e*2^52+t)):=by
 rw[FT.wrd_rung s _ eX];exact⟨FT.wrd_lt s _ eX,by unfold FT.infR;omega,by omega⟩
theorem iX (f n:Value) (w:World) (R:Value)
  (h:∀ w,Calls Tryz.prog 305 #[f,n] w fun o A=>o= .returned R∧G w A):
  Calls Tryz.prog 290 #[f,n] w fun o A=>o= .returned R∧G w A:=by
 have K:=hi9 h;clear h;go_enter Tryz.func290,Tryz.ntmps290;go_wp2_with (first|(go_at_call 305;refine(K.out _).mono ?_;rintro e C ⟨rfl,B⟩));go_ret;exact⟨rfl,gv⟩
/-- Ldexp of a normal number: within the normal range. -/
theorem qW (s:Bool) (e t:Nat) (n:Int) (w:World) (h1:1≤e) (h2:e<2047) (A:t<2^52) (B: -30000≤n) (C:n≤30000)
  (I:1≤n+e) (J:n+e≤2046):
  Calls Tryz.prog 290 #[.float .f64 (FT.wrd s (e*2^52+t)),.int .i64 n] w fun o K=>o= .returned (.float .f64 (FT.wrd s ((n+e).toNat*2^52+t)))∧G w K:=by
 obtain⟨D,E,F⟩:=lp s e t h1 h2 A;refine iX _ _ w _ (fun w=> ?_);have l3:=FT.put_exp s (n+e).toNat t eX A;rw[show (((n+(e:Int)).toNat:Nat):Int)=n+((e:Int)-1023)+1023 from by omega] at l3;exact nk _ e (FT.wrd s t) _ _ n w eX B C D E F eX eX (FT.exp_field_i64 s e t eX A) (FT.clear_exp s e t eX A) l3
  (fun w=>run_float_arith w .mul 22 .f64 _ _ _ (FT.mul_one s (n+e).toNat t eX eX A))
/-- Ldexp of a normal number: below the normal range, exactly. -/
theorem qV (s:Bool) (e t r d:Nat) (n:Int) (w:World) (h1:1≤e) (h2:e<2047) (A:t<2^52) (B: -30000≤n) (C:n≤30000)
  (I:1≤d) (J:d≤53) (N:(d:Int)=1-(n+e)) (L:r<2^52) (h:2^52+t=r*2^d):
  Calls Tryz.prog 290 #[.float .f64 (FT.wrd s (e*2^52+t)),.int .i64 n] w fun o M=>o= .returned (.float .f64 (FT.wrd s r))∧G w M:=by
 obtain⟨D,E,F⟩:=lp s e t h1 h2 A;refine iX _ _ w _ (fun w=> ?_);have l3:=FT.put_exp s (54-d) t eX A;rw[show (((54-d:Nat):Nat):Int)=n+((e:Int)-1023)+53+1023 from by omega] at l3;have K:=FT.mul_den s (54-d) t r eX eX A L (by rw[show 54-(54-d)=d from by omega];exact h);exact nj _ e (FT.wrd s t) _ _ n w eX B C D E F eX eX (FT.exp_field_i64 s e t eX A) (FT.clear_exp s e t eX A) l3
  (fun w=>run_float_arith w .mul 22 .f64 _ _ _ K)
/-- Ldexp of a normal number: beyond the greatest. -/
theorem qU (s:Bool) (e t:Nat) (n:Int) (w:World) (h1:1≤e) (h2:e<2047) (C:t<2^52) (A: -30000≤n) (B:n≤30000)
  (J:2046<n+e):
  Calls Tryz.prog 290 #[.float .f64 (FT.wrd s (e*2^52+t)),.int .i64 n] w fun o I=>o= .returned (.float .f64 (FT.wrd s FT.infR))∧G w I:=by
 obtain⟨D,E,F⟩:=lp s e t h1 h2 C;refine iX _ _ w _ (fun w=> ?_);have:=nh _ e n w eX A B D E F eX (FT.exp_field_i64 s e t eX C);rw[FT.wrd_neg s _ eX] at this;exact this
end Go.Proofs.YtohcneeihdkfgaaGreatDoor
namespace Go.Proofs.YtohcneeihdkfgaaGreatDoor
open Go.ChangeShapes Go.WideShapes Go.ChangeAt Go.RowKit
attribute [local go_sem] fE fN gI
/-- The shift that makes a significand full. -/
theorem sk (mag:Nat) (B:mag≠0) (h:mag<2^53):∃ A t,A≤52∧t<2^52∧mag*2^A=2^52+t∧(2^52≤mag→A=0)∧A=52-mag.log2:=by
 have h1:=dm B;have h2:=cK (n:=mag);have h3:mag.log2<53:=(cT B).2 h;refine⟨52-mag.log2,mag*2^(52-mag.log2)-2^52,by omega,?_,?_,?_,rfl⟩
 ·have:mag*2^(52-mag.log2)<2^(mag.log2+1)*2^(52-mag.log2):=av h2 (ae _);rw[← ah,show mag.log2+1+(52-mag.log2)=53 from by omega] at this;omega
 ·have:2^mag.log2*2^(52-mag.log2)≤mag*2^(52-mag.log2):=au _ h1;rw[← ah,show mag.log2+(52-mag.log2)=52 from by omega] at this;omega
 ·intro C;have:2^52<2^(mag.log2+1):=by omega
  have:=(aV (by omega:1<2)).1 this;omega
end Go.Proofs.YtohcneeihdkfgaaGreatDoor
namespace Go.Proofs.YtohcneeihdkfgaaGreatDoor
open Go.ChangeShapes Go.WideShapes Go.ChangeAt Go.RowKit
attribute [local go_sem] fE fN gI
theorem q4Y (s:Bool) (mag d:Nat) (I:mag≠0) (J:1≤d):Ieee.Toward.even.cut s mag d=rnd mag d:=by
 have h1:=dm I;have h2:=cK (n:=mag);have B:2^d=2*2^(d-1):=by
  obtain⟨e,rfl⟩:∃ e,d=e+1:=⟨d-1,by omega⟩;simp [Nat.pow_succ,Nat.mul_comm]
 unfold Ieee.Toward.cut rnd;by_cases h:d≤mag.log2+2
 ·have C:min d (mag.log2+2)=d:=by omega
  simp only[C,ew,aT]
  congr 1
  generalize mag%2^d=rest;generalize mag/2^d%2=D;rw[B];generalize 2^(d-1)=half;by_cases c1:half<rest
  ·have E:2*half<2*rest:=by omega
   simp [c1]
  ·have E:¬ 2*half<2*rest:=by omega
   by_cases F:rest=half
   ·subst F;by_cases A:D=1<;>simp [A]
   ·have A:¬ 2*half=2*rest:=by omega
    simp [c1,F,A]
 ·have C:min d (mag.log2+2)=mag.log2+2:=by omega
  have K:2^(mag.log2+2)=2*2^(mag.log2+1):=by rw[bH 2 (mag.log2+1),aJ]
  have L:2^(mag.log2+2)≤2^(d-1):=gD eX;have M:2^(d-1)≤2^d:=gD eX;simp only[C,ew,aT];rw[b9 (show mag<2^(mag.log2+2) by omega),bh (show mag<2^(mag.log2+2) by omega),
   b9 (show mag<2^d by omega),bh (show mag<2^d by omega)]
  rw[if_neg eX];have c1:¬ 2^(mag.log2+2)<2*mag:=by omega
  have E:¬ 2^(mag.log2+2)=2*mag:=by omega
  simp [c1]
theorem q0Q (s:Bool) (mag:Nat) (n:Int) (B:mag≠0) (C:mag<2^64):shV mag n=Ieee.Toward.even.cut s (mag<<<n.toNat) (-n).toNat:=by
 unfold shV;by_cases A:0≤n
 ·rw[if_pos A,show (-n).toNat=0 from by omega,FT.cut_zero,ew]
 ·rw[if_neg A,show n.toNat=0 from by omega,Nat.shiftLeft_zero,q4Y s mag _ B eX];split
  ·have:2^64≤2^((-n).toNat-1):=gD eX;have h2:2^((-n).toNat-1)≤2^(-n).toNat:=gD eX;unfold rnd;rw[b9 eX,bh eX,if_neg eX]
  ·rfl
theorem nt (s:Bool) (mag:Nat) (e:Int) (B:mag≠0) (F:mag<2^64):
  Ieee.double.nearest s mag e=FT.wrd s (gz 11 52 mag e):=by
 have hle:=nu mag e;have h1:=dm B;unfold Ieee.Format.nearest;rw[if_neg B,FT.leastPlace_eq,FT.infRung_eq,FT.binade_eq,FT.word_eq]
 congr 1
 show min ((max (e+(mag.log2:Int)-(52:Nat)) (-1074)- -1074).toNat*2^52+Ieee.Toward.even.cut s (mag<<<(e-max (e+(mag.log2:Int)-(52:Nat)) (-1074)).toNat) (max (e+(mag.log2:Int)-(52:Nat)) (-1074)-e).toNat) (2047*2^52)=_;generalize O:max (e+(mag.log2:Int)-(52:Nat)) (-1074)=last;have E:=q0Q s mag (e-last) B F;rw[show (-(e-last)).toNat=(last-e).toNat from by omega] at E;rw[← E];unfold gz at hle ⊢;rw[if_neg B] at hle ⊢;have h2:(2:Int)^(11-1)=1024:=rfl;rw[h2] at hle ⊢;by_cases A:(1024:Int)-1<e+mag.log2
 ·rw[if_pos A];have D:last=e+mag.log2-52:=by omega
  have L:2^52≤shV mag (e-last):=by
   unfold shV;by_cases I:0≤e-last
   ·rw[if_pos I];have:2^mag.log2*2^(e-last).toNat≤mag*2^(e-last).toNat:=au _ h1;rw[← ah,show mag.log2+(e-last).toNat=52 from by omega] at this;exact this
   ·rw[if_neg I];have M:mag.log2<64:=(cT B).2 F;rw[if_neg eX];unfold rnd;have:2^52≤mag/2^(-(e-last)).toNat:=by
     rw[aZ (ae _),← ah,show 52+(-(e-last)).toNat=mag.log2 from by omega];exact h1
    omega
  have C:2046*2^52≤(last- -1074).toNat*2^52:=au _ eX;have key:∀ hi lo:Nat,2046*2^52≤hi→2^52≤lo→min (hi+lo) (2047*2^52)=(2^11-1)*2^52:=by intro hi lo a b;omega
  exact key _ _ C L
 ·rw[if_neg A] at hle ⊢;have N:max (e+(mag.log2:Int)) (2-1024)=last+52:=by omega
  rw[N] at hle ⊢;have J:(last+52-(2-1024)).toNat=(last- -1074).toNat:=by omega
  have K:e-(last+52-(52:Nat))=e-last:=by omega
  rw[J,K] at hle ⊢;exact ck hle
end Go.Proofs.YtohcneeihdkfgaaGreatDoor
namespace Go.Proofs.YtohcneeihdkfgaaGreatDoor
open Go.ChangeShapes Go.WideShapes Go.ChangeAt Go.RowKit
attribute [local go_sem] fE fN gI
/-- The float of a whole number. -/
def flN (q:Nat):Nat:=gz 11 52 q 0
theorem qG (q:Nat) (B:q<2^64):floatOfInt .f64 (q:Int)=flN q:=by
 have h1:floatOfInt .f64 (q:Int)=Ieee.double.nearest (decide ((q:Int)<0)) (q:Int).natAbs 0:=rfl;rw[h1,aA,decide_eq_false eX];by_cases A:q=0
 ·subst A;decide
 ·rw[nt false q 0 A B];rfl
theorem oG (q A t:Nat) (n:Int) (B:q≠0) (D:q<2^53) (E:q*2^A=2^52+t) (F:A=52-q.log2)
  (h1: -1022≤n+(q.log2:Int)) (h2:n+(q.log2:Int)≤1023):gz 11 52 q n=(n+q.log2+1023).toNat*2^52+t:=by
 have C:q.log2<53:=(cT B).2 D;unfold gz;rw[if_neg B,show (2:Int)^(11-1)=1024 from rfl,if_neg eX,show max (n+(q.log2:Int)) (2-1024)=n+q.log2 from by omega,
  show n-(n+(q.log2:Int)-(52:Nat))=(A:Int) from by omega]
 unfold shV;rw[if_pos eX,dw,E,show (n+(q.log2:Int)+1023).toNat=(n+(q.log2:Int)-(2-1024)).toNat+1 from by omega,aL,aT];omega
theorem q1C (q:Nat) (n:Int) (A:q≠0) (B: -1074≤n) (h1:n+(q.log2:Int)< -1022):gz 11 52 q n=q*2^(n+1074).toNat:=by
 unfold gz;rw[if_neg A,show (2:Int)^(11-1)=1024 from rfl,if_neg eX,show max (n+(q.log2:Int)) (2-1024)= -1022 from by omega,
  show n-(-1022-((52:Nat):Int))=n+1074 from by omega]
 unfold shV;rw[if_pos eX,show (-1022-((2:Int)-1024)).toNat=0 from rfl,bL,aK]
theorem q1B (q:Nat) (n:Int) (A:q≠0) (h1:1023<n+(q.log2:Int)):gz 11 52 q n=FT.infR:=by
 unfold gz;rw[if_neg A,show (2:Int)^(11-1)=1024 from rfl,if_pos eX];rfl
set_option maxRecDepth 100000 in
theorem pQ (n:Int) (w:World):
  Calls Tryz.prog 290 #[.float .f64 0,.int .i64 n] w fun o B=>o= .returned (.float .f64 0)∧G w B:=by
 refine iX _ _ w _ (fun w=> ?_);have A:=FT.eq_zero 0;rw[decide_eq_true (by rfl)] at A;go_enter Tryz.func305,Tryz.ntmps305;go_wp2;go_ret;exact⟨rfl,gv⟩
theorem nY (x:Nat):FT.wrd false x=x:=rfl
/-- Ldexp of the float of a number below 2^53, and no power below -1074. -/
theorem q4E (q:Nat) (n:Int) (w:World) (D:q<2^53) (F: -1074≤n) (B:n≤30000):
  Calls Tryz.prog 290 #[.float .f64 (flN q),.int .i64 n] w fun o Y=>o= .returned (.float .f64 (gz 11 52 q n))∧G w Y:=by
 by_cases A:q=0
 ·subst A;have N:flN 0=0:=by decide
  have O:gz 11 52 0 n=0:=by unfold gz;rw[if_pos rfl]
  rw[N,O];exact pQ n w
 obtain⟨K,t,W,J,C,-,L⟩:=sk q A D;have S:q.log2<53:=(cT A).2 D;have R:flN q=FT.wrd false ((q.log2+1023)*2^52+t):=by
  unfold flN;rw[oG q K t 0 A D C L eX eX,nY,show (0+(q.log2:Int)+1023).toNat=q.log2+1023 from by omega]
 rw[R];by_cases c1:1023<n+(q.log2:Int)
 ·rw[q1B q n A c1];have:=qU false (q.log2+1023) t n w eX eX J eX B eX;exact this
 ·by_cases M: -1022≤n+(q.log2:Int)
  ·rw[oG q K t n A D C L M eX];have:=qW false (q.log2+1023) t n w eX eX J eX B eX eX;rw[show (n+((q.log2+1023:Nat):Int)).toNat=(n+(q.log2:Int)+1023).toNat from by omega] at this;exact this
  ·rw[q1C q n A F eX];have E:∃ d:Nat,(d:Int)=1-(n+((q.log2+1023:Nat):Int)):=⟨(1-(n+((q.log2+1023:Nat):Int))).toNat,by omega⟩;obtain⟨d,E⟩:=E;have U:2^52+t=q*2^(n+1074).toNat*2^d:=by
    rw[← C,ar,← ah,show (n+1074).toNat+d=K from by omega]
   have I:q*2^(n+1074).toNat<2^52:=by
    have X:=cK (n:=q);have:q*2^(n+1074).toNat<2^(q.log2+1)*2^(n+1074).toNat:=av X (ae _);rw[← ah] at this;exact aj this (ao eX eX)
   exact qV false (q.log2+1023) t _ d n w eX eX J eX B eX eX E I U
end Go.Proofs.YtohcneeihdkfgaaGreatDoor
namespace Go.Proofs.YtohcneeihdkfgaaGreatDoor
open Go.ChangeShapes Go.WideShapes Go.ChangeAt Go.RowKit
attribute [local go_sem] fE fN
theorem q69 {y k:Nat} (h:y<2^k) (A:k≤63):bits BinOp.or IntKind.u64 (y:Int) (2^k)=((y+2^k:Nat):Int):=by
 have h2:(2:Nat)^k<2^64:=bk eX eX;rw[FT.ipow,u64_or_nat _ _ eX eX,dN];have:=Nat.two_pow_add_eq_or_of_lt h 1;rw[bV] at this;rw[← this,cR]
end Go.Proofs.YtohcneeihdkfgaaGreatDoor
