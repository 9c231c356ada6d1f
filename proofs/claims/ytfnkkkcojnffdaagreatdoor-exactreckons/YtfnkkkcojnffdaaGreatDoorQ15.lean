/- What is proved here: contracts of package bits, Join to Make, over this seat's translation.
What is proved here: contracts of package bits, Whole and shift, over this seat's translation.
What is proved here: contracts of package bits, nearest and Make, over this seat's translation.
What is proved here: contracts of neighbours and keys, over this seat's translation.
What is proved here: what 'nearest' gives against the exact rounding; contracts of Ulp, over this seat's translation.
What is proved here: contracts of package bits, small and Pack, over this seat's translation. -/
import Derived.Test.YtfnkkkcojnffdaaGreatDoorQ1
import Derived.Test.YtfnkkkcojnffdaaGreatDoorQ13
import Derived.Test.YtfnkkkcojnffdaaGreatDoorQ2
import Derived.Test.YtfnkkkcojnffdaaGreatDoorQ14
import Derived.Shelf.Strconv.Itoa0
import Derived.Test.YtfnkkkcojnffdaaGreatDoorQ3
namespace Go.Proofs.YtfnkkkcojnffdaaGreatDoor
open Go.ChangeShapes Go.WideShapes Go.ChangeAt Go.RowKit
attribute [local go_sem] fL gy
/-- The library's table lies where it was laid. -/
def Tab (w:World):Prop:=1<w.heap.size∧∀ i,i<64→w.cell? ⟨1,i,none⟩=some (.int .u8 (FT.tab.getD i 0:Nat))
theorem Tab.G {w A:World} (h:Tab w) (g:G w A):Tab A:=
 ⟨ae h.1 g.size,fun i hi=>g.cell h.1 (h.2 i hi)⟩
theorem kT (x:Nat) (w:World) (h:x<2^64):Calls Tryz.prog 174 #[.int .u64 x] w fun e A=>e= .returned (.int .i64 (Lib.bitLen x))∧G w A:=
 (Tryz.bits_Len64 x w eK eK).mono (by rintro e A ⟨rfl,rfl⟩;exact⟨by simp,ag _⟩)
theorem q2i (x k q:Nat) (w:World) (_hx:x<2^64) (E:((x:Int)==0)=false) (hi:q<64) (C:k<64) (B:w.cell? ⟨1,q,none⟩=some (.int .u8 k))
  (D:IntKind.u64.wrap (bits BinOp.and IntKind.u64 (x:Int) (IntKind.u64.wrap (-(x:Int)))*285870213051353865)/288230376151711744=(q:Int)):
  Calls Tryz.prog 139 #[.int .u64 x] w fun e A=>e= .returned (.int .i64 k)∧A=w:=by
 go_enter Tryz.func139,Tryz.ntmps139;go_wp2;go_ret;exact⟨rfl,rfl⟩
theorem tz_c (x j k:Nat) (w:World) (E:Tab w) (B:x<2^64) (e:x=(2*j+1)*2^k):
  Calls Tryz.prog 139 #[.int .u64 x] w fun e D=>e= .returned (.int .i64 k)∧G w D:=by
 have A:k<64:=by rw[e] at B;exact FT.tz_lt B
 have C:=E.2 _ (FT.ix_lt A);rw[FT.tab_ix A] at C;have F:((x:Int)==0)=false:=by
  have:x≠0:=by rw[e];exact bV eK (by have:=af k;omega)
  simp;omega
 refine(q2i x k (FT.ix k) w B F (FT.ix_lt A) A C (FT.place x j k e B)).mono ?_;rintro e D ⟨rfl,rfl⟩;exact⟨rfl,ag _⟩
end Go.Proofs.YtfnkkkcojnffdaaGreatDoor
namespace Go.Proofs.YtfnkkkcojnffdaaGreatDoor
open Go.ChangeShapes Go.WideShapes Go.ChangeAt Go.RowKit
attribute [local go_sem] fL gy
theorem q3j {a A b B c:Int} (h1:a=A) (h2:b=B):Ending.returned (.tuple #[.int .i64 a,.int .i64 b,.int .i64 c])= .returned (.tuple #[.int .i64 A,.int .i64 B,.int .i64 c]):=by rw[h1,h2]
set_option maxRecDepth 100000 in
theorem oq (b B:Nat) (w:World) (F:b<2^64) (C:b/2^52%2^11=2047) (D:b%2^52=B):
  Calls Tryz.prog 80 #[.float .f64 b] w fun e I=>e= .returned (.tuple #[.int .i64 0,.int .i64 0,.int .i64 4])∧G w I:=by
 have K:Hid _:=fun w=>mY b 2047 B w F C D;clear C D;go_enter Tryz.func80,Tryz.ntmps80;go_wp2_with (first|(go_at_call 135;refine(K.out _).mono ?_;rintro e E ⟨rfl,A⟩)|(go_at_call 137;refine(ij _).mono ?_;rintro e E ⟨rfl,A⟩)|(go_at_call 136;refine(iA 11 52 _ eK).mono ?_;rintro e E ⟨rfl,A⟩))
 go_ret3
 exact⟨rfl,lT⟩
set_option maxRecDepth 100000 in
theorem nf (b:Nat) (w:World) (E:b<2^64) (C:b/2^52%2^11=0) (D:b%2^52=0):
  Calls Tryz.prog 80 #[.float .f64 b] w fun e F=>e= .returned (.tuple #[.int .i64 0,.int .i64 0,.int .i64 0])∧G w F:=by
 have K:Hid _:=fun w=>mY b 0 0 w E C D;have S:Hid _:=fun w=>ji 0 0 11 52 w eK eK eK eK eK;clear C D;go_enter Tryz.func80,Tryz.ntmps80;go_wp2_with (first|(go_at_call 135;refine(K.out _).mono ?_;rintro e B ⟨rfl,A⟩)|(go_at_call 137;refine(ij _).mono ?_;rintro e B ⟨rfl,A⟩)|(go_at_call 136;refine(iA 11 52 _ eK).mono ?_;rintro e B ⟨rfl,A⟩)|(go_at_call 138;refine(S.out _).mono ?_;rintro e B ⟨rfl,A⟩))
 go_ret3
 exact⟨rfl,lT⟩
set_option maxRecDepth 100000 in
theorem q2j (b ex B mag j k:Nat) (w:World) (c:Tab w) (s:b<2^64) (he:b/2^52%2^11=ex) (hf:b%2^52=B) (h1:ex<2047)
  (o:(if ex=0 then B else 2^52+B)=mag) (m:mag=(2*j+1)*2^k):
  Calls Tryz.prog 80 #[.float .f64 b] w fun e w'=>e= .returned (.tuple #[.int .i64 (if FT.neg b then -(2*j+1) else 2*j+1),.int .i64 ((max ex 1:Nat)-1075+k),.int .i64 0])∧G w w':=by
 have i:B<2^52:=by omega
 have al:mag<2^53:=by rw[← o];split<;>omega
 have hk:k<64:=FT.tz_lt (j:=j) eK;have A:0<2^k:=af k;have am:2*j+1≤mag:=by
  have:(2*j+1)*1≤(2*j+1)*2^k:=aA _ A;omega
 have y:(mag:Int)/2^k=2*(j:Int)+1:=by
  have:mag/2^k=2*j+1:=by rw[m];exact cN _ A
  rw[FT.ipow,← cW,this];omega
 have K:Hid _:=fun w=>mY b ex B w s he hf;have S:Hid _:=fun w=>ji ex B 11 52 w i eK eK eK eK;rw[o] at S;have T:Hid _:=fun w c=>tz_c mag j k w c eK m;have hz:((mag:Int)==0)=false:=by simp;omega
 have ao:((ex:Int)==2047)=false:=by simp;omega
 have an:max ex 1≤2047:=by omega
 generalize max ex 1=mx at *;generalize FT.neg b=n at *;clear he hf o m A s;cases n
 all_goals
  go_enter Tryz.func80,Tryz.ntmps80;go_wp2_with fail;refine(K.out _).mono ?_;rintro e w1 ⟨rfl,C⟩;have R:=C.size
  try simp at R
  have J:=c.G C;go_wp2_with fail;refine(ij _).mono ?_;rintro e w2 ⟨rfl,D⟩;have U:=D.size
  try simp at U
  have L:=J.G D;go_wp2_with fail;refine(iA 11 52 _ eK).mono ?_;rintro e w3 ⟨rfl,E⟩;have W:=E.size
  try simp at W
  have M:=L.G E;go_wp2_with fail;refine(ij _).mono ?_;rintro e w4 ⟨rfl,F⟩;have X:=F.size
  try simp at X
  have N:=M.G F;go_wp2_with fail;refine(S.out _).mono ?_;rintro e w5 ⟨rfl,I⟩;have Y:=I.size
  try simp at Y
  have O:=N.G I;clear c J L M N;go_wp2_with fail;refine(T.out _ O).mono ?_;rintro e w6 ⟨rfl,d⟩;have Z:=d.size
  try simp at Z
  clear O;go_wp2
  go_ret3
  exact⟨q3j eK eK,lT⟩
/-! Rounding by a shift. -/
def rnd (mag d:Nat):Nat:=mag/2^d+(if 2^(d-1)<mag%2^d∨(mag%2^d=2^(d-1)∧mag/2^d%2=1) then 1 else 0)
theorem pB (mag n:Nat) (w:World) (h:mag*2^n<2^64) (C:n<64):
  Calls Tryz.prog 224 #[.int .u64 mag,.int .i64 n] w fun e B=>e= .returned (.int .u64 (mag*2^n:Nat))∧G w B:=by
 have A:IntKind.u64.wrap ((mag:Int)*2^n)=((mag*2^n:Nat):Int):=by
  rw[IntKind.wrap_u64,FT.ipow,← aL];generalize mag*2^n=q at *;omega
 have F1:=hi9 A;clear A h;go_enter Tryz.func224,Tryz.ntmps224;go_wp2;go_ret;exact⟨ft F1.out,ag _⟩
theorem nY (mag:Nat) (n:Int) (w:World) (B:n< -64):
  Calls Tryz.prog 224 #[.int .u64 mag,.int .i64 n] w fun e A=>e= .returned (.int .u64 0)∧G w A:=by
 go_enter Tryz.func224,Tryz.ntmps224;go_wp2;go_ret;exact⟨rfl,ag _⟩
theorem q1L (mag d:Nat) (h1:1≤d) (h2:d≤64) (C:mag<2^64):
  bits BinOp.and IntKind.u64 (mag:Int) (bits BinOp.or IntKind.u64 (2^(d-1)) (2^(d-1)-1))=((mag%2^d:Nat):Int):=by
 have D:1≤2^(d-1):=af (d-1);have E:2^(d-1)≤2^63:=fU eK;have B:2^d=2*2^(d-1):=by
  obtain⟨e,rfl⟩:∃ e,d=e+1:=⟨d-1,by omega⟩;simp [Nat.pow_succ,Nat.mul_comm]
 have A:bits BinOp.or IntKind.u64 (2^(d-1)) (2^(d-1)-1)=((2^d-1:Nat):Int):=by
  rw[FT.ipow,show (((2^(d-1):Nat):Int)-1)=((2^(d-1)-1:Nat):Int) from by omega,u64_or_nat _ _ eK eK,
   nat_join (d-1) (2^(d-1)) (2^(d-1)-1) fI eK]
  congr 1
  omega
 rw[A,u64_and_nat mag _ eK eK,dw]
theorem mX (mag d:Nat) (w:World) (F:mag<2^64) (h1:1≤d) (h2:d≤64):
  Calls Tryz.prog 224 #[.int .u64 mag,.int .i64 (-(d:Int))] w fun e O=>e= .returned (.int .u64 (rnd mag d:Nat))∧G w O:=by
 have M:=q1L mag d h1 h2 F;have N:=gZ (show d-1≤63 by omega);have R:(mag:Int)/2^d=((mag/2^d:Nat):Int):=by simp
 have L:mag/2^d<2^63:=by
  have:2^1≤2^d:=fU h1;rw[bh eK]
  calc mag<2^64:=F
   _=2^63*2^1:=by rfl
   _≤2^63*2^d:=aA _ this
 have B:bits BinOp.and IntKind.u64 ((mag/2^d:Nat):Int) 1=((mag/2^d%2:Nat):Int):=by
  have:=FT.and_mask (mag/2^d) 1 eK eK;simpa using this
 have D:((2^(d-1):Nat):Int)=2^(d-1):=by simp
 unfold rnd;have S:mag%2^d<2^64:=by have:=Nat.mod_le mag (2^d);omega
 generalize mag%2^d=lost at *;generalize mag/2^d=kept at *;rw[← D] at N;generalize K:2^(d-1)=half at *;clear K;have E:=D.symm;clear D;rw[E] at M;have A:kept%2=0∨kept%2=1:=by omega
 by_cases c1:half<lost
 ·have C:(half:Int)<lost:=by omega
  rw[if_pos (Or.inl c1)];go_enter Tryz.func224,Tryz.ntmps224;go_wp2;go_ret;exact⟨ft fI,ag _⟩
 ·have C:¬ (half:Int)<lost:=by omega
  by_cases I:lost=half
  ·subst I;rcases A with A|A<;>rw[A] at B
   ·rw[if_neg eK];go_enter Tryz.func224,Tryz.ntmps224;go_wp2;go_ret;exact⟨ft fI,ag _⟩
   ·rw[if_pos eK];go_enter Tryz.func224,Tryz.ntmps224;go_wp2;go_ret;exact⟨ft fI,ag _⟩
  ·have J:((lost:Int)==half)=false:=by simp;omega
   rw[if_neg eK];go_enter Tryz.func224,Tryz.ntmps224;go_wp2;go_ret;exact⟨ft fI,ag _⟩
end Go.Proofs.YtfnkkkcojnffdaaGreatDoor
namespace Go.Proofs.YtfnkkkcojnffdaaGreatDoor
open Go.ChangeShapes Go.WideShapes Go.ChangeAt Go.RowKit
attribute [local go_sem] fL gy
def shV (mag:Nat) (n:Int):Nat:=if 0≤n then mag*2^n.toNat else if n< -64 then 0 else rnd mag (-n).toNat
theorem q28 (mag:Nat) (n:Int) (w:World) (B:mag<2^64) (h:0≤n→n<64∧mag*2^n.toNat<2^64):
  Calls Tryz.prog 224 #[.int .u64 mag,.int .i64 n] w fun e C=>e= .returned (.int .u64 (shV mag n:Nat))∧G w C:=by
 unfold shV;by_cases A:0≤n
 ·obtain⟨k,rfl⟩:=Int.eq_ofNat_of_zero_le A;obtain⟨h1,h2⟩:=h A;rw[if_pos A];rw[eA] at h2 ⊢;exact pB mag k w h2 eK
 ·rw[if_neg A];by_cases h1:n< -64
  ·rw[if_pos h1];exact nY mag n w h1
  ·rw[if_neg h1];have:=mX mag (-n).toNat w B eK eK;rw[show (-(((-n).toNat:Nat):Int))=n from by omega] at this;exact this
theorem qz (x:Nat) (h:x<2^64):Lib.bitLen x≤64:=Lib.bitLen_le x 64 eK h
theorem fV {x:Nat} (B:x≠0) (h:x<2^64):Lib.bitLen x=x.log2+1:=by
 have h1:=cV B;have h2:=cG (n:=x);rw[Lib.bitLen_shift x.log2 x h1 h];have h3:x/2^x.log2=1:=by
  have A:=af x.log2;have a:x/2^x.log2<2:=by rw[bh A];rw[bp] at h2;omega
  have b:1≤x/2^x.log2:=by rw[cB A];omega
  omega
 rw[h3];rfl
/-- What 'nearest' gives. -/
def gV (E F mag:Nat) (e:Int):Nat:=
 if mag=0 then 0
 else if 2^(E-1)-1<e+mag.log2 then (2^E-1)*2^F
 else (max (e+mag.log2) (2-2^(E-1))-(2-2^(E-1))).toNat*2^F+shV mag (e-(max (e+mag.log2) (2-2^(E-1))-F))
theorem q3k (mag d:Nat) (C:mag<2^64) (A:1≤d):rnd mag d≤2^63:=by
 have B:mag/2^d<2^63:=by
  have:2^1≤2^d:=fU A;rw[bh eK]
  calc mag<2^64:=C
   _=2^63*2^1:=by rfl
   _≤2^63*2^d:=aA _ this
 unfold rnd;split<;>omega
theorem q3r (mag:Nat) (n:Int) (B:mag<2^64) (h:0≤n→mag*2^n.toNat<2^63):shV mag n≤2^63:=by
 unfold shV;split
 ·rename_i A;have:=h A;omega
 ·split
  ·omega
  ·exact q3k _ _ B eK
set_option maxRecDepth 100000 in
theorem qV (mag E F:Nat) (e:Int) (w:World) (X:mag<2^64) (hE:2≤E) (W:E≤11) (hF:1≤F) (O:F≤52) (cm: -6000≤e) (cn:e≤6000):
  Calls Tryz.prog 198 #[.int .u64 mag,.int .i64 e,.agg #[.int .i64 E,.int .i64 F]] w fun r w'=>r= .returned (.int .u64 (gV E F mag e:Nat))∧G w w':=by
 by_cases hz:mag=0
 ·subst hz;go_enter Tryz.func198,Tryz.ntmps198;go_wp2;go_ret;exact⟨ft (by simp [gV]),lT⟩
 have hl:=fV hz X;have am:=qz mag X;have an:=gZ (show E-1≤10 by omega);have bu:(2:Int)≤2^(E-1):=by
  have:2^1≤2^(E-1):=fU eK;rw[FT.ipow];omega
 have ao:=gZ O;have cr:((mag:Int)==0)=false:=by simp;omega
 have k:Hid _:=fun w=>kT mag w X;have m:Hid _:=fun w=>oQ E F w eK W;have C3:Hid _:=fun w=>oN E F w W O;rw[hl] at k;have bq:mag.log2<64:=by omega
 have N:=cG (n:=mag);unfold gV;rw[if_neg hz]
 -- the shift
 have o:Hid _:=fun n w=>q28 mag n w X;have S:∀ n:Int,n+mag.log2≤F→0≤n→n<64∧mag*2^n.toNat<2^63:=by
  intro n h1 h2;refine⟨by omega,?_⟩;have hp:=af n.toNat
  calc mag*2^n.toNat<2^(mag.log2+1)*2^n.toNat:=aF N hp
   _=2^(mag.log2+1+n.toNat):=by rw[← ah]
   _≤2^63:=fU eK
 have Z:∀ n:Int,n+mag.log2≤F→shV mag n≤2^63:=fun n h=>q3r mag n X (fun j=>(S n h j).2);have i:=hi9 S;have s:=hi9 Z;clear S Z N hl am;generalize mag.log2=U at *;have hM:(2:Int)^(E-1)≤1024:=by omega
 have L:((2:Int)^E)=2*2^(E-1):=by
  obtain⟨d,rfl⟩:∃ d,E=d+1:=⟨E-1,by omega⟩;simp [Int.pow_succ,Int.mul_comm]
 have H3:=hi9 L;clear L;by_cases D:(2:Int)^(E-1)-1<e+U
 ·rw[if_pos D];have hN:((2:Int)^E-1)*2^F=(((2^E-1)*2^F:Nat):Int):=by
   have:=af E;rw[aL,show ((2^E-1:Nat):Int)=((2^E:Nat):Int)-1 from by omega];simp
  rw[hN] at C3;clear hN;generalize (2:Int)^(E-1)=M at *;generalize (2^E-1)*2^F=r at *;clear i s H3 o ao an;have al:M-1<e+(U+1)-1:=by omega
  go_enter Tryz.func198,Tryz.ntmps198;go_wp2_with fail;refine(k.out _).mono ?_;rintro e w1 ⟨rfl,A⟩;have bv:=A.cell (p:=⟨w.heap.size,0,none⟩) (v:= .int .i64 E) (by first|(simp;done)|(simp;omega)|omega) (by first|assumption|(simp [go_sem];done)|(simp [*,go_sem];done));have bz:=A.cell (p:=⟨w.heap.size,1,none⟩) (v:= .int .i64 F) (by first|(simp;done)|(simp;omega)|omega) (by first|assumption|(simp [go_sem];done)|(simp [*,go_sem];done));have I:=A.size
  try simp at I
  go_wp2_with fail;refine(m.out _).mono ?_;rintro e w2 ⟨rfl,B⟩;have ca:=B.cell (p:=⟨w.heap.size,0,none⟩) (v:= .int .i64 E) (by first|(simp;done)|(simp;omega)|omega) (by first|assumption|(simp [go_sem];done)|(simp [*,go_sem];done));have cb:=B.cell (p:=⟨w.heap.size,1,none⟩) (v:= .int .i64 F) (by first|(simp;done)|(simp;omega)|omega) (by first|assumption|(simp [go_sem];done)|(simp [*,go_sem];done));have J:=B.size
  try simp at J
  go_wp2_with fail;refine(C3.out _).mono ?_;rintro e w3 ⟨rfl,C⟩;have K:=C.size
  try simp at K
  go_wp2;go_ret;exact⟨rfl,lT⟩
 ·rw[if_neg D];generalize y:(2:Int)^(E-1)=M at *;generalize ap:max (e+(U:Int)) (2-M)=place at *;have hn:(e-(place-F))+U≤F:=by omega
  have hs:=s.out _ hn;have hS:Hid _:=fun w=>o.out (e-(place-F)) w (fun j=>⟨(i.out _ hn j).1,by have:=(i.out _ hn j).2;omega⟩);have bs:((place-(2-M)).toNat*2^F:Nat)≤2046*2^52:=by
   have:2^F≤2^52:=fU O;exact bN eK this
  have Y:(place-(2-M))*2^F=(((place-(2-M)).toNat*2^F:Nat):Int):=by
   rw[aL,← FT.ipow]
   congr 1
   omega
  have H5:=hi9 Y;clear Y;generalize (place-(2-M)).toNat*2^F=hi at *;generalize shV mag (e-(place-F))=lo at *;clear i s H3 o y;have t1:¬ M-1<e+(U+1)-1:=by omega
  have P:Hid (max (e+((U:Int)+1)-1) (1-(M-1))=place):=by show max (e+((U:Int)+1)-1) (1-(M-1))=place;omega
  have b1:0≤place-(2-M):=by omega
  have b2:place-(2-M)≤2046:=by omega
  clear ap D;go_enter Tryz.func198,Tryz.ntmps198;go_wp2_with fail;refine(k.out _).mono ?_;rintro e w1 ⟨rfl,A⟩;have cc:=A.cell (p:=⟨w.heap.size,0,none⟩) (v:= .int .i64 E) (by first|(simp;done)|(simp;omega)|omega) (by first|assumption|(simp [go_sem];done)|(simp [*,go_sem];done));have cd:=A.cell (p:=⟨w.heap.size,1,none⟩) (v:= .int .i64 F) (by first|(simp;done)|(simp;omega)|omega) (by first|assumption|(simp [go_sem];done)|(simp [*,go_sem];done));have I:=A.size
  try simp at I
  go_wp2_with fail;refine(m.out _).mono ?_;rintro e w2 ⟨rfl,B⟩;have ce:=B.cell (p:=⟨w.heap.size,0,none⟩) (v:= .int .i64 E) (by first|(simp;done)|(simp;omega)|omega) (by first|assumption|(simp [go_sem];done)|(simp [*,go_sem];done));have ci:=B.cell (p:=⟨w.heap.size,1,none⟩) (v:= .int .i64 F) (by first|(simp;done)|(simp;omega)|omega) (by first|assumption|(simp [go_sem];done)|(simp [*,go_sem];done));have J:=B.size
  try simp at J
  go_wp2_with fail;refine(m.out _).mono ?_;rintro e w3 ⟨rfl,C⟩;have cl:=C.cell (p:=⟨w.heap.size,0,none⟩) (v:= .int .i64 E) (by first|(simp;done)|(simp;omega)|omega) (by first|assumption|(simp [go_sem];done)|(simp [*,go_sem];done));have bi:=C.cell (p:=⟨w.heap.size,1,none⟩) (v:= .int .i64 F) (by first|(simp;done)|(simp;omega)|omega) (by first|assumption|(simp [go_sem];done)|(simp [*,go_sem];done));have K:=C.size
  try simp at K
  go_wp2_with fail;rw[P.out];refine(hS.out _).mono ?_;rintro e w4 ⟨rfl,R⟩;have bl:=R.cell (p:=⟨w.heap.size,0,none⟩) (v:= .int .i64 E) (by first|(simp;done)|(simp;omega)|omega) (by first|assumption|(simp [go_sem];done)|(simp [*,go_sem];done));have bn:=R.cell (p:=⟨w.heap.size,1,none⟩) (v:= .int .i64 F) (by first|(simp;done)|(simp;omega)|omega) (by first|assumption|(simp [go_sem];done)|(simp [*,go_sem];done));have c:=R.size
  try simp at c
  go_wp2;go_ret;exact⟨ft (by rw[show place-(1-(M-1))=place-(2-M) from by omega,H5.out,IntWalk.u64_in (hi:Int) eK,IntWalk.u64_in _ eK];omega),lT⟩
theorem q27 (mag F:Nat) (n:Int) (h:n+mag.log2≤F):shV mag n≤2^(F+1):=by
 have A:=cG (n:=mag);have h1:1≤2^(F+1):=af _;unfold shV;split
 ·rename_i D
  have B:=af n.toNat;have:mag*2^n.toNat<2^(mag.log2+1)*2^n.toNat:=aF A B;have e:2^(mag.log2+1)*2^n.toNat=2^(mag.log2+1+n.toNat):=by rw[← ah]
  have l:2^(mag.log2+1+n.toNat)≤2^(F+1):=fU eK;omega
 ·split
  ·omega
  ·generalize C:(-n).toNat=d;have B:=af d;have E:mag/2^d<2^(F+1):=by
    rw[bh B,← ah];have l:2^(mag.log2+1)≤2^(F+1+d):=fU eK;omega
   unfold rnd;split<;>omega
set_option maxRecDepth 100000 in
theorem lz (mag:Nat) (e:Int):gV 11 52 mag e≤2047*2^52:=by
 unfold gV;split
 ·omega
 ·split
  ·omega
  ·rename_i h1
   simp only[show (2:Int)^(11-1)=1024 from rfl] at h1 ⊢;generalize C:max (e+(mag.log2:Int)) (2-1024)=place;have B:=q27 mag 52 (e-(place-(52:Nat))) eK;have A:(place-(2-1024)).toNat*2^52≤2045*2^52:=ay _ eK;have h3:(2:Nat)^(52+1)=2*2^52:=rfl;rw[h3] at B;have key:∀ hi lo:Nat,hi≤2045*2^52→lo≤2*2^52→hi+lo≤2047*2^52:=by intro hi lo a b;omega
   exact key _ _ A B
def iF (e:Int):Int:=max (-5000) (min 5000 e)
set_option maxRecDepth 100000 in
theorem q2U (m e:Int) (w:World) (Y: -9223372036854775808≤m) (Z:m≤9223372036854775807) (U: -9223372036854775808≤e) (W:e≤9223372036854775807):
  Calls Tryz.prog 154 #[.int .i64 m,.int .i64 e] w fun r k=>
   r= .returned (.float .f64 (if m<0 then gV 11 52 m.natAbs (iF e)+2^63 else gV 11 52 m.natAbs (iF e)))∧G w k:=by
 have X:=lz m.natAbs (iF e);have L:min (max e (-5000)) 5000=iF e:=by unfold iF;omega
 have R: -5000≤iF e∧iF e≤5000:=by unfold iF;omega
 have N:Hid _:=fun w=>qV m.natAbs 11 52 (iF e) w eK eK eK eK eK eK eK;have S:Hid _:=fun s w=>fO s (gV 11 52 m.natAbs (iF e)) w eK;generalize gV 11 52 m.natAbs (iF e)=r at *;have C:=hi9 L;clear L;generalize iF e=c at *;by_cases O:m<0
 ·rw[if_pos O];have A:((m.natAbs:Nat):Int)= -m:=by omega
  rw[A] at N;have i:IntKind.u64.wrap m=m+18446744073709551616:=by rw[IntKind.wrap_u64];omega
  have j:IntKind.u64.wrap (-(m+18446744073709551616))= -m:=by rw[IntKind.wrap_u64];omega
  have K:=S.out true;have M:=hi9 K;clear S K A;go_enter Tryz.func154,Tryz.ntmps154;go_wp2_with fail;refine(ij _).mono ?_;rintro e o ⟨rfl,F⟩;have B:=F.size
  try simp at B
  go_wp2_with fail;rw[C.out];refine(N.out _).mono ?_;rintro e y ⟨rfl,I⟩;have D:=I.size
  try simp at D
  go_wp2_with fail;refine(M.out _).mono ?_;rintro e w3 ⟨rfl,J⟩;have E:=J.size
  try simp at E
  go_wp2;go_ret;exact⟨by simp,lT⟩
 ·rw[if_neg O];have A:((m.natAbs:Nat):Int)=m:=by omega
  rw[A] at N;have d:0≤m:=by omega
  have K:=S.out false;have M:=hi9 K;clear S K A;go_enter Tryz.func154,Tryz.ntmps154;go_wp2_with fail;refine(ij _).mono ?_;rintro e o ⟨rfl,F⟩;have B:=F.size
  try simp at B
  go_wp2_with fail;rw[C.out];refine(N.out _).mono ?_;rintro e y ⟨rfl,I⟩;have D:=I.size
  try simp at D
  go_wp2_with fail;refine(M.out _).mono ?_;rintro e w3 ⟨rfl,J⟩;have E:=J.size
  try simp at E
  go_wp2;go_ret;exact⟨by simp,lT⟩
end Go.Proofs.YtfnkkkcojnffdaaGreatDoor
namespace Go.Proofs.YtfnkkkcojnffdaaGreatDoor
open Go.ChangeShapes Go.WideShapes Go.ChangeAt Go.RowKit
attribute [local go_sem] fL gy
theorem iU (k:FloatKind) (b:Nat):Op.unary .neg (.float k b)=pure (.float k (Op.negFloat k b)):=rfl
attribute [local go_sem] iU
def negV (b:Nat):Nat:=if FT.neg b then b-2^63 else b+2^63
theorem nP (b:Nat) (h:b<2^64):Op.negFloat .f64 b=negV b:=by
 unfold negV;show b^^^2^63=_;rcases FT.neg_cases b h with ⟨h1,h2⟩|⟨h1,h2⟩
 ·rw[if_pos h1];have A:=FT.rung_lt b;generalize FT.rung b=r at *;subst h2;have e:r+2^63=2^63|||r:=by rw[nat_join 63 (2^63) r eK A];omega
  apply Nat.eq_of_testBit_eq;intro i;rw[e,Nat.testBit_xor,Nat.testBit_or,Nat.testBit_two_pow];have B:(2^63|||r)-2^63=r:=by rw[← e];omega
  rw[B];by_cases hi:63=i
  ·subst hi;rw[Nat.testBit_lt_two_pow A];rfl
  ·simp [hi]
 ·rw[if_neg (by rw[h1];simp)];have A:=FT.rung_lt b;rw[← h2] at A;have e:b+2^63=2^63|||b:=by rw[nat_join 63 (2^63) b eK A];omega
  apply Nat.eq_of_testBit_eq;intro i;rw[e,Nat.testBit_xor,Nat.testBit_or,Nat.testBit_two_pow];by_cases hi:63=i
  ·subst hi;rw[Nat.testBit_lt_two_pow A];rfl
  ·simp [hi]
end Go.Proofs.YtfnkkkcojnffdaaGreatDoor
namespace Go.Proofs.YtfnkkkcojnffdaaGreatDoor
open Go.ChangeShapes Go.WideShapes Go.ChangeAt Go.RowKit
attribute [local go_sem] fL gy iU
theorem q21 (s:Bool) (mag d:Nat) (I:mag≠0) (J:1≤d):Ieee.Toward.even.cut s mag d=rnd mag d:=by
 have h1:=cV I;have h2:=cG (n:=mag);have B:2^d=2*2^(d-1):=by
  obtain⟨e,rfl⟩:∃ e,d=e+1:=⟨d-1,by omega⟩;simp [Nat.pow_succ,Nat.mul_comm]
 unfold Ieee.Toward.cut rnd;by_cases h:d≤mag.log2+2
 ·have C:min d (mag.log2+2)=d:=by omega
  simp only[C,dY,b9]
  congr 1
  generalize mag%2^d=rest;generalize mag/2^d%2=D;rw[B];generalize 2^(d-1)=half;by_cases c1:half<rest
  ·have E:2*half<2*rest:=by omega
   simp [c1]
  ·have E:¬ 2*half<2*rest:=by omega
   by_cases F:rest=half
   ·subst F;by_cases A:D=1<;>simp [A]
   ·have A:¬ 2*half=2*rest:=by omega
    simp [c1,F,A]
 ·have C:min d (mag.log2+2)=mag.log2+2:=by omega
  have K:2^(mag.log2+2)=2*2^(mag.log2+1):=by rw[bp 2 (mag.log2+1),aI]
  have L:2^(mag.log2+2)≤2^(d-1):=fU eK;have M:2^(d-1)≤2^d:=fU eK;simp only[C,dY,b9];rw[aR (show mag<2^(mag.log2+2) by omega),aU (show mag<2^(mag.log2+2) by omega),
   aR (show mag<2^d by omega),aU (show mag<2^d by omega)]
  rw[if_neg eK];have c1:¬ 2^(mag.log2+2)<2*mag:=by omega
  have E:¬ 2^(mag.log2+2)=2*mag:=by omega
  simp [c1]
theorem qh (s:Bool) (mag:Nat) (n:Int) (B:mag≠0) (C:mag<2^64):shV mag n=Ieee.Toward.even.cut s (mag<<<n.toNat) (-n).toNat:=by
 unfold shV;by_cases A:0≤n
 ·rw[if_pos A,show (-n).toNat=0 from by omega,FT.cut_zero,dY]
 ·rw[if_neg A,show n.toNat=0 from by omega,Nat.shiftLeft_zero,q21 s mag _ B eK];split
  ·have:2^64≤2^((-n).toNat-1):=fU eK;have h2:2^((-n).toNat-1)≤2^(-n).toNat:=fU eK;unfold rnd;rw[aR eK,aU eK,if_neg eK]
  ·rfl
theorem oW (s:Bool) (mag:Nat) (e:Int) (B:mag≠0) (F:mag<2^64):
  Ieee.double.nearest s mag e=FT.wrd s (gV 11 52 mag e):=by
 have hle:=lz mag e;have h1:=cV B;unfold Ieee.Format.nearest;rw[if_neg B,FT.leastPlace_eq,FT.infRung_eq,FT.binade_eq,FT.word_eq]
 congr 1
 show min ((max (e+(mag.log2:Int)-(52:Nat)) (-1074)- -1074).toNat*2^52+Ieee.Toward.even.cut s (mag<<<(e-max (e+(mag.log2:Int)-(52:Nat)) (-1074)).toNat) (max (e+(mag.log2:Int)-(52:Nat)) (-1074)-e).toNat) (2047*2^52)=_;generalize O:max (e+(mag.log2:Int)-(52:Nat)) (-1074)=last;have E:=qh s mag (e-last) B F;rw[show (-(e-last)).toNat=(last-e).toNat from by omega] at E;rw[← E];unfold gV at hle ⊢;rw[if_neg B] at hle ⊢;have h2:(2:Int)^(11-1)=1024:=rfl;rw[h2] at hle ⊢;by_cases A:(1024:Int)-1<e+mag.log2
 ·rw[if_pos A];have D:last=e+mag.log2-52:=by omega
  have L:2^52≤shV mag (e-last):=by
   unfold shV;by_cases I:0≤e-last
   ·rw[if_pos I];have:2^mag.log2*2^(e-last).toNat≤mag*2^(e-last).toNat:=ay _ h1;rw[← ah,show mag.log2+(e-last).toNat=52 from by omega] at this;exact this
   ·rw[if_neg I];have M:mag.log2<64:=(cH B).2 F;rw[if_neg eK];unfold rnd;have:2^52≤mag/2^(-(e-last)).toNat:=by
     rw[cB (af _),← ah,show 52+(-(e-last)).toNat=mag.log2 from by omega];exact h1
    omega
  have C:2046*2^52≤(last- -1074).toNat*2^52:=ay _ eK;have key:∀ hi lo:Nat,2046*2^52≤hi→2^52≤lo→min (hi+lo) (2047*2^52)=(2^11-1)*2^52:=by intro hi lo a b;omega
  exact key _ _ C L
 ·rw[if_neg A] at hle ⊢;have N:max (e+(mag.log2:Int)) (2-1024)=last+52:=by omega
  rw[N] at hle ⊢;have J:(last+52-(2-1024)).toNat=(last- -1074).toNat:=by omega
  have K:e-(last+52-(52:Nat))=e-last:=by omega
  rw[J,K] at hle ⊢;exact bM hle
end Go.Proofs.YtfnkkkcojnffdaaGreatDoor
namespace Go.Proofs.YtfnkkkcojnffdaaGreatDoor
open Go.ChangeShapes Go.WideShapes Go.ChangeAt Go.RowKit
attribute [local go_sem] fL gy
theorem q33 {y k:Nat} (h:y<2^k) (A:k≤63):bits BinOp.or IntKind.u64 (y:Int) (2^k)=((y+2^k:Nat):Int):=by
 have h2:(2:Nat)^k<2^64:=cF eK eK;rw[FT.ipow,u64_or_nat _ _ eK eK,dL];have:=Nat.two_pow_add_eq_or_of_lt h 1;rw[bJ] at this;rw[← this,bR]
end Go.Proofs.YtfnkkkcojnffdaaGreatDoor
