/- What is proved here: contracts of package bits, Join to Make, over this seat's translation.
What is proved here: contracts of package bits, Whole and shift, over this seat's translation.
What is proved here: contracts of package bits, nearest and Make, over this seat's translation.
What is proved here: contracts of neighbours (package bits, package math, the reference), over this seat's translation.
What is proved here: contracts of neighbours and keys, over this seat's translation.
What is proved here: contracts of Frexp and of the reference's kinds and odd parts, over this seat's translation.
What is proved here: contracts of Ldexp, of the reference's odd parts and units, and of Ulp, over this seat's translation.
What is proved here: contracts of the reference's odd parts and units, and of Ulp; what 'nearest' gives against the exact rounding, over this seat's translation.
What is proved here: what 'nearest' gives against the exact rounding; contracts of Ulp, over this seat's translation.
What is proved here: the float of a number below 2^53, and Ldexp of it, over this seat's translation.
What is proved here: contracts of package bits, small and Pack, over this seat's translation. -/
import Derived.Test.YtbfjihniphldaaaGreatDoorC2
import Derived.Test.YtbfjihniphldaaaGreatDoorC1
import Derived.Test.YtbfjihniphldaaaGreatDoorC10
import Derived.Shelf.Strconv.Itoa0
namespace Go.Proofs.YtbfjihniphldaaaGreatDoor
open Go.ChangeShapes Go.WideShapes Go.ChangeAt Go.RowKit
attribute [local go_sem] q0i q0q
/-- The library's table lies where it was laid. -/
def Tab (w:World):Prop:=1<w.heap.size∧∀ i,i<64→w.cell? ⟨1,i,none⟩=some (.int .u8 (FT.tab.getD i 0:Nat))
theorem Tab.G {w w':World} (h:Tab w) (g:G w w'):Tab w':=
 ⟨Nat.lt_of_lt_of_le h.1 g.size,fun i hi=>g.cell h.1 (h.2 i hi)⟩
theorem q4n (x:Nat) (w:World) (h:x<2^64):Calls Tryz.prog 186 #[.int .u64 x] w fun e w'=>e= .returned (.int .i64 (Lib.bitLen x))∧G w w':=
 (Tryz.bits_Len64 x w (by omega) (by omega)).mono (by rintro e w' ⟨rfl,rfl⟩;exact⟨by simp,G.refl _⟩)
theorem qaU (x k q:Nat) (w:World) (_hx:x<2^64) (hz:((x:Int)==0)=false) (hi:q<64) (hk:k<64) (hc:w.cell? ⟨1,q,none⟩=some (.int .u8 k))
  (hp:IntKind.u64.wrap (bits BinOp.and IntKind.u64 (x:Int) (IntKind.u64.wrap (-(x:Int)))*285870213051353865)/288230376151711744=(q:Int)):
  Calls Tryz.prog 110 #[.int .u64 x] w fun e w'=>e= .returned (.int .i64 k)∧w'=w:=by
 go_enter Tryz.func110,Tryz.ntmps110;go_wp2;go_ret;exact⟨rfl,rfl⟩
theorem tz_c (x j k:Nat) (w:World) (ht:Tab w) (hx:x<2^64) (e:x=(2*j+1)*2^k):
  Calls Tryz.prog 110 #[.int .u64 x] w fun e w'=>e= .returned (.int .i64 k)∧G w w':=by
 have hk:k<64:=by rw[e] at hx;exact FT.tz_lt hx
 have hc:=ht.2 _ (FT.ix_lt hk);rw[FT.tab_ix hk] at hc;have hz:((x:Int)==0)=false:=by
  have:x≠0:=by rw[e];exact Nat.mul_ne_zero (by omega) (by have:=Nat.two_pow_pos k;omega)
  simp;omega
 refine(qaU x k (FT.ix k) w hx hz (FT.ix_lt hk) hk hc (FT.place x j k e hx)).mono ?_;rintro e w' ⟨rfl,rfl⟩;exact⟨rfl,G.refl _⟩
end Go.Proofs.YtbfjihniphldaaaGreatDoor
namespace Go.Proofs.YtbfjihniphldaaaGreatDoor
open Go.ChangeShapes Go.WideShapes Go.ChangeAt Go.RowKit
attribute [local go_sem] q0i q0q
theorem qbc {a a' b b' c:Int} (h1:a=a') (h2:b=b'):Ending.returned (.tuple #[.int .i64 a,.int .i64 b,.int .i64 c])= .returned (.tuple #[.int .i64 a',.int .i64 b',.int .i64 c]):=by rw[h1,h2]
set_option maxRecDepth 100000 in
theorem q4F (b:Nat) (w:World) (h0:b<2^64) (he:b/2^52%2^11=0) (hf:b%2^52=0):
  Calls Tryz.prog 43 #[.float .f64 b] w fun e w'=>e= .returned (.tuple #[.int .i64 0,.int .i64 0,.int .i64 0])∧G w w':=by
 have K:Hid _:=fun w=>q7M b 0 0 w h0 he hf;have S:Hid _:=fun w=>q1S 0 0 11 52 w (by omega) (by omega) (by omega) (by omega) (by omega);clear he hf;go_enter Tryz.func43,Tryz.ntmps43;go_wp2_with (first|(go_at_call 106;refine(K.out _).mono ?_;rintro e wn ⟨rfl,hbn⟩)|(go_at_call 108;refine(q1N _).mono ?_;rintro e wn ⟨rfl,hbn⟩)|(go_at_call 107;refine(q2e 11 52 _ (by omega)).mono ?_;rintro e wn ⟨rfl,hbn⟩)|(go_at_call 109;refine(S.out _).mono ?_;rintro e wn ⟨rfl,hbn⟩))
 go_ret3
 exact⟨rfl,(by repeat' (first|exact G.refl _|assumption|refine G.alloc ?_ _|refine G.drew ?_ |refine G.drewN ?_ _|(refine G.trans ?_ (by assumption))))⟩
set_option maxRecDepth 100000 in
theorem qaP (b ex fr mag j k:Nat) (w:World) (ht:Tab w) (h0:b<2^64) (he:b/2^52%2^11=ex) (hf:b%2^52=fr) (h1:ex<2047)
  (hm:(if ex=0 then fr else 2^52+fr)=mag) (hj:mag=(2*j+1)*2^k):
  Calls Tryz.prog 43 #[.float .f64 b] w fun e w'=>e= .returned (.tuple #[.int .i64 (if FT.neg b then -(2*j+1) else 2*j+1),.int .i64 ((max ex 1:Nat)-1075+k),.int .i64 0])∧G w w':=by
 have hfr:fr<2^52:=by omega
 have TB:mag<2^53:=by rw[← hm];split<;>omega
 have hk:k<64:=FT.tz_lt (j:=j) (by omega);have hpk:0<2^k:=Nat.two_pow_pos k;have hj2:2*j+1≤mag:=by
  have:(2*j+1)*1≤(2*j+1)*2^k:=Nat.mul_le_mul_left _ hpk;omega
 have hdiv:(mag:Int)/2^k=2*(j:Int)+1:=by
  have:mag/2^k=2*j+1:=by rw[hj];exact Nat.mul_div_cancel _ hpk
  rw[FT.ipow,← Int.natCast_ediv,this];omega
 have K:Hid _:=fun w=>q7M b ex fr w h0 he hf;have S:Hid _:=fun w=>q1S ex fr 11 52 w hfr (by omega) (by omega) (by omega) (by omega);rw[hm] at S;have T:Hid _:=fun w ht=>tz_c mag j k w ht (by omega) hj;have hz:((mag:Int)==0)=false:=by simp;omega
 have hne:((ex:Int)==2047)=false:=by simp;omega
 have hme:max ex 1≤2047:=by omega
 generalize max ex 1=mx at *;generalize FT.neg b=n at *;clear he hf hm hj hpk h0;cases n
 all_goals
  go_enter Tryz.func43,Tryz.ntmps43;go_wp2_with fail;refine(K.out _).mono ?_;rintro e w1 ⟨rfl,hb1⟩;have aQ:=hb1.size
  try simp at aQ
  have ht1:=ht.G hb1;go_wp2_with fail;refine(q1N _).mono ?_;rintro e w2 ⟨rfl,hb2⟩;have aT:=hb2.size
  try simp at aT
  have ht2:=ht1.G hb2;go_wp2_with fail;refine(q2e 11 52 _ (by omega)).mono ?_;rintro e w3 ⟨rfl,hb3⟩;have dX:=hb3.size
  try simp at dX
  have ht3:=ht2.G hb3;go_wp2_with fail;refine(q1N _).mono ?_;rintro e w4 ⟨rfl,hb4⟩;have ow:=hb4.size
  try simp at ow
  have Cf:=ht3.G hb4;go_wp2_with fail;refine(S.out _).mono ?_;rintro e w5 ⟨rfl,hb5⟩;have L8:=hb5.size
  try simp at L8
  have Oj:=Cf.G hb5;clear ht ht1 ht2 ht3 Cf;go_wp2_with fail;refine(T.out _ Oj).mono ?_;rintro e w6 ⟨rfl,hb6⟩;have L9:=hb6.size
  try simp at L9
  clear Oj;go_wp2
  go_ret3
  exact⟨qbc (by omega) (by omega),(by repeat' (first|exact G.refl _|assumption|refine G.alloc ?_ _|refine G.drew ?_ |refine G.drewN ?_ _|(refine G.trans ?_ (by assumption))))⟩
/-! Rounding by a shift. -/
def rnd (mag d:Nat):Nat:=mag/2^d+(if 2^(d-1)<mag%2^d∨(mag%2^d=2^(d-1)∧mag/2^d%2=1) then 1 else 0)
theorem q6S (mag n:Nat) (w:World) (h:mag*2^n<2^64) (hn:n<64):
  Calls Tryz.prog 229 #[.int .u64 mag,.int .i64 n] w fun e w'=>e= .returned (.int .u64 (mag*2^n:Nat))∧G w w':=by
 have hw:IntKind.u64.wrap ((mag:Int)*2^n)=((mag*2^n:Nat):Int):=by
  rw[IntKind.wrap_u64,FT.ipow,← Int.natCast_mul];generalize mag*2^n=q at *;omega
 have F1:Hid _:=hw;clear hw h;go_enter Tryz.func229,Tryz.ntmps229;go_wp2;go_ret;exact⟨q0x F1.out,G.refl _⟩
theorem q5u (mag:Nat) (n:Int) (w:World) (hn:n< -64):
  Calls Tryz.prog 229 #[.int .u64 mag,.int .i64 n] w fun e w'=>e= .returned (.int .u64 0)∧G w w':=by
 go_enter Tryz.func229,Tryz.ntmps229;go_wp2;go_ret;exact⟨rfl,G.refl _⟩
theorem qat (mag d:Nat) (h1:1≤d) (h2:d≤64) (hm:mag<2^64):
  bits BinOp.and IntKind.u64 (mag:Int) (bits BinOp.or IntKind.u64 (2^(d-1)) (2^(d-1)-1))=((mag%2^d:Nat):Int):=by
 have hp:1≤2^(d-1):=Nat.two_pow_pos (d-1);have hq:2^(d-1)≤2^63:=q0Q (by omega);have hd:2^d=2*2^(d-1):=by
  obtain⟨e,rfl⟩:∃ e,d=e+1:=⟨d-1,by omega⟩;simp [Nat.pow_succ,Nat.mul_comm]
 have e1:bits BinOp.or IntKind.u64 (2^(d-1)) (2^(d-1)-1)=((2^d-1:Nat):Int):=by
  rw[FT.ipow,show (((2^(d-1):Nat):Int)-1)=((2^(d-1)-1:Nat):Int) from by omega,u64_or_nat _ _ (by omega) (by omega),
   nat_join (d-1) (2^(d-1)) (2^(d-1)-1) (by simp) (by omega)]
  congr 1
  omega
 rw[e1,u64_and_nat mag _ (by omega) (by omega),Nat.and_two_pow_sub_one_eq_mod]
theorem q55 (mag d:Nat) (w:World) (hm:mag<2^64) (h1:1≤d) (h2:d≤64):
  Calls Tryz.prog 229 #[.int .u64 mag,.int .i64 (-(d:Int))] w fun e w'=>e= .returned (.int .u64 (rnd mag d:Nat))∧G w w':=by
 have hl:=qat mag d h1 h2 hm;have hp:=q1M (show d-1≤63 by omega);have hk:(mag:Int)/2^d=((mag/2^d:Nat):Int):=by simp
 have hkb:mag/2^d<2^63:=by
  have:2^1≤2^d:=q0Q h1;rw[Nat.div_lt_iff_lt_mul (by omega)]
  calc mag<2^64:=hm
   _=2^63*2^1:=by rfl
   _≤2^63*2^d:=Nat.mul_le_mul_left _ this
 have hodd:bits BinOp.and IntKind.u64 ((mag/2^d:Nat):Int) 1=((mag/2^d%2:Nat):Int):=by
  have:=FT.and_mask (mag/2^d) 1 (by omega) (by omega);simpa using this
 have hh:((2^(d-1):Nat):Int)=2^(d-1):=by simp
 unfold rnd;have hr:mag%2^d<2^64:=by have:=Nat.mod_le mag (2^d);omega
 generalize mag%2^d=lost at *;generalize mag/2^d=kept at *;rw[← hh] at hp;generalize hH:2^(d-1)=half at *;clear hH;have hh':=hh.symm;clear hh;rw[hh'] at hl;have vW:kept%2=0∨kept%2=1:=by omega
 by_cases c1:half<lost
 ·have c1':(half:Int)<lost:=by omega
  rw[if_pos (Or.inl c1)];go_enter Tryz.func229,Tryz.ntmps229;go_wp2;go_ret;exact⟨q0x (by simp),G.refl _⟩
 ·have c1':¬ (half:Int)<lost:=by omega
  by_cases c2:lost=half
  ·subst c2;rcases vW with vW|vW<;>rw[vW] at hodd
   ·rw[if_neg (by omega)];go_enter Tryz.func229,Tryz.ntmps229;go_wp2;go_ret;exact⟨q0x (by simp),G.refl _⟩
   ·rw[if_pos (by omega)];go_enter Tryz.func229,Tryz.ntmps229;go_wp2;go_ret;exact⟨q0x (by simp),G.refl _⟩
  ·have c2':((lost:Int)==half)=false:=by simp;omega
   rw[if_neg (by omega)];go_enter Tryz.func229,Tryz.ntmps229;go_wp2;go_ret;exact⟨q0x (by simp),G.refl _⟩
end Go.Proofs.YtbfjihniphldaaaGreatDoor
namespace Go.Proofs.YtbfjihniphldaaaGreatDoor
open Go.ChangeShapes Go.WideShapes Go.ChangeAt Go.RowKit
attribute [local go_sem] q0i q0q
def shV (mag:Nat) (n:Int):Nat:=if 0≤n then mag*2^n.toNat else if n< -64 then 0 else rnd mag (-n).toNat
theorem qa0 (mag:Nat) (n:Int) (w:World) (hm:mag<2^64) (h:0≤n→n<64∧mag*2^n.toNat<2^64):
  Calls Tryz.prog 229 #[.int .u64 mag,.int .i64 n] w fun e w'=>e= .returned (.int .u64 (shV mag n:Nat))∧G w w':=by
 unfold shV;by_cases h0:0≤n
 ·obtain⟨k,rfl⟩:=Int.eq_ofNat_of_zero_le h0;obtain⟨h1,h2⟩:=h h0;rw[if_pos h0];rw[Int.toNat_natCast] at h2 ⊢;exact q6S mag k w h2 (by omega)
 ·rw[if_neg h0];by_cases h1:n< -64
  ·rw[if_pos h1];exact q5u mag n w h1
  ·rw[if_neg h1];have:=q55 mag (-n).toNat w hm (by omega) (by omega);rw[show (-(((-n).toNat:Nat):Int))=n from by omega] at this;exact this
theorem q8e (x:Nat) (h:x<2^64):Lib.bitLen x≤64:=Lib.bitLen_le x 64 (by omega) h
theorem q19 {x:Nat} (h0:x≠0) (h:x<2^64):Lib.bitLen x=x.log2+1:=by
 have h1:=Nat.log2_self_le h0;have h2:=Nat.lt_log2_self (n:=x);rw[Lib.bitLen_shift x.log2 x h1 h];have h3:x/2^x.log2=1:=by
  have hp:=Nat.two_pow_pos x.log2;have a:x/2^x.log2<2:=by rw[Nat.div_lt_iff_lt_mul hp];rw[Nat.pow_succ] at h2;omega
  have b:1≤x/2^x.log2:=by rw[Nat.le_div_iff_mul_le hp];omega
  omega
 rw[h3];rfl
/-- What 'nearest' gives. -/
def q17 (E F mag:Nat) (e:Int):Nat:=
 if mag=0 then 0
 else if 2^(E-1)-1<e+mag.log2 then (2^E-1)*2^F
 else (max (e+mag.log2) (2-2^(E-1))-(2-2^(E-1))).toNat*2^F+shV mag (e-(max (e+mag.log2) (2-2^(E-1))-F))
theorem qba (mag d:Nat) (hm:mag<2^64) (hd:1≤d):rnd mag d≤2^63:=by
 have hkb:mag/2^d<2^63:=by
  have:2^1≤2^d:=q0Q hd;rw[Nat.div_lt_iff_lt_mul (by omega)]
  calc mag<2^64:=hm
   _=2^63*2^1:=by rfl
   _≤2^63*2^d:=Nat.mul_le_mul_left _ this
 unfold rnd;split<;>omega
theorem qbd (mag:Nat) (n:Int) (hm:mag<2^64) (h:0≤n→mag*2^n.toNat<2^63):shV mag n≤2^63:=by
 unfold shV;split
 ·rename_i h0;have:=h h0;omega
 ·split
  ·omega
  ·exact qba _ _ hm (by omega)
set_option maxRecDepth 100000 in
theorem q7L (mag E F:Nat) (e:Int) (w:World) (hm:mag<2^64) (hE:2≤E) (hE2:E≤11) (hF:1≤F) (hF2:F≤52) (he1: -6000≤e) (he2:e≤6000):
  Calls Tryz.prog 198 #[.int .u64 mag,.int .i64 e,.agg #[.int .i64 E,.int .i64 F]] w fun r w'=>r= .returned (.int .u64 (q17 E F mag e:Nat))∧G w w':=by
 by_cases hz:mag=0
 ·subst hz;go_enter Tryz.func198,Tryz.ntmps198;go_wp2;go_ret;exact⟨q0x (by simp [q17]),(by repeat' (first|exact G.refl _|assumption|refine G.alloc ?_ _|refine G.drew ?_ |refine G.drewN ?_ _|(refine G.trans ?_ (by assumption))))⟩
 have hl:=q19 hz hm;have hlb:=q8e mag hm;have Tt:=q1M (show E-1≤10 by omega);have Tu:(2:Int)≤2^(E-1):=by
  have:2^1≤2^(E-1):=q0Q (by omega);rw[FT.ipow];omega
 have Tv:=q1M hF2;have hz':((mag:Int)==0)=false:=by simp;omega
 have C1:Hid _:=fun w=>q4n mag w hm;have C2:Hid _:=fun w=>q8j E F w (by omega) hE2;have C3:Hid _:=fun w=>q6H E F w hE2 hF2;rw[hl] at C1;have Tw:mag.log2<64:=by omega
 have vV:=Nat.lt_log2_self (n:=mag);unfold q17;rw[if_neg hz]
 -- the shift
 have C4:Hid _:=fun n w=>qa0 mag n w hm;have hnn:∀ n:Int,n+mag.log2≤F→0≤n→n<64∧mag*2^n.toNat<2^63:=by
  intro n h1 h2;refine⟨by omega,?_⟩;have hp:=Nat.two_pow_pos n.toNat
  calc mag*2^n.toNat<2^(mag.log2+1)*2^n.toNat:=Nat.mul_lt_mul_of_pos_right vV hp
   _=2^(mag.log2+1+n.toNat):=by rw[← Nat.pow_add]
   _≤2^63:=q0Q (by omega)
 have hsh:∀ n:Int,n+mag.log2≤F→shV mag n≤2^63:=fun n h=>qbd mag n hm (fun h0=>(hnn n h h0).2);have H1:Hid _:=hnn;have H2:Hid _:=hsh;clear hnn hsh vV hl hlb;generalize mag.log2=lg at *;have hM:(2:Int)^(E-1)≤1024:=by omega
 have ER:((2:Int)^E)=2*2^(E-1):=by
  obtain⟨d,rfl⟩:∃ d,E=d+1:=⟨E-1,by omega⟩;simp [Int.pow_succ,Int.mul_comm]
 have H3:Hid _:=ER;clear ER;by_cases hbig:(2:Int)^(E-1)-1<e+lg
 ·rw[if_pos hbig];have hN:((2:Int)^E-1)*2^F=(((2^E-1)*2^F:Nat):Int):=by
   have:=Nat.two_pow_pos E;rw[Int.natCast_mul,show ((2^E-1:Nat):Int)=((2^E:Nat):Int)-1 from by omega];simp
  rw[hN] at C3;clear hN;generalize (2:Int)^(E-1)=M at *;generalize (2^E-1)*2^F=r at *;clear H1 H2 H3 C4 Tv Tt;have hbig':M-1<e+(lg+1)-1:=by omega
  go_enter Tryz.func198,Tryz.ntmps198;go_wp2_with fail;refine(C1.out _).mono ?_;rintro e w1 ⟨rfl,hb1⟩;have hc1:=hb1.cell (p:=⟨w.heap.size,0,none⟩) (v:= .int .i64 E) (by first|(simp;done)|(simp;omega)|omega) (by first|assumption|(simp [go_sem];done)|(simp [*,go_sem];done));have hc2:=hb1.cell (p:=⟨w.heap.size,1,none⟩) (v:= .int .i64 F) (by first|(simp;done)|(simp;omega)|omega) (by first|assumption|(simp [go_sem];done)|(simp [*,go_sem];done));have aQ:=hb1.size
  try simp at aQ
  go_wp2_with fail;refine(C2.out _).mono ?_;rintro e w2 ⟨rfl,hb2⟩;have hc3:=hb2.cell (p:=⟨w.heap.size,0,none⟩) (v:= .int .i64 E) (by first|(simp;done)|(simp;omega)|omega) (by first|assumption|(simp [go_sem];done)|(simp [*,go_sem];done));have hc4:=hb2.cell (p:=⟨w.heap.size,1,none⟩) (v:= .int .i64 F) (by first|(simp;done)|(simp;omega)|omega) (by first|assumption|(simp [go_sem];done)|(simp [*,go_sem];done));have aT:=hb2.size
  try simp at aT
  go_wp2_with fail;refine(C3.out _).mono ?_;rintro e w3 ⟨rfl,hb3⟩;have dX:=hb3.size
  try simp at dX
  go_wp2;go_ret;exact⟨rfl,(by repeat' (first|exact G.refl _|assumption|refine G.alloc ?_ _|refine G.drew ?_ |refine G.drewN ?_ _|(refine G.trans ?_ (by assumption))))⟩
 ·rw[if_neg hbig];generalize Tx:(2:Int)^(E-1)=M at *;generalize hpl:max (e+(lg:Int)) (2-M)=place at *;have hn:(e-(place-F))+lg≤F:=by omega
  have hs:=H2.out _ hn;have hS:Hid _:=fun w=>C4.out (e-(place-F)) w (fun h0=>⟨(H1.out _ hn h0).1,by have:=(H1.out _ hn h0).2;omega⟩);have hmul:((place-(2-M)).toNat*2^F:Nat)≤2046*2^52:=by
   have:2^F≤2^52:=q0Q hF2;exact Nat.mul_le_mul (by omega) this
  have AL:(place-(2-M))*2^F=(((place-(2-M)).toNat*2^F:Nat):Int):=by
   rw[Int.natCast_mul,← FT.ipow]
   congr 1
   omega
  have H5:Hid _:=AL;clear AL;generalize (place-(2-M)).toNat*2^F=hi at *;generalize shV mag (e-(place-F))=lo at *;clear H1 H2 H3 C4 Tx;have t1:¬ M-1<e+(lg+1)-1:=by omega
  have P:Hid (max (e+((lg:Int)+1)-1) (1-(M-1))=place):=by show max (e+((lg:Int)+1)-1) (1-(M-1))=place;omega
  have b1:0≤place-(2-M):=by omega
  have b2:place-(2-M)≤2046:=by omega
  clear hpl hbig;go_enter Tryz.func198,Tryz.ntmps198;go_wp2_with fail;refine(C1.out _).mono ?_;rintro e w1 ⟨rfl,hb1⟩;have Tf:=hb1.cell (p:=⟨w.heap.size,0,none⟩) (v:= .int .i64 E) (by first|(simp;done)|(simp;omega)|omega) (by first|assumption|(simp [go_sem];done)|(simp [*,go_sem];done));have hc6:=hb1.cell (p:=⟨w.heap.size,1,none⟩) (v:= .int .i64 F) (by first|(simp;done)|(simp;omega)|omega) (by first|assumption|(simp [go_sem];done)|(simp [*,go_sem];done));have aQ:=hb1.size
  try simp at aQ
  go_wp2_with fail;refine(C2.out _).mono ?_;rintro e w2 ⟨rfl,hb2⟩;have FP:=hb2.cell (p:=⟨w.heap.size,0,none⟩) (v:= .int .i64 E) (by first|(simp;done)|(simp;omega)|omega) (by first|assumption|(simp [go_sem];done)|(simp [*,go_sem];done));have hc8:=hb2.cell (p:=⟨w.heap.size,1,none⟩) (v:= .int .i64 F) (by first|(simp;done)|(simp;omega)|omega) (by first|assumption|(simp [go_sem];done)|(simp [*,go_sem];done));have aT:=hb2.size
  try simp at aT
  go_wp2_with fail;refine(C2.out _).mono ?_;rintro e w3 ⟨rfl,hb3⟩;have Ut:=hb3.cell (p:=⟨w.heap.size,0,none⟩) (v:= .int .i64 E) (by first|(simp;done)|(simp;omega)|omega) (by first|assumption|(simp [go_sem];done)|(simp [*,go_sem];done));have Ty:=hb3.cell (p:=⟨w.heap.size,1,none⟩) (v:= .int .i64 F) (by first|(simp;done)|(simp;omega)|omega) (by first|assumption|(simp [go_sem];done)|(simp [*,go_sem];done));have dX:=hb3.size
  try simp at dX
  go_wp2_with fail;rw[P.out];refine(hS.out _).mono ?_;rintro e w4 ⟨rfl,hb4⟩;have Tz:=hb4.cell (p:=⟨w.heap.size,0,none⟩) (v:= .int .i64 E) (by first|(simp;done)|(simp;omega)|omega) (by first|assumption|(simp [go_sem];done)|(simp [*,go_sem];done));have TA:=hb4.cell (p:=⟨w.heap.size,1,none⟩) (v:= .int .i64 F) (by first|(simp;done)|(simp;omega)|omega) (by first|assumption|(simp [go_sem];done)|(simp [*,go_sem];done));have ow:=hb4.size
  try simp at ow
  go_wp2;go_ret;exact⟨q0x (by rw[show place-(1-(M-1))=place-(2-M) from by omega,H5.out,IntWalk.u64_in (hi:Int) (by omega),IntWalk.u64_in _ (by omega)];omega),(by repeat' (first|exact G.refl _|assumption|refine G.alloc ?_ _|refine G.drew ?_ |refine G.drewN ?_ _|(refine G.trans ?_ (by assumption))))⟩
theorem qaT (mag F:Nat) (n:Int) (h:n+mag.log2≤F):shV mag n≤2^(F+1):=by
 have vV:=Nat.lt_log2_self (n:=mag);have h1:1≤2^(F+1):=Nat.two_pow_pos _;unfold shV;split
 ·rename_i hn
  have hp:=Nat.two_pow_pos n.toNat;have:mag*2^n.toNat<2^(mag.log2+1)*2^n.toNat:=Nat.mul_lt_mul_of_pos_right vV hp;have e:2^(mag.log2+1)*2^n.toNat=2^(mag.log2+1+n.toNat):=by rw[← Nat.pow_add]
  have l:2^(mag.log2+1+n.toNat)≤2^(F+1):=q0Q (by omega);omega
 ·split
  ·omega
  ·generalize hd:(-n).toNat=d;have hp:=Nat.two_pow_pos d;have hq:mag/2^d<2^(F+1):=by
    rw[Nat.div_lt_iff_lt_mul hp,← Nat.pow_add];have l:2^(mag.log2+1)≤2^(F+1+d):=q0Q (by omega);omega
   unfold rnd;split<;>omega
set_option maxRecDepth 100000 in
theorem q47 (mag:Nat) (e:Int):q17 11 52 mag e≤2047*2^52:=by
 unfold q17;split
 ·omega
 ·split
  ·omega
  ·rename_i h1
   simp only[show (2:Int)^(11-1)=1024 from rfl] at h1 ⊢;generalize hp:max (e+(mag.log2:Int)) (2-1024)=place;have hs:=qaT mag 52 (e-(place-(52:Nat))) (by omega);have hmul:(place-(2-1024)).toNat*2^52≤2045*2^52:=Nat.mul_le_mul_right _ (by omega);have h3:(2:Nat)^(52+1)=2*2^52:=rfl;rw[h3] at hs;have key:∀ hi lo:Nat,hi≤2045*2^52→lo≤2*2^52→hi+lo≤2047*2^52:=by intro hi lo a b;omega
   exact key _ _ hmul hs
def q2A (e:Int):Int:=max (-5000) (min 5000 e)
set_option maxRecDepth 100000 in
theorem qb5 (m e:Int) (w:World) (hm1: -9223372036854775808≤m) (hm2:m≤9223372036854775807) (he1: -9223372036854775808≤e) (he2:e≤9223372036854775807):
  Calls Tryz.prog 135 #[.int .i64 m,.int .i64 e] w fun r w'=>
   r= .returned (.float .f64 (if m<0 then q17 11 52 m.natAbs (q2A e)+2^63 else q17 11 52 m.natAbs (q2A e)))∧G w w':=by
 have hlt:=q47 m.natAbs (q2A e);have hcl:min (max e (-5000)) 5000=q2A e:=by unfold q2A;omega
 have hc1: -5000≤q2A e∧q2A e≤5000:=by unfold q2A;omega
 have N:Hid _:=fun w=>q7L m.natAbs 11 52 (q2A e) w (by omega) (by omega) (by omega) (by omega) (by omega) (by omega) (by omega);have S:Hid _:=fun s w=>q1a s (q17 11 52 m.natAbs (q2A e)) w (by omega);generalize q17 11 52 m.natAbs (q2A e)=r at *;have C:Hid _:=hcl;clear hcl;generalize q2A e=c at *;by_cases hn:m<0
 ·rw[if_pos hn];have hab:((m.natAbs:Nat):Int)= -m:=by omega
  rw[hab] at N;have hw1:IntKind.u64.wrap m=m+18446744073709551616:=by rw[IntKind.wrap_u64];omega
  have hw2:IntKind.u64.wrap (-(m+18446744073709551616))= -m:=by rw[IntKind.wrap_u64];omega
  have S2:=S.out true;have S3:Hid _:=S2;clear S S2 hab;go_enter Tryz.func135,Tryz.ntmps135;go_wp2_with fail;refine(q1N _).mono ?_;rintro e w1 ⟨rfl,hb1⟩;have aQ:=hb1.size
  try simp at aQ
  go_wp2_with fail;rw[C.out];refine(N.out _).mono ?_;rintro e w2 ⟨rfl,hb2⟩;have aT:=hb2.size
  try simp at aT
  go_wp2_with fail;refine(S3.out _).mono ?_;rintro e w3 ⟨rfl,hb3⟩;have dX:=hb3.size
  try simp at dX
  go_wp2;go_ret;exact⟨by simp,(by repeat' (first|exact G.refl _|assumption|refine G.alloc ?_ _|refine G.drew ?_ |refine G.drewN ?_ _|(refine G.trans ?_ (by assumption))))⟩
 ·rw[if_neg hn];have hab:((m.natAbs:Nat):Int)=m:=by omega
  rw[hab] at N;have hn':0≤m:=by omega
  have S2:=S.out false;have S3:Hid _:=S2;clear S S2 hab;go_enter Tryz.func135,Tryz.ntmps135;go_wp2_with fail;refine(q1N _).mono ?_;rintro e w1 ⟨rfl,hb1⟩;have aQ:=hb1.size
  try simp at aQ
  go_wp2_with fail;rw[C.out];refine(N.out _).mono ?_;rintro e w2 ⟨rfl,hb2⟩;have aT:=hb2.size
  try simp at aT
  go_wp2_with fail;refine(S3.out _).mono ?_;rintro e w3 ⟨rfl,hb3⟩;have dX:=hb3.size
  try simp at dX
  go_wp2;go_ret;exact⟨by simp,(by repeat' (first|exact G.refl _|assumption|refine G.alloc ?_ _|refine G.drew ?_ |refine G.drewN ?_ _|(refine G.trans ?_ (by assumption))))⟩
end Go.Proofs.YtbfjihniphldaaaGreatDoor
namespace Go.Proofs.YtbfjihniphldaaaGreatDoor
open Go.ChangeShapes Go.WideShapes Go.ChangeAt Go.RowKit
attribute [local go_sem] q0i q0q
theorem qb3 (w:World):Calls Tryz.prog 102 #[] w fun e w'=>e= .returned (.float .f64 FT.qnan)∧G w w':=by
 go_enter Tryz.func102,Tryz.ntmps102;go_wp2;go_ret;exact⟨q1w rfl,G.refl _⟩
def upV (b:Nat):Nat:=
 if FT.nan b then FT.qnan else if b=FT.infR then b else if FT.rung b=0 then 1 else if FT.neg b then b-1 else b+1
def q3H (b:Nat):Nat:=
 if FT.nan b then FT.qnan else if b=FT.ninf then b else if FT.rung b=0 then 1+2^63 else if FT.neg b then b+1 else b-1
set_option maxRecDepth 100000 in
theorem q0X (b:Nat) (w:World) (h:b<2^64):
  Calls Tryz.prog 39 #[.float .f64 b,.float .f64 FT.infR] w fun e w'=>e= .returned (.float .f64 (upV b))∧G w w':=by
 have K1:Hid _:=fun w=>q1K b w;have K2:Hid _:=fun w=>q1K FT.infR w;rw[FT.nan_inf] at K2;have K3:Hid _:=fun w=>q2Z 1 FT.infR w (by omega) (by decide);rw[FT.rung_small (by omega),FT.neg_small (by decide)] at K3;have hi:FT.infR=9218868437227405312:=rfl;have hlt:=FT.rung_lt b;unfold upV;by_cases hn:FT.nan b=true
 ·rw[if_pos hn];rw[hn] at K1;clear K2 K3 hi;generalize FT.infR=i at *;go_enter Tryz.func39,Tryz.ntmps39;go_wp2_with fail;refine(K1.out _).mono ?_;rintro e w1 ⟨rfl,hb1⟩;have aQ:=hb1.size
  try simp at aQ
  go_wp2_with fail;refine(qb3 _).mono ?_;rintro e w2 ⟨rfl,hb2⟩;have aT:=hb2.size
  try simp at aT
  go_wp2;go_ret;exact⟨rfl,(by repeat' (first|exact G.refl _|assumption|refine G.alloc ?_ _|refine G.drew ?_ |refine G.drewN ?_ _|(refine G.trans ?_ (by assumption))))⟩
 have hn':FT.nan b=false:=by simpa using hn
 rw[if_neg hn];rw[hn'] at K1;have e1:=FT.eq_inf b hn';have e2:=FT.eq_zero b;have e3:=FT.gt_zero b hn';have e4:=FT.gt_inf b hn';have hr:=FT.nan_false hn';have hc:=FT.neg_cases b h;have hbi:b=FT.infR↔(FT.neg b=false∧FT.rung b=FT.infR):=by
  rcases hc with ⟨h1,h2⟩|⟨h1,h2⟩<;>rw[h1]<;>unfold FT.infR at * <;>simp <;>omega
 clear hn hn' hi;by_cases hb:b=FT.infR
 ·rw[if_pos hb];obtain⟨h1,h2⟩:=hbi.1 hb;rw[h1,h2] at e1;simp at e1;clear e2 e3 e4 hr hc hbi h1 h2 hb K3;generalize FT.infR=i at *;go_enter Tryz.func39,Tryz.ntmps39;go_wp2_with fail;refine(K1.out _).mono ?_;rintro e w1 ⟨rfl,hb1⟩;have aQ:=hb1.size
  try simp at aQ
  go_wp2_with fail;refine(K2.out _).mono ?_;rintro e w2 ⟨rfl,hb2⟩;have aT:=hb2.size
  try simp at aT
  go_wp2;go_ret;exact⟨rfl,(by repeat' (first|exact G.refl _|assumption|refine G.alloc ?_ _|refine G.drew ?_ |refine G.drewN ?_ _|(refine G.trans ?_ (by assumption))))⟩
 rw[if_neg hb];have hq:(!FT.neg b&&decide (FT.rung b=FT.infR))=false:=by
  rw[Bool.eq_false_iff];intro h';simp only[Bool.and_eq_true,Bool.not_eq_true',decide_eq_true_eq] at h';exact hb (hbi.2 h')
 have Tq:(FloatKind.f64.format.order b FT.infR==some .eq)=false:=by rw[e1,hq]
 have e4':(FloatKind.f64.format.order FT.infR b==some .gt)=true:=by rw[e4,hq];rfl
 clear hq;clear e1 e4 hbi hb;by_cases h0:FT.rung b=0
 ·rw[if_pos h0];rw[h0] at e2;simp at e2;clear e3 e4' hr hc;generalize FT.infR=i at *;go_enter Tryz.func39,Tryz.ntmps39;go_wp2_with fail;refine(K1.out _).mono ?_;rintro e w1 ⟨rfl,hb1⟩;have aQ:=hb1.size
  try simp at aQ
  go_wp2_with fail;refine(K2.out _).mono ?_;rintro e w2 ⟨rfl,hb2⟩;have aT:=hb2.size
  try simp at aT
  go_wp2_with fail;refine(K3.out _).mono ?_;rintro e w3 ⟨rfl,hb3⟩;have dX:=hb3.size
  try simp at dX
  go_wp2;go_ret;exact⟨rfl,(by repeat' (first|exact G.refl _|assumption|refine G.alloc ?_ _|refine G.drew ?_ |refine G.drewN ?_ _|(refine G.trans ?_ (by assumption))))⟩
 rw[if_neg h0];rw[decide_eq_false h0] at e2;rw[decide_eq_true h0] at e3;have kG:1≤b∧b≤18446744073709551614:=by
  rcases hc with ⟨h1,h2⟩|⟨h1,h2⟩<;>unfold FT.infR at * <;>omega
 have hbi:1≤(b:Int)∧(b:Int)≤18446744073709551614:=by omega
 clear hr hc h0 K3;generalize FT.infR=i at *;cases hneg:FT.neg b
 ·rw[hneg] at e3;have e3':(FloatKind.f64.format.order b 0==some .gt)=true:=e3;clear hneg e3;go_enter Tryz.func39,Tryz.ntmps39;go_wp2_with fail;refine(K1.out _).mono ?_;rintro e w1 ⟨rfl,hb1⟩;have aQ:=hb1.size
  try simp at aQ
  go_wp2_with fail;refine(K2.out _).mono ?_;rintro e w2 ⟨rfl,hb2⟩;have aT:=hb2.size
  try simp at aT
  go_wp2;go_ret;exact⟨q1w (by simp),(by repeat' (first|exact G.refl _|assumption|refine G.alloc ?_ _|refine G.drew ?_ |refine G.drewN ?_ _|(refine G.trans ?_ (by assumption))))⟩
 ·rw[hneg] at e3;have e3':(FloatKind.f64.format.order b 0==some .gt)=false:=e3;clear hneg e3;go_enter Tryz.func39,Tryz.ntmps39;go_wp2_with fail;refine(K1.out _).mono ?_;rintro e w1 ⟨rfl,hb1⟩;have aQ:=hb1.size
  try simp at aQ
  go_wp2_with fail;refine(K2.out _).mono ?_;rintro e w2 ⟨rfl,hb2⟩;have aT:=hb2.size
  try simp at aT
  go_wp2;go_ret;exact⟨q1w (by simp),(by repeat' (first|exact G.refl _|assumption|refine G.alloc ?_ _|refine G.drew ?_ |refine G.drewN ?_ _|(refine G.trans ?_ (by assumption))))⟩
set_option maxRecDepth 100000 in
theorem q15 (b:Nat) (w:World) (h:b<2^64):
  Calls Tryz.prog 39 #[.float .f64 b,.float .f64 FT.ninf] w fun e w'=>e= .returned (.float .f64 (q3H b))∧G w w':=by
 have K1:Hid _:=fun w=>q1K b w;have K2:Hid _:=fun w=>q1K FT.ninf w;rw[FT.nan_ninf] at K2;have K3:Hid _:=fun w=>q2Z 1 FT.ninf w (by omega) (by decide);rw[FT.rung_small (by omega),FT.neg_ninf] at K3;have hlt:=FT.rung_lt b;unfold q3H;by_cases hn:FT.nan b=true
 ·rw[if_pos hn];rw[hn] at K1;clear K2 K3;generalize FT.ninf=i at *;go_enter Tryz.func39,Tryz.ntmps39;go_wp2_with fail;refine(K1.out _).mono ?_;rintro e w1 ⟨rfl,hb1⟩;have aQ:=hb1.size
  try simp at aQ
  go_wp2_with fail;refine(qb3 _).mono ?_;rintro e w2 ⟨rfl,hb2⟩;have aT:=hb2.size
  try simp at aT
  go_wp2;go_ret;exact⟨rfl,(by repeat' (first|exact G.refl _|assumption|refine G.alloc ?_ _|refine G.drew ?_ |refine G.drewN ?_ _|(refine G.trans ?_ (by assumption))))⟩
 have hn':FT.nan b=false:=by simpa using hn
 rw[if_neg hn];rw[hn'] at K1;have e1:=FT.eq_ninf b hn';have e2:=FT.eq_zero b;have e3:=FT.gt_zero b hn';have e4:=FT.gt_ninf b hn';have hr:=FT.nan_false hn';have hc:=FT.neg_cases b h;have hbi:b=FT.ninf↔(FT.neg b=true∧FT.rung b=FT.infR):=by
  rcases hc with ⟨h1,h2⟩|⟨h1,h2⟩<;>rw[h1]<;>unfold FT.ninf FT.infR at * <;>simp <;>omega
 clear hn hn';by_cases hb:b=FT.ninf
 ·rw[if_pos hb];obtain⟨h1,h2⟩:=hbi.1 hb;rw[h1,h2] at e1;simp at e1;clear e2 e3 e4 hr hc hbi h1 h2 hb K3;generalize FT.ninf=i at *;go_enter Tryz.func39,Tryz.ntmps39;go_wp2_with fail;refine(K1.out _).mono ?_;rintro e w1 ⟨rfl,hb1⟩;have aQ:=hb1.size
  try simp at aQ
  go_wp2_with fail;refine(K2.out _).mono ?_;rintro e w2 ⟨rfl,hb2⟩;have aT:=hb2.size
  try simp at aT
  go_wp2;go_ret;exact⟨rfl,(by repeat' (first|exact G.refl _|assumption|refine G.alloc ?_ _|refine G.drew ?_ |refine G.drewN ?_ _|(refine G.trans ?_ (by assumption))))⟩
 rw[if_neg hb];have hq:(FT.neg b&&decide (FT.rung b=FT.infR))=false:=by
  rw[Bool.eq_false_iff];intro h';simp only[Bool.and_eq_true,decide_eq_true_eq] at h';exact hb (hbi.2 h')
 have Tq:(FloatKind.f64.format.order b FT.ninf==some .eq)=false:=by rw[e1,hq]
 have e4':(FloatKind.f64.format.order FT.ninf b==some .gt)=false:=e4;clear hq;clear e1 e4 hbi hb;by_cases h0:FT.rung b=0
 ·rw[if_pos h0];rw[h0] at e2;simp at e2;clear e3 e4' hr hc;generalize FT.ninf=i at *;go_enter Tryz.func39,Tryz.ntmps39;go_wp2_with fail;refine(K1.out _).mono ?_;rintro e w1 ⟨rfl,hb1⟩;have aQ:=hb1.size
  try simp at aQ
  go_wp2_with fail;refine(K2.out _).mono ?_;rintro e w2 ⟨rfl,hb2⟩;have aT:=hb2.size
  try simp at aT
  go_wp2_with fail;refine(K3.out _).mono ?_;rintro e w3 ⟨rfl,hb3⟩;have dX:=hb3.size
  try simp at dX
  go_wp2;go_ret;exact⟨rfl,(by repeat' (first|exact G.refl _|assumption|refine G.alloc ?_ _|refine G.drew ?_ |refine G.drewN ?_ _|(refine G.trans ?_ (by assumption))))⟩
 rw[if_neg h0];rw[decide_eq_false h0] at e2;rw[decide_eq_true h0] at e3;have kG:1≤b∧b≤18446744073709551614:=by
  rcases hc with ⟨h1,h2⟩|⟨h1,h2⟩<;>unfold FT.infR at * <;>omega
 have hbi:1≤(b:Int)∧(b:Int)≤18446744073709551614:=by omega
 clear hr hc h0 K3;generalize FT.ninf=i at *;cases hneg:FT.neg b
 ·rw[hneg] at e3;have e3':(FloatKind.f64.format.order b 0==some .gt)=true:=e3;clear hneg e3;go_enter Tryz.func39,Tryz.ntmps39;go_wp2_with fail;refine(K1.out _).mono ?_;rintro e w1 ⟨rfl,hb1⟩;have aQ:=hb1.size
  try simp at aQ
  go_wp2_with fail;refine(K2.out _).mono ?_;rintro e w2 ⟨rfl,hb2⟩;have aT:=hb2.size
  try simp at aT
  go_wp2;go_ret;exact⟨q1w (by simp),(by repeat' (first|exact G.refl _|assumption|refine G.alloc ?_ _|refine G.drew ?_ |refine G.drewN ?_ _|(refine G.trans ?_ (by assumption))))⟩
 ·rw[hneg] at e3;have e3':(FloatKind.f64.format.order b 0==some .gt)=false:=e3;clear hneg e3;go_enter Tryz.func39,Tryz.ntmps39;go_wp2_with fail;refine(K1.out _).mono ?_;rintro e w1 ⟨rfl,hb1⟩;have aQ:=hb1.size
  try simp at aQ
  go_wp2_with fail;refine(K2.out _).mono ?_;rintro e w2 ⟨rfl,hb2⟩;have aT:=hb2.size
  try simp at aT
  go_wp2;go_ret;exact⟨q1w (by simp),(by repeat' (first|exact G.refl _|assumption|refine G.alloc ?_ _|refine G.drew ?_ |refine G.drewN ?_ _|(refine G.trans ?_ (by assumption))))⟩
end Go.Proofs.YtbfjihniphldaaaGreatDoor
namespace Go.Proofs.YtbfjihniphldaaaGreatDoor
open Go.ChangeShapes Go.WideShapes Go.ChangeAt Go.RowKit
attribute [local go_sem] q0i q0q
theorem q0P (k:FloatKind) (b:Nat):Op.unary .neg (.float k b)=pure (.float k (Op.negFloat k b)):=rfl
attribute [local go_sem] q0P
theorem q8A (b:Nat) (w:World) (h:b<2^64):
  Calls Tryz.prog 42 #[.float .f64 b,.int .i64 1] w fun e w'=>e= .returned (.bool (decide (b=FT.infR)))∧G w w':=by
 have hg:(FloatKind.f64.format.order b 9218868437227405311==some .gt)=decide (b=FT.infR):=by
  rcases FT.neg_cases b h with ⟨h1,h2⟩|⟨h1,h2⟩
  ·have hne:¬ b=FT.infR:=by unfold FT.infR;omega
   have e:(9218868437227405311:Nat)=FT.infR-1:=by unfold FT.infR;omega
   rw[decide_eq_false hne,FT.ord_f,e,FT.key_small (c:=FT.infR-1) (by unfold FT.infR;omega)];cases FT.nan b
   ·have hn:FT.nan (FT.infR-1)=false:=by unfold FT.nan;rw[FT.rung_small (by unfold FT.infR;omega)];simp
    rw[hn];unfold FT.key;rw[h1];have:=FT.cmp_ne_gt (a:= -(FT.rung b:Int)) (b:=((FT.infR-1:Nat):Int)) (by omega);simp [this]
   ·simp
  ·have:=FT.gt_max b;rw[← h2] at this;exact this
 go_enter Tryz.func42,Tryz.ntmps42;go_wp2;go_ret;exact⟨rfl,G.refl _⟩
def negV (b:Nat):Nat:=if FT.neg b then b-2^63 else b+2^63
theorem q2m (b:Nat) (h:b<2^64):Op.negFloat .f64 b=negV b:=by
 unfold negV;show b^^^2^63=_;rcases FT.neg_cases b h with ⟨h1,h2⟩|⟨h1,h2⟩
 ·rw[if_pos h1];have hr:=FT.rung_lt b;generalize FT.rung b=r at *;subst h2;have e:r+2^63=2^63|||r:=by rw[nat_join 63 (2^63) r (by omega) hr];omega
  apply Nat.eq_of_testBit_eq;intro i;rw[e,Nat.testBit_xor,Nat.testBit_or,Nat.testBit_two_pow];have e2:(2^63|||r)-2^63=r:=by rw[← e];omega
  rw[e2];by_cases hi:63=i
  ·subst hi;rw[Nat.testBit_lt_two_pow hr];rfl
  ·simp [hi]
 ·rw[if_neg (by rw[h1];simp)];have hr:=FT.rung_lt b;rw[← h2] at hr;have e:b+2^63=2^63|||b:=by rw[nat_join 63 (2^63) b (by omega) hr];omega
  apply Nat.eq_of_testBit_eq;intro i;rw[e,Nat.testBit_xor,Nat.testBit_or,Nat.testBit_two_pow];by_cases hi:63=i
  ·subst hi;rw[Nat.testBit_lt_two_pow hr];rfl
  ·simp [hi]
end Go.Proofs.YtbfjihniphldaaaGreatDoor
namespace Go.Proofs.YtbfjihniphldaaaGreatDoor
open Go.ChangeShapes Go.WideShapes Go.ChangeAt Go.RowKit
attribute [local go_sem] q0i q0q q0P
theorem q1x (b:Nat) (w:World) (h:b<2^64) (hr:2^52≤FT.rung b):
  Calls Tryz.prog 231 #[.float .f64 b] w fun e w'=>e= .returned (.tuple #[.float .f64 b,.int .i64 0])∧G w w':=by
 have K3:Hid _:=fun w=>qbD b w h;have e2:=FT.lt_const b 4503599627370496 (by decide);rw[decide_eq_false (by omega)] at e2;generalize FT.rung b=r at *;clear hr h;go_enter Tryz.func231,Tryz.ntmps231;go_wp2_with (first|(go_at_call 105;refine(K3.out _).mono ?_;rintro e wn ⟨rfl,hbn⟩))
 go_ret2
 exact⟨rfl,(by repeat' (first|exact G.refl _|assumption|refine G.alloc ?_ _|refine G.drew ?_ |refine G.drewN ?_ _|(refine G.trans ?_ (by assumption))))⟩
end Go.Proofs.YtbfjihniphldaaaGreatDoor
namespace Go.Proofs.YtbfjihniphldaaaGreatDoor
open Go.ChangeShapes Go.WideShapes Go.ChangeAt Go.RowKit
attribute [local go_sem] q0i q0q q0P
set_option maxRecDepth 100000 in
theorem q3F (b e u z r:Nat) (n:Int) (w:World) (he:e<2048) (hn1: -30000≤n) (hn2:n≤30000)
  (hb:b<2^64) (hfin:FT.rung b<FT.infR) (mV:2^52≤FT.rung b)
  (hx1: -1022≤n+((e:Int)-1023)) (hx2:n+((e:Int)-1023)≤1023)
  (L1:bits BinOp.and IntKind.i64 ((b:Int)/4503599627370496) 2047=(e:Int))
  (L2:bits BinOp.andNot IntKind.u64 (b:Int) 9218868437227405312=(u:Int))
  (L3:bits BinOp.or IntKind.u64 (u:Int) ((n+((e:Int)-1023)+1023)*4503599627370496)=(z:Int))
  (hmul:∀ w:World,(binOp .mul 22 (.float .f64 4607182418800017408) (.float .f64 z)).run Tryz.prog w= .ok (.float .f64 r) w):
  Calls Tryz.prog 204 #[.float .f64 b,.int .i64 n] w fun o w'=>o= .returned (.float .f64 r)∧G w w':=by
 have K1:Hid _:=fun w=>q1K b w;have K2:Hid _:=fun w=>q2W b w hb;have K3:Hid _:=fun w=>q1x b w hb mV;have lN:FT.nan b=false:=by unfold FT.nan;simp;omega
 rw[lN] at K1;rw[decide_eq_false (by omega)] at K2;have e1:=FT.eq_zero b;rw[decide_eq_false (by omega)] at e1;have hw:wrap64 ((b:Int)/4503599627370496)=(b:Int)/4503599627370496:=IntWalk.wrap64_in _ (by omega);clear hfin lN hb mV;go_enter Tryz.func204,Tryz.ntmps204;go_wp2_with fail;refine(K2.out _).mono ?_;rintro e w1 ⟨rfl,hb1⟩;have aQ:=hb1.size
 try simp at aQ
 go_wp2_with fail;refine(K1.out _).mono ?_;rintro e w2 ⟨rfl,hb2⟩;have aT:=hb2.size
 try simp at aT
 go_wp2_with fail;refine(K3.out _).mono ?_;rintro e w3 ⟨rfl,hb3⟩;have dX:=hb3.size
 try simp at dX
 go_wp2;go_ret;exact⟨rfl,(by repeat' (first|exact G.refl _|assumption|refine G.alloc ?_ _|refine G.drew ?_ |refine G.drewN ?_ _|(refine G.trans ?_ (by assumption))))⟩
set_option maxRecDepth 100000 in
theorem q3E (b e u z r:Nat) (n:Int) (w:World) (he:e<2048) (hn1: -30000≤n) (hn2:n≤30000)
  (hb:b<2^64) (hfin:FT.rung b<FT.infR) (mV:2^52≤FT.rung b)
  (hx1: -1075≤n+((e:Int)-1023)) (hx2:n+((e:Int)-1023)< -1022)
  (L1:bits BinOp.and IntKind.i64 ((b:Int)/4503599627370496) 2047=(e:Int))
  (L2:bits BinOp.andNot IntKind.u64 (b:Int) 9218868437227405312=(u:Int))
  (L3:bits BinOp.or IntKind.u64 (u:Int) ((n+((e:Int)-1023)+53+1023)*4503599627370496)=(z:Int))
  (hmul:∀ w:World,(binOp .mul 22 (.float .f64 4368491638549381120) (.float .f64 z)).run Tryz.prog w= .ok (.float .f64 r) w):
  Calls Tryz.prog 204 #[.float .f64 b,.int .i64 n] w fun o w'=>o= .returned (.float .f64 r)∧G w w':=by
 have K1:Hid _:=fun w=>q1K b w;have K2:Hid _:=fun w=>q2W b w hb;have K3:Hid _:=fun w=>q1x b w hb mV;have lN:FT.nan b=false:=by unfold FT.nan;simp;omega
 rw[lN] at K1;rw[decide_eq_false (by omega)] at K2;have e1:=FT.eq_zero b;rw[decide_eq_false (by omega)] at e1;have hw:wrap64 ((b:Int)/4503599627370496)=(b:Int)/4503599627370496:=IntWalk.wrap64_in _ (by omega);clear hfin lN hb mV;go_enter Tryz.func204,Tryz.ntmps204;go_wp2_with fail;refine(K2.out _).mono ?_;rintro e w1 ⟨rfl,hb1⟩;have aQ:=hb1.size
 try simp at aQ
 go_wp2_with fail;refine(K1.out _).mono ?_;rintro e w2 ⟨rfl,hb2⟩;have aT:=hb2.size
 try simp at aT
 go_wp2_with fail;refine(K3.out _).mono ?_;rintro e w3 ⟨rfl,hb3⟩;have dX:=hb3.size
 try simp at dX
 go_wp2;go_ret;exact⟨rfl,(by repeat' (first|exact G.refl _|assumption|refine G.alloc ?_ _|refine G.drew ?_ |refine G.drewN ?_ _|(refine G.trans ?_ (by assumption))))⟩
set_option maxRecDepth 100000 in
theorem q3I (b e:Nat) (n:Int) (w:World) (he:e<2048) (hn1: -30000≤n) (hn2:n≤30000)
  (hb:b<2^64) (hfin:FT.rung b<FT.infR) (mV:2^52≤FT.rung b)
  (hx1:1023<n+((e:Int)-1023))
  (L1:bits BinOp.and IntKind.i64 ((b:Int)/4503599627370496) 2047=(e:Int)):
  Calls Tryz.prog 204 #[.float .f64 b,.int .i64 n] w fun o w'=>o= .returned (.float .f64 (FT.wrd (FT.neg b) FT.infR))∧G w w':=by
 have K1:Hid _:=fun w=>q1K b w;have K2:Hid _:=fun w=>q2W b w hb;have K3:Hid _:=fun w=>q1x b w hb mV;have lN:FT.nan b=false:=by unfold FT.nan;simp;omega
 rw[lN] at K1;rw[decide_eq_false (by omega)] at K2;have e1:=FT.eq_zero b;rw[decide_eq_false (by omega)] at e1;have e2:=FT.lt_zero b lN;rw[decide_eq_true (by omega),Bool.and_true] at e2;have hw:wrap64 ((b:Int)/4503599627370496)=(b:Int)/4503599627370496:=IntWalk.wrap64_in _ (by omega);clear hfin lN hb mV;cases hs:FT.neg b
 ·rw[hs] at e2;have hv:FT.wrd false FT.infR=FT.infR:=rfl;rw[hv];clear hs hv;go_enter Tryz.func204,Tryz.ntmps204;go_wp2_with fail;refine(K2.out _).mono ?_;rintro e w1 ⟨rfl,hb1⟩;have aQ:=hb1.size
  try simp at aQ
  go_wp2_with fail;refine(K1.out _).mono ?_;rintro e w2 ⟨rfl,hb2⟩;have aT:=hb2.size
  try simp at aT
  go_wp2_with fail;refine(K3.out _).mono ?_;rintro e w3 ⟨rfl,hb3⟩;have dX:=hb3.size
  try simp at dX
  go_wp2_with fail;refine(q92 1 _ (by omega)).mono ?_;rintro e w4 ⟨rfl,hb4⟩;have ow:=hb4.size
  try simp at ow
  go_wp2;go_ret;exact⟨rfl,(by repeat' (first|exact G.refl _|assumption|refine G.alloc ?_ _|refine G.drew ?_ |refine G.drewN ?_ _|(refine G.trans ?_ (by assumption))))⟩
 ·rw[hs] at e2;have hv:FT.wrd true FT.infR=FT.infR+2^63:=rfl;rw[hv];clear hs hv;go_enter Tryz.func204,Tryz.ntmps204;go_wp2_with fail;refine(K2.out _).mono ?_;rintro e w1 ⟨rfl,hb1⟩;have aQ:=hb1.size
  try simp at aQ
  go_wp2_with fail;refine(K1.out _).mono ?_;rintro e w2 ⟨rfl,hb2⟩;have aT:=hb2.size
  try simp at aT
  go_wp2_with fail;refine(K3.out _).mono ?_;rintro e w3 ⟨rfl,hb3⟩;have dX:=hb3.size
  try simp at dX
  go_wp2_with fail;refine(q7R (-1) _ (by omega)).mono ?_;rintro e w4 ⟨rfl,hb4⟩;have ow:=hb4.size
  try simp at ow
  go_wp2;go_ret;exact⟨rfl,(by repeat' (first|exact G.refl _|assumption|refine G.alloc ?_ _|refine G.drew ?_ |refine G.drewN ?_ _|(refine G.trans ?_ (by assumption))))⟩
theorem q2Y (s:Bool) (e t:Nat) (h1:1≤e) (h2:e<2047) (ht:t<2^52):
  FT.wrd s (e*2^52+t)<2^64∧FT.rung (FT.wrd s (e*2^52+t))<FT.infR∧2^52≤FT.rung (FT.wrd s (e*2^52+t)):=by
 rw[FT.wrd_rung s _ (by omega)];exact⟨FT.wrd_lt s _ (by omega),by unfold FT.infR;omega,by omega⟩
theorem q1s (f n:Value) (w:World) (R:Value)
  (h:∀ w,Calls Tryz.prog 204 #[f,n] w fun o w'=>o= .returned R∧G w w'):
  Calls Tryz.prog 140 #[f,n] w fun o w'=>o= .returned R∧G w w':=by
 have K:Hid _:=h;clear h;go_enter Tryz.func140,Tryz.ntmps140;go_wp2_with (first|(go_at_call 204;refine(K.out _).mono ?_;rintro e wn ⟨rfl,hbn⟩));go_ret;exact⟨rfl,(by repeat' (first|exact G.refl _|assumption|refine G.alloc ?_ _|refine G.drew ?_ |refine G.drewN ?_ _|(refine G.trans ?_ (by assumption))))⟩
/-- Ldexp of a normal number: within the normal range. -/
theorem q5L (s:Bool) (e t:Nat) (n:Int) (w:World) (h1:1≤e) (h2:e<2047) (ht:t<2^52) (hn1: -30000≤n) (hn2:n≤30000)
  (hx1:1≤n+e) (hx2:n+e≤2046):
  Calls Tryz.prog 140 #[.float .f64 (FT.wrd s (e*2^52+t)),.int .i64 n] w fun o w'=>o= .returned (.float .f64 (FT.wrd s ((n+e).toNat*2^52+t)))∧G w w':=by
 obtain⟨b1,b2,b3⟩:=q2Y s e t h1 h2 ht;refine q1s _ _ w _ (fun w=> ?_);have l3:=FT.put_exp s (n+e).toNat t (by omega) ht;rw[show (((n+(e:Int)).toNat:Nat):Int)=n+((e:Int)-1023)+1023 from by omega] at l3;exact q3F _ e (FT.wrd s t) _ _ n w (by omega) hn1 hn2 b1 b2 b3 (by omega) (by omega) (FT.exp_field_i64 s e t (by omega) ht) (FT.clear_exp s e t (by omega) ht) l3
  (fun w=>run_float_arith w .mul 22 .f64 _ _ _ (FT.mul_one s (n+e).toNat t (by omega) (by omega) ht))
/-- Ldexp of a normal number: below the normal range, exactly. -/
theorem q5K (s:Bool) (e t r d:Nat) (n:Int) (w:World) (h1:1≤e) (h2:e<2047) (ht:t<2^52) (hn1: -30000≤n) (hn2:n≤30000)
  (hd1:1≤d) (hd2:d≤53) (hd:(d:Int)=1-(n+e)) (hr:r<2^52) (h:2^52+t=r*2^d):
  Calls Tryz.prog 140 #[.float .f64 (FT.wrd s (e*2^52+t)),.int .i64 n] w fun o w'=>o= .returned (.float .f64 (FT.wrd s r))∧G w w':=by
 obtain⟨b1,b2,b3⟩:=q2Y s e t h1 h2 ht;refine q1s _ _ w _ (fun w=> ?_);have l3:=FT.put_exp s (54-d) t (by omega) ht;rw[show (((54-d:Nat):Nat):Int)=n+((e:Int)-1023)+53+1023 from by omega] at l3;have hm:=FT.mul_den s (54-d) t r (by omega) (by omega) ht hr (by rw[show 54-(54-d)=d from by omega];exact h);exact q3E _ e (FT.wrd s t) _ _ n w (by omega) hn1 hn2 b1 b2 b3 (by omega) (by omega) (FT.exp_field_i64 s e t (by omega) ht) (FT.clear_exp s e t (by omega) ht) l3
  (fun w=>run_float_arith w .mul 22 .f64 _ _ _ hm)
/-- Ldexp of a normal number: beyond the greatest. -/
theorem q5v (s:Bool) (e t:Nat) (n:Int) (w:World) (h1:1≤e) (h2:e<2047) (ht:t<2^52) (hn1: -30000≤n) (hn2:n≤30000)
  (hx:2046<n+e):
  Calls Tryz.prog 140 #[.float .f64 (FT.wrd s (e*2^52+t)),.int .i64 n] w fun o w'=>o= .returned (.float .f64 (FT.wrd s FT.infR))∧G w w':=by
 obtain⟨b1,b2,b3⟩:=q2Y s e t h1 h2 ht;refine q1s _ _ w _ (fun w=> ?_);have:=q3I _ e n w (by omega) hn1 hn2 b1 b2 b3 (by omega) (FT.exp_field_i64 s e t (by omega) ht);rw[FT.wrd_neg s _ (by omega)] at this;exact this
end Go.Proofs.YtbfjihniphldaaaGreatDoor
namespace Go.Proofs.YtbfjihniphldaaaGreatDoor
open Go.ChangeShapes Go.WideShapes Go.ChangeAt Go.RowKit
attribute [local go_sem] q0i q0q q0P
/-- The shift that makes a significand full. -/
theorem q6Z (mag:Nat) (h0:mag≠0) (h:mag<2^53):∃ sh t,sh≤52∧t<2^52∧mag*2^sh=2^52+t∧(2^52≤mag→sh=0)∧sh=52-mag.log2:=by
 have h1:=Nat.log2_self_le h0;have h2:=Nat.lt_log2_self (n:=mag);have h3:mag.log2<53:=(Nat.log2_lt h0).2 h;refine⟨52-mag.log2,mag*2^(52-mag.log2)-2^52,by omega,?_,?_,?_,rfl⟩
 ·have:mag*2^(52-mag.log2)<2^(mag.log2+1)*2^(52-mag.log2):=Nat.mul_lt_mul_of_pos_right h2 (Nat.two_pow_pos _);rw[← Nat.pow_add,show mag.log2+1+(52-mag.log2)=53 from by omega] at this;omega
 ·have:2^mag.log2*2^(52-mag.log2)≤mag*2^(52-mag.log2):=Nat.mul_le_mul_right _ h1;rw[← Nat.pow_add,show mag.log2+(52-mag.log2)=52 from by omega] at this;omega
 ·intro hm;have:2^52<2^(mag.log2+1):=by omega
  have:=(Nat.pow_lt_pow_iff_right (by omega:1<2)).1 this;omega
end Go.Proofs.YtbfjihniphldaaaGreatDoor
namespace Go.Proofs.YtbfjihniphldaaaGreatDoor
open Go.ChangeShapes Go.WideShapes Go.ChangeAt Go.RowKit
attribute [local go_sem] q0i q0q q0P
theorem q9W (s:Bool) (mag d:Nat) (h0:mag≠0) (hd:1≤d):Ieee.Toward.even.cut s mag d=rnd mag d:=by
 have h1:=Nat.log2_self_le h0;have h2:=Nat.lt_log2_self (n:=mag);have hdd:2^d=2*2^(d-1):=by
  obtain⟨e,rfl⟩:∃ e,d=e+1:=⟨d-1,by omega⟩;simp [Nat.pow_succ,Nat.mul_comm]
 unfold Ieee.Toward.cut rnd;by_cases h:d≤mag.log2+2
 ·have hm:min d (mag.log2+2)=d:=by omega
  simp only[hm,Nat.shiftLeft_eq,Nat.one_mul]
  congr 1
  generalize mag%2^d=rest;generalize mag/2^d%2=par;rw[hdd];generalize 2^(d-1)=half;by_cases c1:half<rest
  ·have c2:2*half<2*rest:=by omega
   simp [c1]
  ·have c2:¬ 2*half<2*rest:=by omega
   by_cases c3:rest=half
   ·subst c3;by_cases c4:par=1<;>simp [c4]
   ·have c4:¬ 2*half=2*rest:=by omega
    simp [c1,c3,c4]
 ·have hm:min d (mag.log2+2)=mag.log2+2:=by omega
  have hp:2^(mag.log2+2)=2*2^(mag.log2+1):=by rw[Nat.pow_succ 2 (mag.log2+1),Nat.mul_comm]
  have hq:2^(mag.log2+2)≤2^(d-1):=q0Q (by omega);have hr:2^(d-1)≤2^d:=q0Q (by omega);simp only[hm,Nat.shiftLeft_eq,Nat.one_mul];rw[Nat.div_eq_of_lt (show mag<2^(mag.log2+2) by omega),Nat.mod_eq_of_lt (show mag<2^(mag.log2+2) by omega),
   Nat.div_eq_of_lt (show mag<2^d by omega),Nat.mod_eq_of_lt (show mag<2^d by omega)]
  rw[if_neg (by omega)];have c1:¬ 2^(mag.log2+2)<2*mag:=by omega
  have c2:¬ 2^(mag.log2+2)=2*mag:=by omega
  simp [c1]
theorem q7I (s:Bool) (mag:Nat) (n:Int) (h0:mag≠0) (hm:mag<2^64):shV mag n=Ieee.Toward.even.cut s (mag<<<n.toNat) (-n).toNat:=by
 unfold shV;by_cases hn:0≤n
 ·rw[if_pos hn,show (-n).toNat=0 from by omega,FT.cut_zero,Nat.shiftLeft_eq]
 ·rw[if_neg hn,show n.toNat=0 from by omega,Nat.shiftLeft_zero,q9W s mag _ h0 (by omega)];split
  ·have:2^64≤2^((-n).toNat-1):=q0Q (by omega);have h2:2^((-n).toNat-1)≤2^(-n).toNat:=q0Q (by omega);unfold rnd;rw[Nat.div_eq_of_lt (by omega),Nat.mod_eq_of_lt (by omega),if_neg (by omega)]
  ·rfl
theorem q40 (s:Bool) (mag:Nat) (e:Int) (h0:mag≠0) (hm:mag<2^64):
  Ieee.double.nearest s mag e=FT.wrd s (q17 11 52 mag e):=by
 have hle:=q47 mag e;have h1:=Nat.log2_self_le h0;unfold Ieee.Format.nearest;rw[if_neg h0,FT.leastPlace_eq,FT.infRung_eq,FT.binade_eq,FT.word_eq]
 congr 1
 show min ((max (e+(mag.log2:Int)-(52:Nat)) (-1074)- -1074).toNat*2^52+Ieee.Toward.even.cut s (mag<<<(e-max (e+(mag.log2:Int)-(52:Nat)) (-1074)).toNat) (max (e+(mag.log2:Int)-(52:Nat)) (-1074)-e).toNat) (2047*2^52)=_;generalize hl:max (e+(mag.log2:Int)-(52:Nat)) (-1074)=last;have hc:=q7I s mag (e-last) h0 hm;rw[show (-(e-last)).toNat=(last-e).toNat from by omega] at hc;rw[← hc];unfold q17 at hle ⊢;rw[if_neg h0] at hle ⊢;have h2:(2:Int)^(11-1)=1024:=rfl;rw[h2] at hle ⊢;by_cases hbig:(1024:Int)-1<e+mag.log2
 ·rw[if_pos hbig];have hlast:last=e+mag.log2-52:=by omega
  have hk:2^52≤shV mag (e-last):=by
   unfold shV;by_cases hn:0≤e-last
   ·rw[if_pos hn];have:2^mag.log2*2^(e-last).toNat≤mag*2^(e-last).toNat:=Nat.mul_le_mul_right _ h1;rw[← Nat.pow_add,show mag.log2+(e-last).toNat=52 from by omega] at this;exact this
   ·rw[if_neg hn];have AQ:mag.log2<64:=(Nat.log2_lt h0).2 hm;rw[if_neg (by omega)];unfold rnd;have:2^52≤mag/2^(-(e-last)).toNat:=by
     rw[Nat.le_div_iff_mul_le (Nat.two_pow_pos _),← Nat.pow_add,show 52+(-(e-last)).toNat=mag.log2 from by omega];exact h1
    omega
  have hhi:2046*2^52≤(last- -1074).toNat*2^52:=Nat.mul_le_mul_right _ (by omega);have key:∀ hi lo:Nat,2046*2^52≤hi→2^52≤lo→min (hi+lo) (2047*2^52)=(2^11-1)*2^52:=by intro hi lo a b;omega
  exact key _ _ hhi hk
 ·rw[if_neg hbig] at hle ⊢;have hp:max (e+(mag.log2:Int)) (2-1024)=last+52:=by omega
  rw[hp] at hle ⊢;have e1:(last+52-(2-1024)).toNat=(last- -1074).toNat:=by omega
  have e2:e-(last+52-(52:Nat))=e-last:=by omega
  rw[e1,e2] at hle ⊢;exact Nat.min_eq_left hle
end Go.Proofs.YtbfjihniphldaaaGreatDoor
namespace Go.Proofs.YtbfjihniphldaaaGreatDoor
open Go.ChangeShapes Go.WideShapes Go.ChangeAt Go.RowKit
attribute [local go_sem] q0i q0q q0P
/-- The float of a whole number. -/
def flN (q:Nat):Nat:=q17 11 52 q 0
theorem q5I (q:Nat) (hq:q<2^64):floatOfInt .f64 (q:Int)=flN q:=by
 have h1:floatOfInt .f64 (q:Int)=Ieee.double.nearest (decide ((q:Int)<0)) (q:Int).natAbs 0:=rfl;rw[h1,Int.natAbs_natCast,decide_eq_false (by omega)];by_cases h0:q=0
 ·subst h0;decide
 ·rw[q40 false q 0 h0 hq];rfl
theorem q4I (q sh t:Nat) (n:Int) (h0:q≠0) (hq:q<2^53) (hs:q*2^sh=2^52+t) (hl:sh=52-q.log2)
  (h1: -1022≤n+(q.log2:Int)) (h2:n+(q.log2:Int)≤1023):q17 11 52 q n=(n+q.log2+1023).toNat*2^52+t:=by
 have AQ:q.log2<53:=(Nat.log2_lt h0).2 hq;unfold q17;rw[if_neg h0,show (2:Int)^(11-1)=1024 from rfl,if_neg (by omega),show max (n+(q.log2:Int)) (2-1024)=n+q.log2 from by omega,
  show n-(n+(q.log2:Int)-(52:Nat))=(sh:Int) from by omega]
 unfold shV;rw[if_pos (by omega),Int.toNat_natCast,hs,show (n+(q.log2:Int)+1023).toNat=(n+(q.log2:Int)-(2-1024)).toNat+1 from by omega,Nat.add_mul,Nat.one_mul];omega
theorem q7b (q:Nat) (n:Int) (h0:q≠0) (hn: -1074≤n) (h1:n+(q.log2:Int)< -1022):q17 11 52 q n=q*2^(n+1074).toNat:=by
 unfold q17;rw[if_neg h0,show (2:Int)^(11-1)=1024 from rfl,if_neg (by omega),show max (n+(q.log2:Int)) (2-1024)= -1022 from by omega,
  show n-(-1022-((52:Nat):Int))=n+1074 from by omega]
 unfold shV;rw[if_pos (by omega),show (-1022-((2:Int)-1024)).toNat=0 from rfl,Nat.zero_mul,Nat.zero_add]
theorem q8h (q:Nat) (n:Int) (h0:q≠0) (h1:1023<n+(q.log2:Int)):q17 11 52 q n=FT.infR:=by
 unfold q17;rw[if_neg h0,show (2:Int)^(11-1)=1024 from rfl,if_pos (by omega)];rfl
set_option maxRecDepth 100000 in
theorem q4Y (n:Int) (w:World):
  Calls Tryz.prog 140 #[.float .f64 0,.int .i64 n] w fun o w'=>o= .returned (.float .f64 0)∧G w w':=by
 refine q1s _ _ w _ (fun w=> ?_);have e1:=FT.eq_zero 0;rw[decide_eq_true (by rfl)] at e1;go_enter Tryz.func204,Tryz.ntmps204;go_wp2;go_ret;exact⟨rfl,(by repeat' (first|exact G.refl _|assumption|refine G.alloc ?_ _|refine G.drew ?_ |refine G.drewN ?_ _|(refine G.trans ?_ (by assumption))))⟩
theorem q3R (x:Nat):FT.wrd false x=x:=rfl
/-- Ldexp of the float of a number below 2^53, and no power below -1074. -/
theorem qas (q:Nat) (n:Int) (w:World) (hq:q<2^53) (hn1: -1074≤n) (hn2:n≤30000):
  Calls Tryz.prog 140 #[.float .f64 (flN q),.int .i64 n] w fun o w'=>o= .returned (.float .f64 (q17 11 52 q n))∧G w w':=by
 by_cases h0:q=0
 ·subst h0;have e1:flN 0=0:=by decide
  have e2:q17 11 52 0 n=0:=by unfold q17;rw[if_pos rfl]
  rw[e1,e2];exact q4Y n w
 obtain⟨sh,t,hs1,ht,hsh,-,hl⟩:=q6Z q h0 hq;have AQ:q.log2<53:=(Nat.log2_lt h0).2 hq;have hF:flN q=FT.wrd false ((q.log2+1023)*2^52+t):=by
  unfold flN;rw[q4I q sh t 0 h0 hq hsh hl (by omega) (by omega),q3R,show (0+(q.log2:Int)+1023).toNat=q.log2+1023 from by omega]
 rw[hF];by_cases c1:1023<n+(q.log2:Int)
 ·rw[q8h q n h0 c1];have:=q5v false (q.log2+1023) t n w (by omega) (by omega) ht (by omega) hn2 (by omega);exact this
 ·by_cases c2: -1022≤n+(q.log2:Int)
  ·rw[q4I q sh t n h0 hq hsh hl c2 (by omega)];have:=q5L false (q.log2+1023) t n w (by omega) (by omega) ht (by omega) hn2 (by omega) (by omega);rw[show (n+((q.log2+1023:Nat):Int)).toNat=(n+(q.log2:Int)+1023).toNat from by omega] at this;exact this
  ·rw[q7b q n h0 hn1 (by omega)];have hd:∃ d:Nat,(d:Int)=1-(n+((q.log2+1023:Nat):Int)):=⟨(1-(n+((q.log2+1023:Nat):Int))).toNat,by omega⟩;obtain⟨d,hd⟩:=hd;have hr:2^52+t=q*2^(n+1074).toNat*2^d:=by
    rw[← hsh,Nat.mul_assoc,← Nat.pow_add,show (n+1074).toNat+d=sh from by omega]
   have hr2:q*2^(n+1074).toNat<2^52:=by
    have l2:=Nat.lt_log2_self (n:=q);have:q*2^(n+1074).toNat<2^(q.log2+1)*2^(n+1074).toNat:=Nat.mul_lt_mul_of_pos_right l2 (Nat.two_pow_pos _);rw[← Nat.pow_add] at this;exact Nat.lt_of_lt_of_le this (Nat.pow_le_pow_right (by omega) (by omega))
   exact q5K false (q.log2+1023) t _ d n w (by omega) (by omega) ht (by omega) hn2 (by omega) (by omega) hd hr2 hr
end Go.Proofs.YtbfjihniphldaaaGreatDoor
namespace Go.Proofs.YtbfjihniphldaaaGreatDoor
open Go.ChangeShapes Go.WideShapes Go.ChangeAt Go.RowKit
attribute [local go_sem] q0i q0q
theorem qbS {y k:Nat} (h:y<2^k) (hk:k≤63):bits BinOp.or IntKind.u64 (y:Int) (2^k)=((y+2^k:Nat):Int):=by
 have h2:(2:Nat)^k<2^64:=Nat.pow_lt_pow_right (by omega) (by omega);rw[FT.ipow,u64_or_nat _ _ (by omega) (by omega),Nat.or_comm];have:=Nat.two_pow_add_eq_or_of_lt h 1;rw[Nat.mul_one] at this;rw[← this,Nat.add_comm]
end Go.Proofs.YtbfjihniphldaaaGreatDoor
