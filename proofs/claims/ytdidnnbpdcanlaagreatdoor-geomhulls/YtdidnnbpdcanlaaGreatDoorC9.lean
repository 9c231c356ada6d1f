/- What is proved here: contracts of package bits, Join to Make, over this seat's translation.
What is proved here: contracts of package bits, Whole and shift, over this seat's translation.
What is proved here: contracts of package bits, nearest and Make, over this seat's translation.
What is proved here: contracts of neighbours and keys, over this seat's translation.
What is proved here: contracts of package bits, small and Pack, over this seat's translation. -/
import Derived.Test.YtdidnnbpdcanlaaGreatDoorC2
import Derived.Test.YtdidnnbpdcanlaaGreatDoorC1
import Derived.Test.YtdidnnbpdcanlaaGreatDoorC8
import Derived.Shelf.Strconv.Itoa0
namespace Go.Proofs.YtdidnnbpdcanlaaGreatDoor
open Go.ChangeShapes Go.WideShapes Go.ChangeAt Go.RowKit
attribute [local go_sem] q0S q1j
/-- The library's table lies where it was laid. -/
def Tab (w:World):Prop:=2<w.heap.size∧∀ i,i<64→w.cell? ⟨2,i,none⟩=some (.int .u8 (FT.tab.getD i 0:Nat))
theorem Tab.G {w w':World} (h:Tab w) (g:G w w'):Tab w':=
 ⟨Nat.lt_of_lt_of_le h.1 g.size,fun i hi=>g.cell h.1 (h.2 i hi)⟩
theorem qah (x k q:Nat) (w:World) (_hx:x<2^64) (hz:((x:Int)==0)=false) (hi:q<64) (hk:k<64) (hc:w.cell? ⟨2,q,none⟩=some (.int .u8 k))
  (hp:IntKind.u64.wrap (bits BinOp.and IntKind.u64 (x:Int) (IntKind.u64.wrap (-(x:Int)))*285870213051353865)/288230376151711744=(q:Int)):
  Calls Tryz.prog 208 #[.int .u64 x] w fun e w'=>e= .returned (.int .i64 k)∧w'=w:=by
 go_enter Tryz.func208,Tryz.ntmps208
 go_wp2
 go_ret
 exact⟨rfl,rfl⟩
theorem tz_c (x j k:Nat) (w:World) (ht:Tab w) (hx:x<2^64) (e:x=(2*j+1)*2^k):
  Calls Tryz.prog 208 #[.int .u64 x] w fun e w'=>e= .returned (.int .i64 k)∧G w w':=by
 have hk:k<64:=by rw[e] at hx;exact FT.tz_lt hx
 have hc:=ht.2 _ (FT.ix_lt hk)
 rw[FT.tab_ix hk] at hc
 have hz:((x:Int)==0)=false:=by
  have:x≠0:=by rw[e];exact Nat.mul_ne_zero (by omega) (by have:=Nat.two_pow_pos k;omega)
  simp;omega
 refine(qah x k (FT.ix k) w hx hz (FT.ix_lt hk) hk hc (FT.place x j k e hx)).mono ?_
 rintro e w' ⟨rfl,rfl⟩
 exact⟨rfl,G.refl _⟩
end Go.Proofs.YtdidnnbpdcanlaaGreatDoor
namespace Go.Proofs.YtdidnnbpdcanlaaGreatDoor
open Go.ChangeShapes Go.WideShapes Go.ChangeAt Go.RowKit
attribute [local go_sem] q0S q1j
theorem qaR {a a' b b' c:Int} (h1:a=a') (h2:b=b'):Ending.returned (.tuple #[.int .i64 a,.int .i64 b,.int .i64 c])= .returned (.tuple #[.int .i64 a',.int .i64 b',.int .i64 c]):=by rw[h1,h2]
set_option maxRecDepth 100000 in
theorem q4g (b:Nat) (w:World) (h0:b<2^64) (he:b/2^52%2^11=0) (hf:b%2^52=0):
  Calls Tryz.prog 206 #[.float .f64 b] w fun e w'=>e= .returned (.tuple #[.int .i64 0,.int .i64 0,.int .i64 0])∧G w w':=by
 have K:Hid _:=fun w=>q7a b 0 0 w h0 he hf
 have S:Hid _:=fun w=>q3Q 0 0 11 52 w (by omega) (by omega) (by omega) (by omega) (by omega)
 clear he hf
 go_enter Tryz.func206,Tryz.ntmps206
 go_wp2_with (first|(go_at_call 235;refine(K.out _).mono ?_;rintro e wn ⟨rfl,hbn⟩)|(go_at_call 237;refine(q2d _).mono ?_;rintro e wn ⟨rfl,hbn⟩)|(go_at_call 236;refine(q2C 11 52 _ (by omega)).mono ?_;rintro e wn ⟨rfl,hbn⟩)|(go_at_call 238;refine(S.out _).mono ?_;rintro e wn ⟨rfl,hbn⟩))
 go_ret3
 exact⟨rfl,(by repeat' (first|exact G.refl _|assumption|refine G.alloc ?_ _|refine G.drew ?_ |refine G.drewN ?_ _|(refine G.trans ?_ (by assumption))))⟩
set_option maxRecDepth 100000 in
theorem qag (b ex fr mag j k:Nat) (w:World) (ht:Tab w) (h0:b<2^64) (he:b/2^52%2^11=ex) (hf:b%2^52=fr) (h1:ex<2047)
  (hm:(if ex=0 then fr else 2^52+fr)=mag) (hj:mag=(2*j+1)*2^k):
  Calls Tryz.prog 206 #[.float .f64 b] w fun e w'=>e= .returned (.tuple #[.int .i64 (if FT.neg b then -(2*j+1) else 2*j+1),.int .i64 ((max ex 1:Nat)-1075+k),.int .i64 0])∧G w w':=by
 have hfr:fr<2^52:=by omega
 have SN:mag<2^53:=by rw[← hm];split<;>omega
 have hk:k<64:=FT.tz_lt (j:=j) (by omega)
 have hpk:0<2^k:=Nat.two_pow_pos k
 have hj2:2*j+1≤mag:=by
  have:(2*j+1)*1≤(2*j+1)*2^k:=Nat.mul_le_mul_left _ hpk
  omega
 have hdiv:(mag:Int)/2^k=2*(j:Int)+1:=by
  have:mag/2^k=2*j+1:=by rw[hj];exact Nat.mul_div_cancel _ hpk
  rw[FT.ipow,← Int.natCast_ediv,this]
  omega
 have K:Hid _:=fun w=>q7a b ex fr w h0 he hf
 have S:Hid _:=fun w=>q3Q ex fr 11 52 w hfr (by omega) (by omega) (by omega) (by omega)
 rw[hm] at S
 have T:Hid _:=fun w ht=>tz_c mag j k w ht (by omega) hj
 have hz:((mag:Int)==0)=false:=by simp;omega
 have hne:((ex:Int)==2047)=false:=by simp;omega
 have hme:max ex 1≤2047:=by omega
 generalize max ex 1=mx at *
 generalize FT.neg b=n at *
 clear he hf hm hj hpk h0
 cases n
 all_goals
  go_enter Tryz.func206,Tryz.ntmps206
  go_wp2_with fail
  refine(K.out _).mono ?_
  rintro e w1 ⟨rfl,hb1⟩
  have rD:=hb1.size
  try simp at rD
  have ht1:=ht.G hb1
  go_wp2_with fail
  refine(q2d _).mono ?_
  rintro e w2 ⟨rfl,hb2⟩
  have yI:=hb2.size
  try simp at yI
  have ht2:=ht1.G hb2
  go_wp2_with fail
  refine(q2C 11 52 _ (by omega)).mono ?_
  rintro e w3 ⟨rfl,hb3⟩
  have KO:=hb3.size
  try simp at KO
  have ht3:=ht2.G hb3
  go_wp2_with fail
  refine(q2d _).mono ?_
  rintro e w4 ⟨rfl,hb4⟩
  have KP:=hb4.size
  try simp at KP
  have NR:=ht3.G hb4
  go_wp2_with fail
  refine(S.out _).mono ?_
  rintro e w5 ⟨rfl,hb5⟩
  have KR:=hb5.size
  try simp at KR
  have NS:=NR.G hb5
  clear ht ht1 ht2 ht3 NR
  go_wp2_with fail
  refine(T.out _ NS).mono ?_
  rintro e w6 ⟨rfl,hb6⟩
  have KS:=hb6.size
  try simp at KS
  clear NS
  go_wp2
  go_ret3
  exact⟨qaR (by omega) (by omega),(by repeat' (first|exact G.refl _|assumption|refine G.alloc ?_ _|refine G.drew ?_ |refine G.drewN ?_ _|(refine G.trans ?_ (by assumption))))⟩
/-! Rounding by a shift. -/
def rnd (mag d:Nat):Nat:=mag/2^d+(if 2^(d-1)<mag%2^d∨(mag%2^d=2^(d-1)∧mag/2^d%2=1) then 1 else 0)
end Go.Proofs.YtdidnnbpdcanlaaGreatDoor
namespace Go.Proofs.YtdidnnbpdcanlaaGreatDoor
open Go.ChangeShapes Go.WideShapes Go.ChangeAt Go.RowKit
attribute [local go_sem] q0S q1j
def shV (mag:Nat) (n:Int):Nat:=if 0≤n then mag*2^n.toNat else if n< -64 then 0 else rnd mag (-n).toNat
theorem q1V {x:Nat} (h0:x≠0) (h:x<2^64):Lib.bitLen x=x.log2+1:=by
 have h1:=Nat.log2_self_le h0
 have h2:=Nat.lt_log2_self (n:=x)
 rw[Lib.bitLen_shift x.log2 x h1 h]
 have h3:x/2^x.log2=1:=by
  have hp:=Nat.two_pow_pos x.log2
  have a:x/2^x.log2<2:=by rw[Nat.div_lt_iff_lt_mul hp];rw[Nat.pow_succ] at h2;omega
  have b:1≤x/2^x.log2:=by rw[Nat.le_div_iff_mul_le hp];omega
  omega
 rw[h3]
 rfl
/-- What 'nearest' gives. -/
def qch (E F mag:Nat) (e:Int):Nat:=
 if mag=0 then 0
 else if 2^(E-1)-1<e+mag.log2 then (2^E-1)*2^F
 else (max (e+mag.log2) (2-2^(E-1))-(2-2^(E-1))).toNat*2^F+shV mag (e-(max (e+mag.log2) (2-2^(E-1))-F))
end Go.Proofs.YtdidnnbpdcanlaaGreatDoor
namespace Go.Proofs.YtdidnnbpdcanlaaGreatDoor
open Go.ChangeShapes Go.WideShapes Go.ChangeAt Go.RowKit
attribute [local go_sem] q0S q1j
theorem q1Y (k:FloatKind) (b:Nat):Op.unary .neg (.float k b)=pure (.float k (Op.negFloat k b)):=rfl
attribute [local go_sem] q1Y
end Go.Proofs.YtdidnnbpdcanlaaGreatDoor
namespace Go.Proofs.YtdidnnbpdcanlaaGreatDoor
open Go.ChangeShapes Go.WideShapes Go.ChangeAt Go.RowKit
attribute [local go_sem] q0S q1j
theorem qbO {y k:Nat} (h:y<2^k) (hk:k≤63):bits BinOp.or IntKind.u64 (y:Int) (2^k)=((y+2^k:Nat):Int):=by
 have h2:(2:Nat)^k<2^64:=Nat.pow_lt_pow_right (by omega) (by omega)
 rw[FT.ipow,u64_or_nat _ _ (by omega) (by omega),Nat.or_comm]
 have:=Nat.two_pow_add_eq_or_of_lt h 1
 rw[Nat.mul_one] at this
 rw[← this,Nat.add_comm]
end Go.Proofs.YtdidnnbpdcanlaaGreatDoor
