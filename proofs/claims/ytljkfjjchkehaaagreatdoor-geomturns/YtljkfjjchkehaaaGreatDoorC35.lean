/- What is proved here: how a fraction is cut to a float, its arithmetic (no program).
What is proved here: contracts of package exact: quotient, over this seat's translation.
What is proved here: contracts of package exact: rounding, over this seat's translation.
What is proved here: contracts of package exact: Float, over this seat's translation.
What is proved here: contracts of package exact: Of, over this seat's translation.
What is proved here: the float at or below a ratio, by its size; floats around a ratio, over this seat's translation.
What is proved here: the four floats around a ratio: what the law asks of them, over this seat's translation.
What is proved here: lowest terms and bounds of fractions (no program), over this seat's translation.
What is proved here: contracts of the reference's ratios: SetFrac of a new ratio, whatever sign the lower part has, over this seat's translation.
What is proved here: contracts of the reference's ratios: Quo of Rat (to a new one, by one of any sign but 0), over this seat's translation.
What is proved here: sums of floats in units of 2 to the power of -1074; how near the nearest float is, over this seat's translation (no program).
What is proved here: the list of a sum: what is taken off it, float by float (no program), over this seat's translation.
What is proved here: the reference's nearest float is package exact's (no program), over this seat's translation.
What is proved here: the numbers of the closed fact on sums told by several floats (no program), over this seat's translation.
What is proved here: slices of floats and of fractions in memory, over this seat's translation (no program).
What is proved here: contracts of package expan: read, over this seat's translation.
What is proved here: a slice of floats of our own that grows, over this seat's translation (no program).
What is proved here: sums of lists in which entries change places; bounds of sums (no program), over this seat's translation.
What is proved here: the reference's ratios told by core's fractions: a float's, sums, differences, products, over this seat's translation.
What is proved here: contracts of the reference: F, CheckList, over this seat's translation.
What is proved here: contracts of the reference: add, over this seat's translation.
What is proved here: contracts of package expan: total, over this seat's translation.
What is proved here: contracts of package expan: front, over this seat's translation.
What is proved here: contracts of package expan: whole, Of, over this seat's translation.
What is proved here: contracts of package geom: steps from point to point, over this seat's translation.
What is proved here: contracts of package geom: cross, norm, turn, over this seat's translation.
What is proved here: contracts of package expan: Sum, Cmp, over this seat's translation.
What is proved here: contracts of package expan: the pair of a number, over this seat's translation.
What is proved here: contracts of package geom: finite, unfit, Turn, over this seat's translation.
What is proved here: contracts of package geom: Turn, over this seat's translation.
What is proved here: contracts of package geom: norm, Circle, over this seat's translation.
What is proved here: package geom's bent (the way along points without those where it doesn't turn left), over this seat's translation.
What is proved here: contracts of the reference: CheckPoints, over this seat's translation.
What is proved here: contracts of package expan: what a pair tells, and pairs reckoned with, over this seat's translation.
What is proved here: contracts of package expan: quotients of pairs, over this seat's translation.
What is proved here: the closed fact on sums told by several floats, over this seat's translation.
What is proved here: the closed fact on sums told by several floats holds, over this seat's translation. -/
import Derived.Test.YtljkfjjchkehaaaGreatDoorC34
import Derived.Test.YtljkfjjchkehaaaGreatDoorC27
import Derived.Test.YtljkfjjchkehaaaGreatDoorC13
import Derived.Test.YtljkfjjchkehaaaGreatDoorC13
import Derived.Test.YtljkfjjchkehaaaGreatDoorC24
import Derived.Test.YtljkfjjchkehaaaGreatDoorC23
import Derived.Test.YtljkfjjchkehaaaGreatDoorC16
import Derived.Test.YtljkfjjchkehaaaGreatDoorC26
import Derived.Test.YtljkfjjchkehaaaGreatDoorC28
import Derived.Test.YtljkfjjchkehaaaGreatDoorC2
import Derived.Laws.IdiomCopy
namespace Go.Proofs.YtljkfjjchkehaaaGreatDoor.EN
open Go.RowKit
/-- What is left behind a step: nothing, less than half of it, half, more. -/
def qb5 (R D:Nat):Nat:=if R=0 then 0 else if 2*R<D then 1 else if 2*R=D then 2 else 3
/-- The float at or below A / B (its place among the floats from 0 on), and what is left. -/
def tV (A B:Nat):Nat:=if 971<q1u A B then 2047*2^52-1 else (q1u A B+1074).toNat*2^52+upP A (q1u A B)/loP B (q1u A B)
def lV (A B:Nat):Nat:=if 971<q1u A B then 3 else qb5 (upP A (q1u A B)%loP B (q1u A B)) (loP B (q1u A B))
theorem q7q (a:Nat):EN.blen a=Go.Proofs.YtljkfjjchkehaaaGreatDoor.blen a:=rfl
end Go.Proofs.YtljkfjjchkehaaaGreatDoor.EN
namespace Go.Proofs.YtljkfjjchkehaaaGreatDoor.EN
open Go.ChangeShapes Go.WideShapes Go.ChangeAt Go.RowKit
attribute [local go_sem] q0D
/-- Whether a number between two floats goes on to the one that is farther from 0. -/
def onw (m:Int) (neg odd:Bool) (l:Nat):Bool:=if m=1 then l==3||(l==2&&odd) else if m=2 then neg else if m=3 then !neg else false
end Go.Proofs.YtljkfjjchkehaaaGreatDoor.EN
namespace Go.Proofs.YtljkfjjchkehaaaGreatDoor.EN
open Go.ChangeShapes Go.WideShapes Go.ChangeAt Go.RowKit
/-- A fraction above 0 rounded: the float's place. -/
def rdV (m:Int) (neg:Bool) (A B:Nat):Nat:=tV A B+if lV A B≠0∧onw m neg (tV A B%2==1) (lV A B)=true then 1 else 0
def fex (b:Nat):Nat:=b/2^52%2^11
def fmag (b:Nat):Nat:=if fex b=0 then b%2^52 else 2^52+b%2^52
/-- What a finite float is. -/
def FQ (b:Nat):Rat:=mkRat (frN (FT.neg b) (fmag b) (fex b)) (frD (fex b))
theorem qaI (w:World) (b:Nat) (m e:Int) (q:Rat) (HW:∀ w1,G w w1→Calls Tryz.prog 138 #[.float .f64 b] w1 fun r w'=>r= .returned (.tuple #[.int .i64 m,.int .i64 e,.int .i64 0])∧G w1 w')
  (HS:∀ w1,Calls Tryz.prog 139 #[.int .i64 m,.int .i64 e] w1 (RetQ w1 q)):
  Calls Tryz.prog 94 #[.float .f64 b] w (q8z w q 0):=by
 have HW1:Hid (∀ w1,G w w1→_):=HW
 have kr:Hid (∀ w1,_):=HS
 clear HW HS
 go_enter Tryz.func94,Tryz.ntmps94
 go_wp2_with fail
 obtain⟨w0,aH,g0,hz0,R0⟩:=q0x w [.bool false,.slice none 0 0,.slice none 0 0] 97
 rw[aH]
 clear aH
 refine Calls.mono (P:=Tryz.prog) (HW1.out w0 g0) ?_
 rintro e1 w1 ⟨rfl,g1⟩
 go_wp2_with fail
 refine Calls.mono (P:=Tryz.prog) (kr.out w1) ?_
 intro e1 w2 hs
 obtain⟨v,rfl,g2,hv⟩:=hs
 clear HW1 kr
 obtain⟨a8,k8,c8,a9,k9,c9,rfl,ed,bX⟩:=hv
 have ja:Hid (Num w2 (.slice a8 k8 c8) (q).num.natAbs):=ed
 have eG:Hid (Num w2 (.slice a9 k9 c9) (q1E (q).den)):=bX
 obtain⟨t9,bK⟩:∃ t,t=decide ((q).num<0):=⟨_,rfl⟩
 rw[← bK]
 have fu:Hid (t9=decide ((q).num<0)):=bK
 clear ed bX bK
 have hS:=Rec.f3 (Rec.G R0.out ((G.trans g1 g2)))
 have bD:=hS.1
 have bE:=hS.2.1
 have bF:=hS.2.2.1
 have bG:=hS.2.2.2.1
 have dn:=hS.2.2.2.2.1
 have dw:=hS.2.2.2.2.2
 clear hS
 have dz:Num _ _ _:=q0k (u1:= .bool t9) (u2:= .slice a8 k8 c8) (u3:= .slice a9 k9 c9) ja.out (Rec.G R0.out (G.trans g1 g2)) trivial trivial trivial
 have bn:Num _ _ _:=q0k (u1:= .bool t9) (u2:= .slice a8 k8 c8) (u3:= .slice a9 k9 c9) eG.out (Rec.G R0.out (G.trans g1 g2)) trivial trivial trivial
 go_wp2_with fail
 have hT:Hid (Rec (World.setCell (World.setCell (World.setCell w2 ⟨w.heap.size,0,none⟩ (.bool t9)) ⟨w.heap.size,1,none⟩ (.slice a8 k8 c8)) ⟨w.heap.size,2,none⟩ (.slice a9 k9 c9)) (w.heap.size) [.bool t9,.slice a8 k8 c8,.slice a9 k9 c9]):=Rec.set3 (Rec.G R0.out (G.trans g1 g2))
 have g9:=Rec.g3 (b:=w.heap.size) (u:= .bool t9) (v:= .slice a8 k8 c8) (x:= .slice a9 k9 c9) (G.trans g0 (G.trans g1 g2)) (by omega)
 generalize (World.setCell (World.setCell (World.setCell w2 ⟨w.heap.size,0,none⟩ (.bool t9)) ⟨w.heap.size,1,none⟩ (.slice a8 k8 c8)) ⟨w.heap.size,2,none⟩ (.slice a9 k9 c9))=w9 at *
 have hF:=Rec.f3 (Rec.G hT.out ((G.refl _)))
 have bP:=hF.1
 have bQ:=hF.2.1
 have bR:=hF.2.2.1
 have bS:=hF.2.2.2.1
 have gK:=hF.2.2.2.2.1
 have gL:=hF.2.2.2.2.2
 clear hF
 refine bodyPost_ret (v:= .tuple #[.agg #[.bool t9,.slice a8 k8 c8,.slice a9 k9 c9],.int .i64 0]) (by simp [results,Tryz.results94,go_sem, *]) rfl ?_
 exact⟨_,rfl,g9,a8,k8,c8,a9,k9,c9,by rw[← fu.out],dz,bn⟩
theorem qaY {s:Bool} {j k ex mag:Nat} (hm:mag=(2*j+1)*2^k):mk2 (if s then -(2*(j:Int)+1) else 2*(j:Int)+1) ((max ex 1:Nat)-1075+k)=mkRat (frN s mag ex) (frD ex):=by
 unfold mk2 frN frD frS
 rw[Rat.mkRat_eq_iff (by have:=Nat.two_pow_pos (-(((max ex 1:Nat):Int)-1075+k)).toNat;omega) (by have:=Nat.two_pow_pos (1075-max ex 1);omega)]
 have e:∀ X Y:Int,X*((2^k:Nat):Int)=Y→X*((2^(((max ex 1:Nat):Int)-1075+k).toNat:Nat):Int)*((2^(1075-max ex 1):Nat):Int)=Y*2^(max ex 1-1075)*((2^(-(((max ex 1:Nat):Int)-1075+k)).toNat:Nat):Int):=by
  intro X Y h
  rw[← h,Int.mul_assoc,Int.mul_assoc,Int.mul_assoc,FT.ipow,← Int.natCast_mul,← Int.natCast_mul,← Int.natCast_mul,← Nat.pow_add,← Nat.pow_add,← Nat.pow_add]
  congr 3
  omega
 cases s
 ·simp only[Bool.false_eq_true,if_false]
  refine e _ _ ?_
  rw[hm];push_cast;rfl
 ·simp only[if_true]
  refine e _ _ ?_
  rw[hm];push_cast;rw[Int.neg_mul]
theorem of_c (w:World) (b:Nat) (hT:Tab w) (h0:b<2^64) (he:fex b<2047):
  Calls Tryz.prog 94 #[.float .f64 b] w (q8z w (FQ b) 0):=by
 have hex:b/2^52%2^11=fex b:=rfl
 have hfr:b%2^52<2^52:=Nat.mod_lt _ (by omega)
 have hmb:fmag b<2^53:=by unfold fmag;split<;>omega
 by_cases hm:fmag b=0
 ·have h1:fex b=0:=by
   unfold fmag at hm
   split at hm
   ·assumption
   ·omega
  have h2:b%2^52=0:=by unfold fmag at hm;rwa[if_pos h1] at hm
  have hq:FQ b=mk2 0 0:=by
   unfold FQ mk2
   rw[hm]
   unfold frN frS
   simp
  rw[hq]
  exact qaI w b 0 0 _ (fun w1 _=>q46 b w1 h0 (hex.trans h1) h2) (fun w1=>q3T w1 0 0 (by omega) (by omega) (by omega) (by omega) (Or.inl rfl))
 ·obtain⟨j,k,hj⟩:=q3F (fmag b) (by omega)
  have hj2:2*j+1≤fmag b:=by
   rw[hj];exact Nat.le_mul_of_pos_right _ (Nat.two_pow_pos k)
  have hk:k<53:=by
   have:2^k≤fmag b:=by rw[hj];exact Nat.le_mul_of_pos_left _ (by omega)
   exact(Nat.pow_lt_pow_iff_right (by omega:1<2)).1 (Nat.lt_of_le_of_lt this hmb)
  have hq:FQ b=mk2 (if FT.neg b then -(2*(j:Int)+1) else 2*(j:Int)+1) ((max (fex b) 1:Nat)-1075+k):=(qaY hj).symm
  rw[hq]
  refine qaI w b _ _ _ (fun w1 g=>q53 b (fex b) (b%2^52) (fmag b) j k w1 (hT.G g) h0 rfl rfl he rfl hj) (fun w1=>q3T w1 _ _ ?_ ?_ ?_ ?_ ?_)
  ·split<;>omega
  ·split<;>omega
  ·omega
  ·omega
  ·right;split<;>omega
/-- A finite float as a ratio. -/
theorem fq_v (s:Bool) {V:Nat} (h:V<2047*2^52):FQ (FT.wrd s V)=mkRat (if s then -(FT.v V:Int) else FT.v V) (2^1074)∧fex (FT.wrd s V)<2047:=by
 have e1:fex (FT.wrd s V)=V/2^52:=by
  unfold fex FT.wrd
  cases s<;>simp only[if_true,Bool.false_eq_true,if_false]<;>omega
 have e2:FT.wrd s V%2^52=V%2^52:=by
  unfold FT.wrd
  cases s<;>simp only[if_true,Bool.false_eq_true,if_false]<;>omega
 have e3:FT.neg (FT.wrd s V)=s:=by
  unfold FT.neg FT.wrd
  cases s
  ·simp only[Bool.false_eq_true,if_false,beq_eq_false_iff_ne,ne_eq];omega
  ·simp only[if_true,beq_iff_eq];omega
 refine⟨?_,by rw[e1];omega⟩
 have hm:fmag (FT.wrd s V)*2^(max (V/2^52) 1-1)=FT.v V:=by
  unfold fmag
  rw[e1,e2]
  by_cases h1:V<2^52
  ·rw[FT.v_sub h1,if_pos (by omega),show max (V/2^52) 1-1=0 from by omega,Nat.pow_zero,Nat.mul_one]
   omega
  ·rw[FT.v_nor h1,if_neg (by omega),show max (V/2^52) 1=V/2^52 from by omega]
 unfold FQ
 rw[e1,e3]
 rw[← hm]
 clear hm e1 e2 e3
 obtain⟨E,hE⟩:∃ E:Nat,E=1074:=⟨_,rfl⟩
 rw[← hE]
 generalize fmag (FT.wrd s V)=m
 generalize V/2^52=x
 unfold frN frD frS
 rw[Rat.mkRat_eq_iff (by have:=Nat.two_pow_pos (1075-max x 1);omega) (by have:=Nat.two_pow_pos E;omega)]
 have k:∀ z:Int,z*2^(max x 1-1075)*((2^E:Nat):Int)=z*((2^(max x 1-1):Nat):Int)*((2^(1075-max x 1):Nat):Int):=fun z=>by
  rw[Int.mul_assoc,Int.mul_assoc]
  refine congrArg (z*·) ?_
  rw[FT.ipow,← Int.natCast_mul,← Int.natCast_mul,← Nat.pow_add,← Nat.pow_add,show max x 1-1075+E=max x 1-1+(1075-max x 1) from by omega]
 cases s
 ·simp only[Bool.false_eq_true,if_false]
  rw[Int.natCast_mul]
  exact k (m:Int)
 ·simp only[if_true]
  rw[Int.natCast_mul,← Int.neg_mul]
  exact k (-(m:Int))
theorem q9e (s:Bool) {V:Nat} (h:V≤2047*2^52):FT.nan (FT.wrd s V)=false:=by
 unfold FT.nan
 rw[FT.wrd_rung s V (by omega)]
 exact decide_eq_false (by unfold FT.infR;omega)
end Go.Proofs.YtljkfjjchkehaaaGreatDoor.EN
namespace Go.Proofs.YtljkfjjchkehaaaGreatDoor
open Go.RowKit
theorem q2l {z:Int} {d:Nat} (hd:0<d) {q:Rat} (h:q=mkRat z d):q.num=Int.tdiv z (Nat.gcd z.natAbs d:Nat)∧q.den=d/Nat.gcd z.natAbs d:=by
 have hg:0<Nat.gcd z.natAbs d:=Nat.gcd_pos_of_pos_right _ hd
 obtain⟨a,ha⟩:=Nat.gcd_dvd_right z.natAbs d
 have hz:z=Int.tdiv z (Nat.gcd z.natAbs d:Nat)*((Nat.gcd z.natAbs d:Nat):Int):=by
  rw[Int.tdiv_mul_cancel (Int.ofNat_dvd_left.2 (Nat.gcd_dvd_left _ _))]
 have Cb:d/Nat.gcd z.natAbs d*Nat.gcd z.natAbs d=d:=Nat.div_mul_cancel (Nat.gcd_dvd_right _ _)
 have hd2:0<d/Nat.gcd z.natAbs d:=Nat.div_pos (Nat.le_of_dvd hd (Nat.gcd_dvd_right _ _)) hg
 have hab:(Int.tdiv z (Nat.gcd z.natAbs d:Nat)).natAbs=z.natAbs/Nat.gcd z.natAbs d:=by
  rw[Int.natAbs_tdiv,Int.natAbs_natCast];rfl
 refine EN.rat_low hd2 (by rw[hab];exact Nat.gcd_div_gcd_div_gcd_of_pos_right hd) ?_
 have h1:=EN.mk_cross hd h
 have hgi:((Nat.gcd z.natAbs d:Nat):Int)≠0:=by omega
 refine Int.eq_of_mul_eq_mul_right hgi ?_
 rw[show Int.tdiv z (Nat.gcd z.natAbs d:Nat)*(q.den:Int)*((Nat.gcd z.natAbs d:Nat):Int)=Int.tdiv z (Nat.gcd z.natAbs d:Nat)*((Nat.gcd z.natAbs d:Nat):Int)*q.den from by ac_rfl,← hz,h1,Int.mul_assoc,← Int.natCast_mul,Cb]
end Go.Proofs.YtljkfjjchkehaaaGreatDoor
namespace Go.Proofs.YtljkfjjchkehaaaGreatDoor.EN
open Go.RowKit
theorem q67 {q:Rat} {z:Int} {d K:Nat} (hd:0<d) (h:q=mkRat z d) (h1:z.natAbs<2^(64*K)) (h2:d<2^(64*K)):QB q K:=by
 obtain⟨e1,e2⟩:=q2l hd h
 refine⟨?_,?_⟩
 ·rw[e1,Int.natAbs_tdiv,Int.natAbs_natCast]
  exact Nat.lt_of_le_of_lt (Nat.div_le_self _ _) h1
 ·rw[e2]
  exact Nat.lt_of_le_of_lt (Nat.div_le_self _ _) h2
theorem q1k {x y:Rat} {K L:Nat} (hx:QB x K) (hy:QB y L):QB (x*y) (K+L):=by
 refine q67 (z:=x.num*y.num) (d:=x.den*y.den) (Nat.mul_pos x.den_pos y.den_pos) ?_ ?_ (q0X hx.2 hy.2)
 ·rw[← Rat.mkRat_mul_mkRat,Rat.mkRat_self,Rat.mkRat_self]
 ·rw[Int.natAbs_mul]
  exact q0X hx.1 hy.1
theorem q9b {K:Nat} (h:1≤K):QB 0 K:=⟨Nat.two_pow_pos _,Nat.one_lt_two_pow (by omega)⟩
end Go.Proofs.YtljkfjjchkehaaaGreatDoor.EN
namespace Go.Proofs.YtljkfjjchkehaaaGreatDoor
open Go.ChangeShapes Go.WideShapes Go.ChangeAt Go.RowKit
open BN
theorem Rec.f4 {w:World} {b:Nat} {x y z u:Value} (h:Rec w b [x,y,z,u]):w.cell? ⟨b,0,none⟩=some x∧w.cell? ⟨b,1,none⟩=some y∧w.cell? ⟨b,2,none⟩=some z∧w.cell? ⟨b,3,none⟩=some u∧w.frozen? ⟨b,0,none⟩=false∧w.frozen? ⟨b,1,none⟩=false∧w.frozen? ⟨b,2,none⟩=false∧w.frozen? ⟨b,3,none⟩=false:=
 ⟨h.cell 0,h.cell 1,h.cell 2,h.cell 3,h.frozen 0,h.frozen 1,h.frozen 2,h.frozen 3⟩
end Go.Proofs.YtljkfjjchkehaaaGreatDoor
namespace Go.Proofs.YtljkfjjchkehaaaGreatDoor.EN
open Go.RowKit
/-- A finite float in units. -/
def fz (b:Nat):Int:=if FT.neg b then -(FT.v (FT.rung b):Int) else FT.v (FT.rung b)
/-- So many units. -/
def Uz (z:Int):Rat:=mkRat z (2^1074)
theorem q7H {b:Nat} (h:b<2^64):FT.wrd (FT.neg b) (FT.rung b)=b:=by
 unfold FT.wrd FT.neg FT.rung
 by_cases h1:b/2^63%2=1
 ·simp only[h1,beq_self_eq_true,if_true]
  omega
 ·have h0:b/2^63%2=0:=by omega
  simp only[h0,show ((0:Nat)==1)=false from rfl,Bool.false_eq_true,if_false]
  omega
theorem rung_lt (b:Nat):FT.rung b<2^63:=Nat.mod_lt _ (Nat.two_pow_pos _)
theorem q8d (b:Nat):fex b=FT.rung b/2^52:=by
 unfold fex FT.rung
 omega
theorem q2o (b:Nat):fex b<2047↔FT.rung b<2047*2^52:=by
 rw[q8d]
 have:=rung_lt b
 omega
theorem q9n {b:Nat} (h:b<2^64) (hf:fex b<2047):FQ b=Uz (fz b):=by
 have h1:=(fq_v (FT.neg b) ((q2o b).1 hf)).1
 rw[q7H h] at h1
 exact h1
theorem q1C:0<2^1074:=by
 obtain⟨n,hn⟩:∃ n:Nat,n=1074:=⟨_,rfl⟩
 rw[← hn]
 exact Nat.two_pow_pos _
theorem qaC (x y:Int):Uz x+Uz y=Uz (x+y):=by
 unfold Uz
 have h:=q1C
 generalize 2^1074=D at *
 rw[← Rat.divInt_ofNat,← Rat.divInt_ofNat,← Rat.divInt_ofNat,Rat.divInt_add_divInt _ _ (by omega) (by omega)]
 rw[Rat.divInt_eq_divInt_iff (by have:(D:Int)*D≠0:=by apply Int.mul_ne_zero<;>omega
                                 exact this) (by omega)]
 rw[← Int.add_mul,Int.mul_assoc]
theorem qai (x:Int): -Uz x=Uz (-x):=by
 unfold Uz
 rw[Rat.neg_mkRat]
theorem q7s (x y:Int):Uz x-Uz y=Uz (x-y):=by
 rw[Rat.sub_eq_add_neg,qai,qaC];rfl
theorem qaO {z:Int} (h:z.natAbs<2^5000):QB (Uz z) 80:=by
 obtain⟨K,hK⟩:∃ K:Nat,K=80:=⟨_,rfl⟩
 obtain⟨M,hM⟩:∃ M:Nat,M=5000:=⟨_,rfl⟩
 obtain⟨E,hE⟩:∃ E:Nat,E=1074:=⟨_,rfl⟩
 rw[← hM] at h
 rw[← hK]
 refine q67 q1C rfl (Nat.lt_of_lt_of_le h (Nat.pow_le_pow_right (by omega) (by omega))) ?_
 rw[← hE]
 exact Nat.pow_lt_pow_right (by omega) (by omega)
/-- The gap above a float. -/
def ug (V:Nat):Nat:=2^(V/2^52-1)
theorem qa9 (V:Nat):0<ug V:=Nat.two_pow_pos _
theorem v_ug (V:Nat):FT.v V=(if V<2^52 then V else 2^52+V%2^52)*ug V:=by
 unfold FT.v ug
 by_cases h:V<2^52
 ·rw[if_pos h,if_pos h,Nat.div_eq_of_lt h]
  exact(Nat.mul_one V).symm
 ·rw[if_neg h,if_neg h]
/-- The place of a number's nearest float, and its word. -/
def rV (q:Rat):Nat:=rdV 1 (decide (q.num<0)) q.num.natAbs q.den
def nR (q:Rat):Nat:=FT.wrd (decide (q.num<0)) (rV q)
/-- What comes of a number whose floats are taken off, so many at most. -/
inductive Fr:Nat→Rat→List Nat→Bool→Prop where
 |zero (k:Nat):Fr k 0 [] true
 |most (v:Rat):Fr 0 v [] true
 |bad (k:Nat) (v:Rat) (h0:v≠0) (hq:QB v 80) (h:fex (nR v)=2047∨FQ (nR v)=0):Fr (k+1) v [] false
 |step (k:Nat) (v:Rat) (l:List Nat) (o:Bool) (h0:v≠0) (hq:QB v 80) (h1:fex (nR v)<2047) (h2:FQ (nR v)≠0) (h:Fr k (v-FQ (nR v)) l o):Fr (k+1) v (nR v::l) o
/-- Half of the gap above a float of this exponent. -/
def hv (e:Nat):Nat:=qbc 11 52 1 (((e-1:Nat):Int)-1075)
theorem q6I:FT.v 0=0:=rfl
/-- Each entry is no more than half of the gap above the one ahead. -/
def Steep:List Nat→Prop
 |a::b::l=>(2≤fex a∧FT.rung b≤hv (fex a))∧Steep (b::l)
 |_=>True
theorem Steep.at:∀ {l:List Nat},Steep l→∀ i,i+1<l.length→2≤fex (l.getD i 0)∧FT.rung (l.getD (i+1) 0)≤hv (fex (l.getD i 0))
 |[],_,i,hi=>by simp at hi
 |[_],_,i,hi=>by simp at hi
 |a::b::l,h,0,_=>h.1
 |a::b::l,h,i+1,hi=>by
  have:=Steep.at (l:=b::l) h.2 i (by simpa using hi)
  simpa using this
/-- A list tells so many units. -/
structure Tells (z:Int) (l:List Nat):Prop where
 sum:(l.map fz).sum=z
 fin:∀ b∈l,b<2^64∧fex b<2047
 steep:Steep l
 head:∀ a m,l=a::m→FT.rung a=rV (Uz z)∧z≠0
/-- The three floats whose sum is told. -/
def l3:List Nat:=[4607182418800017408,4861130398305394688,4307583784117748259]
end Go.Proofs.YtljkfjjchkehaaaGreatDoor.EN
namespace Go.Proofs.YtljkfjjchkehaaaGreatDoor.EN
open Go.ChangeShapes Go.WideShapes Go.ChangeAt Go.RowKit
/-- A slice of floats. -/
def FSl (w:World) (v:Value) (l:List Nat):Prop:=
 ∃ a c,v= .slice a l.length c∧l.length≤c∧∀ i,i<l.length→∃ b o,a=some ⟨b,o,none⟩∧b<w.heap.size∧w.cell? ⟨b,o+i,none⟩=some (.float .f64 (l.getD i 0))
theorem FSl.G {w w':World} {v:Value} {l:List Nat} (h:FSl w v l) (g:G w w'):FSl w' v l:=by
 obtain⟨a,c,e,hc,h⟩:=h
 refine⟨a,c,e,hc,fun i hi=> ?_⟩
 obtain⟨b,o,e1,h1,h2⟩:=h i hi
 exact⟨b,o,e1,Nat.lt_of_lt_of_le h1 g.size,g.cell (p:=⟨b,o+i,none⟩) h1 h2⟩
/-- A fraction that lies in three cells. -/
def QAt (w:World) (b o:Nat) (q:Rat):Prop:=∃ t a k c a' k' c',w.cell? ⟨b,o,none⟩=some (.bool t)∧w.cell? ⟨b,o+1,none⟩=some (.slice a k c)∧w.cell? ⟨b,o+2,none⟩=some (.slice a' k' c')∧QIs w (.agg #[.bool t,.slice a k c,.slice a' k' c']) q
theorem QAt.G {w w':World} {b o:Nat} {q:Rat} (h:QAt w b o q) (hb:b<w.heap.size) (g:G w w'):QAt w' b o q:=by
 obtain⟨t,a,k,c,a',k',c',h1,h2,h3,h4⟩:=h
 exact⟨t,a,k,c,a',k',c',g.cell (p:=⟨b,o,none⟩) hb h1,g.cell (p:=⟨b,o+1,none⟩) hb h2,g.cell (p:=⟨b,o+2,none⟩) hb h3,h4.G g⟩
/-- A slice of fractions, told in units. -/
def NSl (w:World) (v:Value) (l:List Int):Prop:=
 ∃ a c,v= .slice a l.length c∧l.length≤c∧∀ i,i<l.length→∃ b o,a=some ⟨b,o,none⟩∧b<w.heap.size∧QAt w b (o+i*3) (Uz (l.getD i 0))
theorem NSl.G {w w':World} {v:Value} {l:List Int} (h:NSl w v l) (g:G w w'):NSl w' v l:=by
 obtain⟨a,c,e,hc,h⟩:=h
 refine⟨a,c,e,hc,fun i hi=> ?_⟩
 obtain⟨b,o,e1,h1,h2⟩:=h i hi
 exact⟨b,o,e1,Nat.lt_of_lt_of_le h1 g.size,h2.G h1 g⟩
/-- No word of 64 bits. -/
def noU (x:Value):Prop:=∀ m,x≠ .int .u64 m
theorem qa0 {x:Value} (h:q2e x):noU x:=fun m e=>by rw[e] at h;exact h
theorem q3s {w:World} {v:Value} {n b:Nat} {l:List Value} (h:Num w v n) (r:Rec w b l) (hl:∀ x∈l,noU x):∀ w':World,(∀ i k,i≠b→w'.cell? ⟨i,k,none⟩=w.cell? ⟨i,k,none⟩)→w.heap.size≤w'.heap.size→Num w' v n:=by
 intro w' hc hs
 obtain⟨m,hm,hcm,hv⟩:=h
 refine⟨m,?_,hcm,hv⟩
 rcases Sl.cases hm with ⟨rfl,a,c,rfl⟩|⟨hne,b2,o,c,rfl,hcc,hb,hr⟩
 ·exact⟨hm.1,Or.inl ⟨rfl,a,c,rfl⟩⟩
 ·have hbb:b2≠b:=by
   intro e
   subst e
   have h0:=hr 0 (List.length_pos_iff.2 hne)
   rw[r.cell] at h0
   exact hl _ (List.mem_of_getElem? h0) _ rfl
  exact⟨hm.1,Or.inr ⟨b2,o,c,rfl,hcc,by omega,fun i hi=>by rw[hc _ _ hbb];exact hr i hi⟩⟩
/-- A fraction stands where a block without words is written. -/
theorem QIs.apart {w w':World} {v:Value} {q:Rat} {b:Nat} {l:List Value} (h:QIs w v q) (r:Rec w b l) (hl:∀ x∈l,noU x)
  (hc:∀ i k,i≠b→w'.cell? ⟨i,k,none⟩=w.cell? ⟨i,k,none⟩) (hs:w.heap.size≤w'.heap.size):QIs w' v q:=by
 obtain⟨a,k,c,a',k',c',e,h1,h2⟩:=h
 exact⟨a,k,c,a',k',c',e,q3s h1 r hl w' hc hs,q3s h2 r hl w' hc hs⟩
/-- Block b is fractions, told in units, and may be written. -/
def NOwn (w:World) (b:Nat) (l:List Int):Prop:=
 ∃ L:List Value,Rec w b L∧L.length=3*l.length∧(∀ x∈L,q2e x)∧
  ∀ i,i<l.length→∃ t a k c a' k' c',L[i*3]? =some (.bool t)∧L[i*3+1]? =some (.slice a k c)∧L[i*3+2]? =some (.slice a' k' c')∧QIs w (.agg #[.bool t,.slice a k c,.slice a' k' c']) (Uz (l.getD i 0))
theorem NOwn.G {w w':World} {b:Nat} {l:List Int} (h:NOwn w b l) (g:Go.Proofs.YtljkfjjchkehaaaGreatDoor.G w w'):NOwn w' b l:=by
 obtain⟨L,h1,h2,h3,h4⟩:=h
 refine⟨L,h1.G g,h2,h3,fun i hi=> ?_⟩
 obtain⟨t,a,k,c,a',k',c',e1,e2,e3,e4⟩:=h4 i hi
 exact⟨t,a,k,c,a',k',c',e1,e2,e3,e4.G g⟩
theorem NOwn.free {w:World} {b:Nat} {l:List Int} (h:NOwn w b l) (i:Nat):w.frozen? ⟨b,i,none⟩=false:=by
 obtain⟨L,h1,-⟩:=h
 exact h1.frozen i
theorem NOwn.lt {w:World} {b:Nat} {l:List Int} (h:NOwn w b l):b<w.heap.size:=by
 obtain⟨L,h1,-⟩:=h
 exact h1.lt
theorem NOwn.cells {w:World} {b:Nat} {l:List Int} (h:NOwn w b l) {i:Nat} (hi:i<l.length):QAt w b (i*3) (Uz (l.getD i 0)):=by
 obtain⟨L,h1,h2,h3,h4⟩:=h
 obtain⟨t,a,k,c,a',k',c',e1,e2,e3,e4⟩:=h4 i hi
 exact⟨t,a,k,c,a',k',c',by rw[h1.cell];exact e1,by rw[h1.cell];exact e2,by rw[h1.cell];exact e3,e4⟩
theorem NOwn.sl {w:World} {b:Nat} {l:List Int} (h:NOwn w b l) (c:Nat) (hc:l.length≤c):NSl w (.slice (some ⟨b,0,none⟩) l.length c) l:=
 ⟨_,c,rfl,hc,fun i hi=>⟨b,0,rfl,h.lt,by rw[Nat.zero_add];exact h.cells hi⟩⟩
theorem NOwn.set {w:World} {b:Nat} {l:List Int} (h:NOwn w b l) {i:Nat} (hi:i<l.length) {z:Int} {t:Bool} {a a':Option Addr} {k c k' c':Nat} (hq:QIs w (.agg #[.bool t,.slice a k c,.slice a' k' c']) (Uz z)):
  NOwn (((w.setCell ⟨b,i*3,none⟩ (.bool t)).setCell ⟨b,i*3+1,none⟩ (.slice a k c)).setCell ⟨b,i*3+2,none⟩ (.slice a' k' c')) b (l.set i z):=by
 obtain⟨L,h1,h2,h3,h4⟩:=h
 have hap:∀ {v:Value} {q:Rat},QIs w v q→QIs (((w.setCell ⟨b,i*3,none⟩ (.bool t)).setCell ⟨b,i*3+1,none⟩ (.slice a k c)).setCell ⟨b,i*3+2,none⟩ (.slice a' k' c')) v q:=fun hv=>hv.apart h1 (fun x hx=>qa0 (h3 x hx)) (fun j m hj=>by
  rw[World.cell?_setCell_other _ _ _ _ (by intro e;injection e with e1;exact hj e1.symm),World.cell?_setCell_other _ _ _ _ (by intro e;injection e with e1;exact hj e1.symm),World.cell?_setCell_other _ _ _ _ (by intro e;injection e with e1;exact hj e1.symm)]) (by simp [World.setCell])
 refine⟨((L.set (i*3) (.bool t)).set (i*3+1) (.slice a k c)).set (i*3+2) (.slice a' k' c'),((h1.set _ _).set _ _).set _ _,by simp only[List.length_set];exact h2,?_,?_⟩
 ·intro x hx
  rcases List.mem_or_eq_of_mem_set hx with hx|rfl
  ·rcases List.mem_or_eq_of_mem_set hx with hx|rfl
   ·rcases List.mem_or_eq_of_mem_set hx with hx|rfl
    ·exact h3 x hx
    ·trivial
   ·trivial
  ·trivial
 ·intro j hj
  rw[List.length_set] at hj
  by_cases he:j=i
  ·subst he
   refine⟨t,a,k,c,a',k',c',?_,?_,?_,?_⟩
   ·rw[List.getElem?_set_ne (by omega),List.getElem?_set_ne (by omega),List.getElem?_set_self (by omega)]
   ·rw[List.getElem?_set_ne (by omega),List.getElem?_set_self (by simp only[List.length_set];omega)]
   ·rw[List.getElem?_set_self (by simp only[List.length_set];omega)]
   ·have:(l.set j z).getD j 0=z:=by simp [List.getD_eq_getElem?_getD,hj]
    rw[this]
    exact hap hq
  ·obtain⟨t1,a1,k1,c1,a2,k2,c2,e1,e2,e3,e4⟩:=h4 j hj
   refine⟨t1,a1,k1,c1,a2,k2,c2,?_,?_,?_,?_⟩
   ·rw[List.getElem?_set_ne (by omega),List.getElem?_set_ne (by omega),List.getElem?_set_ne (by omega)];exact e1
   ·rw[List.getElem?_set_ne (by omega),List.getElem?_set_ne (by omega),List.getElem?_set_ne (by omega)];exact e2
   ·rw[List.getElem?_set_ne (by omega),List.getElem?_set_ne (by omega),List.getElem?_set_ne (by omega)];exact e3
   ·have:(l.set i z).getD j 0=l.getD j 0:=by simp only[List.getD_eq_getElem?_getD];rw[List.getElem?_set_ne (by omega)]
    rw[this]
    exact hap e4
/-- Each float of a list is finite. -/
def Fin (l:List Nat):Prop:=∀ b∈l,fex b<2047
/-- Floats as cells. -/
def fl (l:List Nat):List Value:=l.map fun b=> .float .f64 b
/-- A slice of floats whose block is our own (from block base on). -/
def FOwn (w:World) (base:Nat) (v:Value) (l:List Nat):Prop:=
 (v= .slice none 0 0∧l=[])∨∃ g cap cur,v= .slice (some ⟨g,0,none⟩) l.length cap∧base≤g∧w.heap[g]? =some (.cells cur 26 (0,0))∧l.length≤cap∧cap≤maxLen∧cur.size=cap∧cur.toList.take l.length=fl l∧∀ x∈cur.toList,q2e x
theorem q7e {w:World} {g:Nat} {o:Obj} (h:w.heap[g]? =some o):g<w.heap.size:=(Array.getElem?_eq_some_iff.1 h).1
theorem FOwn.G {w w':World} {base:Nat} {v:Value} {l:List Nat} (h:FOwn w base v l) (g:Go.Proofs.YtljkfjjchkehaaaGreatDoor.G w w'):FOwn w' base v l:=by
 rcases h with h|⟨b,cap,cur,e,h1,h2,h3⟩
 ·exact Or.inl h
 ·refine Or.inr ⟨b,cap,cur,e,h1,?_,h3⟩
  obtain⟨-,-,-,-,g5⟩:=g
  exact(g5 b (q7e h2)).trans h2
theorem FOwn.len {w:World} {base:Nat} {v:Value} {l:List Nat} (h:FOwn w base v l):∃ a c,v= .slice a l.length c:=by
 rcases h with ⟨rfl,rfl⟩|⟨b,cap,cur,rfl,-⟩
 ·exact⟨_,_,rfl⟩
 ·exact⟨_,_,rfl⟩
theorem FOwn.set {w:World} {base b i x n cap:Nat} {l:List Nat} (h:FOwn w base (.slice (some ⟨b,0,none⟩) n cap) l):FOwn (w.setCell ⟨b,i,none⟩ (.float .f64 x)) base (.slice (some ⟨b,0,none⟩) n cap) (l.set i x):=by
 rcases h with ⟨e,-⟩|⟨b',cap',cur,e,h1,h2,h3,h4,h5,h6,h7⟩
 ·cases e
 ·injection e with e1 e2 e3
  injection e1 with e1
  injection e1 with e1
  subst e1;subst e3
  refine Or.inr ⟨b,cap,cur.setIfInBounds i (.float .f64 x),by rw[List.length_set,e2],h1,?_,by rw[List.length_set];exact h3,h4,by simpa using h5,?_,?_⟩
  ·simp only[World.setCell,Array.getElem?_modify,if_true,h2,Option.map_some]
   simp
  ·rw[Array.toList_setIfInBounds,List.length_set]
   rw[List.take_set,h6]
   unfold fl
   rw[List.map_set]
  ·intro u hu
   rw[Array.toList_setIfInBounds] at hu
   rcases List.mem_or_eq_of_mem_set hu with hu|rfl
   ·exact h7 u hu
   ·trivial
theorem FOwn.own {w:World} {base:Nat} {v:Value} {l:List Nat} (h:FOwn w base v l) {b:Nat} (hb:b<base∨w.heap.size≤b):v.ownBlock≠some b:=by
 rcases h with ⟨rfl,-⟩|⟨g,cap,cur,rfl,h1,h2,-⟩
 ·intro e;cases e
 ·intro e
  have e1:g=b:=Option.some.inj e
  have:=q7e h2
  omega
theorem FOwn.oth {w w':World} {base:Nat} {v:Value} {l:List Nat} (h:FOwn w base v l) {b:Nat} (hb:v.ownBlock≠some b) (hw:∀ k,k≠b→w'.heap[k]? =w.heap[k]?):FOwn w' base v l:=by
 rcases h with h|⟨g,cap,cur,rfl,h1,h2,h3⟩
 ·exact Or.inl h
 ·exact Or.inr ⟨g,cap,cur,rfl,h1,by rw[hw g (by intro e;exact hb (by rw[← e];rfl))];exact h2,h3⟩
/-- What appending to a slice of our own leaves standing. -/
structure Onto (base:Nat) (v:Value) (w w':World):Prop where
 q:∀ (u:Value) (x:Rat),QIs w u x→QIs w' u x
 r:∀ (b:Nat) (L:List Value),Rec w b L→v.ownBlock≠some b→Rec w' b L
 g:∀ w0:World,w0.heap.size≤base→G w0 w→G w0 w'
/-- An append whose run is known. -/
theorem q3t {P:Program} (w:World) {ops:Array Oper} {rest:List Oper} {o:Oper} {a:Act} {Q:Exit→Act→World→Prop} (hgd:o.guard=none) (s x:Operand) (t:TypeId)
  (ho:o.op= .call {callee:= .builtin .append,args:=#[s,x],argTypes:=#[t,t]}) (v sl:Value) (hs:a.eval s=v) (hx:a.eval x=sl) {v':Value} {w':World}
  (hr:(Builtin.append_ #[t,t] o.type #[v,sl]).run P w= .ok v' w') (h:wpList P ops Q rest (a.put o.dst v') w'):wpList P ops Q (o::rest) a w:=
 wpList_plain hgd fun _ hK=>by
  unfold Oper.wp execOp
  simp only[ho,resolve,invoke,builtin,Sem.run_bind,Sem.run_pure,Result.andThen_ok,List.map_toArray,List.map_cons,List.map_nil,hs,hx,hr]
  exact hK _ _ h
end Go.Proofs.YtljkfjjchkehaaaGreatDoor.EN
namespace Go.Proofs.YtljkfjjchkehaaaGreatDoor.EN
open Go.RowKit
/-- Two entries change places. -/
def swap (l:List Nat) (p q:Nat):List Nat:=(l.set p (l.getD q 0)).set q (l.getD p 0)
/-- 1 for what is no number or infinite. -/
def bad (b:Nat):Int:=if fex b<2047 then 0 else 1
/-- Each word is below 2 to the power of 2099 units; sums of so many. -/
theorem q33 (b:Nat):(fz b).natAbs<2^2099:=by
 have hr:=rung_lt b
 have h:FT.v (FT.rung b)<2^2099:=by
  obtain⟨M,hM⟩:∃ M:Nat,M=2046:=⟨_,rfl⟩
  rw[show 2099=53+M from by omega,Nat.pow_add,v_ug]
  have h1:ug (FT.rung b)≤2^M:=Nat.pow_le_pow_right (by omega) (by omega)
  have h2:(if FT.rung b<2^52 then FT.rung b else 2^52+FT.rung b%2^52)<2^53:=by split<;>omega
  exact Nat.lt_of_lt_of_le (Nat.mul_lt_mul_of_pos_right h2 (qa9 _)) (Nat.mul_le_mul_left _ h1)
 unfold fz
 split
 ·rw[Int.natAbs_neg,Int.natAbs_natCast];exact h
 ·rw[Int.natAbs_natCast];exact h
end Go.Proofs.YtljkfjjchkehaaaGreatDoor.EN
namespace Go.Proofs.YtljkfjjchkehaaaGreatDoor.EN
open Go.ChangeShapes Go.WideShapes Go.ChangeAt Go.RowKit
/-- At block p lies the reference's ratio of a fraction. -/
def RIs (w:World) (p:Nat) (q:Rat):Prop:=RatIs w p q.num (q.den:Int)
theorem RIs.G {w w':World} {p:Nat} {q:Rat} (h:RIs w p q) (hp:p<w.heap.size) (g:G w w'):RIs w' p q:=RatIs.G h hp g
/-- A call hands back a new ratio. -/
def RetRat (w:World) (q:Rat) (e:Ending) (w':World):Prop:=∃ p,e= .returned (.pointer (some ⟨p,0,none⟩))∧G w w'∧w.heap.size≤p∧p<w'.heap.size∧RIs w' p q
/-- A call sets a ratio. -/
def SetRat (w:World) (b:Nat) (q:Rat) (e:Ending) (w':World):Prop:=e= .returned (.pointer (some ⟨b,0,none⟩))∧GX b w w'∧RIs w' b q
theorem SetRat.ret {w0 w:World} {b:Nat} {q:Rat} {e:Ending} {w':World} (g:G w0 w) (hb:w0.heap.size≤b) (hs:b<w.heap.size) (h:SetRat w b q e w'):RetRat w0 q e w':=
 ⟨b,h.1,GX.fresh g h.2.1 hb,hb,Nat.lt_of_lt_of_le hs h.2.1.size,h.2.2⟩
theorem qax (w:World) (b:Nat) (h:b<2^64) (hf:fex b<2047):Calls Tryz.prog 30 #[.float .f64 b] w (RetRat w (Uz (fz b))):=by
 have hq:FQ b=Uz (fz b):=q9n h hf
 obtain⟨e1,e2⟩:=q2l (q1Q (fex b)) (q:=FQ b) rfl
 refine(qad w b (fex b) (b%2^52) (fmag b) h rfl rfl hf rfl).mono ?_
 rintro e w' ⟨p,rfl,g,k1,k2,k3⟩
 refine⟨p,rfl,g,k1,k2,?_⟩
 rw[← hq]
 unfold RIs
 rw[e1,e2]
 exact k3
theorem qb32 {q:Rat} {K:Nat} (h:QB q K):q.num.natAbs<2^(32*(2*K))∧q.den<2^(32*(2*K)):=by
 have e:32*(2*K)=64*K:=by omega
 rw[e]
 exact h
theorem qaq (w:World) (bz bx b2:Nat) (s1 s2:Int) (x y:Rat) (K:Nat) (hK:K≤40000) (qx:QB x K) (qy:QB y K)
  (hbz:bz<w.heap.size) (hbx:bx<w.heap.size) (hby:b2<w.heap.size) (hz:RatIs w bz s1 s2) (hx:RIs w bx x) (hy:RIs w b2 y):
  Calls Tryz.prog 31 #[.pointer (some ⟨bz,0,none⟩),.pointer (some ⟨bx,0,none⟩),.pointer (some ⟨b2,0,none⟩)] w (SetRat w bz (x-y)):=by
 obtain⟨e1,e2⟩:=q2l (Nat.mul_pos x.den_pos y.den_pos) (q:=x-y) (Rat.sub_def' x y)
 refine(qat w bz bx b2 s1 s2 x.num y.num x.den y.den (2*K) (by omega) (qb32 qx).1 (qb32 qy).1 (qb32 qx).2 (qb32 qy).2 x.den_pos y.den_pos hbz hbx hby hz hx hy).mono ?_
 rintro e w' ⟨k1,k2,k3⟩
 refine⟨k1,k2,?_⟩
 unfold RIs
 rw[e1,e2]
 exact k3
/-- The same, or a new ratio, which stands for 0. -/
def RV (w:World) (p:Nat) (q:Rat):Prop:=RIs w p q∨(q=0∧RatIs w p 0 0)
theorem RV.G {w w':World} {p:Nat} {q:Rat} (h:RV w p q) (hp:p<w.heap.size) (g:G w w'):RV w' p q:=by
 rcases h with h|⟨h1,h⟩
 ·exact Or.inl (h.G hp g)
 ·exact Or.inr ⟨h1,RatIs.G h hp g⟩
theorem RV.v {w:World} {p:Nat} {q:Rat} (h:RV w p q):RatV w p q.num q.den:=by
 rcases h with h|⟨rfl,h⟩
 ·exact Or.inl h
 ·exact Or.inr ⟨rfl,rfl,h⟩
theorem q8W (w:World) (bz bx b2:Nat) (s1 s2:Int) (x y:Rat) (K:Nat) (hK:K≤40000) (qx:QB x K) (qy:QB y K)
  (hbz:bz<w.heap.size) (hbx:bx<w.heap.size) (hby:b2<w.heap.size) (hz:RatIs w bz s1 s2) (hx:RV w bx x) (hy:RV w b2 y):
  Calls Tryz.prog 29 #[.pointer (some ⟨bz,0,none⟩),.pointer (some ⟨bx,0,none⟩),.pointer (some ⟨b2,0,none⟩)] w (SetRat w bz (x+y)):=by
 obtain⟨e1,e2⟩:=q2l (Nat.mul_pos x.den_pos y.den_pos) (q:=x+y) (Rat.add_def' x y)
 refine(qaB w bz bx b2 s1 s2 x.num y.num x.den y.den (2*K) (by omega) (qb32 qx).1 (qb32 qy).1 (qb32 qx).2 (qb32 qy).2 x.den_pos y.den_pos hbz hbx hby hz hx.v hy.v).mono ?_
 rintro e w' ⟨k1,k2,k3⟩
 refine⟨k1,k2,?_⟩
 unfold RIs
 rw[e1,e2]
 exact k3
theorem qay (w:World) (bz bx b2:Nat) (s1 s2:Int) (x y:Rat) (K:Nat) (hK:K≤40000) (qx:QB x K) (qy:QB y K)
  (hbz:bz<w.heap.size) (hbx:bx<w.heap.size) (hby:b2<w.heap.size) (hz:RatIs w bz s1 s2) (hx:RIs w bx x) (hy:RIs w b2 y):
  Calls Tryz.prog 29 #[.pointer (some ⟨bz,0,none⟩),.pointer (some ⟨bx,0,none⟩),.pointer (some ⟨b2,0,none⟩)] w (SetRat w bz (x+y)):=
 q8W w bz bx b2 s1 s2 x y K hK qx qy hbz hbx hby hz (Or.inl hx) (Or.inl hy)
theorem qaV (w:World) (bz bx b2:Nat) (s1 s2:Int) (x y:Rat) (K:Nat) (hK:K≤40000) (qx:QB x K) (qy:QB y K)
  (hbz:bz<w.heap.size) (hbx:bx<w.heap.size) (hby:b2<w.heap.size) (hz:RatIs w bz s1 s2) (hx:RV w bx x) (hy:RV w b2 y):
  Calls Tryz.prog 14 #[.pointer (some ⟨bz,0,none⟩),.pointer (some ⟨bx,0,none⟩),.pointer (some ⟨b2,0,none⟩)] w (SetRat w bz (x*y)):=by
 obtain⟨e1,e2⟩:=q2l (Nat.mul_pos x.den_pos y.den_pos) (q:=x*y) (Rat.mul_def' x y)
 refine(qaW w bz bx b2 s1 s2 x.num y.num x.den y.den (2*K) (by omega) (qb32 qx).1 (qb32 qy).1 (qb32 qx).2 (qb32 qy).2 x.den_pos y.den_pos hbz hbx hby hz hx.v hy.v).mono ?_
 rintro e w' ⟨k1,k2,k3⟩
 refine⟨k1,k2,?_⟩
 unfold RIs
 rw[e1,e2]
 exact k3
theorem qaD (w:World) (bz bx b2:Nat) (s1 s2:Int) (x y:Rat) (K:Nat) (hK:K≤40000) (qx:QB x K) (qy:QB y K)
  (hbz:bz<w.heap.size) (hbx:bx<w.heap.size) (hby:b2<w.heap.size) (hz:RatIs w bz s1 s2) (hx:RIs w bx x) (hy:RIs w b2 y):
  Calls Tryz.prog 14 #[.pointer (some ⟨bz,0,none⟩),.pointer (some ⟨bx,0,none⟩),.pointer (some ⟨b2,0,none⟩)] w (SetRat w bz (x*y)):=
 qaV w bz bx b2 s1 s2 x y K hK qx qy hbz hbx hby hz (Or.inl hx) (Or.inl hy)
theorem qar (w:World) (bz b2:Nat) (x y:Rat) (K:Nat) (hK:K≤40000) (qx:QB x K) (qy:QB y K)
  (hbz:bz<w.heap.size) (hby:b2<w.heap.size) (hx:RV w bz x) (hy:RIs w b2 y):
  Calls Tryz.prog 29 #[.pointer (some ⟨bz,0,none⟩),.pointer (some ⟨bz,0,none⟩),.pointer (some ⟨b2,0,none⟩)] w (SetRat w bz (x+y)):=by
 have hz:∃ s1 s2,RatIs w bz s1 s2:=by
  rcases hx with h|⟨-,h⟩
  ·exact⟨_,_,h⟩
  ·exact⟨_,_,h⟩
 obtain⟨s1,s2,hz⟩:=hz
 exact q8W w bz bz b2 s1 s2 x y K hK qx qy hbz hbz hby hz hx (Or.inl hy)
theorem q2W (w:World) (b:Nat) (h:b<2^64):Calls Tryz.prog 44 #[.float .f64 b] w fun e w'=>e= .returned (.bool (decide (fex b<2047)))∧G w w':=by
 have e:decide (fex b<2047)=decide (FT.rung b<FT.infR):=by
  have:=q2o b
  exact decide_eq_decide.2 this
 rw[e]
 exact q86 b w h
theorem q8K (w:World) (c a:Int):Calls Tryz.prog 13 #[.int .i64 c,.int .i64 a] w fun e w'=>e= .returned (.agg #[.int .i64 c,.int .i64 a])∧G w w':=by
 go_enter Tryz.func13,Tryz.ntmps13
 go_wp2_with fail
 have R0:Hid (Rec (w.alloc (.cells #[.int .i64 c,.int .i64 a] 29)) w.heap.size [.int .i64 c,.int .i64 a]):=Rec.new2 w _ _ _
 have g0:G w (w.alloc (.cells #[.int .i64 c,.int .i64 a] 29)):=(G.refl w).alloc _
 generalize w.alloc (.cells #[.int .i64 c,.int .i64 a] 29)=w0 at *
 have pE:=Rec.f2 (Rec.G R0.out (G.refl _))
 have JM:=pE.1
 have JN:=pE.2.1
 have JO:=pE.2.2.1
 have JP:=pE.2.2.2
 clear pE
 refine bodyPost_ret (v:= .agg #[.int .i64 c,.int .i64 a]) (by simp [results,Tryz.results13,go_sem, *]) rfl ?_
 exact⟨rfl,g0⟩
theorem q3e (b:Nat):QB (Uz (fz b)) 80:=by
 refine qaO ?_
 have h:=q33 b
 obtain⟨M,hM⟩:∃ M:Nat,M=5000:=⟨_,rfl⟩
 obtain⟨N,hN⟩:∃ N:Nat,N=2099:=⟨_,rfl⟩
 rw[← hM]
 rw[← hN] at h
 exact Nat.lt_of_lt_of_le h (Nat.pow_le_pow_right (by omega) (by omega))
end Go.Proofs.YtljkfjjchkehaaaGreatDoor.EN
namespace Go.Proofs.YtljkfjjchkehaaaGreatDoor
theorem Rec.new6 (w:World) (a b c d e f:Value) (t:TypeId):Rec (w.alloc (.cells #[a,b,c,d,e,f] t)) w.heap.size [a,b,c,d,e,f]:=Rec.new w [a,b,c,d,e,f] t
theorem Rec.f6 {w:World} {b:Nat} {x0 x1 x2 x3 x4 x5:Value} (h:Rec w b [x0,x1,x2,x3,x4,x5]):w.cell? ⟨b,0,none⟩=some x0∧w.cell? ⟨b,1,none⟩=some x1∧w.cell? ⟨b,2,none⟩=some x2∧w.cell? ⟨b,3,none⟩=some x3∧w.cell? ⟨b,4,none⟩=some x4∧w.cell? ⟨b,5,none⟩=some x5∧
  w.frozen? ⟨b,0,none⟩=false∧w.frozen? ⟨b,1,none⟩=false∧w.frozen? ⟨b,2,none⟩=false∧w.frozen? ⟨b,3,none⟩=false∧w.frozen? ⟨b,4,none⟩=false∧w.frozen? ⟨b,5,none⟩=false:=
 ⟨h.cell 0,h.cell 1,h.cell 2,h.cell 3,h.cell 4,h.cell 5,h.frozen 0,h.frozen 1,h.frozen 2,h.frozen 3,h.frozen 4,h.frozen 5⟩
end Go.Proofs.YtljkfjjchkehaaaGreatDoor
namespace Go.Proofs.YtljkfjjchkehaaaGreatDoor.EN
open Go.ChangeShapes Go.WideShapes Go.ChangeAt Go.RowKit
theorem q4w (w:World) (x y:Nat) (hT:Tab w) (hx:x<2^64) (hy:y<2^64) (hfx:fex x<2047) (gY:fex y<2047):
  Calls Tryz.prog 122 #[.float .f64 x,.float .f64 y] w (RetQ w (Uz (fz x-fz y))):=by
 have lg:Hid (∀ w1,G w w1→Calls Tryz.prog 94 #[.float .f64 x] w1 (q8z w1 (Uz (fz x)) 0)):=fun w1 g=>by
  rw[← q9n hx hfx];exact of_c w1 x (hT.G g) hx hfx
 have eB:Hid (∀ w1,G w w1→Calls Tryz.prog 94 #[.float .f64 y] w1 (q8z w1 (Uz (fz y)) 0)):=fun w1 g=>by
  rw[← q9n hy gY];exact of_c w1 y (hT.G g) hy gY
 have HS:Hid (∀ w1 v u,G w w1→QIs w1 v (Uz (fz x))→QIs w1 u (Uz (fz y))→Calls Tryz.prog 63 #[v,u] w1 (RetQ w1 (Uz (fz x-fz y)))):=fun w1 v u g h1 h2=>by
  rw[← q7s]
  exact q8H w1 v u _ _ 80 (by omega) (by omega) (hT.G g) h1 h2 (q3e x) (q3e y)
 clear hT hx hy hfx gY
 generalize Uz (fz x-fz y)=r at *
 generalize Uz (fz x)=p at *
 generalize Uz (fz y)=q at *
 go_enter Tryz.func122,Tryz.ntmps122
 go_wp2_with fail
 obtain⟨w0,aH,g0,hz0,R0⟩:=q0x w [.bool false,.slice none 0 0,.slice none 0 0] 97
 rw[aH]
 clear aH
 refine Calls.mono (P:=Tryz.prog) (lg.out w0 g0) ?_
 intro e1 w1 hs
 obtain⟨v,rfl,g1,hv⟩:=hs
 have HV:Hid (QIs w1 v p):=hv
 obtain⟨a8,k8,c8,a9,k9,c9,rfl,-,-⟩:=hv
 generalize decide (p.num<0)=t9 at *
 have RR:Hid (Rec w1 w.heap.size [.bool false,.slice none 0 0,.slice none 0 0]):=Rec.G R0.out g1
 have dN:=G.trans g0 g1
 clear lg R0 g0 g1 hz0
 go_wp2_with fail
 obtain⟨w2,aH,g2,hz2,R0⟩:=q0x w1 [.bool t9,.slice a8 k8 c8,.slice a9 k9 c9] 97
 rw[aH]
 clear aH
 refine Calls.mono (P:=Tryz.prog) (eB.out w2 (G.trans dN g2)) ?_
 intro e1 w3 hs
 obtain⟨u,rfl,g3,hu⟩:=hs
 have HU:Hid (QIs w3 u q):=hu
 obtain⟨a6,k6,c6,a7,k7,c7,rfl,-,-⟩:=hu
 generalize decide (q.num<0)=t7 at *
 have g13:=G.trans g2 g3
 have R3:Hid (Rec w3 w1.heap.size _):=Rec.G R0.out g3
 have qm:Hid (QIs w3 _ p):=QIs.G HV.out g13
 clear eB HV R0 hz2 g2 g3
 have hlt:=R3.out.lt
 have lh:=Rec.f3 (Rec.G R3.out (G.refl _))
 have ZZ:=lh.1
 have uf:=lh.2.1
 have uh:=lh.2.2.1
 have ui:=lh.2.2.2.1
 have uj:=lh.2.2.2.2.1
 have uk:=lh.2.2.2.2.2
 clear lh
 go_wp2_with fail
 clear ZZ uf uh ui uj uk hlt
 obtain⟨w4,aH,g4,Po,R0⟩:=q0x w3 [.bool t7,.slice a6 k6 c6,.slice a7 k7 c7] 97
 rw[aH]
 clear aH
 have g14:=G.trans g13 g4
 refine Calls.mono (P:=Tryz.prog) (HS.out w4 _ _ (G.trans dN g14) (QIs.G qm.out g4) (QIs.G HU.out g4)) ?_
 intro e1 w5 hs
 obtain⟨s,rfl,g5,hs5⟩:=hs
 have g15:=G.trans g14 g5
 clear HS qm HU R0 R3 Po
 obtain⟨a8,k8,c8,a9,k9,c9,rfl,ed,bX⟩:=hs5
 have ja:Hid (Num w5 (.slice a8 k8 c8) (r).num.natAbs):=ed
 have eG:Hid (Num w5 (.slice a9 k9 c9) (q1E (r).den)):=bX
 obtain⟨t9,bK⟩:∃ t,t=decide ((r).num<0):=⟨_,rfl⟩
 rw[← bK]
 have fu:Hid (t9=decide ((r).num<0)):=bK
 clear ed bX bK
 have hS:=Rec.f3 (Rec.G RR.out ((g15)))
 have bD:=hS.1
 have bE:=hS.2.1
 have bF:=hS.2.2.1
 have bG:=hS.2.2.2.1
 have dn:=hS.2.2.2.2.1
 have dw:=hS.2.2.2.2.2
 clear hS
 have dz:Num _ _ _:=q0k (u1:= .bool t9) (u2:= .slice a8 k8 c8) (u3:= .slice a9 k9 c9) ja.out (Rec.G RR.out (g15)) trivial trivial trivial
 have bn:Num _ _ _:=q0k (u1:= .bool t9) (u2:= .slice a8 k8 c8) (u3:= .slice a9 k9 c9) eG.out (Rec.G RR.out (g15)) trivial trivial trivial
 go_wp2_with fail
 have hT:Hid (Rec (World.setCell (World.setCell (World.setCell w5 ⟨w.heap.size,0,none⟩ (.bool t9)) ⟨w.heap.size,1,none⟩ (.slice a8 k8 c8)) ⟨w.heap.size,2,none⟩ (.slice a9 k9 c9)) (w.heap.size) [.bool t9,.slice a8 k8 c8,.slice a9 k9 c9]):=Rec.set3 (Rec.G RR.out (g15))
 have g9:=Rec.g3 (b:=w.heap.size) (u:= .bool t9) (v:= .slice a8 k8 c8) (x:= .slice a9 k9 c9) (G.trans dN g15) (by omega)
 generalize (World.setCell (World.setCell (World.setCell w5 ⟨w.heap.size,0,none⟩ (.bool t9)) ⟨w.heap.size,1,none⟩ (.slice a8 k8 c8)) ⟨w.heap.size,2,none⟩ (.slice a9 k9 c9))=w9 at *
 have hF:=Rec.f3 (Rec.G hT.out ((G.refl _)))
 have bP:=hF.1
 have bQ:=hF.2.1
 have bR:=hF.2.2.1
 have bS:=hF.2.2.2.1
 have gK:=hF.2.2.2.2.1
 have gL:=hF.2.2.2.2.2
 clear hF
 refine bodyPost_ret (v:= .agg #[.bool t9,.slice a8 k8 c8,.slice a9 k9 c9]) (by simp [results,Tryz.results122,go_sem, *]) rfl ?_
 exact⟨_,rfl,g9,a8,k8,c8,a9,k9,c9,by rw[← fu.out],dz,bn⟩
/-- Six cells written. -/
def set6 (w:World) (b:Nat) (x0 x1 x2 x3 x4 x5:Value):World:=(((((w.setCell ⟨b,0,none⟩ x0).setCell ⟨b,1,none⟩ x1).setCell ⟨b,2,none⟩ x2).setCell ⟨b,3,none⟩ x3).setCell ⟨b,4,none⟩ x4).setCell ⟨b,5,none⟩ x5
theorem q2H {w:World} {b:Nat} {y0 y1 y2 y3 y4 y5 x0 x1 x2 x3 x4 x5:Value} (h:Rec w b [y0,y1,y2,y3,y4,y5]):Rec (set6 w b x0 x1 x2 x3 x4 x5) b [x0,x1,x2,x3,x4,x5]:=(((((h.set 0 x0).set 1 x1).set 2 x2).set 3 x3).set 4 x4).set 5 x5
theorem q5j {w0 w:World} {b:Nat} {x0 x1 x2 x3 x4 x5:Value} (g:G w0 w) (h:w0.heap.size≤b):G w0 (set6 w b x0 x1 x2 x3 x4 x5):=
 (((((g.setCell (p:=⟨b,0,none⟩) h x0).setCell (p:=⟨b,1,none⟩) h x1).setCell (p:=⟨b,2,none⟩) h x2).setCell (p:=⟨b,3,none⟩) h x3).setCell (p:=⟨b,4,none⟩) h x4).setCell (p:=⟨b,5,none⟩) h x5
theorem q5p {w:World} {b:Nat} {v:Value} {q:Rat} {y0 y1 y2 y3 y4 y5 x0 x1 x2 x3 x4 x5:Value} (h:QIs w v q) (r:Rec w b [y0,y1,y2,y3,y4,y5]) (hl:∀ x∈[y0,y1,y2,y3,y4,y5],noU x):QIs (set6 w b x0 x1 x2 x3 x4 x5) v q:=
 h.apart r hl (fun i k hi=>by
  have ho:∀ (w1:World) (j:Nat) (x:Value),(w1.setCell ⟨b,j,none⟩ x).cell? ⟨i,k,none⟩=w1.cell? ⟨i,k,none⟩:=fun w1 j x=>World.cell?_setCell_other _ _ _ _ (by intro e;injection e with e1;exact hi e1.symm)
  unfold set6
  rw[ho,ho,ho,ho,ho,ho]) (by simp [set6,World.setCell])
/-- A step's two parts. -/
def StepIs (w:World) (v:Value) (p q:Rat):Prop:=∃ t a k c a' k' c' t2 b j d b' j' d',v= .agg #[.bool t,.slice a k c,.slice a' k' c',.bool t2,.slice b j d,.slice b' j' d']∧QIs w (.agg #[.bool t,.slice a k c,.slice a' k' c']) p∧QIs w (.agg #[.bool t2,.slice b j d,.slice b' j' d']) q
theorem StepIs.G {w w':World} {v:Value} {p q:Rat} (h:StepIs w v p q) (g:Go.Proofs.YtljkfjjchkehaaaGreatDoor.G w w'):StepIs w' v p q:=by
 obtain⟨t,a,k,c,a',k',c',t2,b,j,d,b',j',d',e,h1,h2⟩:=h
 exact⟨t,a,k,c,a',k',c',t2,b,j,d,b',j',d',e,h1.G g,h2.G g⟩
def q9c (w:World) (p q:Rat) (e:Ending) (w':World):Prop:=∃ v,e= .returned v∧G w w'∧StepIs w' v p q
theorem q1H (w:World) (x1 y1 x2 y2:Nat) (hT:Tab w) (h1:x1<2^64) (h2:y1<2^64) (h3:x2<2^64) (h4:y2<2^64) (f1:fex x1<2047) (f2:fex y1<2047) (f3:fex x2<2047) (f4:fex y2<2047):
  Calls Tryz.prog 78 #[.agg #[.float .f64 x1,.float .f64 y1],.agg #[.float .f64 x2,.float .f64 y2]] w (q9c w (Uz (fz x2-fz x1)) (Uz (fz y2-fz y1))):=by
 have KS:Hid (∀ w1,G w w1→_):=fun w1 g=>q4w w1 x2 x1 (hT.G g) h3 h1 f3 f1
 have HL2:Hid (∀ w1,G w w1→_):=fun w1 g=>q4w w1 y2 y1 (hT.G g) h4 h2 f4 f2
 clear hT h1 h2 h3 h4 f1 f2 f3 f4
 generalize Uz (fz x2-fz x1)=p at *
 generalize Uz (fz y2-fz y1)=q at *
 go_enter Tryz.func78,Tryz.ntmps78
 go_wp2_with fail
 obtain⟨w0,aH,g0,hz0,R0,R1,R2⟩:=q1o w [.float .f64 x1,.float .f64 y1] [.float .f64 x2,.float .f64 y2] [.bool false,.slice none 0 0,.slice none 0 0,.bool false,.slice none 0 0,.slice none 0 0] 66 66 124
 rw[aH]
 clear aH
 refine region_each 10 2 #[true,true,true,true,true,true,true,true,true,true,false,false] [.is (.pointer (some ⟨w.heap.size+1,0,none⟩)),.is (.float .f64 x2),.is (.pointer (some ⟨w.heap.size,0,none⟩)),.is (.float .f64 x1),.any (fun v w'=>QIs w' v (p)),.is (.pointer (some ⟨w.heap.size+1,1,none⟩)),.is (.float .f64 y2),.is (.pointer (some ⟨w.heap.size,1,none⟩)),.is (.float .f64 y1),.any (fun v w'=>QIs w' v (q))] [some 5,some 6,some 7,some 8,some 9,some 10,some 11,some 12,some 13,some 14] (by kernel_rfl) (by kernel_rfl) rfl (by kernel_rfl) (by repeat (first|exact trivial|refine⟨fun _ _ _ g h=>by first|exact h.G g|exact fun w3 g3=>h w3 (G.trans g g3),?_⟩)) (by kernel_rfl) (by kernel_rfl) ?_
 refine Letters.is ?_
 refine Letters.is ?_
 refine Letters.is ?_
 refine Letters.is ?_
 refine Letters.any fun v4=> ?_
 refine Letters.is ?_
 refine Letters.is ?_
 refine Letters.is ?_
 refine Letters.is ?_
 refine Letters.any fun v9=> ?_
 refine Letters.nil ?_
 intro A hA
 simp only[q0K,Act.put,List.setIfInBounds_toArray,List.set_cons_zero,List.set_cons_succ] at hA
 subst hA
 refine⟨?_,?_⟩
 ·skip
  refine Eaches.cons rfl ?dH (Eaches.cons rfl ?dL (Eaches.cons rfl ?eD (Eaches.cons rfl ?dM (Eaches.cons rfl ?fE (Eaches.cons rfl ?fV (Eaches.cons rfl ?fq (Eaches.cons rfl ?eF (Eaches.cons rfl ?fF (Eaches.cons rfl ?jf (Eaches.nil))))))))))
  case dH|eD|fV|eF=>
   intro W hW hD K hK
   clear hD
   go_simp
   exact hK.out _ _ ⟨_,rfl,G.refl _,rfl⟩
  case dL|dM|fq|fF=>
   intro W hW hD K hK
   clear hD
   have hR0:=Rec.f2 (Rec.G R0.out hW)
   have dE:=hR0.1
   have dF:=hR0.2.1
   clear hR0
   have dC:=Rec.f2 (Rec.G R1.out hW)
   have gp:=dC.1
   have gq:=dC.2.1
   clear dC
   go_simp
   exact hK.out _ _ ⟨_,rfl,G.refl _,rfl⟩
  ·intro W hW hD K hK
   clear hD
   go_simp
   go_wp2_with (go_at_call 122;refine Calls.mono (P:=Tryz.prog) (KS.out W (G.trans g0 hW)) ?_;intro e w9 hs;obtain⟨u9,rfl,g9,aD⟩:=hs)
   exact hK.out _ _ ⟨_,rfl,g9,aD⟩
  ·intro W hW hD K hK
   clear hD
   go_simp
   go_wp2_with (go_at_call 122;refine Calls.mono (P:=Tryz.prog) (HL2.out W (G.trans g0 hW)) ?_;intro e w9 hs;obtain⟨u9,rfl,g9,aD⟩:=hs)
   exact hK.out _ _ ⟨_,rfl,g9,aD⟩
 intro w1 g1 hH
 have h4:=Helds.get (v:=v4) 4 hH rfl rfl
 have h9:=Helds.get (v:=v9) 9 hH rfl rfl
 clear hH
 clear KS HL2
 have yf:Hid (QIs w1 v4 p):=h4
 have KT:Hid (QIs w1 v9 q):=h9
 obtain⟨a8,k8,c8,a9,k9,c9,rfl,-,-⟩:=h4
 obtain⟨a6,k6,c6,a7,k7,c7,rfl,-,-⟩:=h9
 generalize decide (p.num<0)=t9 at *
 generalize decide (q.num<0)=t7 at *
 have RR:Hid (Rec w1 (w.heap.size+1+1) [.bool false,.slice none 0 0,.slice none 0 0,.bool false,.slice none 0 0,.slice none 0 0]):=Rec.G R2.out g1
 have dN:=G.trans g0 g1
 clear R0 R1 R2 g0 g1 hz0
 have hnu:∀ x∈[Value.bool false,.slice none 0 0,.slice none 0 0,.bool false,.slice none 0 0,.slice none 0 0],noU x:=by
  intro x hx m e
  subst e
  simp at hx
 have yg:Hid (QIs (set6 w1 (w.heap.size+1+1) (.bool t9) (.slice a8 k8 c8) (.slice a9 k9 c9) (.bool t7) (.slice a6 k6 c6) (.slice a7 k7 c7)) _ p):=q5p yf.out RR.out hnu
 have KU:Hid (QIs (set6 w1 (w.heap.size+1+1) (.bool t9) (.slice a8 k8 c8) (.slice a9 k9 c9) (.bool t7) (.slice a6 k6 c6) (.slice a7 k7 c7)) _ q):=q5p KT.out RR.out hnu
 have RS:Hid (Rec (set6 w1 (w.heap.size+1+1) (.bool t9) (.slice a8 k8 c8) (.slice a9 k9 c9) (.bool t7) (.slice a6 k6 c6) (.slice a7 k7 c7)) _ _):=q2H RR.out
 have gS:G w (set6 w1 (w.heap.size+1+1) (.bool t9) (.slice a8 k8 c8) (.slice a9 k9 c9) (.bool t7) (.slice a6 k6 c6) (.slice a7 k7 c7)):=q5j dN (by omega)
 clear yf KT hnu
 obtain⟨hc0,hc1,hc2,hc3,hc4,nU,hf0,hf1,hf2,hf3,kW,mD⟩:=RR.out.f6
 refine wpAny_ready (rs:=[10]) (by kernel_rfl) (by simp) ?_
 refine AllReady.cons rfl (fun K hK=> ?_) AllReady.nil
 go_simp
 refine hK _ _ ?_
 clear hK K
 refine wpAny_ready (rs:=[11]) (by kernel_rfl) (by simp) ?_
 refine AllReady.cons rfl (fun K hK=> ?_) AllReady.nil
 go_simp
 refine hK _ _ ?_
 clear hK K hc0 hc1 hc2 hc3 hc4 nU hf0 hf1 hf2 hf3 kW mD
 refine wpAny_done (by kernel_rfl) ?_ _
 unfold set6 at yg KU RS gS
 generalize (((((w1.setCell ⟨w.heap.size+1+1,0,none⟩ (.bool t9)).setCell ⟨w.heap.size+1+1,1,none⟩ (.slice a8 k8 c8)).setCell ⟨w.heap.size+1+1,2,none⟩ (.slice a9 k9 c9)).setCell ⟨w.heap.size+1+1,3,none⟩ (.bool t7)).setCell ⟨w.heap.size+1+1,4,none⟩ (.slice a6 k6 c6)).setCell ⟨w.heap.size+1+1,5,none⟩ (.slice a7 k7 c7)=w2 at *
 obtain⟨hc0,hc1,hc2,hc3,hc4,nU,-⟩:=RS.out.f6
 go_wp2_with fail
 refine bodyPost_ret (v:= .agg #[.bool t9,.slice a8 k8 c8,.slice a9 k9 c9,.bool t7,.slice a6 k6 c6,.slice a7 k7 c7]) (by simp [results,Tryz.results78,go_sem, *]) rfl ?_
 exact⟨_,rfl,gS,t9,a8,k8,c8,a9,k9,c9,t7,a6,k6,c6,a7,k7,c7,rfl,yg.out,KU.out⟩
theorem q3Q (w:World) (v u:Value) (px py qx qy:Rat) (K:Nat) (hK1:1≤K) (hK:K≤10000) (hT:Tab w) (hv:StepIs w v px py) (hu:StepIs w u qx qy) (b1:QB px K) (b2:QB py K) (b3:QB qx K) (b4:QB qy K):
  Calls Tryz.prog 80 #[v,u] w (RetQ w (px*qy-py*qx)):=by
 obtain⟨t1,a1,k1,c1,a2,k2,c2,t2,a3,k3,c3,a4,k4,c4,rfl,hp1,hp2⟩:=hv
 obtain⟨t3,a5,k5,c5,a6,k6,c6,t4,a7,k7,c7,a8,k8,c8,rfl,hq1,hq2⟩:=hu
 have j6:Hid (∀ w1,G w w1→_):=fun w1 g=>q37 w1 _ _ px qy K (by omega) hK1 (hT.G g) (hp1.G g) (hq2.G g) b1 b4
 have gZ:Hid (∀ w1,G w w1→_):=fun w1 g=>q37 w1 _ _ py qx K (by omega) hK1 (hT.G g) (hp2.G g) (hq1.G g) b2 b3
 have HS:Hid (∀ w1 v u,G w w1→QIs w1 v (px*qy)→QIs w1 u (py*qx)→_):=fun w1 v u g k1 k2=>q8H w1 v u _ _ (K+K) (by omega) (by omega) (hT.G g) k1 k2 (q1k b1 b4) (q1k b2 b3)
 clear hT hp1 hp2 hq1 hq2 b1 b2 b3 b4
 generalize px*qy-py*qx=r at *
 generalize px*qy=p at *
 generalize py*qx=q at *
 go_enter Tryz.func80,Tryz.ntmps80
 go_wp2_with fail
 obtain⟨w0,aH,g0,hz0,R0,R1,R2⟩:=q1o w [.bool t1,.slice a1 k1 c1,.slice a2 k2 c2,.bool t2,.slice a3 k3 c3,.slice a4 k4 c4] [.bool t3,.slice a5 k5 c5,.slice a6 k6 c6,.bool t4,.slice a7 k7 c7,.slice a8 k8 c8] [.bool false,.slice none 0 0,.slice none 0 0] 124 124 97
 rw[aH]
 clear aH
 refine region_each 11 1 #[true,true,true,true,true,true,true,true,true,true,true,false] [.is (.pointer (some ⟨w.heap.size,0,none⟩)),.is (.agg #[.bool t1,.slice a1 k1 c1,.slice a2 k2 c2]),.is (.pointer (some ⟨w.heap.size+1,3,none⟩)),.is (.agg #[.bool t4,.slice a7 k7 c7,.slice a8 k8 c8]),.any (fun v w'=>QIs w' v (p)),.is (.pointer (some ⟨w.heap.size,3,none⟩)),.is (.agg #[.bool t2,.slice a3 k3 c3,.slice a4 k4 c4]),.is (.pointer (some ⟨w.heap.size+1,0,none⟩)),.is (.agg #[.bool t3,.slice a5 k5 c5,.slice a6 k6 c6]),.any (fun v w'=>QIs w' v (q)),.any (fun v w'=>QIs w' v (r))] [some 5,some 6,some 7,some 8,some 9,some 10,some 11,some 12,some 13,some 14,some 15] (by kernel_rfl) (by kernel_rfl) rfl (by kernel_rfl) (by repeat (first|exact trivial|refine⟨fun _ _ _ g h=>by first|exact h.G g|exact fun w3 g3=>h w3 (G.trans g g3),?_⟩)) (by kernel_rfl) (by kernel_rfl) ?_
 refine Letters.is ?_
 refine Letters.is ?_
 refine Letters.is ?_
 refine Letters.is ?_
 refine Letters.any fun v4=> ?_
 refine Letters.is ?_
 refine Letters.is ?_
 refine Letters.is ?_
 refine Letters.is ?_
 refine Letters.any fun v9=> ?_
 refine Letters.any fun v10=> ?_
 refine Letters.nil ?_
 intro A hA
 simp only[q0K,Act.put,List.setIfInBounds_toArray,List.set_cons_zero,List.set_cons_succ] at hA
 subst hA
 refine⟨?_,?_⟩
 ·skip
  refine Eaches.cons rfl ?dH (Eaches.cons rfl ?dL (Eaches.cons rfl ?eD (Eaches.cons rfl ?dM (Eaches.cons rfl ?fE (Eaches.cons rfl ?fV (Eaches.cons rfl ?fq (Eaches.cons rfl ?eF (Eaches.cons rfl ?fF (Eaches.cons rfl ?jf (Eaches.cons rfl ?fZ (Eaches.nil)))))))))))
  case dH|eD|fV|eF=>
   intro W hW hD K hK
   clear hD
   go_simp
   exact hK.out _ _ ⟨_,rfl,G.refl _,rfl⟩
  case dL|dM|fq|fF=>
   intro W hW hD K hK
   clear hD
   have hR0:=Rec.f6 (Rec.G R0.out hW)
   have dE:=hR0.1
   have dF:=hR0.2.1
   have nO:=hR0.2.2.1
   have yF:=hR0.2.2.2.1
   have yG:=hR0.2.2.2.2.1
   have yH:=hR0.2.2.2.2.2.1
   clear hR0
   have dC:=Rec.f6 (Rec.G R1.out hW)
   have gp:=dC.1
   have gq:=dC.2.1
   have rX:=dC.2.2.1
   have KP:=dC.2.2.2.1
   have KQ:=dC.2.2.2.2.1
   have KR:=dC.2.2.2.2.2.1
   clear dC
   go_simp
   exact hK.out _ _ ⟨_,rfl,G.refl _,rfl⟩
  ·intro W hW hD K hK
   clear hD
   go_simp
   go_wp2_with (go_at_call 56;refine Calls.mono (P:=Tryz.prog) (j6.out W (G.trans g0 hW)) ?_;intro e w9 hs;obtain⟨u9,rfl,g9,aD⟩:=hs)
   exact hK.out _ _ ⟨_,rfl,g9,aD⟩
  ·intro W hW hD K hK
   clear hD
   go_simp
   go_wp2_with (go_at_call 56;refine Calls.mono (P:=Tryz.prog) (gZ.out W (G.trans g0 hW)) ?_;intro e w9 hs;obtain⟨u9,rfl,g9,aD⟩:=hs)
   exact hK.out _ _ ⟨_,rfl,g9,aD⟩
  ·intro W hW hD K hK
   have h4:=Deps.get (v:=v4) 4 hD rfl rfl (by kernel_rfl)
   have h9:=Deps.get (v:=v9) 9 hD rfl rfl (by kernel_rfl)
   clear hD
   go_simp
   go_wp2_with (go_at_call 63;refine Calls.mono (P:=Tryz.prog) (HS.out W v4 v9 (G.trans g0 hW) h4 h9) ?_;intro e w9 hs;obtain⟨u9,rfl,g9,aD⟩:=hs)
   exact hK.out _ _ ⟨_,rfl,g9,aD⟩
 intro w1 g1 hH
 have h10:=Helds.get (v:=v10) 10 hH rfl rfl
 clear hH
 clear j6 gZ HS
 have RR:Hid (Rec w1 (w.heap.size+1+1) [.bool false,.slice none 0 0,.slice none 0 0]):=Rec.G R2.out g1
 obtain⟨a8,k8,c8,a9,k9,c9,rfl,ed,bX⟩:=h10
 have ja:Hid (Num w1 (.slice a8 k8 c8) (r).num.natAbs):=ed
 have eG:Hid (Num w1 (.slice a9 k9 c9) (q1E (r).den)):=bX
 obtain⟨t9,bK⟩:∃ t,t=decide ((r).num<0):=⟨_,rfl⟩
 rw[← bK]
 have fu:Hid (t9=decide ((r).num<0)):=bK
 clear ed bX bK
 have hS:=Rec.f3 (Rec.G RR.out (G.refl _))
 have bD:=hS.1
 have bE:=hS.2.1
 have bF:=hS.2.2.1
 have bG:=hS.2.2.2.1
 have dn:=hS.2.2.2.2.1
 have dw:=hS.2.2.2.2.2
 clear hS
 refine wpAny_ready (rs:=[11]) (by kernel_rfl) (by simp) ?_
 refine AllReady.cons rfl (fun K hK=> ?_) AllReady.nil
 go_simp
 refine hK _ _ ?_
 clear hK K bD bE bF bG dn dw
 refine wpAny_done (by kernel_rfl) ?_ _
 have dz:Num _ _ _:=q0k (u1:= .bool t9) (u2:= .slice a8 k8 c8) (u3:= .slice a9 k9 c9) ja.out (Rec.G RR.out (G.refl _)) trivial trivial trivial
 have bn:Num _ _ _:=q0k (u1:= .bool t9) (u2:= .slice a8 k8 c8) (u3:= .slice a9 k9 c9) eG.out (Rec.G RR.out (G.refl _)) trivial trivial trivial
 go_wp2_with fail
 have hT:Hid (Rec (World.setCell (World.setCell (World.setCell w1 ⟨w.heap.size+1+1,0,none⟩ (.bool t9)) ⟨w.heap.size+1+1,1,none⟩ (.slice a8 k8 c8)) ⟨w.heap.size+1+1,2,none⟩ (.slice a9 k9 c9)) (w.heap.size+1+1) [.bool t9,.slice a8 k8 c8,.slice a9 k9 c9]):=Rec.set3 (Rec.G RR.out (G.refl _))
 have g9:=Rec.g3 (b:=w.heap.size+1+1) (u:= .bool t9) (v:= .slice a8 k8 c8) (x:= .slice a9 k9 c9) (G.trans g0 g1) (by omega)
 generalize (World.setCell (World.setCell (World.setCell w1 ⟨w.heap.size+1+1,0,none⟩ (.bool t9)) ⟨w.heap.size+1+1,1,none⟩ (.slice a8 k8 c8)) ⟨w.heap.size+1+1,2,none⟩ (.slice a9 k9 c9))=w9 at *
 have hF:=Rec.f3 (Rec.G hT.out ((G.refl _)))
 have bP:=hF.1
 have bQ:=hF.2.1
 have bR:=hF.2.2.1
 have bS:=hF.2.2.2.1
 have gK:=hF.2.2.2.2.1
 have gL:=hF.2.2.2.2.2
 clear hF
 refine bodyPost_ret (v:= .agg #[.bool t9,.slice a8 k8 c8,.slice a9 k9 c9]) (by simp [results,Tryz.results80,go_sem, *]) rfl ?_
 exact⟨_,rfl,g9,a8,k8,c8,a9,k9,c9,by rw[← fu.out],dz,bn⟩
theorem q0H (x y:Nat):QB (Uz (fz x-fz y)) 80:=by
 refine qaO ?_
 have h1:=q33 x
 have h2:=q33 y
 obtain⟨M,hM⟩:∃ M:Nat,M=5000:=⟨_,rfl⟩
 obtain⟨N,hN⟩:∃ N:Nat,N=2099:=⟨_,rfl⟩
 rw[← hM]
 rw[← hN] at h1 h2
 have h3:2^(N+1)≤2^M:=Nat.pow_le_pow_right (by omega) (by omega)
 rw[Nat.pow_succ] at h3
 omega
/-- Twice the area of three points, in units times units. -/
def q2g (ax ay bx jo cx cy:Nat):Int:=(fz bx-fz ax)*(fz cy-fz ay)-(fz jo-fz ay)*(fz cx-fz ax)
theorem q5n {D:Nat} (h:0<D) (x y:Int):mkRat x D+mkRat y D=mkRat (x+y) D:=by
 rw[← Rat.divInt_ofNat,← Rat.divInt_ofNat,← Rat.divInt_ofNat,Rat.divInt_add_divInt _ _ (by omega) (by omega)]
 rw[Rat.divInt_eq_divInt_iff (by have:(D:Int)*D≠0:=by apply Int.mul_ne_zero<;>omega
                                 exact this) (by omega)]
 rw[← Int.add_mul,Int.mul_assoc]
theorem q6j {D:Nat} (h:0<D) (x y:Int):mkRat x D-mkRat y D=mkRat (x-y) D:=by
 rw[Rat.sub_eq_add_neg,Rat.neg_mkRat,q5n h];rfl
theorem q4P {D:Nat} (hD:0<D) (z:Int):(mkRat z D).num.sign=z.sign:=by
 have h:=mk_cross (q:=mkRat z D) hD rfl
 have h1:=(mkRat z D).den_pos
 generalize (mkRat z D).den=d at *
 generalize (mkRat z D).num=n at *
 have h3:=congrArg Int.sign h
 rw[Int.sign_mul,Int.sign_mul,Int.sign_eq_one_of_pos (a:=(d:Int)) (by omega),Int.sign_eq_one_of_pos (a:=(D:Int)) (by omega),Int.mul_one,Int.mul_one] at h3
 exact h3.symm
theorem qaR:∃ D,0<D∧∀ a b:Int,Uz a*Uz b=mkRat (a*b) D:=⟨_,Nat.mul_pos q1C q1C,fun a b=>by unfold Uz;rw[Rat.mkRat_mul_mkRat]⟩
theorem q4J (a b c d:Int):(Uz a*Uz b-Uz c*Uz d).num.sign=(a*b-c*d).sign:=by
 obtain⟨D,hD,e⟩:=qaR
 rw[e,e,q6j hD,q4P hD]
theorem q8G (w:World) (ax ay bx b2 cx cy:Nat) (hT:Tab w) (h1:ax<2^64) (h2:ay<2^64) (h3:bx<2^64) (h4:b2<2^64) (h5:cx<2^64) (h6:cy<2^64)
  (f1:fex ax<2047) (f2:fex ay<2047) (f3:fex bx<2047) (f4:fex b2<2047) (f5:fex cx<2047) (f6:fex cy<2047):
  Calls Tryz.prog 77 #[.agg #[.float .f64 ax,.float .f64 ay],.agg #[.float .f64 bx,.float .f64 b2],.agg #[.float .f64 cx,.float .f64 cy]] w fun e w'=>e= .returned (.int .i64 (q2g ax ay bx b2 cx cy).sign)∧G w w':=by
 have HB1:Hid (∀ w1,G w w1→_):=fun w1 g=>q1H w1 ax ay bx b2 (hT.G g) h1 h2 h3 h4 f1 f2 f3 f4
 have HB2:Hid (∀ w1,G w w1→_):=fun w1 g=>q1H w1 ax ay cx cy (hT.G g) h1 h2 h5 h6 f1 f2 f5 f6
 have HX:Hid (∀ w1 v u,G w w1→StepIs w1 v (Uz (fz bx-fz ax)) (Uz (fz b2-fz ay))→StepIs w1 u (Uz (fz cx-fz ax)) (Uz (fz cy-fz ay))→_):=fun w1 v u g k1 k2=>q3Q w1 v u _ _ _ _ 80 (by omega) (by omega) (hT.G g) k1 k2 (q0H _ _) (q0H _ _) (q0H _ _) (q0H _ _)
 have hz:=q4J (fz bx-fz ax) (fz cy-fz ay) (fz b2-fz ay) (fz cx-fz ax)
 have qN:Hid (∀ w1 v,QIs w1 v (Uz (fz bx-fz ax)*Uz (fz cy-fz ay)-Uz (fz b2-fz ay)*Uz (fz cx-fz ax))→Calls Tryz.prog 81 #[v] w1 fun e w'=>e= .returned (.int .i64 (q2g ax ay bx b2 cx cy).sign)∧G w1 w'):=fun w1 v h=>by
  have k:=q6N w1 v _ h
  rw[hz] at k
  exact k
 clear hz hT h1 h2 h3 h4 h5 h6 f1 f2 f3 f4 f5 f6
 generalize (q2g ax ay bx b2 cx cy).sign=z at *
 generalize Uz (fz bx-fz ax)=p1 at *
 generalize Uz (fz b2-fz ay)=p2 at *
 generalize Uz (fz cx-fz ax)=q1 at *
 generalize Uz (fz cy-fz ay)=q2 at *
 generalize p1*q2-p2*q1=r at *
 go_enter Tryz.func77,Tryz.ntmps77
 go_wp2_with fail
 obtain⟨w0,aH,g0,hz0,R0,R1,R2⟩:=q1o w [.float .f64 ax,.float .f64 ay] [.float .f64 bx,.float .f64 b2] [.float .f64 cx,.float .f64 cy] 66 66 66
 rw[aH]
 clear aH
 refine region_each 8 1 #[true,true,true,true,true,true,true,true,false] [.is (.agg #[.float .f64 ax,.float .f64 ay]),.is (.agg #[.float .f64 bx,.float .f64 b2]),.any (fun v w'=>StepIs w' v p1 p2),.is (.agg #[.float .f64 ax,.float .f64 ay]),.is (.agg #[.float .f64 cx,.float .f64 cy]),.any (fun v w'=>StepIs w' v q1 q2),.any (fun v w'=>QIs w' v (r)),.is (.int .i64 z)] [some 7,some 8,some 9,some 10,some 11,some 12,some 13,some 14] (by kernel_rfl) (by kernel_rfl) rfl (by kernel_rfl) (by repeat (first|exact trivial|refine⟨fun _ _ _ g h=>by first|exact h.G g|exact fun w3 g3=>h w3 (G.trans g g3),?_⟩)) (by kernel_rfl) (by kernel_rfl) ?_
 refine Letters.is ?_
 refine Letters.is ?_
 refine Letters.any fun v2=> ?_
 refine Letters.is ?_
 refine Letters.is ?_
 refine Letters.any fun v5=> ?_
 refine Letters.any fun v6=> ?_
 refine Letters.is ?_
 refine Letters.nil ?_
 intro A hA
 simp only[q0K,Act.put,List.setIfInBounds_toArray,List.set_cons_zero,List.set_cons_succ] at hA
 subst hA
 refine⟨?_,?_⟩
 ·skip
  refine Eaches.cons rfl ?fG (Eaches.cons rfl ?il (Eaches.cons rfl ?gu (Eaches.cons rfl ?gN (Eaches.cons rfl ?iq (Eaches.cons rfl ?iJ (Eaches.cons rfl ?jg (Eaches.cons rfl ?l9 (Eaches.nil))))))))
  case fG|il|gN|iq=>
   intro W hW hD K hK
   clear hD
   have hR0:=Rec.f2 (Rec.G R0.out hW)
   have dE:=hR0.1
   have dF:=hR0.2.1
   clear hR0
   have dC:=Rec.f2 (Rec.G R1.out hW)
   have gp:=dC.1
   have gq:=dC.2.1
   clear dC
   have hR2:=Rec.f2 (Rec.G R2.out hW)
   have nS:=hR2.1
   have nT:=hR2.2.1
   clear hR2
   go_simp
   exact hK.out _ _ ⟨_,rfl,G.refl _,rfl⟩
  ·intro W hW hD K hK
   clear hD
   go_simp
   go_wp2_with (go_at_call 78;refine Calls.mono (P:=Tryz.prog) (HB1.out W (G.trans g0 hW)) ?_;intro e w9 hs;obtain⟨u9,rfl,g9,aD⟩:=hs)
   exact hK.out _ _ ⟨_,rfl,g9,aD⟩
  ·intro W hW hD K hK
   clear hD
   go_simp
   go_wp2_with (go_at_call 78;refine Calls.mono (P:=Tryz.prog) (HB2.out W (G.trans g0 hW)) ?_;intro e w9 hs;obtain⟨u9,rfl,g9,aD⟩:=hs)
   exact hK.out _ _ ⟨_,rfl,g9,aD⟩
  ·intro W hW hD K hK
   have h2:=Deps.get (v:=v2) 2 hD rfl rfl (by kernel_rfl)
   have h5:=Deps.get (v:=v5) 5 hD rfl rfl (by kernel_rfl)
   clear hD
   go_simp
   go_wp2_with (go_at_call 80;refine Calls.mono (P:=Tryz.prog) (HX.out W v2 v5 (G.trans g0 hW) h2 h5) ?_;intro e w9 hs;obtain⟨u9,rfl,g9,aD⟩:=hs)
   exact hK.out _ _ ⟨_,rfl,g9,aD⟩
  ·intro W hW hD K hK
   have h6:=Deps.get (v:=v6) 6 hD rfl rfl (by kernel_rfl)
   clear hD
   go_simp
   go_wp2_with (go_at_call 81;refine Calls.mono (P:=Tryz.prog) (qN.out W v6 h6) ?_;intro e w9 hs;obtain⟨rfl,g9⟩:=hs)
   exact hK.out _ _ ⟨_,rfl,g9,rfl⟩
 intro w1 g1 hH
 clear hH
 refine wpAny_ready (rs:=[8]) (by kernel_rfl) (by simp) ?_
 refine AllReady.cons rfl (fun K hK=> ?_) AllReady.nil
 go_simp
 refine hK _ _ ?_
 clear hK K
 refine wpAny_done (by kernel_rfl) ?_ _
 go_wp2_with fail
 go_ret
 exact⟨rfl,G.trans g0 g1⟩
/-- A number's float in a mode. -/
def flW (m:Int) (q:Rat):Nat:=if q=0 then 0 else FT.wrd (decide (q.num<0)) (rdV m (decide (q.num<0)) q.num.natAbs q.den)
/-- A call hands back a sum's float, or what is at fault. -/
def q8S (w:World) (l:List Nat) (m:Int) (e:Ending) (w':World):Prop:=∃ (b:Nat) (c a:Int),e= .returned (.tuple #[.float .f64 b,.agg #[.int .i64 c,.int .i64 a]])∧G w w'∧
 ((Fin l∧b=flW m (Uz (l.map fz).sum)∧c=0∧a=0)∨(∃ i:Nat,b=0∧c=4∧a=i∧i<l.length∧fex (l.getD i 0)=2047∧∀ j,j<i→fex (l.getD j 0)<2047))
/-- A store of a float. -/
theorem q0d (P:Program) (w:World) (a:Addr) (m:Mode) (k:FloatKind) (n:Nat):(store a (.float k n) m).run P w=stored P w a (.float k n) m:=run_store P w a _ m rfl
attribute [local go_sem] q0d
end Go.Proofs.YtljkfjjchkehaaaGreatDoor.EN
namespace Go.Proofs.YtljkfjjchkehaaaGreatDoor.EN
open Go.ChangeShapes Go.WideShapes Go.ChangeAt Go.RowKit
attribute [local go_sem] q0d
theorem q9w {x:Nat}:(FloatKind.f64.format.order (FT.rung x) 9218868437227405311==some .lt||FloatKind.f64.format.order (FT.rung x) 9218868437227405311==some .eq)=decide (fex x<2047):=by
 have hr:=rung_lt x
 have e1:FT.wrd false (FT.rung x)=FT.rung x:=rfl
 have e2:FT.wrd false 9218868437227405311=9218868437227405311:=rfl
 have n2:=q9e false (V:=9218868437227405311) (by omega)
 have r1:=FT.wrd_rung false (FT.rung x) hr
 have r2:=FT.wrd_rung false 9218868437227405311 (by omega)
 have s1:=FT.wrd_neg false (FT.rung x) hr
 have s2:=FT.wrd_neg false 9218868437227405311 (by omega)
 rw[e1] at r1 s1
 rw[e2] at n2 r2 s2
 have hfi:=q2o x
 rw[FT.ord_f,n2]
 by_cases hn:FT.nan (FT.rung x)=true
 ·have h1:2047*2^52<FT.rung x:=by
   unfold FT.nan at hn
   rw[r1] at hn
   exact of_decide_eq_true hn
  rw[hn]
  have:decide (fex x<2047)=false:=decide_eq_false (fun h=>by have:=hfi.1 h;omega)
  rw[this]
  rfl
 ·have hn:FT.nan (FT.rung x)=false:=by simpa using hn
  rw[hn]
  unfold FT.key
  rw[s1,s2,r1,r2]
  simp only[Bool.or_self,Bool.false_eq_true,if_false]
  simp only[show ((9218868437227405311:Nat):Int)=9218868437227405311 from rfl]
  rcases Int.lt_trichotomy (FT.rung x:Int) 9218868437227405311 with h|h|h
  ·rw[Int.compare_eq_lt.2 h,decide_eq_true (hfi.2 (by omega))];rfl
  ·rw[Int.compare_eq_eq.2 h,decide_eq_true (hfi.2 (by omega))];rfl
  ·rw[Int.compare_eq_gt.2 h,decide_eq_false (fun h2=>by have:=hfi.1 h2;omega)];rfl
theorem q4h (w:World) (x:Nat) (hx:x<2^64):Calls Tryz.prog 121 #[.float .f64 x] w fun e w'=>e= .returned (.bool (decide (fex x<2047)))∧G w w':=by
 have HA:Hid (∀ w1,_):=fun w1=>q8a x w1 hx
 go_enter Tryz.func121,Tryz.ntmps121
 go_wp2_with fail
 refine Calls.mono (P:=Tryz.prog) (HA.out w) ?_
 rintro e w1 ⟨rfl,g1⟩
 go_wp2_with fail
 go_ret
 exact⟨by rw[← q9w];rfl,g1⟩
/-- A slice of points. -/
def PSl (w:World) (v:Value) (l:List (Nat×Nat)):Prop:=
 ∃ a c,v= .slice a l.length c∧l.length≤c∧∀ i,i<l.length→∃ b o,a=some ⟨b,o,none⟩∧b<w.heap.size∧w.cell? ⟨b,o+i*2,none⟩=some (.float .f64 (l.getD i (0,0)).1)∧w.cell? ⟨b,o+i*2+1,none⟩=some (.float .f64 (l.getD i (0,0)).2)
theorem PSl.G {w w':World} {v:Value} {l:List (Nat×Nat)} (h:PSl w v l) (g:G w w'):PSl w' v l:=by
 obtain⟨a,c,e,hc,h⟩:=h
 refine⟨a,c,e,hc,fun i hi=> ?_⟩
 obtain⟨b,o,e1,h1,h2,h3⟩:=h i hi
 exact⟨b,o,e1,Nat.lt_of_lt_of_le h1 g.size,g.cell (p:=⟨b,o+i*2,none⟩) h1 h2,g.cell (p:=⟨b,o+i*2+1,none⟩) h1 h3⟩
def FinP (p:Nat×Nat):Prop:=fex p.1<2047∧fex p.2<2047
/-- A call hands back where the first point is that isn't finite, or no fault. -/
def q5k (w:World) (l:List (Nat×Nat)) (e:Ending) (w':World):Prop:=∃ c a:Int,e= .returned (.agg #[.int .i64 c,.int .i64 a])∧G w w'∧
 ((c=0∧a=0∧∀ i,i<l.length→FinP (l.getD i (0,0)))∨(∃ i:Nat,c=4∧a=i∧i<l.length∧¬ FinP (l.getD i (0,0))∧∀ j,j<i→FinP (l.getD j (0,0))))
theorem q4Y (w:World) (v:Value) (l:List (Nat×Nat)) (h:PSl w v l) (hl:∀ i,i<l.length→(l.getD i (0,0)).1<2^64∧(l.getD i (0,0)).2<2^64) (hn:l.length≤60):
  Calls Tryz.prog 76 #[v] w (q5k w l):=by
 obtain⟨pa,ca,rfl,-,hrow⟩:=h
 have HR:Hid _:=hrow
 have HL:Hid _:=hl
 obtain⟨n,hn'⟩:∃ n,n=l.length:=⟨_,rfl⟩
 rw[← hn'] at hn ⊢
 have HN:Hid (n=l.length):=hn'
 have hlim:decide ((60:Int)<n)=false:=decide_eq_false (by omega)
 clear hrow hl hn'
 go_enter Tryz.func76,Tryz.ntmps76
 go_wp2_with fail
 obtain⟨w0,aH,g0,hz0,R0⟩:=q0x w [.int .i64 0,.int .i64 0] 29
 rw[aH]
 clear aH
 go_loopw [11] (fun vk wr=>∃ k:Nat,k≤n∧vk= .int .i64 k∧(∀ j,j<k→FinP (l.getD j (0,0)))∧G w0 wr) (fun vk _=>n-(intOf vk).toNat)
 case atStart=>exact⟨0,Nat.zero_le _,rfl,fun j hj=>by omega,G.refl _⟩
 case round=>
  obtain⟨k,hk,rfl,hf,hG⟩:=hrel
  have HF:Hid _:=hf
  have RF:Hid (Rec wr w.heap.size [.int .i64 0,.int .i64 0]):=Rec.G R0.out hG
  clear hf
  by_cases hkn:k<n
  ·obtain⟨b1,o1,rfl,hB1,hx',hy'⟩:=HR.out k (by rw[← HN.out];exact hkn)
   have hgw:=G.trans g0 hG
   have hx:=hgw.cell (p:=⟨b1,o1+k*2,none⟩) hB1 hx'
   have hy:=hgw.cell (p:=⟨b1,o1+k*2+1,none⟩) hB1 hy'
   obtain⟨kX,kY⟩:=HL.out k (by rw[← HN.out];exact hkn)
   obtain⟨x,ex⟩:∃ x,x=(l.getD k (0,0)).1:=⟨_,rfl⟩
   obtain⟨y,ey⟩:∃ y,y=(l.getD k (0,0)).2:=⟨_,rfl⟩
   rw[← ex] at hx kX
   rw[← ey] at hy kY
   have HE:Hid (FinP (l.getD k (0,0))↔(fex x<2047∧fex y<2047)):=by show _↔_;rw[ex,ey];exact Iff.rfl
   have HX:Hid (∀ w1,_):=fun w1=>q4h w1 x kX
   have HY:Hid (∀ w1,_):=fun w1=>q4h w1 y kY
   clear hx' hy' kX kY ex ey hB1
   have jF:Hid (¬ fex x<2047→¬ FinP (l.getD k (0,0))):=fun h1 h2=>h1 (HE.out.1 h2).1
   have jd:Hid (¬ fex y<2047→¬ FinP (l.getD k (0,0))):=fun h1 h2=>h1 (HE.out.1 h2).2
   have mr:Hid (fex x<2047→fex y<2047→FinP (l.getD k (0,0))):=fun h1 h2=>HE.out.2 ⟨h1,h2⟩
   clear HE
   by_cases hfx:fex x<2047
   ·rw[decide_eq_true hfx] at HX
    have mr:Hid (fex y<2047→FinP (l.getD k (0,0))):=fun h2=>mr.out hfx h2
    clear hfx jF
    have ko:Hid (Rec (wr.alloc (.cells #[.float .f64 x,.float .f64 y] 66)) wr.heap.size [.float .f64 x,.float .f64 y]):=Rec.new2 wr _ _ _
    have jm:Hid (G wr (wr.alloc (.cells #[.float .f64 x,.float .f64 y] 66))):=(G.refl wr).alloc _
    go_wp2_with fail
    refine Calls.mono (P:=Tryz.prog) (HX.out _) ?_
    rintro e1 w1 ⟨rfl,g1⟩
    have R1:Hid (Rec w1 wr.heap.size [.float .f64 x,.float .f64 y]):=Rec.G ko.out g1
    have kZ:=G.trans jm.out g1
    clear ko jm g1 HX
    have iI:=Rec.f2 (Rec.G R1.out (G.refl _))
    have l5:=iI.1
    have l6:=iI.2.1
    have l7:=iI.2.2.1
    have l8:=iI.2.2.2
    clear iI
    have hlt1:=R1.out.lt
    go_wp2_with fail
    refine Calls.mono (P:=Tryz.prog) (HY.out _) ?_
    rintro e2 w2 ⟨rfl,g2⟩
    by_cases gY:fex y<2047
    ·have HP:Hid (FinP (l.getD k (0,0))):=mr.out gY
     rw[decide_eq_true gY]
     clear gY mr jd HY
     go_wp2_with fail
     refine⟨⟨k+1,hkn,rfl,fun j hj=> ?_,G.trans hG (G.trans kZ g2)⟩,?_⟩
     ·by_cases hjk:j<k
      ·exact HF.out j hjk
      ·have:j=k:=by omega
       subst this
       exact HP.out
     ·show n-((k:Int)+1).toNat<n-(k:Int).toNat
      omega
    ·have tZ:Hid (¬ FinP (l.getD k (0,0))):=jd.out gY
     rw[decide_eq_false gY]
     clear gY mr jd HY
     have bH:=Rec.f2 (Rec.G RF.out (G.trans kZ g2))
     have fA:=bH.1
     have fB:=bH.2.1
     have fC:=bH.2.2.1
     have fD:=bH.2.2.2
     clear bH
     go_wp2_with fail
     clear l5 l6 l7 l8
     go_wp2_with fail
     have hT:Hid (Rec (World.setCell (World.setCell w2 ⟨w.heap.size,0,none⟩ (.int .i64 4)) ⟨w.heap.size,1,none⟩ (.int .i64 k)) (w.heap.size) [.int .i64 4,.int .i64 k]):=Rec.set2 (Rec.G RF.out (G.trans kZ g2))
     have g9:=Rec.g2 (b:=w.heap.size) (u:= .int .i64 4) (v:= .int .i64 k) (G.trans (G.trans g0 hG) (G.trans kZ g2)) (by omega)
     generalize (World.setCell (World.setCell w2 ⟨w.heap.size,0,none⟩ (.int .i64 4)) ⟨w.heap.size,1,none⟩ (.int .i64 k))=w9 at *
     have hF:=Rec.f2 (Rec.G hT.out ((G.refl _)))
     have bP:=hF.1
     have bQ:=hF.2.1
     have bR:=hF.2.2.1
     have bS:=hF.2.2.2
     clear hF
     have je:=Rec.lt hT.out
     refine bodyPost_ret (v:= .agg #[.int .i64 4,.int .i64 k]) (by simp [results,Tryz.results76,go_sem, *]) rfl ?_
     exact⟨4,k,rfl,g9,.inr ⟨k,rfl,rfl,by rw[← HN.out];exact hkn,tZ.out,HF.out⟩⟩
   ·have tZ:Hid (¬ FinP (l.getD k (0,0))):=jF.out hfx
    rw[decide_eq_false hfx] at HX
    clear hfx mr jF jd HY
    have ko:Hid (Rec (wr.alloc (.cells #[.float .f64 x,.float .f64 y] 66)) wr.heap.size [.float .f64 x,.float .f64 y]):=Rec.new2 wr _ _ _
    have jm:Hid (G wr (wr.alloc (.cells #[.float .f64 x,.float .f64 y] 66))):=(G.refl wr).alloc _
    go_wp2_with fail
    refine Calls.mono (P:=Tryz.prog) (HX.out _) ?_
    rintro e1 w1 ⟨rfl,g1⟩
    have kZ:=G.trans jm.out g1
    clear ko jm g1 HX
    have bH:=Rec.f2 (Rec.G RF.out (kZ))
    have fA:=bH.1
    have fB:=bH.2.1
    have fC:=bH.2.2.1
    have fD:=bH.2.2.2
    clear bH
    go_wp2_with fail
    go_wp2_with fail
    have hT:Hid (Rec (World.setCell (World.setCell w1 ⟨w.heap.size,0,none⟩ (.int .i64 4)) ⟨w.heap.size,1,none⟩ (.int .i64 k)) (w.heap.size) [.int .i64 4,.int .i64 k]):=Rec.set2 (Rec.G RF.out (kZ))
    have g9:=Rec.g2 (b:=w.heap.size) (u:= .int .i64 4) (v:= .int .i64 k) (G.trans (G.trans g0 hG) kZ) (by omega)
    generalize (World.setCell (World.setCell w1 ⟨w.heap.size,0,none⟩ (.int .i64 4)) ⟨w.heap.size,1,none⟩ (.int .i64 k))=w9 at *
    have hF:=Rec.f2 (Rec.G hT.out ((G.refl _)))
    have bP:=hF.1
    have bQ:=hF.2.1
    have bR:=hF.2.2.1
    have bS:=hF.2.2.2
    clear hF
    have je:=Rec.lt hT.out
    refine bodyPost_ret (v:= .agg #[.int .i64 4,.int .i64 k]) (by simp [results,Tryz.results76,go_sem, *]) rfl ?_
    exact⟨4,k,rfl,g9,.inr ⟨k,rfl,rfl,by rw[← HN.out];exact hkn,tZ.out,HF.out⟩⟩
  ·have hkn:k=n:=by omega
   subst hkn
   have bH:=Rec.f2 (Rec.G RF.out (G.refl _))
   have fA:=bH.1
   have fB:=bH.2.1
   have fC:=bH.2.2.1
   have fD:=bH.2.2.2
   clear bH
   go_wp2_with fail
   clear fA fB fC fD
   go_wp2_with fail
   have hT:Hid (Rec (World.setCell (World.setCell wr ⟨w.heap.size,0,none⟩ (.int .i64 0)) ⟨w.heap.size,1,none⟩ (.int .i64 0)) (w.heap.size) [.int .i64 0,.int .i64 0]):=Rec.set2 (Rec.G RF.out (G.refl _))
   have g9:=Rec.g2 (b:=w.heap.size) (u:= .int .i64 0) (v:= .int .i64 0) (G.trans g0 hG) (by omega)
   generalize (World.setCell (World.setCell wr ⟨w.heap.size,0,none⟩ (.int .i64 0)) ⟨w.heap.size,1,none⟩ (.int .i64 0))=w9 at *
   have hF:=Rec.f2 (Rec.G hT.out ((G.refl _)))
   have bP:=hF.1
   have bQ:=hF.2.1
   have bR:=hF.2.2.1
   have bS:=hF.2.2.2
   clear hF
   have je:=Rec.lt hT.out
   refine bodyPost_ret (v:= .agg #[.int .i64 0,.int .i64 0]) (by simp [results,Tryz.results76,go_sem, *]) rfl ?_
   exact⟨0,0,rfl,g9,.inl ⟨rfl,rfl,fun i hi=>HF.out i (by rw[HN.out];exact hi)⟩⟩
end Go.Proofs.YtljkfjjchkehaaaGreatDoor.EN
namespace Go.Proofs.YtljkfjjchkehaaaGreatDoor.EN
open Go.ChangeShapes Go.WideShapes Go.ChangeAt Go.RowKit
attribute [local go_sem] q0d
def FinL (l:List (Nat×Nat)):Prop:=∀ i,i<l.length→FinP (l.getD i (0,0))
/-- The fault of a list of points. -/
def q1M (l:List (Nat×Nat)) (c a:Int):Prop:=(c=0∧a=0∧FinL l)∨(∃ i:Nat,c=4∧a=i∧i<l.length∧¬ FinP (l.getD i (0,0))∧∀ j,j<i→FinP (l.getD j (0,0)))
def q78 (w:World) (l:List (Nat×Nat)) (z:Int) (e:Ending) (w':World):Prop:=∃ c a t:Int,e= .returned (.tuple #[.int .i64 t,.agg #[.int .i64 c,.int .i64 a]])∧G w w'∧q1M l c a∧t=if c=0 then z else 0
theorem q90 (w:World) (ax ay bx b2 cx cy:Nat) (hT:Tab w) (h1:ax<2^64) (h2:ay<2^64) (h3:bx<2^64) (h4:b2<2^64) (h5:cx<2^64) (h6:cy<2^64):
  Calls Tryz.prog 39 #[.agg #[.float .f64 ax,.float .f64 ay],.agg #[.float .f64 bx,.float .f64 b2],.agg #[.float .f64 cx,.float .f64 cy]] w (q78 w [(ax,ay),(bx,b2),(cx,cy)] (q2g ax ay bx b2 cx cy).sign):=by
 have HU:Hid (∀ w1 v,PSl w1 v [(ax,ay),(bx,b2),(cx,cy)]→_):=fun w1 v h=>q4Y w1 v _ h (fun i hi=>by
  rcases i with _|_|_|i
  ·exact⟨h1,h2⟩
  ·exact⟨h3,h4⟩
  ·exact⟨h5,h6⟩
  ·simp at hi;omega) (by simp)
 have HT:Hid (FinL [(ax,ay),(bx,b2),(cx,cy)]→∀ w1,G w w1→_):=fun f w1 g=>q8G w1 ax ay bx b2 cx cy (hT.G g) h1 h2 h3 h4 h5 h6 (f 0 (by simp)).1 (f 0 (by simp)).2 (f 1 (by simp)).1 (f 1 (by simp)).2 (f 2 (by simp)).1 (f 2 (by simp)).2
 clear hT h1 h2 h3 h4 h5 h6
 generalize (q2g ax ay bx b2 cx cy).sign=z at *
 go_enter Tryz.func39,Tryz.ntmps39
 go_wp2_with fail
 obtain⟨w0,aH,g0,hz0,R0,R1,R2,R3⟩:=q5D w [.float .f64 ax,.float .f64 ay] [.float .f64 bx,.float .f64 b2] [.float .f64 cx,.float .f64 cy] [.int .i64 0,.int .i64 0] 66 66 66 29
 rw[aH]
 clear aH
 have mq:Rec (w0.alloc (.cells #[.float .f64 ax,.float .f64 ay,.float .f64 bx,.float .f64 b2,.float .f64 cx,.float .f64 cy] 66)) w0.heap.size _:=Rec.new6 w0 _ _ _ _ _ _ _
 have qZ:G w0 (w0.alloc (.cells #[.float .f64 ax,.float .f64 ay,.float .f64 bx,.float .f64 b2,.float .f64 cx,.float .f64 cy] 66)):=(G.refl w0).alloc _
 rw[show w.heap.size+1+1+1+1=w0.heap.size from by omega]
 have hP:PSl (w0.alloc (.cells #[.float .f64 ax,.float .f64 ay,.float .f64 bx,.float .f64 b2,.float .f64 cx,.float .f64 cy] 66)) (.slice (some ⟨w0.heap.size,0,none⟩) 3 3) [(ax,ay),(bx,b2),(cx,cy)]:=by
  obtain⟨k0,k1,k2,k3,k4,k5,-⟩:=mq.f6
  refine⟨_,_,rfl,Nat.le_refl _,fun i hi=>⟨_,_,rfl,mq.lt,?_⟩⟩
  rcases i with _|_|_|i
  ·exact⟨k0,k1⟩
  ·exact⟨k2,k3⟩
  ·exact⟨k4,k5⟩
  ·simp at hi;omega
 refine Calls.mono (P:=Tryz.prog) (HU.out _ _ hP) ?_
 intro e1 w1 hs
 obtain⟨c,a,rfl,g1,hv⟩:=hs
 have HV:Hid (q1M [(ax,ay),(bx,b2),(cx,cy)] c a):=hv
 have dN:=G.trans qZ g1
 clear hv g1 mq qZ hP HU
 have S0:Hid (Rec _ _ _):=Rec.G R0.out (dN)
 have S1:Hid (Rec _ _ _):=Rec.G R1.out (dN)
 have S2:Hid (Rec _ _ _):=Rec.G R2.out (dN)
 have S3:Hid (Rec _ _ _):=Rec.G R3.out (dN)
 have qM:=G.trans g0 dN
 have hlt1:=S3.out.lt
 clear R0 R1 R2 R3 g0 hz0 dN
 by_cases hc:c=0
 ·subst hc
  have bN:G w1 (w1.alloc (.cells #[.int .i64 0,.int .i64 a] 29)):=(G.refl w1).alloc _
  have HF:Hid (FinL [(ax,ay),(bx,b2),(cx,cy)]∧a=0):=by
   rcases HV.out with ⟨-,h1,h2⟩|⟨i,h1,-⟩
   ·exact⟨h2,h1⟩
   ·omega
  have pO:=Rec.f2 (Rec.G S0.out (bN))
  have wK:=pO.1
  have wL:=pO.2.1
  have wM:=pO.2.2.1
  have wN:=pO.2.2.2
  clear pO
  have pQ:=Rec.f2 (Rec.G S1.out (bN))
  have wO:=pQ.1
  have wP:=pQ.2.1
  have wQ:=pQ.2.2.1
  have wR:=pQ.2.2.2
  clear pQ
  have pR:=Rec.f2 (Rec.G S2.out (bN))
  have wS:=pR.1
  have wT:=pR.2.1
  have wU:=pR.2.2.1
  have wV:=pR.2.2.2
  clear pR
  go_wp2_with fail
  have JW:=G.trans qM bN
  refine Calls.mono (P:=Tryz.prog) (HT.out HF.out.1 _ JW) ?_
  rintro e2 w2 ⟨rfl,g2⟩
  have rD:Hid (G w w2):=G.trans JW g2
  have HG2:Hid (G w1 w2):=G.trans bN g2
  clear wK wL wM wN wO wP wQ wR wS wT wU wV JW bN g2 qM
  have j5:=Rec.f2 (Rec.G S3.out (HG2.out))
  have wW:=j5.1
  have wX:=j5.2.1
  have wY:=j5.2.2.1
  have wZ:=j5.2.2.2
  clear j5
  go_wp2_with fail
  go_wp2_with fail
  have hT:Hid (Rec (World.setCell (World.setCell w2 ⟨w.heap.size+3,0,none⟩ (.int .i64 0)) ⟨w.heap.size+3,1,none⟩ (.int .i64 0)) (w.heap.size+3) [.int .i64 0,.int .i64 0]):=Rec.set2 (Rec.G S3.out (HG2.out))
  have g9:=Rec.g2 (b:=w.heap.size+3) (u:= .int .i64 0) (v:= .int .i64 0) (rD.out) (by omega)
  generalize (World.setCell (World.setCell w2 ⟨w.heap.size+3,0,none⟩ (.int .i64 0)) ⟨w.heap.size+3,1,none⟩ (.int .i64 0))=w9 at *
  have hF:=Rec.f2 (Rec.G hT.out ((G.refl _)))
  have bP:=hF.1
  have bQ:=hF.2.1
  have bR:=hF.2.2.1
  have bS:=hF.2.2.2
  clear hF
  refine bodyPost_ret (v:= .tuple #[.int .i64 z,.agg #[.int .i64 0,.int .i64 0]]) (by simp [results,Tryz.results39,go_sem, *]) rfl ?_
  exact⟨0,0,z,rfl,g9,.inl ⟨rfl,rfl,HF.out.1⟩,rfl⟩
 ·have hcf:(c==0)=false:=by simpa using hc
  have j5:=Rec.f2 (Rec.G S3.out (G.refl _))
  have wW:=j5.1
  have wX:=j5.2.1
  have wY:=j5.2.2.1
  have wZ:=j5.2.2.2
  clear j5
  go_wp2_with fail
  go_region
  go_wp2_with fail
  have hT:Hid (Rec (World.setCell (World.setCell w1 ⟨w.heap.size+3,0,none⟩ (.int .i64 c)) ⟨w.heap.size+3,1,none⟩ (.int .i64 a)) (w.heap.size+3) [.int .i64 c,.int .i64 a]):=Rec.set2 (Rec.G S3.out (G.refl _))
  have g9:=Rec.g2 (b:=w.heap.size+3) (u:= .int .i64 c) (v:= .int .i64 a) (qM) (by omega)
  generalize (World.setCell (World.setCell w1 ⟨w.heap.size+3,0,none⟩ (.int .i64 c)) ⟨w.heap.size+3,1,none⟩ (.int .i64 a))=w9 at *
  have hF:=Rec.f2 (Rec.G hT.out ((G.refl _)))
  have bP:=hF.1
  have bQ:=hF.2.1
  have bR:=hF.2.2.1
  have bS:=hF.2.2.2
  clear hF
  have je:=Rec.lt hT.out
  refine bodyPost_ret (v:= .tuple #[.int .i64 0,.agg #[.int .i64 c,.int .i64 a]]) (by simp [results,Tryz.results39,go_sem, *]) rfl ?_
  exact⟨c,a,0,rfl,(g9.alloc _).drew,HV.out,by rw[if_neg hc]⟩
end Go.Proofs.YtljkfjjchkehaaaGreatDoor.EN
namespace Go.Proofs.YtljkfjjchkehaaaGreatDoor.EN
open Go.ChangeShapes Go.WideShapes Go.ChangeAt Go.RowKit
theorem q4Q (w:World) (v:Value) (px py:Rat) (K:Nat) (hK1:1≤K) (hK:K≤10000) (hT:Tab w) (hv:StepIs w v px py) (b1:QB px K) (b2:QB py K):
  Calls Tryz.prog 79 #[v] w (RetQ w (px*px+py*py)):=by
 obtain⟨t1,a1,k1,c1,a2,k2,c2,t2,a3,k3,c3,a4,k4,c4,rfl,hp1,hp2⟩:=hv
 have j6:Hid (∀ w1,G w w1→_):=fun w1 g=>q37 w1 _ _ px px K (by omega) hK1 (hT.G g) (hp1.G g) (hp1.G g) b1 b1
 have gZ:Hid (∀ w1,G w w1→_):=fun w1 g=>q37 w1 _ _ py py K (by omega) hK1 (hT.G g) (hp2.G g) (hp2.G g) b2 b2
 have HS:Hid (∀ w1 v u,G w w1→QIs w1 v (px*px)→QIs w1 u (py*py)→_):=fun w1 v u g k1 k2=>q79 w1 v u _ _ (K+K) (by omega) (by omega) (hT.G g) k1 k2 (q1k b1 b1) (q1k b2 b2)
 clear hT hp1 hp2 b1 b2
 generalize px*px+py*py=r at *
 generalize px*px=p at *
 generalize py*py=q at *
 go_enter Tryz.func79,Tryz.ntmps79
 go_wp2_with fail
 obtain⟨w0,aH,g0,hz0,R0,R1⟩:=q2k w [.bool t1,.slice a1 k1 c1,.slice a2 k2 c2,.bool t2,.slice a3 k3 c3,.slice a4 k4 c4] [.bool false,.slice none 0 0,.slice none 0 0] 124 97
 rw[aH]
 clear aH
 refine region_each 11 1 #[true,true,true,true,true,true,true,true,true,true,true,false] [.is (.pointer (some ⟨w.heap.size,0,none⟩)),.is (.agg #[.bool t1,.slice a1 k1 c1,.slice a2 k2 c2]),.is (.pointer (some ⟨w.heap.size,0,none⟩)),.is (.agg #[.bool t1,.slice a1 k1 c1,.slice a2 k2 c2]),.any (fun v w'=>QIs w' v (p)),.is (.pointer (some ⟨w.heap.size,3,none⟩)),.is (.agg #[.bool t2,.slice a3 k3 c3,.slice a4 k4 c4]),.is (.pointer (some ⟨w.heap.size,3,none⟩)),.is (.agg #[.bool t2,.slice a3 k3 c3,.slice a4 k4 c4]),.any (fun v w'=>QIs w' v (q)),.any (fun v w'=>QIs w' v (r))] [some 3,some 4,some 5,some 6,some 7,some 8,some 9,some 10,some 11,some 12,some 13] (by kernel_rfl) (by kernel_rfl) rfl (by kernel_rfl) (by repeat (first|exact trivial|refine⟨fun _ _ _ g h=>by first|exact h.G g|exact fun w3 g3=>h w3 (G.trans g g3),?_⟩)) (by kernel_rfl) (by kernel_rfl) ?_
 refine Letters.is ?_
 refine Letters.is ?_
 refine Letters.is ?_
 refine Letters.is ?_
 refine Letters.any fun v4=> ?_
 refine Letters.is ?_
 refine Letters.is ?_
 refine Letters.is ?_
 refine Letters.is ?_
 refine Letters.any fun v9=> ?_
 refine Letters.any fun v10=> ?_
 refine Letters.nil ?_
 intro A hA
 simp only[q0K,Act.put,List.setIfInBounds_toArray,List.set_cons_zero,List.set_cons_succ] at hA
 subst hA
 refine⟨?_,?_⟩
 ·skip
  refine Eaches.cons rfl ?dH (Eaches.cons rfl ?dL (Eaches.cons rfl ?eD (Eaches.cons rfl ?dM (Eaches.cons rfl ?fE (Eaches.cons rfl ?fV (Eaches.cons rfl ?fq (Eaches.cons rfl ?eF (Eaches.cons rfl ?fF (Eaches.cons rfl ?jf (Eaches.cons rfl ?fZ (Eaches.nil)))))))))))
  case dH|eD|fV|eF=>
   intro W hW hD K hK
   clear hD
   go_simp
   exact hK.out _ _ ⟨_,rfl,G.refl _,rfl⟩
  case dL|dM|fq|fF=>
   intro W hW hD K hK
   clear hD
   have hR0:=Rec.f6 (Rec.G R0.out hW)
   have dE:=hR0.1
   have dF:=hR0.2.1
   have nO:=hR0.2.2.1
   have yF:=hR0.2.2.2.1
   have yG:=hR0.2.2.2.2.1
   have yH:=hR0.2.2.2.2.2.1
   clear hR0
   go_simp
   exact hK.out _ _ ⟨_,rfl,G.refl _,rfl⟩
  ·intro W hW hD K hK
   clear hD
   go_simp
   go_wp2_with (go_at_call 56;refine Calls.mono (P:=Tryz.prog) (j6.out W (G.trans g0 hW)) ?_;intro e w9 hs;obtain⟨u9,rfl,g9,aD⟩:=hs)
   exact hK.out _ _ ⟨_,rfl,g9,aD⟩
  ·intro W hW hD K hK
   clear hD
   go_simp
   go_wp2_with (go_at_call 56;refine Calls.mono (P:=Tryz.prog) (gZ.out W (G.trans g0 hW)) ?_;intro e w9 hs;obtain⟨u9,rfl,g9,aD⟩:=hs)
   exact hK.out _ _ ⟨_,rfl,g9,aD⟩
  ·intro W hW hD K hK
   have h4:=Deps.get (v:=v4) 4 hD rfl rfl (by kernel_rfl)
   have h9:=Deps.get (v:=v9) 9 hD rfl rfl (by kernel_rfl)
   clear hD
   go_simp
   go_wp2_with (go_at_call 62;refine Calls.mono (P:=Tryz.prog) (HS.out W v4 v9 (G.trans g0 hW) h4 h9) ?_;intro e w9 hs;obtain⟨u9,rfl,g9,aD⟩:=hs)
   exact hK.out _ _ ⟨_,rfl,g9,aD⟩
 intro w1 g1 hH
 have h10:=Helds.get (v:=v10) 10 hH rfl rfl
 clear hH
 clear j6 gZ HS
 have RR:Hid (Rec w1 (w.heap.size+1) [.bool false,.slice none 0 0,.slice none 0 0]):=Rec.G R1.out g1
 obtain⟨a8,k8,c8,a9,k9,c9,rfl,ed,bX⟩:=h10
 have ja:Hid (Num w1 (.slice a8 k8 c8) (r).num.natAbs):=ed
 have eG:Hid (Num w1 (.slice a9 k9 c9) (q1E (r).den)):=bX
 obtain⟨t9,bK⟩:∃ t,t=decide ((r).num<0):=⟨_,rfl⟩
 rw[← bK]
 have fu:Hid (t9=decide ((r).num<0)):=bK
 clear ed bX bK
 have hS:=Rec.f3 (Rec.G RR.out (G.refl _))
 have bD:=hS.1
 have bE:=hS.2.1
 have bF:=hS.2.2.1
 have bG:=hS.2.2.2.1
 have dn:=hS.2.2.2.2.1
 have dw:=hS.2.2.2.2.2
 clear hS
 refine wpAny_ready (rs:=[11]) (by kernel_rfl) (by simp) ?_
 refine AllReady.cons rfl (fun K hK=> ?_) AllReady.nil
 go_simp
 refine hK _ _ ?_
 clear hK K bD bE bF bG dn dw
 refine wpAny_done (by kernel_rfl) ?_ _
 have dz:Num _ _ _:=q0k (u1:= .bool t9) (u2:= .slice a8 k8 c8) (u3:= .slice a9 k9 c9) ja.out (Rec.G RR.out (G.refl _)) trivial trivial trivial
 have bn:Num _ _ _:=q0k (u1:= .bool t9) (u2:= .slice a8 k8 c8) (u3:= .slice a9 k9 c9) eG.out (Rec.G RR.out (G.refl _)) trivial trivial trivial
 go_wp2_with fail
 have hT:Hid (Rec (World.setCell (World.setCell (World.setCell w1 ⟨w.heap.size+1,0,none⟩ (.bool t9)) ⟨w.heap.size+1,1,none⟩ (.slice a8 k8 c8)) ⟨w.heap.size+1,2,none⟩ (.slice a9 k9 c9)) (w.heap.size+1) [.bool t9,.slice a8 k8 c8,.slice a9 k9 c9]):=Rec.set3 (Rec.G RR.out (G.refl _))
 have g9:=Rec.g3 (b:=w.heap.size+1) (u:= .bool t9) (v:= .slice a8 k8 c8) (x:= .slice a9 k9 c9) (G.trans g0 g1) (by omega)
 generalize (World.setCell (World.setCell (World.setCell w1 ⟨w.heap.size+1,0,none⟩ (.bool t9)) ⟨w.heap.size+1,1,none⟩ (.slice a8 k8 c8)) ⟨w.heap.size+1,2,none⟩ (.slice a9 k9 c9))=w9 at *
 have hF:=Rec.f3 (Rec.G hT.out ((G.refl _)))
 have bP:=hF.1
 have bQ:=hF.2.1
 have bR:=hF.2.2.1
 have bS:=hF.2.2.2.1
 have gK:=hF.2.2.2.2.1
 have gL:=hF.2.2.2.2.2
 clear hF
 refine bodyPost_ret (v:= .agg #[.bool t9,.slice a8 k8 c8,.slice a9 k9 c9]) (by simp [results,Tryz.results79,go_sem, *]) rfl ?_
 exact⟨_,rfl,g9,a8,k8,c8,a9,k9,c9,by rw[← fu.out],dz,bn⟩
theorem q7f:∃ D G:Nat,G≤2560∧0<D∧D<2^G∧∀ a b:Int,Uz a*Uz b=mkRat (a*b) D:=by
 obtain⟨E,hE⟩:∃ E:Nat,E=1074:=⟨_,rfl⟩
 refine⟨2^E*2^E,2*E+1,by omega,Nat.mul_pos (Nat.two_pow_pos _) (Nat.two_pow_pos _),?_,fun a b=>by unfold Uz;rw[← hE,Rat.mkRat_mul_mkRat]⟩
 rw[← Nat.pow_add]
 exact Nat.pow_lt_pow_right (by omega) (by omega)
theorem q0e {a b:Int} {F:Nat} (h1:a.natAbs<2^F) (h2:b.natAbs<2^F):(a*b).natAbs<2^(F+F):=by
 rw[Int.natAbs_mul,Nat.pow_add]
 exact Nat.mul_lt_mul'' h1 h2
theorem q1w {a b:Int} {F:Nat} (h1:a.natAbs<2^F) (h2:b.natAbs<2^F):(a+b).natAbs<2^(F+1):=by
 have:=Int.natAbs_add_le a b
 rw[Nat.pow_succ]
 omega
theorem q1g {a b:Int} {F:Nat} (h1:a.natAbs<2^F) (h2:b.natAbs<2^F):(a-b).natAbs<2^(F+1):=by
 have:=Int.natAbs_sub_le a b
 rw[Nat.pow_succ]
 omega
/-- The circle's sign, in units. -/
def q4s (a b c d e f:Int):Int:=(a*a+b*b)*(c*f-d*e)+(c*c+d*d)*(e*b-f*a)+(e*e+f*f)*(a*d-b*c)
theorem q3u (a b c d e f:Int) {F:Nat} (hF:F≤2100) (ha:a.natAbs<2^F) (hb:b.natAbs<2^F) (hc:c.natAbs<2^F) (hd:d.natAbs<2^F) (he:e.natAbs<2^F) (hf:f.natAbs<2^F):
  QB (Uz a*Uz a+Uz b*Uz b) 80∧QB (Uz c*Uz c+Uz d*Uz d) 80∧QB (Uz e*Uz e+Uz f*Uz f) 80∧QB (Uz c*Uz f-Uz d*Uz e) 80∧QB (Uz e*Uz b-Uz f*Uz a) 80∧QB (Uz a*Uz d-Uz b*Uz c) 80∧
  QB ((Uz a*Uz a+Uz b*Uz b)*(Uz c*Uz f-Uz d*Uz e)) 160∧QB ((Uz c*Uz c+Uz d*Uz d)*(Uz e*Uz b-Uz f*Uz a)) 160∧QB ((Uz e*Uz e+Uz f*Uz f)*(Uz a*Uz d-Uz b*Uz c)) 160∧
  QB ((Uz a*Uz a+Uz b*Uz b)*(Uz c*Uz f-Uz d*Uz e)+(Uz c*Uz c+Uz d*Uz d)*(Uz e*Uz b-Uz f*Uz a)) 160∧
  ((Uz a*Uz a+Uz b*Uz b)*(Uz c*Uz f-Uz d*Uz e)+(Uz c*Uz c+Uz d*Uz d)*(Uz e*Uz b-Uz f*Uz a)+(Uz e*Uz e+Uz f*Uz f)*(Uz a*Uz d-Uz b*Uz c)).num.sign=(q4s a b c d e f).sign:=by
 obtain⟨D,E,hE,hD,BF,hm⟩:=q7f
 have hD2:0<D*D:=Nat.mul_pos hD hD
 simp only[hm,q5n hD,q6j hD]
 have n1:=q1w (q0e ha ha) (q0e hb hb)
 have n2:=q1w (q0e hc hc) (q0e hd hd)
 have n3:=q1w (q0e he he) (q0e hf hf)
 have x1:=q1g (q0e hc hf) (q0e hd he)
 have x2:=q1g (q0e he hb) (q0e hf ha)
 have x3:=q1g (q0e ha hd) (q0e hb hc)
 unfold q4s
 generalize a*a+b*b=N1 at *
 generalize c*c+d*d=N2 at *
 generalize e*e+f*f=N3 at *
 generalize c*f-d*e=X1 at *
 generalize e*b-f*a=X2 at *
 generalize a*d-b*c=X3 at *
 obtain⟨M,hM⟩:∃ M:Nat,M=F+F+1:=⟨_,rfl⟩
 rw[← hM] at n1 n2 n3 x1 x2 x3
 obtain⟨K,hK⟩:∃ K:Nat,K=80:=⟨_,rfl⟩
 obtain⟨L,hL⟩:∃ L:Nat,L=160:=⟨_,rfl⟩
 rw[← hK,← hL]
 have q1:∀ z:Int,z.natAbs<2^M→QB (mkRat z D) K:=fun z hz=>
  q67 hD rfl (Nat.lt_of_lt_of_le hz (Nat.pow_le_pow_right (by omega) (by omega))) (Nat.lt_of_lt_of_le BF (Nat.pow_le_pow_right (by omega) (by omega)))
 have qI:D*D<2^(64*L):=by
  have h1:D*D<2^E*2^E:=Nat.mul_lt_mul'' BF BF
  rw[← Nat.pow_add] at h1
  exact Nat.lt_of_lt_of_le h1 (Nat.pow_le_pow_right (by omega) (by omega))
 have q2:∀ z:Int,z.natAbs<2^(M+M+1)→QB (mkRat z (D*D)) L:=fun z hz=>
  q67 hD2 rfl (Nat.lt_of_lt_of_le hz (Nat.pow_le_pow_right (by omega) (by omega))) qI
 have up:∀ z:Int,z.natAbs<2^(M+M)→z.natAbs<2^(M+M+1):=fun z hz=>Nat.lt_of_lt_of_le hz (Nat.pow_le_pow_right (by omega) (by omega))
 simp only[Rat.mkRat_mul_mkRat,q5n hD2]
 exact⟨q1 _ n1,q1 _ n2,q1 _ n3,q1 _ x1,q1 _ x2,q1 _ x3,q2 _ (up _ (q0e n1 x1)),q2 _ (up _ (q0e n2 x2)),q2 _ (up _ (q0e n3 x3)),q2 _ (q1w (q0e n1 x1) (q0e n2 x2)),q4P hD2 _⟩
theorem q19 (x y:Nat):(fz x-fz y).natAbs<2^2100:=by
 have h1:=q33 x
 have h2:=q33 y
 obtain⟨F,hF⟩:∃ F:Nat,F=2099:=⟨_,rfl⟩
 rw[show 2100=F+1 from by omega,Nat.pow_succ]
 rw[← hF] at h1 h2
 have:=Int.natAbs_sub_le (fz x) (fz y)
 omega
theorem StepIs.set6 {w:World} {b:Nat} {v:Value} {p q:Rat} {x0 x1 x2 x3 x4 x5:Value} (h:StepIs w v p q) (r:Rec w b [.bool false,.slice none 0 0,.slice none 0 0,.bool false,.slice none 0 0,.slice none 0 0]):StepIs (set6 w b x0 x1 x2 x3 x4 x5) v p q:=by
 have hnu:∀ x∈[Value.bool false,.slice none 0 0,.slice none 0 0,.bool false,.slice none 0 0,.slice none 0 0],noU x:=by
  intro x hx m e
  subst e
  simp at hx
 obtain⟨t,a,k,c,a',k',c',t2,b',j,d,b2,j',d',e,h1,h2⟩:=h
 exact⟨t,a,k,c,a',k',c',t2,b',j,d,b2,j',d',e,q5p h1 r hnu,q5p h2 r hnu⟩
/-- A step that lies in a block of its own. -/
def StepAt (w:World) (b:Nat) (p q:Rat):Prop:=∃ t a k c a' k' c' t2 b1 j d b' j' d',Rec w b [.bool t,.slice a k c,.slice a' k' c',.bool t2,.slice b1 j d,.slice b' j' d']∧StepIs w (.agg #[.bool t,.slice a k c,.slice a' k' c',.bool t2,.slice b1 j d,.slice b' j' d']) p q
theorem StepAt.G {w w':World} {b:Nat} {p q:Rat} (h:StepAt w b p q) (g:Go.Proofs.YtljkfjjchkehaaaGreatDoor.G w w'):StepAt w' b p q:=by
 obtain⟨t,a,k,c,a',k',c',t2,b1,j,d,b',j',d',h1,h2⟩:=h
 exact⟨t,a,k,c,a',k',c',t2,b1,j,d,b',j',d',Rec.G h1 g,h2.G g⟩
attribute [local go_sem] q0d
/-- How the way from a over b to p turns. -/
def q88 (a b p:Nat×Nat):Int:=(q2g a.1 a.2 b.1 b.2 p.1 p.2).sign
/-- The last points of a way (the last one ahead) that stay where p comes next. -/
def popR (p:Nat×Nat):List (Nat×Nat)→List (Nat×Nat)
 |b::a::r=>if q88 a b p=1 then b::a::r else popR p (a::r)
 |r=>r
def q0M (r l:List (Nat×Nat)):List (Nat×Nat):=l.foldl (fun r p=>p::popR p r) r
/-- A point of two finite floats. -/
def PtOk (p:Nat×Nat):Prop:=p.1<2^64∧p.2<2^64∧FinP p
theorem q5a {p:Nat×Nat}:∀ {r:List (Nat×Nat)},(popR p r).length≤r.length
 |[]=>Nat.le_refl _
 |[_]=>Nat.le_refl _
 |b::a::r=>by
  unfold popR
  split
  ·exact Nat.le_refl _
  ·exact Nat.le_succ_of_le (q5a (r:=a::r))
theorem q9K {p a b:Nat×Nat} {r:List (Nat×Nat)} (h:q88 a b p≠1):popR p (b::a::r)=popR p (a::r):=by
 rw[popR,if_neg h]
theorem q6Q {p a b:Nat×Nat} {r:List (Nat×Nat)} (h:q88 a b p=1):popR p (b::a::r)=b::a::r:=by
 rw[popR,if_pos h]
theorem q43 (b:Nat×Nat) (r:List (Nat×Nat)):(b::r).reverse.getD r.length (0,0)=b:=by
 rw[List.reverse_cons,List.getD_eq_getElem?_getD,List.getElem?_append_right (by simp)]
 simp
theorem q7p (b a:Nat×Nat) (r:List (Nat×Nat)):(b::a::r).reverse.getD r.length (0,0)=a:=by
 rw[List.reverse_cons,List.getD_eq_getElem?_getD,List.getElem?_append_left (by simp),← List.getD_eq_getElem?_getD,q43]
theorem q8p (b:Nat×Nat) (r:List (Nat×Nat)):(b::r).reverse.take r.length=r.reverse:=by
 rw[List.reverse_cons]
 exact List.take_left' (by simp)
def lenS:Value→Nat
 | .slice _ n _=>n
 |_=>0
def qbf (w:World) (base:Nat) (l:List (Nat×Nat)) (e:Ending) (w':World):Prop:=∃ v,e= .returned v∧G w w'∧POwn w' base v l
set_option maxHeartbeats 2000000 in
set_option maxRecDepth 10000 in
theorem q91 (w:World) (v:Value) (l:List (Nat×Nat)) (hT:Tab w) (h:PSl w v l) (hl:∀ p∈l,PtOk p) (hn:l.length≤1000000):Calls Tryz.prog 118 #[v] w (qbf w w.heap.size (q0M [] l).reverse):=by
 obtain⟨pa,ca,rfl,-,hrow⟩:=h
 have HR:Hid _:=hrow
 have HL:Hid _:=hl
 have HT:Hid (Tab w):=hT
 obtain⟨n,hn'⟩:∃ n,n=l.length:=⟨_,rfl⟩
 rw[← hn'] at hn ⊢
 have HN:Hid (n=l.length):=hn'
 clear hrow hl hn' hT
 go_enter Tryz.func118,Tryz.ntmps118
 go_wp2_with fail
 go_loopw [3,8] (fun vl vk wr=>∃ (k:Nat) (r:List (Nat×Nat)),k≤n∧vk= .int .i64 k∧G w wr∧POwn wr w.heap.size vl r.reverse∧r=q0M [] (l.take k)∧r.length≤k∧(∀ q∈r,PtOk q)) (fun _ vk _=>n-(intOf vk).toNat)
 case atStart=>exact⟨0,[],Nat.zero_le _,rfl,G.refl _,q5b _ _,rfl,Nat.le_refl _,fun q hq=>by simp at hq⟩
 case round=>
  obtain⟨k,r,hk,rfl,hG,hO,hr,hrl,hrq⟩:=hrel
  have Kv:Hid _:=hr
  have yC:Hid _:=hrq
  obtain⟨ga,gc,rfl⟩:=hO.len
  have HO:Hid (POwn wr w.heap.size (.slice ga r.reverse.length gc) r.reverse):=hO
  clear hr hrq hO
  by_cases hkn:k<n
  ·obtain⟨b1,o1,rfl,hB1,hx',hy'⟩:=HR.out k (by rw[← HN.out];exact hkn)
   have hx:=hG.cell (p:=⟨b1,o1+k*2,none⟩) hB1 hx'
   have hy:=hG.cell (p:=⟨b1,o1+k*2+1,none⟩) hB1 hy'
   have hpo:Hid (PtOk (l.getD k (0,0))):=HL.out _ (by
    have hkl:k<l.length:=by rw[← HN.out];exact hkn
    rw[List.getD_eq_getElem?_getD,List.getElem?_eq_getElem hkl]
    exact List.getElem_mem hkl)
   have htk:Hid (l.take (k+1)=l.take k++[l.getD k (0,0)]):=by
    show _=_
    have hkl:k<l.length:=by rw[← HN.out];exact hkn
    rw[List.take_succ_eq_append_getElem hkl,List.getD_eq_getElem?_getD,List.getElem?_eq_getElem hkl]
    rfl
   generalize l.getD k (0,0)=p at *
   obtain⟨px,py⟩:=p
   dsimp only at hx hy
   have RP:Hid (Rec (wr.alloc (.cells #[.float .f64 px,.float .f64 py] 66)) wr.heap.size [.float .f64 px,.float .f64 py]):=Rec.new2 wr _ _ _
   have hG1:G wr (wr.alloc (.cells #[.float .f64 px,.float .f64 py] 66)):=(G.refl wr).alloc _
   have lg:Hid (POwn _ w.heap.size _ r.reverse):=HO.out.G hG1
   have hsz:=hG.size
   clear hx' hy' hB1
   go_wp2_with fail
   have ve:Hid (G w (wr.alloc (.cells #[.float .f64 px,.float .f64 py] 66))):=G.trans hG hG1
   generalize wr.alloc (.cells #[.float .f64 px,.float .f64 py] 66)=w0 at *
   have hb0:=RP.out.lt
   have hbp:w.heap.size≤wr.heap.size:=hG.size
   generalize wr.heap.size=bp at *
   clear hG hsz HO hx hy hG1
   go_loopw [3] (fun vl wr2=>∃ r':List (Nat×Nat),POwn wr2 w.heap.size vl r'.reverse∧G w wr2∧Rec wr2 bp [.float .f64 px,.float .f64 py]∧popR (px,py) r'=popR (px,py) r∧r'.length≤r.length∧(∀ q∈r',q∈r)) (fun vl _=>lenS vl)
   case atStart=>exact⟨r,lg.out,ve.out,RP.out,rfl,Nat.le_refl _,fun q hq=>hq⟩
   case round=>
    obtain⟨r',hO2,hG2,Dl,hp2,hl2,hq2⟩:=hrel
    have ig:Hid _:=hp2
    have qL:Hid _:=hq2
    obtain⟨SX,Kw,rfl⟩:=hO2.len
    have eB:Hid (POwn wr w.heap.size (.slice SX r'.reverse.length Kw) r'.reverse):=hO2
    have KA:Hid _:=Dl
    have hb2:=Dl.lt
    clear hp2 hq2 hO2
    by_cases hle:r'.length≤1
    ·have ni:Hid (popR (px,py) r=r'):=by
      show _=_
      rw[← ig.out]
      rcases r' with _|⟨b,_|⟨a,rs⟩⟩
      ·rfl
      ·rfl
      ·simp at hle
     obtain⟨m,hm⟩:∃ m,m=r'.length:=⟨_,rfl⟩
     have HM:Hid (m=r'.length):=hm
     rw[List.length_reverse,← hm] at eB ⊢
     rw[← hm] at hle hl2
     clear hm
     have hm:decide ((1:Int)<(m:Int))=false:=decide_eq_false (by omega)
     go_wp2_with fail
     refine q0c (by kernel_rfl) (by kernel_rfl) ?_
     intro W hW
     clear hW
     repeat (go_big_quiet_step (fail))
     refine wpQuiet_nil ?_
     intro w1 hw1
     have C8:=Rec.G KA.out hw1
     obtain⟨q0,q1,-⟩:=C8.f2
     have hO4:=(eB.out.G hw1).G ((G.refl w1).alloc (.cells #[.float .f64 px,.float .f64 py] 66))
     obtain⟨n0,n1,-⟩:=(Rec.new2 w1 (.float .f64 px) (.float .f64 py) 66).f2
     have hs1:=hw1.size
     have hs2:=hG2.size
     obtain⟨v',w2,hrun,rU,nI⟩:=q2K _ w.heap.size _ r'.reverse [(px,py)] hO4 (by simp;omega) ⟨w1.heap.size,0,none⟩ 1 1 rfl (fun j u hu=>by
      rcases j with _|_|j
      ·cases hu;exact n0
      ·cases hu;exact n1
      ·simp [pl] at hu) (by have:=HM.out;simp;omega) (by simp)
     have hg3:Hid (G w w2):=nI.g w (Nat.le_refl _) (G.trans (G.trans hG2 hw1) ((G.refl w1).alloc _))
     obtain⟨a5,c5,rfl⟩:=rU.len
     rw[show (r'.reverse++[(px,py)]).length=m+1 from by rw[HM.out];simp] at hrun rU
     have mf:Hid _:=rU
     clear C8 hO4 n0 n1 nI rU
     go_wp2_with (at_builtin;refine q3t _ rfl (.tmp 37) (.tmp 39) 68 rfl _ _ rfl rfl hrun ?_)
     have hpk:(px,py)::r'=q0M [] (l.take (k+1)):=by
      rw[htk.out]
      unfold q0M
      rw[List.foldl_append]
      show _=(px,py)::popR (px,py) (q0M [] (l.take k))
      rw[← Kv.out,ni.out]
     have hlr:((px,py)::r').length≤k+1:=by have:=HM.out;simp;omega
     have hrr:POwn w2 w.heap.size (.slice a5 (m+1) c5) ((px,py)::r').reverse:=by rw[List.reverse_cons];exact mf.out
     clear hrun mf
     refine⟨⟨k+1,(px,py)::r',hkn,rfl,hg3.out,hrr,hpk,hlr,fun q hq=> ?_⟩,?_⟩
     ·rcases List.mem_cons.1 hq with rfl|hq
      ·exact hpo.out
      ·exact yC.out q (qL.out q hq)
     ·show n-((k:Int)+1).toNat<n-(k:Int).toNat
      omega
    ·obtain⟨b,a,rs,rfl⟩:∃ b a rs,r'=b::a::rs:=by
      rcases r' with _|⟨b,_|⟨a,rs⟩⟩
      ·simp at hle
      ·simp at hle
      ·exact⟨b,a,rs,rfl⟩
     obtain⟨m,hm⟩:∃ m,m=rs.length:=⟨_,rfl⟩
     have HM:Hid (m+2=(b::a::rs).length):=by show _=_;rw[hm];rfl
     rw[show (b::a::rs).reverse.length=m+2 from by rw[List.length_reverse];exact HM.out.symm] at eB ⊢
     have hl3:m+2≤r.length:=by rw[HM.out];exact hl2
     rcases eB.out with ⟨e,-⟩|⟨g,cap,cur,e,h1,h2,h3,h4,h5,h6,h7⟩
     ·cases e
     injection e with e1 e2 e3
     subst e1 e3
     obtain⟨Dm,Dn⟩:=POwn.cellAt h2 h6 (i:=m) (by simp;omega)
     obtain⟨Dp,Dq⟩:=POwn.cellAt h2 h6 (i:=m+1) (by simp;omega)
     rw[hm,q7p,← hm] at Dm Dn
     rw[show m+1=(a::rs).length from by rw[hm];rfl,q43,show (a::rs).length=m+1 from by rw[hm];rfl] at Dp Dq
     have hgl:=q1F h2
     obtain⟨Om,Oo,KC⟩:=yC.out a (qL.out a (by simp))
     obtain⟨Oq,Ot,KD⟩:=yC.out b (qL.out b (by simp))
     have kV:Hid (∀ p,_):=fun p=>q8G (gw wr p) a.1 a.2 b.1 b.2 px py (HT.out.G (G.trans hG2 (gw_G wr p))) Om Oo Oq Ot hpo.out.1 hpo.out.2.1 KC.1 KC.2 KD.1 KD.2 hpo.out.2.2.1 hpo.out.2.2.2
     obtain⟨t,ht⟩:∃ t,t=q88 a b (px,py):=⟨_,rfl⟩
     rw[show (q2g a.1 a.2 b.1 b.2 px py).sign=t from ht.symm] at kV
     have Dr:Hid _:=ht
     have Ou:=Dl.f2.1
     have C9:=Dl.f2.2.1
     have hcap:m+2≤Kw:=by have:=HM.out;rw[List.length_reverse] at h3;omega
     clear hm hle h1 h2 h3 h4 h5 h6 h7 e2 Om Oo KC Oq Ot KD ht hl2
     have hm1:decide ((1:Int)<(m:Int)+2)=true:=decide_eq_true (by omega)
     have hmb:m≤1000000:=by omega
     obtain⟨a1,a2⟩:=a
     obtain⟨b5,b6⟩:=b
     dsimp only at Dm Dn Dp Dq kV
     go_wp2_with fail
     refine q0c (by kernel_rfl) (by kernel_rfl) ?_
     intro W hW
     have q1:=q06 (w:=W) (a:=⟨g,m*2,none⟩) (x:= .float .f64 a1) (by rw[hW];exact hgl) (by rw[hW];exact Dm)
     have q2:=q06 (w:=W) (a:=⟨g,m*2+1,none⟩) (x:= .float .f64 a2) (by rw[hW];exact hgl) (by rw[hW];exact Dn)
     have q3:=q06 (w:=W) (a:=⟨g,(m+1)*2,none⟩) (x:= .float .f64 b5) (by rw[hW];exact hgl) (by rw[hW];exact Dp)
     have q4:=q06 (w:=W) (a:=⟨g,(m+1)*2+1,none⟩) (x:= .float .f64 b6) (by rw[hW];exact hgl) (by rw[hW];exact Dq)
     have q5:=q06 (w:=W) (a:=⟨bp,0,none⟩) (x:= .float .f64 px) (by rw[hW];exact hb2) (by rw[hW];exact Ou)
     have q6:=q06 (w:=W) (a:=⟨bp,1,none⟩) (x:= .float .f64 py) (by rw[hW];exact hb2) (by rw[hW];exact C9)
     have KE:=kV
     rw[← hW] at KE
     clear hW kV Dm Dn Dp Dq Ou C9
     repeat (go_big_quiet_step (first|(go_at_call 77;exact q1A (KE.out _))))
     refine wpQuiet_nil ?_
     clear q1 q2 q3 q4 q5 q6 KE
     intro w1 hw1
     by_cases ht1:t=1
     ·subst ht1
      have ni:Hid (popR (px,py) r=(b5,b6)::(a1,a2)::rs):=by
       show _=_
       rw[← ig.out]
       exact q6Q Dr.out.symm
      clear Dr hm1
      generalize (b5,b6)::(a1,a2)::rs=r' at ig qL HM eB ni
      generalize m+2=m at HM eB hl3 hcap ⊢
      have hl2:=hl3
      have C8:=Rec.G KA.out hw1
      obtain⟨q0,q1,-⟩:=C8.f2
      have hO4:=(eB.out.G hw1).G ((G.refl w1).alloc (.cells #[.float .f64 px,.float .f64 py] 66))
      obtain⟨n0,n1,-⟩:=(Rec.new2 w1 (.float .f64 px) (.float .f64 py) 66).f2
      have hs1:=hw1.size
      have hs2:=hG2.size
      obtain⟨v',w2,hrun,rU,nI⟩:=q2K _ w.heap.size _ r'.reverse [(px,py)] hO4 (by simp;omega) ⟨w1.heap.size,0,none⟩ 1 1 rfl (fun j u hu=>by
       rcases j with _|_|j
       ·cases hu;exact n0
       ·cases hu;exact n1
       ·simp [pl] at hu) (by have:=HM.out;simp;omega) (by simp)
      have hg3:Hid (G w w2):=nI.g w (Nat.le_refl _) (G.trans (G.trans hG2 hw1) ((G.refl w1).alloc _))
      obtain⟨a5,c5,rfl⟩:=rU.len
      rw[show (r'.reverse++[(px,py)]).length=m+1 from by rw[HM.out];simp] at hrun rU
      have mf:Hid _:=rU
      clear C8 hO4 n0 n1 nI rU
      go_wp2_with (at_builtin;refine q3t _ rfl (.tmp 37) (.tmp 39) 68 rfl _ _ rfl rfl hrun ?_)
      have hpk:(px,py)::r'=q0M [] (l.take (k+1)):=by
       rw[htk.out]
       unfold q0M
       rw[List.foldl_append]
       show _=(px,py)::popR (px,py) (q0M [] (l.take k))
       rw[← Kv.out,ni.out]
      have hlr:((px,py)::r').length≤k+1:=by have:=HM.out;simp;omega
      have hrr:POwn w2 w.heap.size (.slice a5 (m+1) c5) ((px,py)::r').reverse:=by rw[List.reverse_cons];exact mf.out
      clear hrun mf
      refine⟨⟨k+1,(px,py)::r',hkn,rfl,hg3.out,hrr,hpk,hlr,fun q hq=> ?_⟩,?_⟩
      ·rcases List.mem_cons.1 hq with rfl|hq
       ·exact hpo.out
       ·exact yC.out q (qL.out q hq)
      ·show n-((k:Int)+1).toNat<n-(k:Int).toNat
       omega
     ·have ni:Hid (popR (px,py) ((a1,a2)::rs)=popR (px,py) r):=by
       show _=_
       rw[← ig.out]
       exact(q9K (by rw[← Dr.out];exact ht1)).symm
      have htb:(t != 1)=true:=by simpa using ht1
      have qo:Hid (POwn w1 w.heap.size (.slice (some ⟨g,0,none⟩) (m+1) Kw) ((a1,a2)::rs).reverse):=by
       have h:=(eB.out.G hw1).cut (k:=((a1,a2)::rs).length) (by simp)
       rw[q8p] at h
       have hm:=HM.out
       rw[show ((a1,a2)::rs).length=m+1 from by simp at hm ⊢;omega] at h
       exact h
      have tq:Hid (∀ q∈(a1,a2)::rs,q∈r):=fun q hq=>qL.out q (List.mem_cons_of_mem _ hq)
      have SY:Hid (((a1,a2)::rs).length≤r.length):=by
       have hm:=HM.out
       show _≤_
       simp at hm ⊢
       omega
      have hg2:=G.trans hG2 hw1
      have yC:=Rec.G KA.out hw1
      clear ht1 Dr hm1
      go_wp2_with fail
      refine⟨⟨(a1,a2)::rs,qo.out,hg2,yC,ni.out,SY.out,tq.out⟩,?_⟩
      show m+1<m+2
      omega
  ·obtain rfl:k=n:=by omega
   have HF:Hid (r=q0M [] l):=by
    show r=_
    rw[Kv.out,HN.out,List.take_length]
   clear hkn
   go_wp2_with fail
   go_ret
   exact⟨_,rfl,hG,by rw[← HF.out];exact HO.out⟩
end Go.Proofs.YtljkfjjchkehaaaGreatDoor.EN
namespace Go.Proofs.YtljkfjjchkehaaaGreatDoor.EN
open Go.ChangeShapes Go.WideShapes Go.ChangeAt Go.RowKit
attribute [local go_sem] q0d
theorem q2m (w:World) (v:Value) (l:List (Nat×Nat)) (h:PSl w v l) (hl:∀ i,i<l.length→(l.getD i (0,0)).1<2^64∧(l.getD i (0,0)).2<2^64) (hn:l.length≤60):
  Calls Tryz.prog 36 #[v] w (q5k w l):=by
 obtain⟨pa,ca,rfl,-,hrow⟩:=h
 have HR:Hid _:=hrow
 have HL:Hid _:=hl
 obtain⟨n,hn'⟩:∃ n,n=l.length:=⟨_,rfl⟩
 rw[← hn'] at hn ⊢
 have HN:Hid (n=l.length):=hn'
 have hlim:decide ((60:Int)<n)=false:=decide_eq_false (by omega)
 clear hrow hl hn'
 go_enter Tryz.func36,Tryz.ntmps36
 go_wp2_with fail
 obtain⟨w0,aH,g0,hz0,R0⟩:=q0x w [.int .i64 0,.int .i64 0] 29
 rw[aH]
 clear aH
 go_loopw [11] (fun vk wr=>∃ k:Nat,k≤n∧vk= .int .i64 k∧(∀ j,j<k→FinP (l.getD j (0,0)))∧G w0 wr) (fun vk _=>n-(intOf vk).toNat)
 case atStart=>exact⟨0,Nat.zero_le _,rfl,fun j hj=>by omega,G.refl _⟩
 case round=>
  obtain⟨k,hk,rfl,hf,hG⟩:=hrel
  have HF:Hid _:=hf
  have RF:Hid (Rec wr w.heap.size [.int .i64 0,.int .i64 0]):=Rec.G R0.out hG
  clear hf
  by_cases hkn:k<n
  ·obtain⟨b1,o1,rfl,hB1,hx',hy'⟩:=HR.out k (by rw[← HN.out];exact hkn)
   have hgw:=G.trans g0 hG
   have hx:=hgw.cell (p:=⟨b1,o1+k*2,none⟩) hB1 hx'
   have hy:=hgw.cell (p:=⟨b1,o1+k*2+1,none⟩) hB1 hy'
   obtain⟨kX,kY⟩:=HL.out k (by rw[← HN.out];exact hkn)
   obtain⟨x,ex⟩:∃ x,x=(l.getD k (0,0)).1:=⟨_,rfl⟩
   obtain⟨y,ey⟩:∃ y,y=(l.getD k (0,0)).2:=⟨_,rfl⟩
   rw[← ex] at hx kX
   rw[← ey] at hy kY
   have HE:Hid (FinP (l.getD k (0,0))↔(fex x<2047∧fex y<2047)):=by show _↔_;rw[ex,ey];exact Iff.rfl
   have HX:Hid (∀ w1,_):=fun w1=>q2W w1 x kX
   have HY:Hid (∀ w1,_):=fun w1=>q2W w1 y kY
   clear hx' hy' kX kY ex ey hB1
   have jF:Hid (¬ fex x<2047→¬ FinP (l.getD k (0,0))):=fun h1 h2=>h1 (HE.out.1 h2).1
   have jd:Hid (¬ fex y<2047→¬ FinP (l.getD k (0,0))):=fun h1 h2=>h1 (HE.out.1 h2).2
   have mr:Hid (fex x<2047→fex y<2047→FinP (l.getD k (0,0))):=fun h1 h2=>HE.out.2 ⟨h1,h2⟩
   clear HE
   by_cases hfx:fex x<2047
   ·rw[decide_eq_true hfx] at HX
    have mr:Hid (fex y<2047→FinP (l.getD k (0,0))):=fun h2=>mr.out hfx h2
    clear hfx jF
    have ko:Hid (Rec (wr.alloc (.cells #[.float .f64 x,.float .f64 y] 66)) wr.heap.size [.float .f64 x,.float .f64 y]):=Rec.new2 wr _ _ _
    have jm:Hid (G wr (wr.alloc (.cells #[.float .f64 x,.float .f64 y] 66))):=(G.refl wr).alloc _
    go_wp2_with fail
    refine Calls.mono (P:=Tryz.prog) (HX.out _) ?_
    rintro e1 w1 ⟨rfl,g1⟩
    have R1:Hid (Rec w1 wr.heap.size [.float .f64 x,.float .f64 y]):=Rec.G ko.out g1
    have kZ:=G.trans jm.out g1
    clear ko jm g1 HX
    have iI:=Rec.f2 (Rec.G R1.out (G.refl _))
    have l5:=iI.1
    have l6:=iI.2.1
    have l7:=iI.2.2.1
    have l8:=iI.2.2.2
    clear iI
    have hlt1:=R1.out.lt
    go_wp2_with fail
    refine Calls.mono (P:=Tryz.prog) (HY.out _) ?_
    rintro e2 w2 ⟨rfl,g2⟩
    by_cases gY:fex y<2047
    ·have HP:Hid (FinP (l.getD k (0,0))):=mr.out gY
     rw[decide_eq_true gY]
     clear gY mr jd HY
     go_wp2_with fail
     refine⟨⟨k+1,hkn,rfl,fun j hj=> ?_,G.trans hG (G.trans kZ g2)⟩,?_⟩
     ·by_cases hjk:j<k
      ·exact HF.out j hjk
      ·have:j=k:=by omega
       subst this
       exact HP.out
     ·show n-((k:Int)+1).toNat<n-(k:Int).toNat
      omega
    ·have tZ:Hid (¬ FinP (l.getD k (0,0))):=jd.out gY
     rw[decide_eq_false gY]
     clear gY mr jd HY
     go_wp2_with fail
     refine Calls.mono (P:=Tryz.prog) (q8K w2 4 k) ?_
     rintro e3 w3 ⟨rfl,g3⟩
     have g13:=G.trans kZ (G.trans g2 g3)
     clear kZ g2 g3
     have bH:=Rec.f2 (Rec.G RF.out (g13))
     have fA:=bH.1
     have fB:=bH.2.1
     have fC:=bH.2.2.1
     have fD:=bH.2.2.2
     clear bH
     go_wp2_with fail
     clear l5 l6 l7 l8
     go_wp2_with fail
     have hT:Hid (Rec (World.setCell (World.setCell w3 ⟨w.heap.size,0,none⟩ (.int .i64 4)) ⟨w.heap.size,1,none⟩ (.int .i64 k)) (w.heap.size) [.int .i64 4,.int .i64 k]):=Rec.set2 (Rec.G RF.out (g13))
     have g9:=Rec.g2 (b:=w.heap.size) (u:= .int .i64 4) (v:= .int .i64 k) (G.trans (G.trans g0 hG) g13) (by omega)
     generalize (World.setCell (World.setCell w3 ⟨w.heap.size,0,none⟩ (.int .i64 4)) ⟨w.heap.size,1,none⟩ (.int .i64 k))=w9 at *
     have hF:=Rec.f2 (Rec.G hT.out ((G.refl _)))
     have bP:=hF.1
     have bQ:=hF.2.1
     have bR:=hF.2.2.1
     have bS:=hF.2.2.2
     clear hF
     have je:=Rec.lt hT.out
     refine bodyPost_ret (v:= .agg #[.int .i64 4,.int .i64 k]) (by simp [results,Tryz.results36,go_sem, *]) rfl ?_
     exact⟨4,k,rfl,g9,.inr ⟨k,rfl,rfl,by rw[← HN.out];exact hkn,tZ.out,HF.out⟩⟩
   ·have tZ:Hid (¬ FinP (l.getD k (0,0))):=jF.out hfx
    rw[decide_eq_false hfx] at HX
    clear hfx mr jF jd HY
    have ko:Hid (Rec (wr.alloc (.cells #[.float .f64 x,.float .f64 y] 66)) wr.heap.size [.float .f64 x,.float .f64 y]):=Rec.new2 wr _ _ _
    have jm:Hid (G wr (wr.alloc (.cells #[.float .f64 x,.float .f64 y] 66))):=(G.refl wr).alloc _
    go_wp2_with fail
    refine Calls.mono (P:=Tryz.prog) (HX.out _) ?_
    rintro e1 w1 ⟨rfl,g1⟩
    have kZ:=G.trans jm.out g1
    clear ko jm g1 HX
    go_wp2_with fail
    refine Calls.mono (P:=Tryz.prog) (q8K w1 4 k) ?_
    rintro e3 w3 ⟨rfl,g3⟩
    have g13:=G.trans kZ g3
    clear kZ g3
    have bH:=Rec.f2 (Rec.G RF.out (g13))
    have fA:=bH.1
    have fB:=bH.2.1
    have fC:=bH.2.2.1
    have fD:=bH.2.2.2
    clear bH
    go_wp2_with fail
    go_wp2_with fail
    have hT:Hid (Rec (World.setCell (World.setCell w3 ⟨w.heap.size,0,none⟩ (.int .i64 4)) ⟨w.heap.size,1,none⟩ (.int .i64 k)) (w.heap.size) [.int .i64 4,.int .i64 k]):=Rec.set2 (Rec.G RF.out (g13))
    have g9:=Rec.g2 (b:=w.heap.size) (u:= .int .i64 4) (v:= .int .i64 k) (G.trans (G.trans g0 hG) g13) (by omega)
    generalize (World.setCell (World.setCell w3 ⟨w.heap.size,0,none⟩ (.int .i64 4)) ⟨w.heap.size,1,none⟩ (.int .i64 k))=w9 at *
    have hF:=Rec.f2 (Rec.G hT.out ((G.refl _)))
    have bP:=hF.1
    have bQ:=hF.2.1
    have bR:=hF.2.2.1
    have bS:=hF.2.2.2
    clear hF
    have je:=Rec.lt hT.out
    refine bodyPost_ret (v:= .agg #[.int .i64 4,.int .i64 k]) (by simp [results,Tryz.results36,go_sem, *]) rfl ?_
    exact⟨4,k,rfl,g9,.inr ⟨k,rfl,rfl,by rw[← HN.out];exact hkn,tZ.out,HF.out⟩⟩
  ·have hkn:k=n:=by omega
   subst hkn
   have bH:=Rec.f2 (Rec.G RF.out (G.refl _))
   have fA:=bH.1
   have fB:=bH.2.1
   have fC:=bH.2.2.1
   have fD:=bH.2.2.2
   clear bH
   go_wp2_with fail
   clear fA fB fC fD
   go_wp2_with fail
   have hT:Hid (Rec (World.setCell (World.setCell wr ⟨w.heap.size,0,none⟩ (.int .i64 0)) ⟨w.heap.size,1,none⟩ (.int .i64 0)) (w.heap.size) [.int .i64 0,.int .i64 0]):=Rec.set2 (Rec.G RF.out (G.refl _))
   have g9:=Rec.g2 (b:=w.heap.size) (u:= .int .i64 0) (v:= .int .i64 0) (G.trans g0 hG) (by omega)
   generalize (World.setCell (World.setCell wr ⟨w.heap.size,0,none⟩ (.int .i64 0)) ⟨w.heap.size,1,none⟩ (.int .i64 0))=w9 at *
   have hF:=Rec.f2 (Rec.G hT.out ((G.refl _)))
   have bP:=hF.1
   have bQ:=hF.2.1
   have bR:=hF.2.2.1
   have bS:=hF.2.2.2
   clear hF
   have je:=Rec.lt hT.out
   refine bodyPost_ret (v:= .agg #[.int .i64 0,.int .i64 0]) (by simp [results,Tryz.results36,go_sem, *]) rfl ?_
   exact⟨0,0,rfl,g9,.inl ⟨rfl,rfl,fun i hi=>HF.out i (by rw[HN.out];exact hi)⟩⟩
end Go.Proofs.YtljkfjjchkehaaaGreatDoor.EN
namespace Go.Proofs.YtljkfjjchkehaaaGreatDoor.EN
open Go.ChangeShapes Go.WideShapes Go.ChangeAt Go.RowKit
attribute [local go_sem] q0d
end Go.Proofs.YtljkfjjchkehaaaGreatDoor.EN
namespace Go.Proofs.YtljkfjjchkehaaaGreatDoor.EN
open Go.ChangeShapes Go.WideShapes Go.ChangeAt Go.RowKit
attribute [local go_sem] q0d
end Go.Proofs.YtljkfjjchkehaaaGreatDoor.EN
namespace Go.Proofs.YtljkfjjchkehaaaGreatDoor.EN
open Go.ChangeShapes Go.WideShapes Go.ChangeAt Go.RowKit
attribute [local go_sem] q0d
end Go.Proofs.YtljkfjjchkehaaaGreatDoor.EN
namespace Go.Proofs.YtljkfjjchkehaaaGreatDoor.EN
open Go.ChangeShapes Go.WideShapes Go.ChangeAt Go.RowKit
attribute [local go_sem] q0d
end Go.Proofs.YtljkfjjchkehaaaGreatDoor.EN
