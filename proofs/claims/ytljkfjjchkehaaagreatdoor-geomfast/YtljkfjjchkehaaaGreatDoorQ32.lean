/- What is proved here: how a fraction is cut to a float, its arithmetic (no program).
What is proved here: contracts of package exact: quotient, over this seat's translation.
What is proved here: contracts of package exact: rounding, over this seat's translation.
What is proved here: contracts of package exact: Float, over this seat's translation.
What is proved here: contracts of package exact: Of, over this seat's translation.
What is proved here: the float at or below a ratio, by its size; floats around a ratio, over this seat's translation.
What is proved here: the four floats around a ratio: what the law asks of them, over this seat's translation.
What is proved here: lowest terms and bounds of fractions (no program), over this seat's translation.
What is proved here: sums of floats in units of 2 to the power of -1074; how near the nearest float is, over this seat's translation (no program).
What is proved here: the list of a sum: what is taken off it, float by float (no program), over this seat's translation.
What is proved here: slices of floats and of fractions in memory, over this seat's translation (no program).
What is proved here: contracts of package expan: read, over this seat's translation.
What is proved here: a slice of floats of our own that grows, over this seat's translation (no program).
What is proved here: sums of lists in which entries change places; bounds of sums (no program), over this seat's translation.
What is proved here: contracts of package expan: total, over this seat's translation.
What is proved here: contracts of package expan: front, over this seat's translation.
What is proved here: contracts of package expan: whole, Of, over this seat's translation.
What is proved here: contracts of package geom: steps from point to point, over this seat's translation.
What is proved here: contracts of package geom: cross, norm, turn, over this seat's translation.
What is proved here: contracts of package expan: Sum, Cmp, over this seat's translation.
What is proved here: contracts of package expan: the pair of a number, over this seat's translation.
What is proved here: contracts of package geom: finite, unfit, Turn, over this seat's translation.
What is proved here: contracts of package geom: Turn, over this seat's translation.
What is proved here: contracts of package geom: norm, Circle, over this seat's translation.
What is proved here: contracts of package geom: Circle, over this seat's translation. -/
import Derived.Test.YtljkfjjchkehaaaGreatDoorQ31
import Derived.Test.YtljkfjjchkehaaaGreatDoorQ26
import Derived.Test.YtljkfjjchkehaaaGreatDoorQ13
import Derived.Test.YtljkfjjchkehaaaGreatDoorQ13
import Derived.Laws.IdiomCopy
import Derived.Test.YtljkfjjchkehaaaGreatDoorQ2
import Derived.Test.YtljkfjjchkehaaaGreatDoorQ16
namespace Go.Proofs.YtljkfjjchkehaaaGreatDoor.EN
open Go.RowKit
/-- What is left behind a step: nothing, less than half of it, half, more. -/
def q9n (R D:Nat):Nat:=if R=0 then 0 else if 2*R<D then 1 else if 2*R=D then 2 else 3
/-- The float at or below A / B (its place among the floats from 0 on), and what is left. -/
def tV (A B:Nat):Nat:=if 971<q1b A B then 2047*2^52-1 else (q1b A B+1074).toNat*2^52+upP A (q1b A B)/loP B (q1b A B)
def lV (A B:Nat):Nat:=if 971<q1b A B then 3 else q9n (upP A (q1b A B)%loP B (q1b A B)) (loP B (q1b A B))
theorem q6B (a:Nat):EN.blen a=Go.Proofs.YtljkfjjchkehaaaGreatDoor.blen a:=rfl
end Go.Proofs.YtljkfjjchkehaaaGreatDoor.EN
namespace Go.Proofs.YtljkfjjchkehaaaGreatDoor.EN
open Go.ChangeShapes Go.WideShapes Go.ChangeAt Go.RowKit
attribute [local go_sem] q0s
/-- Whether a number between two floats goes on to the one that is farther from 0. -/
def onw (m:Int) (neg odd:Bool) (l:Nat):Bool:=if m=1 then l==3||(l==2&&odd) else if m=2 then neg else if m=3 then !neg else false
end Go.Proofs.YtljkfjjchkehaaaGreatDoor.EN
namespace Go.Proofs.YtljkfjjchkehaaaGreatDoor.EN
open Go.ChangeShapes Go.WideShapes Go.ChangeAt Go.RowKit
/-- A fraction above 0 rounded: the float's place. -/
def rdV (m:Int) (neg:Bool) (A B:Nat):Nat:=tV A B+if lV A B≠0∧onw m neg (tV A B%2==1) (lV A B)=true then 1 else 0
def fex (b:Nat):Nat:=b/2^52%2^11
def fmag (b:Nat):Nat:=if fex b=0 then b%2^52 else 2^52+b%2^52
/-- What a finite float is. -/
def FQ (b:Nat):Rat:=mkRat (frN (FT.neg b) (fmag b) (fex b)) (frD (fex b))
theorem q98 (w:World) (b:Nat) (m e:Int) (q:Rat) (HW:∀ w1,G w w1→Calls Tryz.prog 138 #[.float .f64 b] w1 fun r w'=>r= .returned (.tuple #[.int .i64 m,.int .i64 e,.int .i64 0])∧G w1 w')
  (HS:∀ w1,Calls Tryz.prog 139 #[.int .i64 m,.int .i64 e] w1 (RetQ w1 q)):
  Calls Tryz.prog 94 #[.float .f64 b] w (q7v w q 0):=by
 have HW1:Hid (∀ w1,G w w1→_):=HW
 have rC:Hid (∀ w1,_):=HS
 clear HW HS
 go_enter Tryz.func94,Tryz.ntmps94
 go_wp2_with fail
 obtain⟨w0,ae,g0,hz0,R0⟩:=q0J w [.bool false,.slice none 0 0,.slice none 0 0] 97
 rw[ae]
 clear ae
 refine Calls.mono (P:=Tryz.prog) (HW1.out w0 g0) ?_
 rintro e1 w1 ⟨rfl,g1⟩
 go_wp2_with fail
 refine Calls.mono (P:=Tryz.prog) (rC.out w1) ?_
 intro e1 w2 hs
 obtain⟨v,rfl,g2,hv⟩:=hs
 clear HW1 rC
 obtain⟨a8,k8,c8,a9,k9,c9,rfl,aN,av⟩:=hv
 have dG:Hid (Num w2 (.slice a8 k8 c8) (q).num.natAbs):=aN
 have aU:Hid (Num w2 (.slice a9 k9 c9) (q1i (q).den)):=av
 obtain⟨t9,au⟩:∃ t,t=decide ((q).num<0):=⟨_,rfl⟩
 rw[← au]
 have aV:Hid (t9=decide ((q).num<0)):=au
 clear aN av au
 have hS:=Rec.f3 (Rec.G R0.out ((G.trans g1 g2)))
 have ah:=hS.1
 have ai:=hS.2.1
 have aj:=hS.2.2.1
 have ak:=hS.2.2.2.1
 have aF:=hS.2.2.2.2.1
 have aG:=hS.2.2.2.2.2
 clear hS
 have aH:Num _ _ _:=q0e (u1:= .bool t9) (u2:= .slice a8 k8 c8) (u3:= .slice a9 k9 c9) dG.out (Rec.G R0.out (G.trans g1 g2)) trivial trivial trivial
 have ag:Num _ _ _:=q0e (u1:= .bool t9) (u2:= .slice a8 k8 c8) (u3:= .slice a9 k9 c9) aU.out (Rec.G R0.out (G.trans g1 g2)) trivial trivial trivial
 go_wp2_with fail
 have hT:Hid (Rec (World.setCell (World.setCell (World.setCell w2 ⟨w.heap.size,0,none⟩ (.bool t9)) ⟨w.heap.size,1,none⟩ (.slice a8 k8 c8)) ⟨w.heap.size,2,none⟩ (.slice a9 k9 c9)) (w.heap.size) [.bool t9,.slice a8 k8 c8,.slice a9 k9 c9]):=Rec.set3 (Rec.G R0.out (G.trans g1 g2))
 have g9:=Rec.g3 (b:=w.heap.size) (u:= .bool t9) (v:= .slice a8 k8 c8) (x:= .slice a9 k9 c9) (G.trans g0 (G.trans g1 g2)) (by omega)
 generalize (World.setCell (World.setCell (World.setCell w2 ⟨w.heap.size,0,none⟩ (.bool t9)) ⟨w.heap.size,1,none⟩ (.slice a8 k8 c8)) ⟨w.heap.size,2,none⟩ (.slice a9 k9 c9))=w9 at *
 have hF:=Rec.f3 (Rec.G hT.out ((G.refl _)))
 have az:=hF.1
 have aA:=hF.2.1
 have aB:=hF.2.2.1
 have aC:=hF.2.2.2.1
 have bP:=hF.2.2.2.2.1
 have bQ:=hF.2.2.2.2.2
 clear hF
 refine bodyPost_ret (v:= .tuple #[.agg #[.bool t9,.slice a8 k8 c8,.slice a9 k9 c9],.int .i64 0]) (by simp [results,Tryz.results94,go_sem, *]) rfl ?_
 exact⟨_,rfl,g9,a8,k8,c8,a9,k9,c9,by rw[← aV.out],aH,ag⟩
theorem q9j {s:Bool} {j k ex mag:Nat} (hm:mag=(2*j+1)*2^k):mk2 (if s then -(2*(j:Int)+1) else 2*(j:Int)+1) ((max ex 1:Nat)-1075+k)=mkRat (frN s mag ex) (frD ex):=by
 unfold mk2 frN frD frS
 rw[Rat.mkRat_eq_iff (by have:=Nat.two_pow_pos (-(((max ex 1:Nat):Int)-1075+k)).toNat;omega) (by have:=Nat.two_pow_pos (1075-max ex 1);omega)]
 have e:∀ X Y:Int,X*((2^k:Nat):Int)=Y→X*((2^(((max ex 1:Nat):Int)-1075+k).toNat:Nat):Int)*((2^(1075-max ex 1):Nat):Int)=Y*2^(max ex 1-1075)*((2^(-(((max ex 1:Nat):Int)-1075+k)).toNat:Nat):Int):=by
  intro X Y h
  rw[← h,Int.mul_assoc,Int.mul_assoc,Int.mul_assoc,FT.ipow,← Int.natCast_mul,← Int.natCast_mul,← Int.natCast_mul,← Nat.pow_add,← Nat.pow_add,← Nat.pow_add]
  congr 3
  omega
 cases s
 ·simp only[Bool.false_eq_true,if_false]
  refine e _ _ ?_
  rw[hm];push_cast;rfl
 ·simp only[if_true]
  refine e _ _ ?_
  rw[hm];push_cast;rw[Int.neg_mul]
theorem of_c (w:World) (b:Nat) (hT:Tab w) (h0:b<2^64) (he:fex b<2047):
  Calls Tryz.prog 94 #[.float .f64 b] w (q7v w (FQ b) 0):=by
 have hex:b/2^52%2^11=fex b:=rfl
 have hfr:b%2^52<2^52:=Nat.mod_lt _ (by omega)
 have hmb:fmag b<2^53:=by unfold fmag;split<;>omega
 by_cases hm:fmag b=0
 ·have h1:fex b=0:=by
   unfold fmag at hm
   split at hm
   ·assumption
   ·omega
  have h2:b%2^52=0:=by unfold fmag at hm;rwa[if_pos h1] at hm
  have hq:FQ b=mk2 0 0:=by
   unfold FQ mk2
   rw[hm]
   unfold frN frS
   simp
  rw[hq]
  exact q98 w b 0 0 _ (fun w1 _=>q3t b w1 h0 (hex.trans h1) h2) (fun w1=>q3h w1 0 0 (by omega) (by omega) (by omega) (by omega) (Or.inl rfl))
 ·obtain⟨j,k,hj⟩:=q34 (fmag b) (by omega)
  have hj2:2*j+1≤fmag b:=by
   rw[hj];exact Nat.le_mul_of_pos_right _ (Nat.two_pow_pos k)
  have hk:k<53:=by
   have:2^k≤fmag b:=by rw[hj];exact Nat.le_mul_of_pos_left _ (by omega)
   exact(Nat.pow_lt_pow_iff_right (by omega:1<2)).1 (Nat.lt_of_le_of_lt this hmb)
  have hq:FQ b=mk2 (if FT.neg b then -(2*(j:Int)+1) else 2*(j:Int)+1) ((max (fex b) 1:Nat)-1075+k):=(q9j hj).symm
  rw[hq]
  refine q98 w b _ _ _ (fun w1 g=>q8A b (fex b) (b%2^52) (fmag b) j k w1 (hT.G g) h0 rfl rfl he rfl hj) (fun w1=>q3h w1 _ _ ?_ ?_ ?_ ?_ ?_)
  ·split<;>omega
  ·split<;>omega
  ·omega
  ·omega
  ·right;split<;>omega
/-- A finite float as a ratio. -/
theorem fq_v (s:Bool) {V:Nat} (h:V<2047*2^52):FQ (FT.wrd s V)=mkRat (if s then -(FT.v V:Int) else FT.v V) (2^1074)∧fex (FT.wrd s V)<2047:=by
 have e1:fex (FT.wrd s V)=V/2^52:=by
  unfold fex FT.wrd
  cases s<;>simp only[if_true,Bool.false_eq_true,if_false]<;>omega
 have e2:FT.wrd s V%2^52=V%2^52:=by
  unfold FT.wrd
  cases s<;>simp only[if_true,Bool.false_eq_true,if_false]<;>omega
 have e3:FT.neg (FT.wrd s V)=s:=by
  unfold FT.neg FT.wrd
  cases s
  ·simp only[Bool.false_eq_true,if_false,beq_eq_false_iff_ne,ne_eq];omega
  ·simp only[if_true,beq_iff_eq];omega
 refine⟨?_,by rw[e1];omega⟩
 have hm:fmag (FT.wrd s V)*2^(max (V/2^52) 1-1)=FT.v V:=by
  unfold fmag
  rw[e1,e2]
  by_cases h1:V<2^52
  ·rw[FT.v_sub h1,if_pos (by omega),show max (V/2^52) 1-1=0 from by omega,Nat.pow_zero,Nat.mul_one]
   omega
  ·rw[FT.v_nor h1,if_neg (by omega),show max (V/2^52) 1=V/2^52 from by omega]
 unfold FQ
 rw[e1,e3]
 rw[← hm]
 clear hm e1 e2 e3
 obtain⟨E,hE⟩:∃ E:Nat,E=1074:=⟨_,rfl⟩
 rw[← hE]
 generalize fmag (FT.wrd s V)=m
 generalize V/2^52=x
 unfold frN frD frS
 rw[Rat.mkRat_eq_iff (by have:=Nat.two_pow_pos (1075-max x 1);omega) (by have:=Nat.two_pow_pos E;omega)]
 have k:∀ z:Int,z*2^(max x 1-1075)*((2^E:Nat):Int)=z*((2^(max x 1-1):Nat):Int)*((2^(1075-max x 1):Nat):Int):=fun z=>by
  rw[Int.mul_assoc,Int.mul_assoc]
  refine congrArg (z*·) ?_
  rw[FT.ipow,← Int.natCast_mul,← Int.natCast_mul,← Nat.pow_add,← Nat.pow_add,show max x 1-1075+E=max x 1-1+(1075-max x 1) from by omega]
 cases s
 ·simp only[Bool.false_eq_true,if_false]
  rw[Int.natCast_mul]
  exact k (m:Int)
 ·simp only[if_true]
  rw[Int.natCast_mul,← Int.neg_mul]
  exact k (-(m:Int))
theorem q81 (s:Bool) {V:Nat} (h:V≤2047*2^52):FT.nan (FT.wrd s V)=false:=by
 unfold FT.nan
 rw[FT.wrd_rung s V (by omega)]
 exact decide_eq_false (by unfold FT.infR;omega)
end Go.Proofs.YtljkfjjchkehaaaGreatDoor.EN
namespace Go.Proofs.YtljkfjjchkehaaaGreatDoor
open Go.RowKit
theorem q7A {z:Int} {d:Nat} (hd:0<d) {q:Rat} (h:q=mkRat z d):q.num=Int.tdiv z (Nat.gcd z.natAbs d:Nat)∧q.den=d/Nat.gcd z.natAbs d:=by
 have hg:0<Nat.gcd z.natAbs d:=Nat.gcd_pos_of_pos_right _ hd
 obtain⟨a,ha⟩:=Nat.gcd_dvd_right z.natAbs d
 have hz:z=Int.tdiv z (Nat.gcd z.natAbs d:Nat)*((Nat.gcd z.natAbs d:Nat):Int):=by
  rw[Int.tdiv_mul_cancel (Int.ofNat_dvd_left.2 (Nat.gcd_dvd_left _ _))]
 have vw:d/Nat.gcd z.natAbs d*Nat.gcd z.natAbs d=d:=Nat.div_mul_cancel (Nat.gcd_dvd_right _ _)
 have hd2:0<d/Nat.gcd z.natAbs d:=Nat.div_pos (Nat.le_of_dvd hd (Nat.gcd_dvd_right _ _)) hg
 have hab:(Int.tdiv z (Nat.gcd z.natAbs d:Nat)).natAbs=z.natAbs/Nat.gcd z.natAbs d:=by
  rw[Int.natAbs_tdiv,Int.natAbs_natCast];rfl
 refine EN.rat_low hd2 (by rw[hab];exact Nat.gcd_div_gcd_div_gcd_of_pos_right hd) ?_
 have h1:=EN.mk_cross hd h
 have hgi:((Nat.gcd z.natAbs d:Nat):Int)≠0:=by omega
 refine Int.eq_of_mul_eq_mul_right hgi ?_
 rw[show Int.tdiv z (Nat.gcd z.natAbs d:Nat)*(q.den:Int)*((Nat.gcd z.natAbs d:Nat):Int)=Int.tdiv z (Nat.gcd z.natAbs d:Nat)*((Nat.gcd z.natAbs d:Nat):Int)*q.den from by ac_rfl,← hz,h1,Int.mul_assoc,← Int.natCast_mul,vw]
end Go.Proofs.YtljkfjjchkehaaaGreatDoor
namespace Go.Proofs.YtljkfjjchkehaaaGreatDoor.EN
open Go.RowKit
theorem q7C {q:Rat} {z:Int} {d K:Nat} (hd:0<d) (h:q=mkRat z d) (h1:z.natAbs<2^(64*K)) (h2:d<2^(64*K)):QB q K:=by
 obtain⟨e1,e2⟩:=q7A hd h
 refine⟨?_,?_⟩
 ·rw[e1,Int.natAbs_tdiv,Int.natAbs_natCast]
  exact Nat.lt_of_le_of_lt (Nat.div_le_self _ _) h1
 ·rw[e2]
  exact Nat.lt_of_le_of_lt (Nat.div_le_self _ _) h2
theorem q4O {x y:Rat} {K L:Nat} (hx:QB x K) (hy:QB y L):QB (x*y) (K+L):=by
 refine q7C (z:=x.num*y.num) (d:=x.den*y.den) (Nat.mul_pos x.den_pos y.den_pos) ?_ ?_ (q0M hx.2 hy.2)
 ·rw[← Rat.mkRat_mul_mkRat,Rat.mkRat_self,Rat.mkRat_self]
 ·rw[Int.natAbs_mul]
  exact q0M hx.1 hy.1
/-- A finite float in units. -/
def fz (b:Nat):Int:=if FT.neg b then -(FT.v (FT.rung b):Int) else FT.v (FT.rung b)
/-- So many units. -/
def Uz (z:Int):Rat:=mkRat z (2^1074)
theorem q6O {b:Nat} (h:b<2^64):FT.wrd (FT.neg b) (FT.rung b)=b:=by
 unfold FT.wrd FT.neg FT.rung
 by_cases h1:b/2^63%2=1
 ·simp only[h1,beq_self_eq_true,if_true]
  omega
 ·have h0:b/2^63%2=0:=by omega
  simp only[h0,show ((0:Nat)==1)=false from rfl,Bool.false_eq_true,if_false]
  omega
theorem rung_lt (b:Nat):FT.rung b<2^63:=Nat.mod_lt _ (Nat.two_pow_pos _)
theorem q7d (b:Nat):fex b=FT.rung b/2^52:=by
 unfold fex FT.rung
 omega
theorem q1P (b:Nat):fex b<2047↔FT.rung b<2047*2^52:=by
 rw[q7d]
 have:=rung_lt b
 omega
theorem q8V {b:Nat} (h:b<2^64) (hf:fex b<2047):FQ b=Uz (fz b):=by
 have h1:=(fq_v (FT.neg b) ((q1P b).1 hf)).1
 rw[q6O h] at h1
 exact h1
theorem q1g:0<2^1074:=by
 obtain⟨n,hn⟩:∃ n:Nat,n=1074:=⟨_,rfl⟩
 rw[← hn]
 exact Nat.two_pow_pos _
theorem q95 (x y:Int):Uz x+Uz y=Uz (x+y):=by
 unfold Uz
 have h:=q1g
 generalize 2^1074=D at *
 rw[← Rat.divInt_ofNat,← Rat.divInt_ofNat,← Rat.divInt_ofNat,Rat.divInt_add_divInt _ _ (by omega) (by omega)]
 rw[Rat.divInt_eq_divInt_iff (by have:(D:Int)*D≠0:=by apply Int.mul_ne_zero<;>omega
                                 exact this) (by omega)]
 rw[← Int.add_mul,Int.mul_assoc]
theorem q8T (x:Int): -Uz x=Uz (-x):=by
 unfold Uz
 rw[Rat.neg_mkRat]
theorem q9i (x y:Int):Uz x-Uz y=Uz (x-y):=by
 rw[Rat.sub_eq_add_neg,q8T,q95];rfl
theorem q9e {z:Int} (h:z.natAbs<2^5000):QB (Uz z) 80:=by
 obtain⟨K,hK⟩:∃ K:Nat,K=80:=⟨_,rfl⟩
 obtain⟨M,hM⟩:∃ M:Nat,M=5000:=⟨_,rfl⟩
 obtain⟨E,hE⟩:∃ E:Nat,E=1074:=⟨_,rfl⟩
 rw[← hM] at h
 rw[← hK]
 refine q7C q1g rfl (Nat.lt_of_lt_of_le h (Nat.pow_le_pow_right (by omega) (by omega))) ?_
 rw[← hE]
 exact Nat.pow_lt_pow_right (by omega) (by omega)
/-- The gap above a float. -/
def ug (V:Nat):Nat:=2^(V/2^52-1)
theorem q8N (V:Nat):0<ug V:=Nat.two_pow_pos _
theorem v_ug (V:Nat):FT.v V=(if V<2^52 then V else 2^52+V%2^52)*ug V:=by
 unfold FT.v ug
 by_cases h:V<2^52
 ·rw[if_pos h,if_pos h,Nat.div_eq_of_lt h]
  exact(Nat.mul_one V).symm
 ·rw[if_neg h,if_neg h]
/-- The place of a number's nearest float, and its word. -/
def rV (q:Rat):Nat:=rdV 1 (decide (q.num<0)) q.num.natAbs q.den
def nR (q:Rat):Nat:=FT.wrd (decide (q.num<0)) (rV q)
/-- What comes of a number whose floats are taken off, so many at most. -/
inductive Fr:Nat→Rat→List Nat→Bool→Prop where
 |zero (k:Nat):Fr k 0 [] true
 |most (v:Rat):Fr 0 v [] true
 |bad (k:Nat) (v:Rat) (h0:v≠0) (hq:QB v 80) (h:fex (nR v)=2047∨FQ (nR v)=0):Fr (k+1) v [] false
 |step (k:Nat) (v:Rat) (l:List Nat) (o:Bool) (h0:v≠0) (hq:QB v 80) (h1:fex (nR v)<2047) (h2:FQ (nR v)≠0) (h:Fr k (v-FQ (nR v)) l o):Fr (k+1) v (nR v::l) o
/-- Half of the gap above a float of this exponent. -/
def hv (e:Nat):Nat:=q9s 11 52 1 (((e-1:Nat):Int)-1075)
theorem q5W:FT.v 0=0:=rfl
/-- Each entry is no more than half of the gap above the one ahead. -/
def Steep:List Nat→Prop
 |a::b::l=>(2≤fex a∧FT.rung b≤hv (fex a))∧Steep (b::l)
 |_=>True
theorem Steep.at:∀ {l:List Nat},Steep l→∀ i,i+1<l.length→2≤fex (l.getD i 0)∧FT.rung (l.getD (i+1) 0)≤hv (fex (l.getD i 0))
 |[],_,i,hi=>by simp at hi
 |[_],_,i,hi=>by simp at hi
 |a::b::l,h,0,_=>h.1
 |a::b::l,h,i+1,hi=>by
  have:=Steep.at (l:=b::l) h.2 i (by simpa using hi)
  simpa using this
/-- A list tells so many units. -/
structure Tells (z:Int) (l:List Nat):Prop where
 sum:(l.map fz).sum=z
 fin:∀ b∈l,b<2^64∧fex b<2047
 steep:Steep l
 head:∀ a m,l=a::m→FT.rung a=rV (Uz z)∧z≠0
end Go.Proofs.YtljkfjjchkehaaaGreatDoor.EN
namespace Go.Proofs.YtljkfjjchkehaaaGreatDoor.EN
open Go.ChangeShapes Go.WideShapes Go.ChangeAt Go.RowKit
/-- A slice of floats. -/
def FSl (w:World) (v:Value) (l:List Nat):Prop:=
 ∃ a c,v= .slice a l.length c∧l.length≤c∧∀ i,i<l.length→∃ b o,a=some ⟨b,o,none⟩∧b<w.heap.size∧w.cell? ⟨b,o+i,none⟩=some (.float .f64 (l.getD i 0))
theorem FSl.G {w w':World} {v:Value} {l:List Nat} (h:FSl w v l) (g:G w w'):FSl w' v l:=by
 obtain⟨a,c,e,hc,h⟩:=h
 refine⟨a,c,e,hc,fun i hi=> ?_⟩
 obtain⟨b,o,e1,h1,h2⟩:=h i hi
 exact⟨b,o,e1,Nat.lt_of_lt_of_le h1 g.size,g.cell (p:=⟨b,o+i,none⟩) h1 h2⟩
/-- A fraction that lies in three cells. -/
def QAt (w:World) (b o:Nat) (q:Rat):Prop:=∃ t a k c a' k' c',w.cell? ⟨b,o,none⟩=some (.bool t)∧w.cell? ⟨b,o+1,none⟩=some (.slice a k c)∧w.cell? ⟨b,o+2,none⟩=some (.slice a' k' c')∧QIs w (.agg #[.bool t,.slice a k c,.slice a' k' c']) q
theorem QAt.G {w w':World} {b o:Nat} {q:Rat} (h:QAt w b o q) (hb:b<w.heap.size) (g:G w w'):QAt w' b o q:=by
 obtain⟨t,a,k,c,a',k',c',h1,h2,h3,h4⟩:=h
 exact⟨t,a,k,c,a',k',c',g.cell (p:=⟨b,o,none⟩) hb h1,g.cell (p:=⟨b,o+1,none⟩) hb h2,g.cell (p:=⟨b,o+2,none⟩) hb h3,h4.G g⟩
/-- A slice of fractions, told in units. -/
def NSl (w:World) (v:Value) (l:List Int):Prop:=
 ∃ a c,v= .slice a l.length c∧l.length≤c∧∀ i,i<l.length→∃ b o,a=some ⟨b,o,none⟩∧b<w.heap.size∧QAt w b (o+i*3) (Uz (l.getD i 0))
theorem NSl.G {w w':World} {v:Value} {l:List Int} (h:NSl w v l) (g:G w w'):NSl w' v l:=by
 obtain⟨a,c,e,hc,h⟩:=h
 refine⟨a,c,e,hc,fun i hi=> ?_⟩
 obtain⟨b,o,e1,h1,h2⟩:=h i hi
 exact⟨b,o,e1,Nat.lt_of_lt_of_le h1 g.size,h2.G h1 g⟩
/-- No word of 64 bits. -/
def noU (x:Value):Prop:=∀ m,x≠ .int .u64 m
theorem q8J {x:Value} (h:q1I x):noU x:=fun m e=>by rw[e] at h;exact h
theorem q2Q {w:World} {v:Value} {n b:Nat} {l:List Value} (h:Num w v n) (r:Rec w b l) (hl:∀ x∈l,noU x):∀ w':World,(∀ i k,i≠b→w'.cell? ⟨i,k,none⟩=w.cell? ⟨i,k,none⟩)→w.heap.size≤w'.heap.size→Num w' v n:=by
 intro w' hc hs
 obtain⟨m,hm,hcm,hv⟩:=h
 refine⟨m,?_,hcm,hv⟩
 rcases Sl.cases hm with ⟨rfl,a,c,rfl⟩|⟨hne,b2,o,c,rfl,hcc,hb,hr⟩
 ·exact⟨hm.1,Or.inl ⟨rfl,a,c,rfl⟩⟩
 ·have hbb:b2≠b:=by
   intro e
   subst e
   have h0:=hr 0 (List.length_pos_iff.2 hne)
   rw[r.cell] at h0
   exact hl _ (List.mem_of_getElem? h0) _ rfl
  exact⟨hm.1,Or.inr ⟨b2,o,c,rfl,hcc,by omega,fun i hi=>by rw[hc _ _ hbb];exact hr i hi⟩⟩
/-- A fraction stands where a block without words is written. -/
theorem QIs.apart {w w':World} {v:Value} {q:Rat} {b:Nat} {l:List Value} (h:QIs w v q) (r:Rec w b l) (hl:∀ x∈l,noU x)
  (hc:∀ i k,i≠b→w'.cell? ⟨i,k,none⟩=w.cell? ⟨i,k,none⟩) (hs:w.heap.size≤w'.heap.size):QIs w' v q:=by
 obtain⟨a,k,c,a',k',c',e,h1,h2⟩:=h
 exact⟨a,k,c,a',k',c',e,q2Q h1 r hl w' hc hs,q2Q h2 r hl w' hc hs⟩
/-- Block b is fractions, told in units, and may be written. -/
def NOwn (w:World) (b:Nat) (l:List Int):Prop:=
 ∃ L:List Value,Rec w b L∧L.length=3*l.length∧(∀ x∈L,q1I x)∧
  ∀ i,i<l.length→∃ t a k c a' k' c',L[i*3]? =some (.bool t)∧L[i*3+1]? =some (.slice a k c)∧L[i*3+2]? =some (.slice a' k' c')∧QIs w (.agg #[.bool t,.slice a k c,.slice a' k' c']) (Uz (l.getD i 0))
theorem NOwn.G {w w':World} {b:Nat} {l:List Int} (h:NOwn w b l) (g:Go.Proofs.YtljkfjjchkehaaaGreatDoor.G w w'):NOwn w' b l:=by
 obtain⟨L,h1,h2,h3,h4⟩:=h
 refine⟨L,h1.G g,h2,h3,fun i hi=> ?_⟩
 obtain⟨t,a,k,c,a',k',c',e1,e2,e3,e4⟩:=h4 i hi
 exact⟨t,a,k,c,a',k',c',e1,e2,e3,e4.G g⟩
theorem NOwn.free {w:World} {b:Nat} {l:List Int} (h:NOwn w b l) (i:Nat):w.frozen? ⟨b,i,none⟩=false:=by
 obtain⟨L,h1,-⟩:=h
 exact h1.frozen i
theorem NOwn.lt {w:World} {b:Nat} {l:List Int} (h:NOwn w b l):b<w.heap.size:=by
 obtain⟨L,h1,-⟩:=h
 exact h1.lt
theorem NOwn.cells {w:World} {b:Nat} {l:List Int} (h:NOwn w b l) {i:Nat} (hi:i<l.length):QAt w b (i*3) (Uz (l.getD i 0)):=by
 obtain⟨L,h1,h2,h3,h4⟩:=h
 obtain⟨t,a,k,c,a',k',c',e1,e2,e3,e4⟩:=h4 i hi
 exact⟨t,a,k,c,a',k',c',by rw[h1.cell];exact e1,by rw[h1.cell];exact e2,by rw[h1.cell];exact e3,e4⟩
theorem NOwn.sl {w:World} {b:Nat} {l:List Int} (h:NOwn w b l) (c:Nat) (hc:l.length≤c):NSl w (.slice (some ⟨b,0,none⟩) l.length c) l:=
 ⟨_,c,rfl,hc,fun i hi=>⟨b,0,rfl,h.lt,by rw[Nat.zero_add];exact h.cells hi⟩⟩
theorem NOwn.set {w:World} {b:Nat} {l:List Int} (h:NOwn w b l) {i:Nat} (hi:i<l.length) {z:Int} {t:Bool} {a a':Option Addr} {k c k' c':Nat} (hq:QIs w (.agg #[.bool t,.slice a k c,.slice a' k' c']) (Uz z)):
  NOwn (((w.setCell ⟨b,i*3,none⟩ (.bool t)).setCell ⟨b,i*3+1,none⟩ (.slice a k c)).setCell ⟨b,i*3+2,none⟩ (.slice a' k' c')) b (l.set i z):=by
 obtain⟨L,h1,h2,h3,h4⟩:=h
 have hap:∀ {v:Value} {q:Rat},QIs w v q→QIs (((w.setCell ⟨b,i*3,none⟩ (.bool t)).setCell ⟨b,i*3+1,none⟩ (.slice a k c)).setCell ⟨b,i*3+2,none⟩ (.slice a' k' c')) v q:=fun hv=>hv.apart h1 (fun x hx=>q8J (h3 x hx)) (fun j m hj=>by
  rw[World.cell?_setCell_other _ _ _ _ (by intro e;injection e with e1;exact hj e1.symm),World.cell?_setCell_other _ _ _ _ (by intro e;injection e with e1;exact hj e1.symm),World.cell?_setCell_other _ _ _ _ (by intro e;injection e with e1;exact hj e1.symm)]) (by simp [World.setCell])
 refine⟨((L.set (i*3) (.bool t)).set (i*3+1) (.slice a k c)).set (i*3+2) (.slice a' k' c'),((h1.set _ _).set _ _).set _ _,by simp only[List.length_set];exact h2,?_,?_⟩
 ·intro x hx
  rcases List.mem_or_eq_of_mem_set hx with hx|rfl
  ·rcases List.mem_or_eq_of_mem_set hx with hx|rfl
   ·rcases List.mem_or_eq_of_mem_set hx with hx|rfl
    ·exact h3 x hx
    ·trivial
   ·trivial
  ·trivial
 ·intro j hj
  rw[List.length_set] at hj
  by_cases he:j=i
  ·subst he
   refine⟨t,a,k,c,a',k',c',?_,?_,?_,?_⟩
   ·rw[List.getElem?_set_ne (by omega),List.getElem?_set_ne (by omega),List.getElem?_set_self (by omega)]
   ·rw[List.getElem?_set_ne (by omega),List.getElem?_set_self (by simp only[List.length_set];omega)]
   ·rw[List.getElem?_set_self (by simp only[List.length_set];omega)]
   ·have:(l.set j z).getD j 0=z:=by simp [List.getD_eq_getElem?_getD,hj]
    rw[this]
    exact hap hq
  ·obtain⟨t1,a1,k1,c1,a2,k2,c2,e1,e2,e3,e4⟩:=h4 j hj
   refine⟨t1,a1,k1,c1,a2,k2,c2,?_,?_,?_,?_⟩
   ·rw[List.getElem?_set_ne (by omega),List.getElem?_set_ne (by omega),List.getElem?_set_ne (by omega)];exact e1
   ·rw[List.getElem?_set_ne (by omega),List.getElem?_set_ne (by omega),List.getElem?_set_ne (by omega)];exact e2
   ·rw[List.getElem?_set_ne (by omega),List.getElem?_set_ne (by omega),List.getElem?_set_ne (by omega)];exact e3
   ·have:(l.set i z).getD j 0=l.getD j 0:=by simp only[List.getD_eq_getElem?_getD];rw[List.getElem?_set_ne (by omega)]
    rw[this]
    exact hap e4
/-- Each float of a list is finite. -/
def Fin (l:List Nat):Prop:=∀ b∈l,fex b<2047
/-- Floats as cells. -/
def fl (l:List Nat):List Value:=l.map fun b=> .float .f64 b
/-- A slice of floats whose block is our own (from block base on). -/
def FOwn (w:World) (base:Nat) (v:Value) (l:List Nat):Prop:=
 (v= .slice none 0 0∧l=[])∨∃ g cap cur,v= .slice (some ⟨g,0,none⟩) l.length cap∧base≤g∧w.heap[g]? =some (.cells cur 26 (0,0))∧l.length≤cap∧cap≤maxLen∧cur.size=cap∧cur.toList.take l.length=fl l∧∀ x∈cur.toList,q1I x
theorem q6s {w:World} {g:Nat} {o:Obj} (h:w.heap[g]? =some o):g<w.heap.size:=(Array.getElem?_eq_some_iff.1 h).1
theorem FOwn.G {w w':World} {base:Nat} {v:Value} {l:List Nat} (h:FOwn w base v l) (g:Go.Proofs.YtljkfjjchkehaaaGreatDoor.G w w'):FOwn w' base v l:=by
 rcases h with h|⟨b,cap,cur,e,h1,h2,h3⟩
 ·exact Or.inl h
 ·refine Or.inr ⟨b,cap,cur,e,h1,?_,h3⟩
  obtain⟨-,-,-,-,g5⟩:=g
  exact(g5 b (q6s h2)).trans h2
theorem FOwn.len {w:World} {base:Nat} {v:Value} {l:List Nat} (h:FOwn w base v l):∃ a c,v= .slice a l.length c:=by
 rcases h with ⟨rfl,rfl⟩|⟨b,cap,cur,rfl,-⟩
 ·exact⟨_,_,rfl⟩
 ·exact⟨_,_,rfl⟩
theorem FOwn.set {w:World} {base b i x n cap:Nat} {l:List Nat} (h:FOwn w base (.slice (some ⟨b,0,none⟩) n cap) l):FOwn (w.setCell ⟨b,i,none⟩ (.float .f64 x)) base (.slice (some ⟨b,0,none⟩) n cap) (l.set i x):=by
 rcases h with ⟨e,-⟩|⟨b',cap',cur,e,h1,h2,h3,h4,h5,h6,h7⟩
 ·cases e
 ·injection e with e1 e2 e3
  injection e1 with e1
  injection e1 with e1
  subst e1;subst e3
  refine Or.inr ⟨b,cap,cur.setIfInBounds i (.float .f64 x),by rw[List.length_set,e2],h1,?_,by rw[List.length_set];exact h3,h4,by simpa using h5,?_,?_⟩
  ·simp only[World.setCell,Array.getElem?_modify,if_true,h2,Option.map_some]
   simp
  ·rw[Array.toList_setIfInBounds,List.length_set]
   rw[List.take_set,h6]
   unfold fl
   rw[List.map_set]
  ·intro u hu
   rw[Array.toList_setIfInBounds] at hu
   rcases List.mem_or_eq_of_mem_set hu with hu|rfl
   ·exact h7 u hu
   ·trivial
theorem FOwn.own {w:World} {base:Nat} {v:Value} {l:List Nat} (h:FOwn w base v l) {b:Nat} (hb:b<base∨w.heap.size≤b):v.ownBlock≠some b:=by
 rcases h with ⟨rfl,-⟩|⟨g,cap,cur,rfl,h1,h2,-⟩
 ·intro e;cases e
 ·intro e
  have e1:g=b:=Option.some.inj e
  have:=q6s h2
  omega
theorem FOwn.oth {w w':World} {base:Nat} {v:Value} {l:List Nat} (h:FOwn w base v l) {b:Nat} (hb:v.ownBlock≠some b) (hw:∀ k,k≠b→w'.heap[k]? =w.heap[k]?):FOwn w' base v l:=by
 rcases h with h|⟨g,cap,cur,rfl,h1,h2,h3⟩
 ·exact Or.inl h
 ·exact Or.inr ⟨g,cap,cur,rfl,h1,by rw[hw g (by intro e;exact hb (by rw[← e];rfl))];exact h2,h3⟩
/-- What appending to a slice of our own leaves standing. -/
structure Onto (base:Nat) (v:Value) (w w':World):Prop where
 q:∀ (u:Value) (x:Rat),QIs w u x→QIs w' u x
 r:∀ (b:Nat) (L:List Value),Rec w b L→v.ownBlock≠some b→Rec w' b L
 g:∀ w0:World,w0.heap.size≤base→G w0 w→G w0 w'
/-- An append whose run is known. -/
theorem q2R {P:Program} (w:World) {ops:Array Oper} {rest:List Oper} {o:Oper} {a:Act} {Q:Exit→Act→World→Prop} (hgd:o.guard=none) (s x:Operand) (t:TypeId)
  (ho:o.op= .call {callee:= .builtin .append,args:=#[s,x],argTypes:=#[t,t]}) (v sl:Value) (hs:a.eval s=v) (hx:a.eval x=sl) {v':Value} {w':World}
  (hr:(Builtin.append_ #[t,t] o.type #[v,sl]).run P w= .ok v' w') (h:wpList P ops Q rest (a.put o.dst v') w'):wpList P ops Q (o::rest) a w:=
 wpList_plain hgd fun _ hK=>by
  unfold Oper.wp execOp
  simp only[ho,resolve,invoke,builtin,Sem.run_bind,Sem.run_pure,Result.andThen_ok,List.map_toArray,List.map_cons,List.map_nil,hs,hx,hr]
  exact hK _ _ h
end Go.Proofs.YtljkfjjchkehaaaGreatDoor.EN
namespace Go.Proofs.YtljkfjjchkehaaaGreatDoor.EN
open Go.RowKit
/-- Two entries change places. -/
def swap (l:List Nat) (p q:Nat):List Nat:=(l.set p (l.getD q 0)).set q (l.getD p 0)
/-- 1 for what is no number or infinite. -/
def bad (b:Nat):Int:=if fex b<2047 then 0 else 1
/-- Each word is below 2 to the power of 2099 units; sums of so many. -/
theorem q6b (b:Nat):(fz b).natAbs<2^2099:=by
 have hr:=rung_lt b
 have h:FT.v (FT.rung b)<2^2099:=by
  obtain⟨M,hM⟩:∃ M:Nat,M=2046:=⟨_,rfl⟩
  rw[show 2099=53+M from by omega,Nat.pow_add,v_ug]
  have h1:ug (FT.rung b)≤2^M:=Nat.pow_le_pow_right (by omega) (by omega)
  have h2:(if FT.rung b<2^52 then FT.rung b else 2^52+FT.rung b%2^52)<2^53:=by split<;>omega
  exact Nat.lt_of_lt_of_le (Nat.mul_lt_mul_of_pos_right h2 (q8N _)) (Nat.mul_le_mul_left _ h1)
 unfold fz
 split
 ·rw[Int.natAbs_neg,Int.natAbs_natCast];exact h
 ·rw[Int.natAbs_natCast];exact h
end Go.Proofs.YtljkfjjchkehaaaGreatDoor.EN
namespace Go.Proofs.YtljkfjjchkehaaaGreatDoor.EN
open Go.ChangeShapes Go.WideShapes Go.ChangeAt Go.RowKit
theorem q9b (b:Nat):QB (Uz (fz b)) 80:=by
 refine q9e ?_
 have h:=q6b b
 obtain⟨M,hM⟩:∃ M:Nat,M=5000:=⟨_,rfl⟩
 obtain⟨N,hN⟩:∃ N:Nat,N=2099:=⟨_,rfl⟩
 rw[← hM]
 rw[← hN] at h
 exact Nat.lt_of_lt_of_le h (Nat.pow_le_pow_right (by omega) (by omega))
end Go.Proofs.YtljkfjjchkehaaaGreatDoor.EN
namespace Go.Proofs.YtljkfjjchkehaaaGreatDoor
theorem Rec.new6 (w:World) (a b c d e f:Value) (t:TypeId):Rec (w.alloc (.cells #[a,b,c,d,e,f] t)) w.heap.size [a,b,c,d,e,f]:=Rec.new w [a,b,c,d,e,f] t
theorem Rec.f6 {w:World} {b:Nat} {x0 x1 x2 x3 x4 x5:Value} (h:Rec w b [x0,x1,x2,x3,x4,x5]):w.cell? ⟨b,0,none⟩=some x0∧w.cell? ⟨b,1,none⟩=some x1∧w.cell? ⟨b,2,none⟩=some x2∧w.cell? ⟨b,3,none⟩=some x3∧w.cell? ⟨b,4,none⟩=some x4∧w.cell? ⟨b,5,none⟩=some x5∧
  w.frozen? ⟨b,0,none⟩=false∧w.frozen? ⟨b,1,none⟩=false∧w.frozen? ⟨b,2,none⟩=false∧w.frozen? ⟨b,3,none⟩=false∧w.frozen? ⟨b,4,none⟩=false∧w.frozen? ⟨b,5,none⟩=false:=
 ⟨h.cell 0,h.cell 1,h.cell 2,h.cell 3,h.cell 4,h.cell 5,h.frozen 0,h.frozen 1,h.frozen 2,h.frozen 3,h.frozen 4,h.frozen 5⟩
end Go.Proofs.YtljkfjjchkehaaaGreatDoor
namespace Go.Proofs.YtljkfjjchkehaaaGreatDoor.EN
open Go.ChangeShapes Go.WideShapes Go.ChangeAt Go.RowKit
theorem q3V (w:World) (x y:Nat) (hT:Tab w) (hx:x<2^64) (hy:y<2^64) (hfx:fex x<2047) (dF:fex y<2047):
  Calls Tryz.prog 122 #[.float .f64 x,.float .f64 y] w (RetQ w (Uz (fz x-fz y))):=by
 have fH:Hid (∀ w1,G w w1→Calls Tryz.prog 94 #[.float .f64 x] w1 (q7v w1 (Uz (fz x)) 0)):=fun w1 g=>by
  rw[← q8V hx hfx];exact of_c w1 x (hT.G g) hx hfx
 have bS:Hid (∀ w1,G w w1→Calls Tryz.prog 94 #[.float .f64 y] w1 (q7v w1 (Uz (fz y)) 0)):=fun w1 g=>by
  rw[← q8V hy dF];exact of_c w1 y (hT.G g) hy dF
 have HS:Hid (∀ w1 v u,G w w1→QIs w1 v (Uz (fz x))→QIs w1 u (Uz (fz y))→Calls Tryz.prog 63 #[v,u] w1 (RetQ w1 (Uz (fz x-fz y)))):=fun w1 v u g h1 h2=>by
  rw[← q9i]
  exact q7E w1 v u _ _ 80 (by omega) (by omega) (hT.G g) h1 h2 (q9b x) (q9b y)
 clear hT hx hy hfx dF
 generalize Uz (fz x-fz y)=r at *
 generalize Uz (fz x)=p at *
 generalize Uz (fz y)=q at *
 go_enter Tryz.func122,Tryz.ntmps122
 go_wp2_with fail
 obtain⟨w0,ae,g0,hz0,R0⟩:=q0J w [.bool false,.slice none 0 0,.slice none 0 0] 97
 rw[ae]
 clear ae
 refine Calls.mono (P:=Tryz.prog) (fH.out w0 g0) ?_
 intro e1 w1 hs
 obtain⟨v,rfl,g1,hv⟩:=hs
 have HV:Hid (QIs w1 v p):=hv
 obtain⟨a8,k8,c8,a9,k9,c9,rfl,-,-⟩:=hv
 generalize decide (p.num<0)=t9 at *
 have RR:Hid (Rec w1 w.heap.size [.bool false,.slice none 0 0,.slice none 0 0]):=Rec.G R0.out g1
 have aK:=G.trans g0 g1
 clear fH R0 g0 g1 hz0
 go_wp2_with fail
 obtain⟨w2,ae,g2,hz2,R0⟩:=q0J w1 [.bool t9,.slice a8 k8 c8,.slice a9 k9 c9] 97
 rw[ae]
 clear ae
 refine Calls.mono (P:=Tryz.prog) (bS.out w2 (G.trans aK g2)) ?_
 intro e1 w3 hs
 obtain⟨u,rfl,g3,hu⟩:=hs
 have HU:Hid (QIs w3 u q):=hu
 obtain⟨a6,k6,c6,a7,k7,c7,rfl,-,-⟩:=hu
 generalize decide (q.num<0)=t7 at *
 have g13:=G.trans g2 g3
 have R3:Hid (Rec w3 w1.heap.size _):=Rec.G R0.out g3
 have jL:Hid (QIs w3 _ p):=QIs.G HV.out g13
 clear bS HV R0 hz2 g2 g3
 have hlt:=R3.out.lt
 have gG:=Rec.f3 (Rec.G R3.out (G.refl _))
 have nI:=gG.1
 have nJ:=gG.2.1
 have nK:=gG.2.2.1
 have nL:=gG.2.2.2.1
 have nM:=gG.2.2.2.2.1
 have nN:=gG.2.2.2.2.2
 clear gG
 go_wp2_with fail
 clear nI nJ nK nL nM nN hlt
 obtain⟨w4,ae,g4,FU,R0⟩:=q0J w3 [.bool t7,.slice a6 k6 c6,.slice a7 k7 c7] 97
 rw[ae]
 clear ae
 have g14:=G.trans g13 g4
 refine Calls.mono (P:=Tryz.prog) (HS.out w4 _ _ (G.trans aK g14) (QIs.G jL.out g4) (QIs.G HU.out g4)) ?_
 intro e1 w5 hs
 obtain⟨s,rfl,g5,hs5⟩:=hs
 have g15:=G.trans g14 g5
 clear HS jL HU R0 R3 FU
 obtain⟨a8,k8,c8,a9,k9,c9,rfl,aN,av⟩:=hs5
 have dG:Hid (Num w5 (.slice a8 k8 c8) (r).num.natAbs):=aN
 have aU:Hid (Num w5 (.slice a9 k9 c9) (q1i (r).den)):=av
 obtain⟨t9,au⟩:∃ t,t=decide ((r).num<0):=⟨_,rfl⟩
 rw[← au]
 have aV:Hid (t9=decide ((r).num<0)):=au
 clear aN av au
 have hS:=Rec.f3 (Rec.G RR.out ((g15)))
 have ah:=hS.1
 have ai:=hS.2.1
 have aj:=hS.2.2.1
 have ak:=hS.2.2.2.1
 have aF:=hS.2.2.2.2.1
 have aG:=hS.2.2.2.2.2
 clear hS
 have aH:Num _ _ _:=q0e (u1:= .bool t9) (u2:= .slice a8 k8 c8) (u3:= .slice a9 k9 c9) dG.out (Rec.G RR.out (g15)) trivial trivial trivial
 have ag:Num _ _ _:=q0e (u1:= .bool t9) (u2:= .slice a8 k8 c8) (u3:= .slice a9 k9 c9) aU.out (Rec.G RR.out (g15)) trivial trivial trivial
 go_wp2_with fail
 have hT:Hid (Rec (World.setCell (World.setCell (World.setCell w5 ⟨w.heap.size,0,none⟩ (.bool t9)) ⟨w.heap.size,1,none⟩ (.slice a8 k8 c8)) ⟨w.heap.size,2,none⟩ (.slice a9 k9 c9)) (w.heap.size) [.bool t9,.slice a8 k8 c8,.slice a9 k9 c9]):=Rec.set3 (Rec.G RR.out (g15))
 have g9:=Rec.g3 (b:=w.heap.size) (u:= .bool t9) (v:= .slice a8 k8 c8) (x:= .slice a9 k9 c9) (G.trans aK g15) (by omega)
 generalize (World.setCell (World.setCell (World.setCell w5 ⟨w.heap.size,0,none⟩ (.bool t9)) ⟨w.heap.size,1,none⟩ (.slice a8 k8 c8)) ⟨w.heap.size,2,none⟩ (.slice a9 k9 c9))=w9 at *
 have hF:=Rec.f3 (Rec.G hT.out ((G.refl _)))
 have az:=hF.1
 have aA:=hF.2.1
 have aB:=hF.2.2.1
 have aC:=hF.2.2.2.1
 have bP:=hF.2.2.2.2.1
 have bQ:=hF.2.2.2.2.2
 clear hF
 refine bodyPost_ret (v:= .agg #[.bool t9,.slice a8 k8 c8,.slice a9 k9 c9]) (by simp [results,Tryz.results122,go_sem, *]) rfl ?_
 exact⟨_,rfl,g9,a8,k8,c8,a9,k9,c9,by rw[← aV.out],aH,ag⟩
/-- Six cells written. -/
def set6 (w:World) (b:Nat) (x0 x1 x2 x3 x4 x5:Value):World:=(((((w.setCell ⟨b,0,none⟩ x0).setCell ⟨b,1,none⟩ x1).setCell ⟨b,2,none⟩ x2).setCell ⟨b,3,none⟩ x3).setCell ⟨b,4,none⟩ x4).setCell ⟨b,5,none⟩ x5
theorem q2c {w:World} {b:Nat} {y0 y1 y2 y3 y4 y5 x0 x1 x2 x3 x4 x5:Value} (h:Rec w b [y0,y1,y2,y3,y4,y5]):Rec (set6 w b x0 x1 x2 x3 x4 x5) b [x0,x1,x2,x3,x4,x5]:=(((((h.set 0 x0).set 1 x1).set 2 x2).set 3 x3).set 4 x4).set 5 x5
theorem q4I {w0 w:World} {b:Nat} {x0 x1 x2 x3 x4 x5:Value} (g:G w0 w) (h:w0.heap.size≤b):G w0 (set6 w b x0 x1 x2 x3 x4 x5):=
 (((((g.setCell (p:=⟨b,0,none⟩) h x0).setCell (p:=⟨b,1,none⟩) h x1).setCell (p:=⟨b,2,none⟩) h x2).setCell (p:=⟨b,3,none⟩) h x3).setCell (p:=⟨b,4,none⟩) h x4).setCell (p:=⟨b,5,none⟩) h x5
theorem q4P {w:World} {b:Nat} {v:Value} {q:Rat} {y0 y1 y2 y3 y4 y5 x0 x1 x2 x3 x4 x5:Value} (h:QIs w v q) (r:Rec w b [y0,y1,y2,y3,y4,y5]) (hl:∀ x∈[y0,y1,y2,y3,y4,y5],noU x):QIs (set6 w b x0 x1 x2 x3 x4 x5) v q:=
 h.apart r hl (fun i k hi=>by
  have ho:∀ (w1:World) (j:Nat) (x:Value),(w1.setCell ⟨b,j,none⟩ x).cell? ⟨i,k,none⟩=w1.cell? ⟨i,k,none⟩:=fun w1 j x=>World.cell?_setCell_other _ _ _ _ (by intro e;injection e with e1;exact hi e1.symm)
  unfold set6
  rw[ho,ho,ho,ho,ho,ho]) (by simp [set6,World.setCell])
/-- A step's two parts. -/
def StepIs (w:World) (v:Value) (p q:Rat):Prop:=∃ t a k c a' k' c' t2 b j d b' j' d',v= .agg #[.bool t,.slice a k c,.slice a' k' c',.bool t2,.slice b j d,.slice b' j' d']∧QIs w (.agg #[.bool t,.slice a k c,.slice a' k' c']) p∧QIs w (.agg #[.bool t2,.slice b j d,.slice b' j' d']) q
theorem StepIs.G {w w':World} {v:Value} {p q:Rat} (h:StepIs w v p q) (g:Go.Proofs.YtljkfjjchkehaaaGreatDoor.G w w'):StepIs w' v p q:=by
 obtain⟨t,a,k,c,a',k',c',t2,b,j,d,b',j',d',e,h1,h2⟩:=h
 exact⟨t,a,k,c,a',k',c',t2,b,j,d,b',j',d',e,h1.G g,h2.G g⟩
def q80 (w:World) (p q:Rat) (e:Ending) (w':World):Prop:=∃ v,e= .returned v∧G w w'∧StepIs w' v p q
theorem q1k (w:World) (x1 y1 x2 y2:Nat) (hT:Tab w) (h1:x1<2^64) (h2:y1<2^64) (h3:x2<2^64) (h4:y2<2^64) (f1:fex x1<2047) (f2:fex y1<2047) (f3:fex x2<2047) (f4:fex y2<2047):
  Calls Tryz.prog 78 #[.agg #[.float .f64 x1,.float .f64 y1],.agg #[.float .f64 x2,.float .f64 y2]] w (q80 w (Uz (fz x2-fz x1)) (Uz (fz y2-fz y1))):=by
 have BC:Hid (∀ w1,G w w1→_):=fun w1 g=>q3V w1 x2 x1 (hT.G g) h3 h1 f3 f1
 have HL2:Hid (∀ w1,G w w1→_):=fun w1 g=>q3V w1 y2 y1 (hT.G g) h4 h2 f4 f2
 clear hT h1 h2 h3 h4 f1 f2 f3 f4
 generalize Uz (fz x2-fz x1)=p at *
 generalize Uz (fz y2-fz y1)=q at *
 go_enter Tryz.func78,Tryz.ntmps78
 go_wp2_with fail
 obtain⟨w0,ae,g0,hz0,R0,R1,R2⟩:=q14 w [.float .f64 x1,.float .f64 y1] [.float .f64 x2,.float .f64 y2] [.bool false,.slice none 0 0,.slice none 0 0,.bool false,.slice none 0 0,.slice none 0 0] 66 66 124
 rw[ae]
 clear ae
 refine region_each 10 2 #[true,true,true,true,true,true,true,true,true,true,false,false] [.is (.pointer (some ⟨w.heap.size+1,0,none⟩)),.is (.float .f64 x2),.is (.pointer (some ⟨w.heap.size,0,none⟩)),.is (.float .f64 x1),.any (fun v w'=>QIs w' v (p)),.is (.pointer (some ⟨w.heap.size+1,1,none⟩)),.is (.float .f64 y2),.is (.pointer (some ⟨w.heap.size,1,none⟩)),.is (.float .f64 y1),.any (fun v w'=>QIs w' v (q))] [some 5,some 6,some 7,some 8,some 9,some 10,some 11,some 12,some 13,some 14] (by kernel_rfl) (by kernel_rfl) rfl (by kernel_rfl) (by repeat (first|exact trivial|refine⟨fun _ _ _ g h=>by first|exact h.G g|exact fun w3 g3=>h w3 (G.trans g g3),?_⟩)) (by kernel_rfl) (by kernel_rfl) ?_
 refine Letters.is ?_
 refine Letters.is ?_
 refine Letters.is ?_
 refine Letters.is ?_
 refine Letters.any fun v4=> ?_
 refine Letters.is ?_
 refine Letters.is ?_
 refine Letters.is ?_
 refine Letters.is ?_
 refine Letters.any fun v9=> ?_
 refine Letters.nil ?_
 intro A hA
 simp only[q0L,Act.put,List.setIfInBounds_toArray,List.set_cons_zero,List.set_cons_succ] at hA
 subst hA
 refine⟨?_,?_⟩
 ·skip
  refine Eaches.cons rfl ?aX (Eaches.cons rfl ?bI (Eaches.cons rfl ?bJ (Eaches.cons rfl ?bK (Eaches.cons rfl ?dI (Eaches.cons rfl ?bX (Eaches.cons rfl ?bR (Eaches.cons rfl ?bY (Eaches.cons rfl ?dn (Eaches.cons rfl ?fI (Eaches.nil))))))))))
  case aX|bJ|bX|bY=>
   intro W hW hD K hK
   clear hD
   go_simp
   exact hK.out _ _ ⟨_,rfl,G.refl _,rfl⟩
  case bI|bK|bR|dn=>
   intro W hW hD K hK
   clear hD
   have hR0:=Rec.f2 (Rec.G R0.out hW)
   have bG:=hR0.1
   have bH:=hR0.2.1
   clear hR0
   have bL:=Rec.f2 (Rec.G R1.out hW)
   have eB:=bL.1
   have eD:=bL.2.1
   clear bL
   go_simp
   exact hK.out _ _ ⟨_,rfl,G.refl _,rfl⟩
  ·intro W hW hD K hK
   clear hD
   go_simp
   go_wp2_with (go_at_call 122;refine Calls.mono (P:=Tryz.prog) (BC.out W (G.trans g0 hW)) ?_;intro e w9 hs;obtain⟨u9,rfl,g9,aa⟩:=hs)
   exact hK.out _ _ ⟨_,rfl,g9,aa⟩
  ·intro W hW hD K hK
   clear hD
   go_simp
   go_wp2_with (go_at_call 122;refine Calls.mono (P:=Tryz.prog) (HL2.out W (G.trans g0 hW)) ?_;intro e w9 hs;obtain⟨u9,rfl,g9,aa⟩:=hs)
   exact hK.out _ _ ⟨_,rfl,g9,aa⟩
 intro w1 g1 hH
 have h4:=Helds.get (v:=v4) 4 hH rfl rfl
 have h9:=Helds.get (v:=v9) 9 hH rfl rfl
 clear hH
 clear BC HL2
 have BD:Hid (QIs w1 v4 p):=h4
 have BF:Hid (QIs w1 v9 q):=h9
 obtain⟨a8,k8,c8,a9,k9,c9,rfl,-,-⟩:=h4
 obtain⟨a6,k6,c6,a7,k7,c7,rfl,-,-⟩:=h9
 generalize decide (p.num<0)=t9 at *
 generalize decide (q.num<0)=t7 at *
 have RR:Hid (Rec w1 (w.heap.size+1+1) [.bool false,.slice none 0 0,.slice none 0 0,.bool false,.slice none 0 0,.slice none 0 0]):=Rec.G R2.out g1
 have aK:=G.trans g0 g1
 clear R0 R1 R2 g0 g1 hz0
 have hnu:∀ x∈[Value.bool false,.slice none 0 0,.slice none 0 0,.bool false,.slice none 0 0,.slice none 0 0],noU x:=by
  intro x hx m e
  subst e
  simp at hx
 have BG:Hid (QIs (set6 w1 (w.heap.size+1+1) (.bool t9) (.slice a8 k8 c8) (.slice a9 k9 c9) (.bool t7) (.slice a6 k6 c6) (.slice a7 k7 c7)) _ p):=q4P BD.out RR.out hnu
 have BH:Hid (QIs (set6 w1 (w.heap.size+1+1) (.bool t9) (.slice a8 k8 c8) (.slice a9 k9 c9) (.bool t7) (.slice a6 k6 c6) (.slice a7 k7 c7)) _ q):=q4P BF.out RR.out hnu
 have RS:Hid (Rec (set6 w1 (w.heap.size+1+1) (.bool t9) (.slice a8 k8 c8) (.slice a9 k9 c9) (.bool t7) (.slice a6 k6 c6) (.slice a7 k7 c7)) _ _):=q2c RR.out
 have gS:G w (set6 w1 (w.heap.size+1+1) (.bool t9) (.slice a8 k8 c8) (.slice a9 k9 c9) (.bool t7) (.slice a6 k6 c6) (.slice a7 k7 c7)):=q4I aK (by omega)
 clear BD BF hnu
 obtain⟨hc0,hc1,hc2,hc3,hc4,kG,hf0,hf1,hf2,hf3,jS,jg⟩:=RR.out.f6
 refine wpAny_ready (rs:=[10]) (by kernel_rfl) (by simp) ?_
 refine AllReady.cons rfl (fun K hK=> ?_) AllReady.nil
 go_simp
 refine hK _ _ ?_
 clear hK K
 refine wpAny_ready (rs:=[11]) (by kernel_rfl) (by simp) ?_
 refine AllReady.cons rfl (fun K hK=> ?_) AllReady.nil
 go_simp
 refine hK _ _ ?_
 clear hK K hc0 hc1 hc2 hc3 hc4 kG hf0 hf1 hf2 hf3 jS jg
 refine wpAny_done (by kernel_rfl) ?_ _
 unfold set6 at BG BH RS gS
 generalize (((((w1.setCell ⟨w.heap.size+1+1,0,none⟩ (.bool t9)).setCell ⟨w.heap.size+1+1,1,none⟩ (.slice a8 k8 c8)).setCell ⟨w.heap.size+1+1,2,none⟩ (.slice a9 k9 c9)).setCell ⟨w.heap.size+1+1,3,none⟩ (.bool t7)).setCell ⟨w.heap.size+1+1,4,none⟩ (.slice a6 k6 c6)).setCell ⟨w.heap.size+1+1,5,none⟩ (.slice a7 k7 c7)=w2 at *
 obtain⟨hc0,hc1,hc2,hc3,hc4,kG,-⟩:=RS.out.f6
 go_wp2_with fail
 refine bodyPost_ret (v:= .agg #[.bool t9,.slice a8 k8 c8,.slice a9 k9 c9,.bool t7,.slice a6 k6 c6,.slice a7 k7 c7]) (by simp [results,Tryz.results78,go_sem, *]) rfl ?_
 exact⟨_,rfl,gS,t9,a8,k8,c8,a9,k9,c9,t7,a6,k6,c6,a7,k7,c7,rfl,BG.out,BH.out⟩
theorem q3f (w:World) (v u:Value) (px py qx qy:Rat) (K:Nat) (hK1:1≤K) (hK:K≤10000) (hT:Tab w) (hv:StepIs w v px py) (hu:StepIs w u qx qy) (b1:QB px K) (b2:QB py K) (b3:QB qx K) (b4:QB qy K):
  Calls Tryz.prog 80 #[v,u] w (RetQ w (px*qy-py*qx)):=by
 obtain⟨t1,a1,k1,c1,a2,k2,c2,t2,a3,k3,c3,a4,k4,c4,rfl,hp1,hp2⟩:=hv
 obtain⟨t3,a5,k5,c5,a6,k6,c6,t4,a7,k7,c7,a8,k8,c8,rfl,hq1,hq2⟩:=hu
 have gN:Hid (∀ w1,G w w1→_):=fun w1 g=>q2v w1 _ _ px qy K (by omega) hK1 (hT.G g) (hp1.G g) (hq2.G g) b1 b4
 have dV:Hid (∀ w1,G w w1→_):=fun w1 g=>q2v w1 _ _ py qx K (by omega) hK1 (hT.G g) (hp2.G g) (hq1.G g) b2 b3
 have HS:Hid (∀ w1 v u,G w w1→QIs w1 v (px*qy)→QIs w1 u (py*qx)→_):=fun w1 v u g k1 k2=>q7E w1 v u _ _ (K+K) (by omega) (by omega) (hT.G g) k1 k2 (q4O b1 b4) (q4O b2 b3)
 clear hT hp1 hp2 hq1 hq2 b1 b2 b3 b4
 generalize px*qy-py*qx=r at *
 generalize px*qy=p at *
 generalize py*qx=q at *
 go_enter Tryz.func80,Tryz.ntmps80
 go_wp2_with fail
 obtain⟨w0,ae,g0,hz0,R0,R1,R2⟩:=q14 w [.bool t1,.slice a1 k1 c1,.slice a2 k2 c2,.bool t2,.slice a3 k3 c3,.slice a4 k4 c4] [.bool t3,.slice a5 k5 c5,.slice a6 k6 c6,.bool t4,.slice a7 k7 c7,.slice a8 k8 c8] [.bool false,.slice none 0 0,.slice none 0 0] 124 124 97
 rw[ae]
 clear ae
 refine region_each 11 1 #[true,true,true,true,true,true,true,true,true,true,true,false] [.is (.pointer (some ⟨w.heap.size,0,none⟩)),.is (.agg #[.bool t1,.slice a1 k1 c1,.slice a2 k2 c2]),.is (.pointer (some ⟨w.heap.size+1,3,none⟩)),.is (.agg #[.bool t4,.slice a7 k7 c7,.slice a8 k8 c8]),.any (fun v w'=>QIs w' v (p)),.is (.pointer (some ⟨w.heap.size,3,none⟩)),.is (.agg #[.bool t2,.slice a3 k3 c3,.slice a4 k4 c4]),.is (.pointer (some ⟨w.heap.size+1,0,none⟩)),.is (.agg #[.bool t3,.slice a5 k5 c5,.slice a6 k6 c6]),.any (fun v w'=>QIs w' v (q)),.any (fun v w'=>QIs w' v (r))] [some 5,some 6,some 7,some 8,some 9,some 10,some 11,some 12,some 13,some 14,some 15] (by kernel_rfl) (by kernel_rfl) rfl (by kernel_rfl) (by repeat (first|exact trivial|refine⟨fun _ _ _ g h=>by first|exact h.G g|exact fun w3 g3=>h w3 (G.trans g g3),?_⟩)) (by kernel_rfl) (by kernel_rfl) ?_
 refine Letters.is ?_
 refine Letters.is ?_
 refine Letters.is ?_
 refine Letters.is ?_
 refine Letters.any fun v4=> ?_
 refine Letters.is ?_
 refine Letters.is ?_
 refine Letters.is ?_
 refine Letters.is ?_
 refine Letters.any fun v9=> ?_
 refine Letters.any fun v10=> ?_
 refine Letters.nil ?_
 intro A hA
 simp only[q0L,Act.put,List.setIfInBounds_toArray,List.set_cons_zero,List.set_cons_succ] at hA
 subst hA
 refine⟨?_,?_⟩
 ·skip
  refine Eaches.cons rfl ?aX (Eaches.cons rfl ?bI (Eaches.cons rfl ?bJ (Eaches.cons rfl ?bK (Eaches.cons rfl ?dI (Eaches.cons rfl ?bX (Eaches.cons rfl ?bR (Eaches.cons rfl ?bY (Eaches.cons rfl ?dn (Eaches.cons rfl ?fI (Eaches.cons rfl ?gM (Eaches.nil)))))))))))
  case aX|bJ|bX|bY=>
   intro W hW hD K hK
   clear hD
   go_simp
   exact hK.out _ _ ⟨_,rfl,G.refl _,rfl⟩
  case bI|bK|bR|dn=>
   intro W hW hD K hK
   clear hD
   have hR0:=Rec.f6 (Rec.G R0.out hW)
   have bG:=hR0.1
   have bH:=hR0.2.1
   have iL:=hR0.2.2.1
   have tX:=hR0.2.2.2.1
   have tY:=hR0.2.2.2.2.1
   have tZ:=hR0.2.2.2.2.2.1
   clear hR0
   have bL:=Rec.f6 (Rec.G R1.out hW)
   have eB:=bL.1
   have eD:=bL.2.1
   have kU:=bL.2.2.1
   have Bu:=bL.2.2.2.1
   have Bv:=bL.2.2.2.2.1
   have Bw:=bL.2.2.2.2.2.1
   clear bL
   go_simp
   exact hK.out _ _ ⟨_,rfl,G.refl _,rfl⟩
  ·intro W hW hD K hK
   clear hD
   go_simp
   go_wp2_with (go_at_call 56;refine Calls.mono (P:=Tryz.prog) (gN.out W (G.trans g0 hW)) ?_;intro e w9 hs;obtain⟨u9,rfl,g9,aa⟩:=hs)
   exact hK.out _ _ ⟨_,rfl,g9,aa⟩
  ·intro W hW hD K hK
   clear hD
   go_simp
   go_wp2_with (go_at_call 56;refine Calls.mono (P:=Tryz.prog) (dV.out W (G.trans g0 hW)) ?_;intro e w9 hs;obtain⟨u9,rfl,g9,aa⟩:=hs)
   exact hK.out _ _ ⟨_,rfl,g9,aa⟩
  ·intro W hW hD K hK
   have h4:=Deps.get (v:=v4) 4 hD rfl rfl (by kernel_rfl)
   have h9:=Deps.get (v:=v9) 9 hD rfl rfl (by kernel_rfl)
   clear hD
   go_simp
   go_wp2_with (go_at_call 63;refine Calls.mono (P:=Tryz.prog) (HS.out W v4 v9 (G.trans g0 hW) h4 h9) ?_;intro e w9 hs;obtain⟨u9,rfl,g9,aa⟩:=hs)
   exact hK.out _ _ ⟨_,rfl,g9,aa⟩
 intro w1 g1 hH
 have h10:=Helds.get (v:=v10) 10 hH rfl rfl
 clear hH
 clear gN dV HS
 have RR:Hid (Rec w1 (w.heap.size+1+1) [.bool false,.slice none 0 0,.slice none 0 0]):=Rec.G R2.out g1
 obtain⟨a8,k8,c8,a9,k9,c9,rfl,aN,av⟩:=h10
 have dG:Hid (Num w1 (.slice a8 k8 c8) (r).num.natAbs):=aN
 have aU:Hid (Num w1 (.slice a9 k9 c9) (q1i (r).den)):=av
 obtain⟨t9,au⟩:∃ t,t=decide ((r).num<0):=⟨_,rfl⟩
 rw[← au]
 have aV:Hid (t9=decide ((r).num<0)):=au
 clear aN av au
 have hS:=Rec.f3 (Rec.G RR.out (G.refl _))
 have ah:=hS.1
 have ai:=hS.2.1
 have aj:=hS.2.2.1
 have ak:=hS.2.2.2.1
 have aF:=hS.2.2.2.2.1
 have aG:=hS.2.2.2.2.2
 clear hS
 refine wpAny_ready (rs:=[11]) (by kernel_rfl) (by simp) ?_
 refine AllReady.cons rfl (fun K hK=> ?_) AllReady.nil
 go_simp
 refine hK _ _ ?_
 clear hK K ah ai aj ak aF aG
 refine wpAny_done (by kernel_rfl) ?_ _
 have aH:Num _ _ _:=q0e (u1:= .bool t9) (u2:= .slice a8 k8 c8) (u3:= .slice a9 k9 c9) dG.out (Rec.G RR.out (G.refl _)) trivial trivial trivial
 have ag:Num _ _ _:=q0e (u1:= .bool t9) (u2:= .slice a8 k8 c8) (u3:= .slice a9 k9 c9) aU.out (Rec.G RR.out (G.refl _)) trivial trivial trivial
 go_wp2_with fail
 have hT:Hid (Rec (World.setCell (World.setCell (World.setCell w1 ⟨w.heap.size+1+1,0,none⟩ (.bool t9)) ⟨w.heap.size+1+1,1,none⟩ (.slice a8 k8 c8)) ⟨w.heap.size+1+1,2,none⟩ (.slice a9 k9 c9)) (w.heap.size+1+1) [.bool t9,.slice a8 k8 c8,.slice a9 k9 c9]):=Rec.set3 (Rec.G RR.out (G.refl _))
 have g9:=Rec.g3 (b:=w.heap.size+1+1) (u:= .bool t9) (v:= .slice a8 k8 c8) (x:= .slice a9 k9 c9) (G.trans g0 g1) (by omega)
 generalize (World.setCell (World.setCell (World.setCell w1 ⟨w.heap.size+1+1,0,none⟩ (.bool t9)) ⟨w.heap.size+1+1,1,none⟩ (.slice a8 k8 c8)) ⟨w.heap.size+1+1,2,none⟩ (.slice a9 k9 c9))=w9 at *
 have hF:=Rec.f3 (Rec.G hT.out ((G.refl _)))
 have az:=hF.1
 have aA:=hF.2.1
 have aB:=hF.2.2.1
 have aC:=hF.2.2.2.1
 have bP:=hF.2.2.2.2.1
 have bQ:=hF.2.2.2.2.2
 clear hF
 refine bodyPost_ret (v:= .agg #[.bool t9,.slice a8 k8 c8,.slice a9 k9 c9]) (by simp [results,Tryz.results80,go_sem, *]) rfl ?_
 exact⟨_,rfl,g9,a8,k8,c8,a9,k9,c9,by rw[← aV.out],aH,ag⟩
theorem q1c (x y:Nat):QB (Uz (fz x-fz y)) 80:=by
 refine q9e ?_
 have h1:=q6b x
 have h2:=q6b y
 obtain⟨M,hM⟩:∃ M:Nat,M=5000:=⟨_,rfl⟩
 obtain⟨N,hN⟩:∃ N:Nat,N=2099:=⟨_,rfl⟩
 rw[← hM]
 rw[← hN] at h1 h2
 have h3:2^(N+1)≤2^M:=Nat.pow_le_pow_right (by omega) (by omega)
 rw[Nat.pow_succ] at h3
 omega
/-- Twice the area of three points, in units times units. -/
def q2C (ax ay bx dB cx cy:Nat):Int:=(fz bx-fz ax)*(fz cy-fz ay)-(fz dB-fz ay)*(fz cx-fz ax)
theorem q5T {D:Nat} (h:0<D) (x y:Int):mkRat x D+mkRat y D=mkRat (x+y) D:=by
 rw[← Rat.divInt_ofNat,← Rat.divInt_ofNat,← Rat.divInt_ofNat,Rat.divInt_add_divInt _ _ (by omega) (by omega)]
 rw[Rat.divInt_eq_divInt_iff (by have:(D:Int)*D≠0:=by apply Int.mul_ne_zero<;>omega
                                 exact this) (by omega)]
 rw[← Int.add_mul,Int.mul_assoc]
theorem q7F {D:Nat} (h:0<D) (x y:Int):mkRat x D-mkRat y D=mkRat (x-y) D:=by
 rw[Rat.sub_eq_add_neg,Rat.neg_mkRat,q5T h];rfl
theorem q61 {D:Nat} (hD:0<D) (z:Int):(mkRat z D).num.sign=z.sign:=by
 have h:=mk_cross (q:=mkRat z D) hD rfl
 have h1:=(mkRat z D).den_pos
 generalize (mkRat z D).den=d at *
 generalize (mkRat z D).num=n at *
 have h3:=congrArg Int.sign h
 rw[Int.sign_mul,Int.sign_mul,Int.sign_eq_one_of_pos (a:=(d:Int)) (by omega),Int.sign_eq_one_of_pos (a:=(D:Int)) (by omega),Int.mul_one,Int.mul_one] at h3
 exact h3.symm
theorem q9g:∃ D,0<D∧∀ a b:Int,Uz a*Uz b=mkRat (a*b) D:=⟨_,Nat.mul_pos q1g q1g,fun a b=>by unfold Uz;rw[Rat.mkRat_mul_mkRat]⟩
theorem q49 (a b c d:Int):(Uz a*Uz b-Uz c*Uz d).num.sign=(a*b-c*d).sign:=by
 obtain⟨D,hD,e⟩:=q9g
 rw[e,e,q7F hD,q61 hD]
theorem q7D (w:World) (ax ay bx b2 cx cy:Nat) (hT:Tab w) (h1:ax<2^64) (h2:ay<2^64) (h3:bx<2^64) (h4:b2<2^64) (h5:cx<2^64) (h6:cy<2^64)
  (f1:fex ax<2047) (f2:fex ay<2047) (f3:fex bx<2047) (f4:fex b2<2047) (f5:fex cx<2047) (f6:fex cy<2047):
  Calls Tryz.prog 77 #[.agg #[.float .f64 ax,.float .f64 ay],.agg #[.float .f64 bx,.float .f64 b2],.agg #[.float .f64 cx,.float .f64 cy]] w fun e w'=>e= .returned (.int .i64 (q2C ax ay bx b2 cx cy).sign)∧G w w':=by
 have HB1:Hid (∀ w1,G w w1→_):=fun w1 g=>q1k w1 ax ay bx b2 (hT.G g) h1 h2 h3 h4 f1 f2 f3 f4
 have HB2:Hid (∀ w1,G w w1→_):=fun w1 g=>q1k w1 ax ay cx cy (hT.G g) h1 h2 h5 h6 f1 f2 f5 f6
 have HX:Hid (∀ w1 v u,G w w1→StepIs w1 v (Uz (fz bx-fz ax)) (Uz (fz b2-fz ay))→StepIs w1 u (Uz (fz cx-fz ax)) (Uz (fz cy-fz ay))→_):=fun w1 v u g k1 k2=>q3f w1 v u _ _ _ _ 80 (by omega) (by omega) (hT.G g) k1 k2 (q1c _ _) (q1c _ _) (q1c _ _) (q1c _ _)
 have hz:=q49 (fz bx-fz ax) (fz cy-fz ay) (fz b2-fz ay) (fz cx-fz ax)
 have vQ:Hid (∀ w1 v,QIs w1 v (Uz (fz bx-fz ax)*Uz (fz cy-fz ay)-Uz (fz b2-fz ay)*Uz (fz cx-fz ax))→Calls Tryz.prog 81 #[v] w1 fun e w'=>e= .returned (.int .i64 (q2C ax ay bx b2 cx cy).sign)∧G w1 w'):=fun w1 v h=>by
  have k:=q60 w1 v _ h
  rw[hz] at k
  exact k
 clear hz hT h1 h2 h3 h4 h5 h6 f1 f2 f3 f4 f5 f6
 generalize (q2C ax ay bx b2 cx cy).sign=z at *
 generalize Uz (fz bx-fz ax)=p1 at *
 generalize Uz (fz b2-fz ay)=p2 at *
 generalize Uz (fz cx-fz ax)=q1 at *
 generalize Uz (fz cy-fz ay)=q2 at *
 generalize p1*q2-p2*q1=r at *
 go_enter Tryz.func77,Tryz.ntmps77
 go_wp2_with fail
 obtain⟨w0,ae,g0,hz0,R0,R1,R2⟩:=q14 w [.float .f64 ax,.float .f64 ay] [.float .f64 bx,.float .f64 b2] [.float .f64 cx,.float .f64 cy] 66 66 66
 rw[ae]
 clear ae
 refine region_each 8 1 #[true,true,true,true,true,true,true,true,false] [.is (.agg #[.float .f64 ax,.float .f64 ay]),.is (.agg #[.float .f64 bx,.float .f64 b2]),.any (fun v w'=>StepIs w' v p1 p2),.is (.agg #[.float .f64 ax,.float .f64 ay]),.is (.agg #[.float .f64 cx,.float .f64 cy]),.any (fun v w'=>StepIs w' v q1 q2),.any (fun v w'=>QIs w' v (r)),.is (.int .i64 z)] [some 7,some 8,some 9,some 10,some 11,some 12,some 13,some 14] (by kernel_rfl) (by kernel_rfl) rfl (by kernel_rfl) (by repeat (first|exact trivial|refine⟨fun _ _ _ g h=>by first|exact h.G g|exact fun w3 g3=>h w3 (G.trans g g3),?_⟩)) (by kernel_rfl) (by kernel_rfl) ?_
 refine Letters.is ?_
 refine Letters.is ?_
 refine Letters.any fun v2=> ?_
 refine Letters.is ?_
 refine Letters.is ?_
 refine Letters.any fun v5=> ?_
 refine Letters.any fun v6=> ?_
 refine Letters.is ?_
 refine Letters.nil ?_
 intro A hA
 simp only[q0L,Act.put,List.setIfInBounds_toArray,List.set_cons_zero,List.set_cons_succ] at hA
 subst hA
 refine⟨?_,?_⟩
 ·skip
  refine Eaches.cons rfl ?bW (Eaches.cons rfl ?dX (Eaches.cons rfl ?di (Eaches.cons rfl ?dm (Eaches.cons rfl ?dY (Eaches.cons rfl ?fE (Eaches.cons rfl ?ig (Eaches.cons rfl ?jV (Eaches.nil))))))))
  case bW|dX|dm|dY=>
   intro W hW hD K hK
   clear hD
   have hR0:=Rec.f2 (Rec.G R0.out hW)
   have bG:=hR0.1
   have bH:=hR0.2.1
   clear hR0
   have bL:=Rec.f2 (Rec.G R1.out hW)
   have eB:=bL.1
   have eD:=bL.2.1
   clear bL
   have hR2:=Rec.f2 (Rec.G R2.out hW)
   have BA:=hR2.1
   have BB:=hR2.2.1
   clear hR2
   go_simp
   exact hK.out _ _ ⟨_,rfl,G.refl _,rfl⟩
  ·intro W hW hD K hK
   clear hD
   go_simp
   go_wp2_with (go_at_call 78;refine Calls.mono (P:=Tryz.prog) (HB1.out W (G.trans g0 hW)) ?_;intro e w9 hs;obtain⟨u9,rfl,g9,aa⟩:=hs)
   exact hK.out _ _ ⟨_,rfl,g9,aa⟩
  ·intro W hW hD K hK
   clear hD
   go_simp
   go_wp2_with (go_at_call 78;refine Calls.mono (P:=Tryz.prog) (HB2.out W (G.trans g0 hW)) ?_;intro e w9 hs;obtain⟨u9,rfl,g9,aa⟩:=hs)
   exact hK.out _ _ ⟨_,rfl,g9,aa⟩
  ·intro W hW hD K hK
   have h2:=Deps.get (v:=v2) 2 hD rfl rfl (by kernel_rfl)
   have h5:=Deps.get (v:=v5) 5 hD rfl rfl (by kernel_rfl)
   clear hD
   go_simp
   go_wp2_with (go_at_call 80;refine Calls.mono (P:=Tryz.prog) (HX.out W v2 v5 (G.trans g0 hW) h2 h5) ?_;intro e w9 hs;obtain⟨u9,rfl,g9,aa⟩:=hs)
   exact hK.out _ _ ⟨_,rfl,g9,aa⟩
  ·intro W hW hD K hK
   have h6:=Deps.get (v:=v6) 6 hD rfl rfl (by kernel_rfl)
   clear hD
   go_simp
   go_wp2_with (go_at_call 81;refine Calls.mono (P:=Tryz.prog) (vQ.out W v6 h6) ?_;intro e w9 hs;obtain⟨rfl,g9⟩:=hs)
   exact hK.out _ _ ⟨_,rfl,g9,rfl⟩
 intro w1 g1 hH
 clear hH
 refine wpAny_ready (rs:=[8]) (by kernel_rfl) (by simp) ?_
 refine AllReady.cons rfl (fun K hK=> ?_) AllReady.nil
 go_simp
 refine hK _ _ ?_
 clear hK K
 refine wpAny_done (by kernel_rfl) ?_ _
 go_wp2_with fail
 go_ret
 exact⟨rfl,G.trans g0 g1⟩
/-- A store of a float. -/
theorem q0h (P:Program) (w:World) (a:Addr) (m:Mode) (k:FloatKind) (n:Nat):(store a (.float k n) m).run P w=stored P w a (.float k n) m:=run_store P w a _ m rfl
attribute [local go_sem] q0h
end Go.Proofs.YtljkfjjchkehaaaGreatDoor.EN
namespace Go.Proofs.YtljkfjjchkehaaaGreatDoor.EN
open Go.ChangeShapes Go.WideShapes Go.ChangeAt Go.RowKit
attribute [local go_sem] q0h
theorem q8f {x:Nat}:(FloatKind.f64.format.order (FT.rung x) 9218868437227405311==some .lt||FloatKind.f64.format.order (FT.rung x) 9218868437227405311==some .eq)=decide (fex x<2047):=by
 have hr:=rung_lt x
 have e1:FT.wrd false (FT.rung x)=FT.rung x:=rfl
 have e2:FT.wrd false 9218868437227405311=9218868437227405311:=rfl
 have n2:=q81 false (V:=9218868437227405311) (by omega)
 have r1:=FT.wrd_rung false (FT.rung x) hr
 have r2:=FT.wrd_rung false 9218868437227405311 (by omega)
 have s1:=FT.wrd_neg false (FT.rung x) hr
 have s2:=FT.wrd_neg false 9218868437227405311 (by omega)
 rw[e1] at r1 s1
 rw[e2] at n2 r2 s2
 have hfi:=q1P x
 rw[FT.ord_f,n2]
 by_cases hn:FT.nan (FT.rung x)=true
 ·have h1:2047*2^52<FT.rung x:=by
   unfold FT.nan at hn
   rw[r1] at hn
   exact of_decide_eq_true hn
  rw[hn]
  have:decide (fex x<2047)=false:=decide_eq_false (fun h=>by have:=hfi.1 h;omega)
  rw[this]
  rfl
 ·have hn:FT.nan (FT.rung x)=false:=by simpa using hn
  rw[hn]
  unfold FT.key
  rw[s1,s2,r1,r2]
  simp only[Bool.or_self,Bool.false_eq_true,if_false]
  simp only[show ((9218868437227405311:Nat):Int)=9218868437227405311 from rfl]
  rcases Int.lt_trichotomy (FT.rung x:Int) 9218868437227405311 with h|h|h
  ·rw[Int.compare_eq_lt.2 h,decide_eq_true (hfi.2 (by omega))];rfl
  ·rw[Int.compare_eq_eq.2 h,decide_eq_true (hfi.2 (by omega))];rfl
  ·rw[Int.compare_eq_gt.2 h,decide_eq_false (fun h2=>by have:=hfi.1 h2;omega)];rfl
theorem q3G (w:World) (x:Nat) (hx:x<2^64):Calls Tryz.prog 121 #[.float .f64 x] w fun e w'=>e= .returned (.bool (decide (fex x<2047)))∧G w w':=by
 have HA:Hid (∀ w1,_):=fun w1=>q8h x w1 hx
 go_enter Tryz.func121,Tryz.ntmps121
 go_wp2_with fail
 refine Calls.mono (P:=Tryz.prog) (HA.out w) ?_
 rintro e w1 ⟨rfl,g1⟩
 go_wp2_with fail
 go_ret
 exact⟨by rw[← q8f];rfl,g1⟩
/-- A slice of points. -/
def PSl (w:World) (v:Value) (l:List (Nat×Nat)):Prop:=
 ∃ a c,v= .slice a l.length c∧l.length≤c∧∀ i,i<l.length→∃ b o,a=some ⟨b,o,none⟩∧b<w.heap.size∧w.cell? ⟨b,o+i*2,none⟩=some (.float .f64 (l.getD i (0,0)).1)∧w.cell? ⟨b,o+i*2+1,none⟩=some (.float .f64 (l.getD i (0,0)).2)
theorem PSl.G {w w':World} {v:Value} {l:List (Nat×Nat)} (h:PSl w v l) (g:G w w'):PSl w' v l:=by
 obtain⟨a,c,e,hc,h⟩:=h
 refine⟨a,c,e,hc,fun i hi=> ?_⟩
 obtain⟨b,o,e1,h1,h2,h3⟩:=h i hi
 exact⟨b,o,e1,Nat.lt_of_lt_of_le h1 g.size,g.cell (p:=⟨b,o+i*2,none⟩) h1 h2,g.cell (p:=⟨b,o+i*2+1,none⟩) h1 h3⟩
def FinP (p:Nat×Nat):Prop:=fex p.1<2047∧fex p.2<2047
/-- A call hands back where the first point is that isn't finite, or no fault. -/
def q6Y (w:World) (l:List (Nat×Nat)) (e:Ending) (w':World):Prop:=∃ c a:Int,e= .returned (.agg #[.int .i64 c,.int .i64 a])∧G w w'∧
 ((c=0∧a=0∧∀ i,i<l.length→FinP (l.getD i (0,0)))∨(∃ i:Nat,c=4∧a=i∧i<l.length∧¬ FinP (l.getD i (0,0))∧∀ j,j<i→FinP (l.getD j (0,0))))
theorem q4m (w:World) (v:Value) (l:List (Nat×Nat)) (h:PSl w v l) (hl:∀ i,i<l.length→(l.getD i (0,0)).1<2^64∧(l.getD i (0,0)).2<2^64) (hn:l.length≤60):
  Calls Tryz.prog 76 #[v] w (q6Y w l):=by
 obtain⟨pa,ca,rfl,-,hrow⟩:=h
 have HR:Hid _:=hrow
 have HL:Hid _:=hl
 obtain⟨n,hn'⟩:∃ n,n=l.length:=⟨_,rfl⟩
 rw[← hn'] at hn ⊢
 have HN:Hid (n=l.length):=hn'
 have hlim:decide ((60:Int)<n)=false:=decide_eq_false (by omega)
 clear hrow hl hn'
 go_enter Tryz.func76,Tryz.ntmps76
 go_wp2_with fail
 obtain⟨w0,ae,g0,hz0,R0⟩:=q0J w [.int .i64 0,.int .i64 0] 29
 rw[ae]
 clear ae
 go_loopw [11] (fun vk wr=>∃ k:Nat,k≤n∧vk= .int .i64 k∧(∀ j,j<k→FinP (l.getD j (0,0)))∧G w0 wr) (fun vk _=>n-(intOf vk).toNat)
 case atStart=>exact⟨0,Nat.zero_le _,rfl,fun j hj=>by omega,G.refl _⟩
 case round=>
  obtain⟨k,hk,rfl,hf,hG⟩:=hrel
  have HF:Hid _:=hf
  have RF:Hid (Rec wr w.heap.size [.int .i64 0,.int .i64 0]):=Rec.G R0.out hG
  clear hf
  by_cases hkn:k<n
  ·obtain⟨b1,o1,rfl,hB1,hx',hy'⟩:=HR.out k (by rw[← HN.out];exact hkn)
   have hgw:=G.trans g0 hG
   have hx:=hgw.cell (p:=⟨b1,o1+k*2,none⟩) hB1 hx'
   have hy:=hgw.cell (p:=⟨b1,o1+k*2+1,none⟩) hB1 hy'
   obtain⟨nA,nC⟩:=HL.out k (by rw[← HN.out];exact hkn)
   obtain⟨x,ex⟩:∃ x,x=(l.getD k (0,0)).1:=⟨_,rfl⟩
   obtain⟨y,ey⟩:∃ y,y=(l.getD k (0,0)).2:=⟨_,rfl⟩
   rw[← ex] at hx nA
   rw[← ey] at hy nC
   have HE:Hid (FinP (l.getD k (0,0))↔(fex x<2047∧fex y<2047)):=by show _↔_;rw[ex,ey];exact Iff.rfl
   have HX:Hid (∀ w1,_):=fun w1=>q3G w1 x nA
   have HY:Hid (∀ w1,_):=fun w1=>q3G w1 y nC
   clear hx' hy' nA nC ex ey hB1
   have fG:Hid (¬ fex x<2047→¬ FinP (l.getD k (0,0))):=fun h1 h2=>h1 (HE.out.1 h2).1
   have fw:Hid (¬ fex y<2047→¬ FinP (l.getD k (0,0))):=fun h1 h2=>h1 (HE.out.1 h2).2
   have qD:Hid (fex x<2047→fex y<2047→FinP (l.getD k (0,0))):=fun h1 h2=>HE.out.2 ⟨h1,h2⟩
   clear HE
   by_cases hfx:fex x<2047
   ·rw[decide_eq_true hfx] at HX
    have qD:Hid (fex y<2047→FinP (l.getD k (0,0))):=fun h2=>qD.out hfx h2
    clear hfx fG
    have lg:Hid (Rec (wr.alloc (.cells #[.float .f64 x,.float .f64 y] 66)) wr.heap.size [.float .f64 x,.float .f64 y]):=Rec.new2 wr _ _ _
    have iF:Hid (G wr (wr.alloc (.cells #[.float .f64 x,.float .f64 y] 66))):=(G.refl wr).alloc _
    go_wp2_with fail
    refine Calls.mono (P:=Tryz.prog) (HX.out _) ?_
    rintro e1 w1 ⟨rfl,g1⟩
    have R1:Hid (Rec w1 wr.heap.size [.float .f64 x,.float .f64 y]):=Rec.G lg.out g1
    have lD:=G.trans iF.out g1
    clear lg iF g1 HX
    have jf:=Rec.f2 (Rec.G R1.out (G.refl _))
    have nD:=jf.1
    have nE:=jf.2.1
    have nG:=jf.2.2.1
    have nH:=jf.2.2.2
    clear jf
    have hlt1:=R1.out.lt
    go_wp2_with fail
    refine Calls.mono (P:=Tryz.prog) (HY.out _) ?_
    rintro e2 w2 ⟨rfl,g2⟩
    by_cases dF:fex y<2047
    ·have HP:Hid (FinP (l.getD k (0,0))):=qD.out dF
     rw[decide_eq_true dF]
     clear dF qD fw HY
     go_wp2_with fail
     refine⟨⟨k+1,hkn,rfl,fun j hj=> ?_,G.trans hG (G.trans lD g2)⟩,?_⟩
     ·by_cases hjk:j<k
      ·exact HF.out j hjk
      ·have:j=k:=by omega
       subst this
       exact HP.out
     ·show n-((k:Int)+1).toNat<n-(k:Int).toNat
      omega
    ·have yt:Hid (¬ FinP (l.getD k (0,0))):=fw.out dF
     rw[decide_eq_false dF]
     clear dF qD fw HY
     have aO:=Rec.f2 (Rec.G RF.out (G.trans lD g2))
     have gy:=aO.1
     have gz:=aO.2.1
     have gD:=aO.2.2.1
     have gF:=aO.2.2.2
     clear aO
     go_wp2_with fail
     clear nD nE nG nH
     go_wp2_with fail
     have hT:Hid (Rec (World.setCell (World.setCell w2 ⟨w.heap.size,0,none⟩ (.int .i64 4)) ⟨w.heap.size,1,none⟩ (.int .i64 k)) (w.heap.size) [.int .i64 4,.int .i64 k]):=Rec.set2 (Rec.G RF.out (G.trans lD g2))
     have g9:=Rec.g2 (b:=w.heap.size) (u:= .int .i64 4) (v:= .int .i64 k) (G.trans (G.trans g0 hG) (G.trans lD g2)) (by omega)
     generalize (World.setCell (World.setCell w2 ⟨w.heap.size,0,none⟩ (.int .i64 4)) ⟨w.heap.size,1,none⟩ (.int .i64 k))=w9 at *
     have hF:=Rec.f2 (Rec.G hT.out ((G.refl _)))
     have az:=hF.1
     have aA:=hF.2.1
     have aB:=hF.2.2.1
     have aC:=hF.2.2.2
     clear hF
     have iw:=Rec.lt hT.out
     refine bodyPost_ret (v:= .agg #[.int .i64 4,.int .i64 k]) (by simp [results,Tryz.results76,go_sem, *]) rfl ?_
     exact⟨4,k,rfl,g9,.inr ⟨k,rfl,rfl,by rw[← HN.out];exact hkn,yt.out,HF.out⟩⟩
   ·have yt:Hid (¬ FinP (l.getD k (0,0))):=fG.out hfx
    rw[decide_eq_false hfx] at HX
    clear hfx qD fG fw HY
    have lg:Hid (Rec (wr.alloc (.cells #[.float .f64 x,.float .f64 y] 66)) wr.heap.size [.float .f64 x,.float .f64 y]):=Rec.new2 wr _ _ _
    have iF:Hid (G wr (wr.alloc (.cells #[.float .f64 x,.float .f64 y] 66))):=(G.refl wr).alloc _
    go_wp2_with fail
    refine Calls.mono (P:=Tryz.prog) (HX.out _) ?_
    rintro e1 w1 ⟨rfl,g1⟩
    have lD:=G.trans iF.out g1
    clear lg iF g1 HX
    have aO:=Rec.f2 (Rec.G RF.out (lD))
    have gy:=aO.1
    have gz:=aO.2.1
    have gD:=aO.2.2.1
    have gF:=aO.2.2.2
    clear aO
    go_wp2_with fail
    go_wp2_with fail
    have hT:Hid (Rec (World.setCell (World.setCell w1 ⟨w.heap.size,0,none⟩ (.int .i64 4)) ⟨w.heap.size,1,none⟩ (.int .i64 k)) (w.heap.size) [.int .i64 4,.int .i64 k]):=Rec.set2 (Rec.G RF.out (lD))
    have g9:=Rec.g2 (b:=w.heap.size) (u:= .int .i64 4) (v:= .int .i64 k) (G.trans (G.trans g0 hG) lD) (by omega)
    generalize (World.setCell (World.setCell w1 ⟨w.heap.size,0,none⟩ (.int .i64 4)) ⟨w.heap.size,1,none⟩ (.int .i64 k))=w9 at *
    have hF:=Rec.f2 (Rec.G hT.out ((G.refl _)))
    have az:=hF.1
    have aA:=hF.2.1
    have aB:=hF.2.2.1
    have aC:=hF.2.2.2
    clear hF
    have iw:=Rec.lt hT.out
    refine bodyPost_ret (v:= .agg #[.int .i64 4,.int .i64 k]) (by simp [results,Tryz.results76,go_sem, *]) rfl ?_
    exact⟨4,k,rfl,g9,.inr ⟨k,rfl,rfl,by rw[← HN.out];exact hkn,yt.out,HF.out⟩⟩
  ·have hkn:k=n:=by omega
   subst hkn
   have aO:=Rec.f2 (Rec.G RF.out (G.refl _))
   have gy:=aO.1
   have gz:=aO.2.1
   have gD:=aO.2.2.1
   have gF:=aO.2.2.2
   clear aO
   go_wp2_with fail
   clear gy gz gD gF
   go_wp2_with fail
   have hT:Hid (Rec (World.setCell (World.setCell wr ⟨w.heap.size,0,none⟩ (.int .i64 0)) ⟨w.heap.size,1,none⟩ (.int .i64 0)) (w.heap.size) [.int .i64 0,.int .i64 0]):=Rec.set2 (Rec.G RF.out (G.refl _))
   have g9:=Rec.g2 (b:=w.heap.size) (u:= .int .i64 0) (v:= .int .i64 0) (G.trans g0 hG) (by omega)
   generalize (World.setCell (World.setCell wr ⟨w.heap.size,0,none⟩ (.int .i64 0)) ⟨w.heap.size,1,none⟩ (.int .i64 0))=w9 at *
   have hF:=Rec.f2 (Rec.G hT.out ((G.refl _)))
   have az:=hF.1
   have aA:=hF.2.1
   have aB:=hF.2.2.1
   have aC:=hF.2.2.2
   clear hF
   have iw:=Rec.lt hT.out
   refine bodyPost_ret (v:= .agg #[.int .i64 0,.int .i64 0]) (by simp [results,Tryz.results76,go_sem, *]) rfl ?_
   exact⟨0,0,rfl,g9,.inl ⟨rfl,rfl,fun i hi=>HF.out i (by rw[HN.out];exact hi)⟩⟩
end Go.Proofs.YtljkfjjchkehaaaGreatDoor.EN
namespace Go.Proofs.YtljkfjjchkehaaaGreatDoor.EN
open Go.ChangeShapes Go.WideShapes Go.ChangeAt Go.RowKit
attribute [local go_sem] q0h
def FinL (l:List (Nat×Nat)):Prop:=∀ i,i<l.length→FinP (l.getD i (0,0))
/-- The fault of a list of points. -/
def q37 (l:List (Nat×Nat)) (c a:Int):Prop:=(c=0∧a=0∧FinL l)∨(∃ i:Nat,c=4∧a=i∧i<l.length∧¬ FinP (l.getD i (0,0))∧∀ j,j<i→FinP (l.getD j (0,0)))
def q6k (w:World) (l:List (Nat×Nat)) (z:Int) (e:Ending) (w':World):Prop:=∃ c a t:Int,e= .returned (.tuple #[.int .i64 t,.agg #[.int .i64 c,.int .i64 a]])∧G w w'∧q37 l c a∧t=if c=0 then z else 0
theorem q7S (w:World) (ax ay bx b2 cx cy:Nat) (hT:Tab w) (h1:ax<2^64) (h2:ay<2^64) (h3:bx<2^64) (h4:b2<2^64) (h5:cx<2^64) (h6:cy<2^64):
  Calls Tryz.prog 39 #[.agg #[.float .f64 ax,.float .f64 ay],.agg #[.float .f64 bx,.float .f64 b2],.agg #[.float .f64 cx,.float .f64 cy]] w (q6k w [(ax,ay),(bx,b2),(cx,cy)] (q2C ax ay bx b2 cx cy).sign):=by
 have HU:Hid (∀ w1 v,PSl w1 v [(ax,ay),(bx,b2),(cx,cy)]→_):=fun w1 v h=>q4m w1 v _ h (fun i hi=>by
  rcases i with _|_|_|i
  ·exact⟨h1,h2⟩
  ·exact⟨h3,h4⟩
  ·exact⟨h5,h6⟩
  ·simp at hi;omega) (by simp)
 have HT:Hid (FinL [(ax,ay),(bx,b2),(cx,cy)]→∀ w1,G w w1→_):=fun f w1 g=>q7D w1 ax ay bx b2 cx cy (hT.G g) h1 h2 h3 h4 h5 h6 (f 0 (by simp)).1 (f 0 (by simp)).2 (f 1 (by simp)).1 (f 1 (by simp)).2 (f 2 (by simp)).1 (f 2 (by simp)).2
 clear hT h1 h2 h3 h4 h5 h6
 generalize (q2C ax ay bx b2 cx cy).sign=z at *
 go_enter Tryz.func39,Tryz.ntmps39
 go_wp2_with fail
 obtain⟨w0,ae,g0,hz0,R0,R1,R2,R3⟩:=q7O w [.float .f64 ax,.float .f64 ay] [.float .f64 bx,.float .f64 b2] [.float .f64 cx,.float .f64 cy] [.int .i64 0,.int .i64 0] 66 66 66 29
 rw[ae]
 clear ae
 have gW:Rec (w0.alloc (.cells #[.float .f64 ax,.float .f64 ay,.float .f64 bx,.float .f64 b2,.float .f64 cx,.float .f64 cy] 66)) w0.heap.size _:=Rec.new6 w0 _ _ _ _ _ _ _
 have kr:G w0 (w0.alloc (.cells #[.float .f64 ax,.float .f64 ay,.float .f64 bx,.float .f64 b2,.float .f64 cx,.float .f64 cy] 66)):=(G.refl w0).alloc _
 rw[show w.heap.size+1+1+1+1=w0.heap.size from by omega]
 have hP:PSl (w0.alloc (.cells #[.float .f64 ax,.float .f64 ay,.float .f64 bx,.float .f64 b2,.float .f64 cx,.float .f64 cy] 66)) (.slice (some ⟨w0.heap.size,0,none⟩) 3 3) [(ax,ay),(bx,b2),(cx,cy)]:=by
  obtain⟨k0,k1,k2,k3,k4,k5,-⟩:=gW.f6
  refine⟨_,_,rfl,Nat.le_refl _,fun i hi=>⟨_,_,rfl,gW.lt,?_⟩⟩
  rcases i with _|_|_|i
  ·exact⟨k0,k1⟩
  ·exact⟨k2,k3⟩
  ·exact⟨k4,k5⟩
  ·simp at hi;omega
 refine Calls.mono (P:=Tryz.prog) (HU.out _ _ hP) ?_
 intro e1 w1 hs
 obtain⟨c,a,rfl,g1,hv⟩:=hs
 have HV:Hid (q37 [(ax,ay),(bx,b2),(cx,cy)] c a):=hv
 have aK:=G.trans kr g1
 clear hv g1 gW kr hP HU
 have S0:Hid (Rec _ _ _):=Rec.G R0.out (aK)
 have S1:Hid (Rec _ _ _):=Rec.G R1.out (aK)
 have S2:Hid (Rec _ _ _):=Rec.G R2.out (aK)
 have S3:Hid (Rec _ _ _):=Rec.G R3.out (aK)
 have jT:=G.trans g0 aK
 have hlt1:=S3.out.lt
 clear R0 R1 R2 R3 g0 hz0 aK
 by_cases hc:c=0
 ·subst hc
  have fC:G w1 (w1.alloc (.cells #[.int .i64 0,.int .i64 a] 29)):=(G.refl w1).alloc _
  have HF:Hid (FinL [(ax,ay),(bx,b2),(cx,cy)]∧a=0):=by
   rcases HV.out with ⟨-,h1,h2⟩|⟨i,h1,-⟩
   ·exact⟨h2,h1⟩
   ·omega
  have jo:=Rec.f2 (Rec.G S0.out (fC))
  have ou:=jo.1
  have ow:=jo.2.1
  have oz:=jo.2.2.1
  have oC:=jo.2.2.2
  clear jo
  have jq:=Rec.f2 (Rec.G S1.out (fC))
  have oD:=jq.1
  have oF:=jq.2.1
  have oG:=jq.2.2.1
  have oH:=jq.2.2.2
  clear jq
  have jr:=Rec.f2 (Rec.G S2.out (fC))
  have oI:=jr.1
  have oJ:=jr.2.1
  have oK:=jr.2.2.1
  have oL:=jr.2.2.2
  clear jr
  go_wp2_with fail
  have zM:=G.trans jT fC
  refine Calls.mono (P:=Tryz.prog) (HT.out HF.out.1 _ zM) ?_
  rintro e2 w2 ⟨rfl,g2⟩
  have kE:Hid (G w w2):=G.trans zM g2
  have HG2:Hid (G w1 w2):=G.trans fC g2
  clear ou ow oz oC oD oF oG oH oI oJ oK oL zM fC g2 jT
  have dh:=Rec.f2 (Rec.G S3.out (HG2.out))
  have oM:=dh.1
  have oN:=dh.2.1
  have oO:=dh.2.2.1
  have oP:=dh.2.2.2
  clear dh
  go_wp2_with fail
  go_wp2_with fail
  have hT:Hid (Rec (World.setCell (World.setCell w2 ⟨w.heap.size+3,0,none⟩ (.int .i64 0)) ⟨w.heap.size+3,1,none⟩ (.int .i64 0)) (w.heap.size+3) [.int .i64 0,.int .i64 0]):=Rec.set2 (Rec.G S3.out (HG2.out))
  have g9:=Rec.g2 (b:=w.heap.size+3) (u:= .int .i64 0) (v:= .int .i64 0) (kE.out) (by omega)
  generalize (World.setCell (World.setCell w2 ⟨w.heap.size+3,0,none⟩ (.int .i64 0)) ⟨w.heap.size+3,1,none⟩ (.int .i64 0))=w9 at *
  have hF:=Rec.f2 (Rec.G hT.out ((G.refl _)))
  have az:=hF.1
  have aA:=hF.2.1
  have aB:=hF.2.2.1
  have aC:=hF.2.2.2
  clear hF
  refine bodyPost_ret (v:= .tuple #[.int .i64 z,.agg #[.int .i64 0,.int .i64 0]]) (by simp [results,Tryz.results39,go_sem, *]) rfl ?_
  exact⟨0,0,z,rfl,g9,.inl ⟨rfl,rfl,HF.out.1⟩,rfl⟩
 ·have hcf:(c==0)=false:=by simpa using hc
  have dh:=Rec.f2 (Rec.G S3.out (G.refl _))
  have oM:=dh.1
  have oN:=dh.2.1
  have oO:=dh.2.2.1
  have oP:=dh.2.2.2
  clear dh
  go_wp2_with fail
  go_region
  go_wp2_with fail
  have hT:Hid (Rec (World.setCell (World.setCell w1 ⟨w.heap.size+3,0,none⟩ (.int .i64 c)) ⟨w.heap.size+3,1,none⟩ (.int .i64 a)) (w.heap.size+3) [.int .i64 c,.int .i64 a]):=Rec.set2 (Rec.G S3.out (G.refl _))
  have g9:=Rec.g2 (b:=w.heap.size+3) (u:= .int .i64 c) (v:= .int .i64 a) (jT) (by omega)
  generalize (World.setCell (World.setCell w1 ⟨w.heap.size+3,0,none⟩ (.int .i64 c)) ⟨w.heap.size+3,1,none⟩ (.int .i64 a))=w9 at *
  have hF:=Rec.f2 (Rec.G hT.out ((G.refl _)))
  have az:=hF.1
  have aA:=hF.2.1
  have aB:=hF.2.2.1
  have aC:=hF.2.2.2
  clear hF
  have iw:=Rec.lt hT.out
  refine bodyPost_ret (v:= .tuple #[.int .i64 0,.agg #[.int .i64 c,.int .i64 a]]) (by simp [results,Tryz.results39,go_sem, *]) rfl ?_
  exact⟨c,a,0,rfl,(g9.alloc _).drew,HV.out,by rw[if_neg hc]⟩
end Go.Proofs.YtljkfjjchkehaaaGreatDoor.EN
namespace Go.Proofs.YtljkfjjchkehaaaGreatDoor.EN
open Go.ChangeShapes Go.WideShapes Go.ChangeAt Go.RowKit
theorem q4f (w:World) (v:Value) (px py:Rat) (K:Nat) (hK1:1≤K) (hK:K≤10000) (hT:Tab w) (hv:StepIs w v px py) (b1:QB px K) (b2:QB py K):
  Calls Tryz.prog 79 #[v] w (RetQ w (px*px+py*py)):=by
 obtain⟨t1,a1,k1,c1,a2,k2,c2,t2,a3,k3,c3,a4,k4,c4,rfl,hp1,hp2⟩:=hv
 have gN:Hid (∀ w1,G w w1→_):=fun w1 g=>q2v w1 _ _ px px K (by omega) hK1 (hT.G g) (hp1.G g) (hp1.G g) b1 b1
 have dV:Hid (∀ w1,G w w1→_):=fun w1 g=>q2v w1 _ _ py py K (by omega) hK1 (hT.G g) (hp2.G g) (hp2.G g) b2 b2
 have HS:Hid (∀ w1 v u,G w w1→QIs w1 v (px*px)→QIs w1 u (py*py)→_):=fun w1 v u g k1 k2=>q6l w1 v u _ _ (K+K) (by omega) (by omega) (hT.G g) k1 k2 (q4O b1 b1) (q4O b2 b2)
 clear hT hp1 hp2 b1 b2
 generalize px*px+py*py=r at *
 generalize px*px=p at *
 generalize py*py=q at *
 go_enter Tryz.func79,Tryz.ntmps79
 go_wp2_with fail
 obtain⟨w0,ae,g0,hz0,R0,R1⟩:=q2y w [.bool t1,.slice a1 k1 c1,.slice a2 k2 c2,.bool t2,.slice a3 k3 c3,.slice a4 k4 c4] [.bool false,.slice none 0 0,.slice none 0 0] 124 97
 rw[ae]
 clear ae
 refine region_each 11 1 #[true,true,true,true,true,true,true,true,true,true,true,false] [.is (.pointer (some ⟨w.heap.size,0,none⟩)),.is (.agg #[.bool t1,.slice a1 k1 c1,.slice a2 k2 c2]),.is (.pointer (some ⟨w.heap.size,0,none⟩)),.is (.agg #[.bool t1,.slice a1 k1 c1,.slice a2 k2 c2]),.any (fun v w'=>QIs w' v (p)),.is (.pointer (some ⟨w.heap.size,3,none⟩)),.is (.agg #[.bool t2,.slice a3 k3 c3,.slice a4 k4 c4]),.is (.pointer (some ⟨w.heap.size,3,none⟩)),.is (.agg #[.bool t2,.slice a3 k3 c3,.slice a4 k4 c4]),.any (fun v w'=>QIs w' v (q)),.any (fun v w'=>QIs w' v (r))] [some 3,some 4,some 5,some 6,some 7,some 8,some 9,some 10,some 11,some 12,some 13] (by kernel_rfl) (by kernel_rfl) rfl (by kernel_rfl) (by repeat (first|exact trivial|refine⟨fun _ _ _ g h=>by first|exact h.G g|exact fun w3 g3=>h w3 (G.trans g g3),?_⟩)) (by kernel_rfl) (by kernel_rfl) ?_
 refine Letters.is ?_
 refine Letters.is ?_
 refine Letters.is ?_
 refine Letters.is ?_
 refine Letters.any fun v4=> ?_
 refine Letters.is ?_
 refine Letters.is ?_
 refine Letters.is ?_
 refine Letters.is ?_
 refine Letters.any fun v9=> ?_
 refine Letters.any fun v10=> ?_
 refine Letters.nil ?_
 intro A hA
 simp only[q0L,Act.put,List.setIfInBounds_toArray,List.set_cons_zero,List.set_cons_succ] at hA
 subst hA
 refine⟨?_,?_⟩
 ·skip
  refine Eaches.cons rfl ?aX (Eaches.cons rfl ?bI (Eaches.cons rfl ?bJ (Eaches.cons rfl ?bK (Eaches.cons rfl ?dI (Eaches.cons rfl ?bX (Eaches.cons rfl ?bR (Eaches.cons rfl ?bY (Eaches.cons rfl ?dn (Eaches.cons rfl ?fI (Eaches.cons rfl ?gM (Eaches.nil)))))))))))
  case aX|bJ|bX|bY=>
   intro W hW hD K hK
   clear hD
   go_simp
   exact hK.out _ _ ⟨_,rfl,G.refl _,rfl⟩
  case bI|bK|bR|dn=>
   intro W hW hD K hK
   clear hD
   have hR0:=Rec.f6 (Rec.G R0.out hW)
   have bG:=hR0.1
   have bH:=hR0.2.1
   have iL:=hR0.2.2.1
   have tX:=hR0.2.2.2.1
   have tY:=hR0.2.2.2.2.1
   have tZ:=hR0.2.2.2.2.2.1
   clear hR0
   go_simp
   exact hK.out _ _ ⟨_,rfl,G.refl _,rfl⟩
  ·intro W hW hD K hK
   clear hD
   go_simp
   go_wp2_with (go_at_call 56;refine Calls.mono (P:=Tryz.prog) (gN.out W (G.trans g0 hW)) ?_;intro e w9 hs;obtain⟨u9,rfl,g9,aa⟩:=hs)
   exact hK.out _ _ ⟨_,rfl,g9,aa⟩
  ·intro W hW hD K hK
   clear hD
   go_simp
   go_wp2_with (go_at_call 56;refine Calls.mono (P:=Tryz.prog) (dV.out W (G.trans g0 hW)) ?_;intro e w9 hs;obtain⟨u9,rfl,g9,aa⟩:=hs)
   exact hK.out _ _ ⟨_,rfl,g9,aa⟩
  ·intro W hW hD K hK
   have h4:=Deps.get (v:=v4) 4 hD rfl rfl (by kernel_rfl)
   have h9:=Deps.get (v:=v9) 9 hD rfl rfl (by kernel_rfl)
   clear hD
   go_simp
   go_wp2_with (go_at_call 62;refine Calls.mono (P:=Tryz.prog) (HS.out W v4 v9 (G.trans g0 hW) h4 h9) ?_;intro e w9 hs;obtain⟨u9,rfl,g9,aa⟩:=hs)
   exact hK.out _ _ ⟨_,rfl,g9,aa⟩
 intro w1 g1 hH
 have h10:=Helds.get (v:=v10) 10 hH rfl rfl
 clear hH
 clear gN dV HS
 have RR:Hid (Rec w1 (w.heap.size+1) [.bool false,.slice none 0 0,.slice none 0 0]):=Rec.G R1.out g1
 obtain⟨a8,k8,c8,a9,k9,c9,rfl,aN,av⟩:=h10
 have dG:Hid (Num w1 (.slice a8 k8 c8) (r).num.natAbs):=aN
 have aU:Hid (Num w1 (.slice a9 k9 c9) (q1i (r).den)):=av
 obtain⟨t9,au⟩:∃ t,t=decide ((r).num<0):=⟨_,rfl⟩
 rw[← au]
 have aV:Hid (t9=decide ((r).num<0)):=au
 clear aN av au
 have hS:=Rec.f3 (Rec.G RR.out (G.refl _))
 have ah:=hS.1
 have ai:=hS.2.1
 have aj:=hS.2.2.1
 have ak:=hS.2.2.2.1
 have aF:=hS.2.2.2.2.1
 have aG:=hS.2.2.2.2.2
 clear hS
 refine wpAny_ready (rs:=[11]) (by kernel_rfl) (by simp) ?_
 refine AllReady.cons rfl (fun K hK=> ?_) AllReady.nil
 go_simp
 refine hK _ _ ?_
 clear hK K ah ai aj ak aF aG
 refine wpAny_done (by kernel_rfl) ?_ _
 have aH:Num _ _ _:=q0e (u1:= .bool t9) (u2:= .slice a8 k8 c8) (u3:= .slice a9 k9 c9) dG.out (Rec.G RR.out (G.refl _)) trivial trivial trivial
 have ag:Num _ _ _:=q0e (u1:= .bool t9) (u2:= .slice a8 k8 c8) (u3:= .slice a9 k9 c9) aU.out (Rec.G RR.out (G.refl _)) trivial trivial trivial
 go_wp2_with fail
 have hT:Hid (Rec (World.setCell (World.setCell (World.setCell w1 ⟨w.heap.size+1,0,none⟩ (.bool t9)) ⟨w.heap.size+1,1,none⟩ (.slice a8 k8 c8)) ⟨w.heap.size+1,2,none⟩ (.slice a9 k9 c9)) (w.heap.size+1) [.bool t9,.slice a8 k8 c8,.slice a9 k9 c9]):=Rec.set3 (Rec.G RR.out (G.refl _))
 have g9:=Rec.g3 (b:=w.heap.size+1) (u:= .bool t9) (v:= .slice a8 k8 c8) (x:= .slice a9 k9 c9) (G.trans g0 g1) (by omega)
 generalize (World.setCell (World.setCell (World.setCell w1 ⟨w.heap.size+1,0,none⟩ (.bool t9)) ⟨w.heap.size+1,1,none⟩ (.slice a8 k8 c8)) ⟨w.heap.size+1,2,none⟩ (.slice a9 k9 c9))=w9 at *
 have hF:=Rec.f3 (Rec.G hT.out ((G.refl _)))
 have az:=hF.1
 have aA:=hF.2.1
 have aB:=hF.2.2.1
 have aC:=hF.2.2.2.1
 have bP:=hF.2.2.2.2.1
 have bQ:=hF.2.2.2.2.2
 clear hF
 refine bodyPost_ret (v:= .agg #[.bool t9,.slice a8 k8 c8,.slice a9 k9 c9]) (by simp [results,Tryz.results79,go_sem, *]) rfl ?_
 exact⟨_,rfl,g9,a8,k8,c8,a9,k9,c9,by rw[← aV.out],aH,ag⟩
theorem q8s:∃ D G:Nat,G≤2560∧0<D∧D<2^G∧∀ a b:Int,Uz a*Uz b=mkRat (a*b) D:=by
 obtain⟨E,hE⟩:∃ E:Nat,E=1074:=⟨_,rfl⟩
 refine⟨2^E*2^E,2*E+1,by omega,Nat.mul_pos (Nat.two_pow_pos _) (Nat.two_pow_pos _),?_,fun a b=>by unfold Uz;rw[← hE,Rat.mkRat_mul_mkRat]⟩
 rw[← Nat.pow_add]
 exact Nat.pow_lt_pow_right (by omega) (by omega)
theorem q0g {a b:Int} {F:Nat} (h1:a.natAbs<2^F) (h2:b.natAbs<2^F):(a*b).natAbs<2^(F+F):=by
 rw[Int.natAbs_mul,Nat.pow_add]
 exact Nat.mul_lt_mul'' h1 h2
theorem q1p {a b:Int} {F:Nat} (h1:a.natAbs<2^F) (h2:b.natAbs<2^F):(a+b).natAbs<2^(F+1):=by
 have:=Int.natAbs_add_le a b
 rw[Nat.pow_succ]
 omega
theorem q20 {a b:Int} {F:Nat} (h1:a.natAbs<2^F) (h2:b.natAbs<2^F):(a-b).natAbs<2^(F+1):=by
 have:=Int.natAbs_sub_le a b
 rw[Nat.pow_succ]
 omega
/-- The circle's sign, in units. -/
def q6p (a b c d e f:Int):Int:=(a*a+b*b)*(c*f-d*e)+(c*c+d*d)*(e*b-f*a)+(e*e+f*f)*(a*d-b*c)
theorem q5r (a b c d e f:Int) {F:Nat} (hF:F≤2100) (ha:a.natAbs<2^F) (hb:b.natAbs<2^F) (hc:c.natAbs<2^F) (hd:d.natAbs<2^F) (he:e.natAbs<2^F) (hf:f.natAbs<2^F):
  QB (Uz a*Uz a+Uz b*Uz b) 80∧QB (Uz c*Uz c+Uz d*Uz d) 80∧QB (Uz e*Uz e+Uz f*Uz f) 80∧QB (Uz c*Uz f-Uz d*Uz e) 80∧QB (Uz e*Uz b-Uz f*Uz a) 80∧QB (Uz a*Uz d-Uz b*Uz c) 80∧
  QB ((Uz a*Uz a+Uz b*Uz b)*(Uz c*Uz f-Uz d*Uz e)) 160∧QB ((Uz c*Uz c+Uz d*Uz d)*(Uz e*Uz b-Uz f*Uz a)) 160∧QB ((Uz e*Uz e+Uz f*Uz f)*(Uz a*Uz d-Uz b*Uz c)) 160∧
  QB ((Uz a*Uz a+Uz b*Uz b)*(Uz c*Uz f-Uz d*Uz e)+(Uz c*Uz c+Uz d*Uz d)*(Uz e*Uz b-Uz f*Uz a)) 160∧
  ((Uz a*Uz a+Uz b*Uz b)*(Uz c*Uz f-Uz d*Uz e)+(Uz c*Uz c+Uz d*Uz d)*(Uz e*Uz b-Uz f*Uz a)+(Uz e*Uz e+Uz f*Uz f)*(Uz a*Uz d-Uz b*Uz c)).num.sign=(q6p a b c d e f).sign:=by
 obtain⟨D,E,hE,hD,Ab,hm⟩:=q8s
 have hD2:0<D*D:=Nat.mul_pos hD hD
 simp only[hm,q5T hD,q7F hD]
 have n1:=q1p (q0g ha ha) (q0g hb hb)
 have n2:=q1p (q0g hc hc) (q0g hd hd)
 have n3:=q1p (q0g he he) (q0g hf hf)
 have x1:=q20 (q0g hc hf) (q0g hd he)
 have x2:=q20 (q0g he hb) (q0g hf ha)
 have x3:=q20 (q0g ha hd) (q0g hb hc)
 unfold q6p
 generalize a*a+b*b=N1 at *
 generalize c*c+d*d=N2 at *
 generalize e*e+f*f=N3 at *
 generalize c*f-d*e=X1 at *
 generalize e*b-f*a=X2 at *
 generalize a*d-b*c=X3 at *
 obtain⟨M,hM⟩:∃ M:Nat,M=F+F+1:=⟨_,rfl⟩
 rw[← hM] at n1 n2 n3 x1 x2 x3
 obtain⟨K,hK⟩:∃ K:Nat,K=80:=⟨_,rfl⟩
 obtain⟨L,hL⟩:∃ L:Nat,L=160:=⟨_,rfl⟩
 rw[← hK,← hL]
 have q1:∀ z:Int,z.natAbs<2^M→QB (mkRat z D) K:=fun z hz=>
  q7C hD rfl (Nat.lt_of_lt_of_le hz (Nat.pow_le_pow_right (by omega) (by omega))) (Nat.lt_of_lt_of_le Ab (Nat.pow_le_pow_right (by omega) (by omega)))
 have H8:D*D<2^(64*L):=by
  have h1:D*D<2^E*2^E:=Nat.mul_lt_mul'' Ab Ab
  rw[← Nat.pow_add] at h1
  exact Nat.lt_of_lt_of_le h1 (Nat.pow_le_pow_right (by omega) (by omega))
 have q2:∀ z:Int,z.natAbs<2^(M+M+1)→QB (mkRat z (D*D)) L:=fun z hz=>
  q7C hD2 rfl (Nat.lt_of_lt_of_le hz (Nat.pow_le_pow_right (by omega) (by omega))) H8
 have up:∀ z:Int,z.natAbs<2^(M+M)→z.natAbs<2^(M+M+1):=fun z hz=>Nat.lt_of_lt_of_le hz (Nat.pow_le_pow_right (by omega) (by omega))
 simp only[Rat.mkRat_mul_mkRat,q5T hD2]
 exact⟨q1 _ n1,q1 _ n2,q1 _ n3,q1 _ x1,q1 _ x2,q1 _ x3,q2 _ (up _ (q0g n1 x1)),q2 _ (up _ (q0g n2 x2)),q2 _ (up _ (q0g n3 x3)),q2 _ (q1p (q0g n1 x1) (q0g n2 x2)),q61 hD2 _⟩
theorem q1W (x y:Nat):(fz x-fz y).natAbs<2^2100:=by
 have h1:=q6b x
 have h2:=q6b y
 obtain⟨F,hF⟩:∃ F:Nat,F=2099:=⟨_,rfl⟩
 rw[show 2100=F+1 from by omega,Nat.pow_succ]
 rw[← hF] at h1 h2
 have:=Int.natAbs_sub_le (fz x) (fz y)
 omega
theorem StepIs.set6 {w:World} {b:Nat} {v:Value} {p q:Rat} {x0 x1 x2 x3 x4 x5:Value} (h:StepIs w v p q) (r:Rec w b [.bool false,.slice none 0 0,.slice none 0 0,.bool false,.slice none 0 0,.slice none 0 0]):StepIs (set6 w b x0 x1 x2 x3 x4 x5) v p q:=by
 have hnu:∀ x∈[Value.bool false,.slice none 0 0,.slice none 0 0,.bool false,.slice none 0 0,.slice none 0 0],noU x:=by
  intro x hx m e
  subst e
  simp at hx
 obtain⟨t,a,k,c,a',k',c',t2,b',j,d,b2,j',d',e,h1,h2⟩:=h
 exact⟨t,a,k,c,a',k',c',t2,b',j,d,b2,j',d',e,q4P h1 r hnu,q4P h2 r hnu⟩
/-- A step that lies in a block of its own. -/
def StepAt (w:World) (b:Nat) (p q:Rat):Prop:=∃ t a k c a' k' c' t2 b1 j d b' j' d',Rec w b [.bool t,.slice a k c,.slice a' k' c',.bool t2,.slice b1 j d,.slice b' j' d']∧StepIs w (.agg #[.bool t,.slice a k c,.slice a' k' c',.bool t2,.slice b1 j d,.slice b' j' d']) p q
theorem StepAt.G {w w':World} {b:Nat} {p q:Rat} (h:StepAt w b p q) (g:Go.Proofs.YtljkfjjchkehaaaGreatDoor.G w w'):StepAt w' b p q:=by
 obtain⟨t,a,k,c,a',k',c',t2,b1,j,d,b',j',d',h1,h2⟩:=h
 exact⟨t,a,k,c,a',k',c',t2,b1,j,d,b',j',d',Rec.G h1 g,h2.G g⟩
end Go.Proofs.YtljkfjjchkehaaaGreatDoor.EN
namespace Go.Proofs.YtljkfjjchkehaaaGreatDoor
theorem Rec.new8 (w:World) (a b c d e f g h:Value) (t:TypeId):Rec (w.alloc (.cells #[a,b,c,d,e,f,g,h] t)) w.heap.size [a,b,c,d,e,f,g,h]:=Rec.new w [a,b,c,d,e,f,g,h] t
end Go.Proofs.YtljkfjjchkehaaaGreatDoor
namespace Go.Proofs.YtljkfjjchkehaaaGreatDoor.EN
open Go.ChangeShapes Go.WideShapes Go.ChangeAt Go.RowKit
theorem q1h {w:World} {b c:Nat} {l:List Value} {x0 x1 x2 x3 x4 x5:Value} (h:Rec w b l) (hne:c≠b):Rec (set6 w c x0 x1 x2 x3 x4 x5) b l:=
 Rec.oth (Rec.oth (Rec.oth (Rec.oth (Rec.oth (Rec.oth h _ hne) _ hne) _ hne) _ hne) _ hne) _ hne
theorem StepAt.set6 {w:World} {b c:Nat} {p q:Rat} {x0 x1 x2 x3 x4 x5:Value} (h:StepAt w b p q) (r:Rec w c [.bool false,.slice none 0 0,.slice none 0 0,.bool false,.slice none 0 0,.slice none 0 0]) (hne:c≠b):StepAt (EN.set6 w c x0 x1 x2 x3 x4 x5) b p q:=by
 obtain⟨t,a,k,c',a',k',c2,t2,b1,j,d,b',j',d',h1,h2⟩:=h
 exact⟨t,a,k,c',a',k',c2,t2,b1,j,d,b',j',d',q1h h1 hne,h2.set6 r⟩
set_option maxRecDepth 10000 in
set_option maxHeartbeats 4000000 in
theorem q7j (w:World) (ax ay bx b2 cx cy dx dy:Nat) (hT:Tab w) (h1:ax<2^64) (h2:ay<2^64) (h3:bx<2^64) (h4:b2<2^64) (h5:cx<2^64) (h6:cy<2^64) (h7:dx<2^64) (h8:dy<2^64):
  Calls Tryz.prog 40 #[.agg #[.float .f64 ax,.float .f64 ay],.agg #[.float .f64 bx,.float .f64 b2],.agg #[.float .f64 cx,.float .f64 cy],.agg #[.float .f64 dx,.float .f64 dy]] w (q6k w [(ax,ay),(bx,b2),(cx,cy),(dx,dy)] (q6p (fz ax-fz dx) (fz ay-fz dy) (fz bx-fz dx) (fz b2-fz dy) (fz cx-fz dx) (fz cy-fz dy)).sign):=by
 have HU:Hid (∀ w1 v,PSl w1 v [(ax,ay),(bx,b2),(cx,cy),(dx,dy)]→_):=fun w1 v h=>q4m w1 v _ h (fun i hi=>by
  rcases i with _|_|_|_|i
  ·exact⟨h1,h2⟩
  ·exact⟨h3,h4⟩
  ·exact⟨h5,h6⟩
  ·exact⟨h7,h8⟩
  ·simp at hi;omega) (by simp)
 have vK:Hid (FinL [(ax,ay),(bx,b2),(cx,cy),(dx,dy)]→∀ w1,G w w1→_):=fun f w1 g=>q1k w1 dx dy ax ay (hT.G g) h7 h8 h1 h2 (f 3 (by simp)).1 (f 3 (by simp)).2 (f 0 (by simp)).1 (f 0 (by simp)).2
 have vM:Hid (FinL [(ax,ay),(bx,b2),(cx,cy),(dx,dy)]→∀ w1,G w w1→_):=fun f w1 g=>q1k w1 dx dy bx b2 (hT.G g) h7 h8 h3 h4 (f 3 (by simp)).1 (f 3 (by simp)).2 (f 1 (by simp)).1 (f 1 (by simp)).2
 have Dh:Hid (FinL [(ax,ay),(bx,b2),(cx,cy),(dx,dy)]→∀ w1,G w w1→_):=fun f w1 g=>q1k w1 dx dy cx cy (hT.G g) h7 h8 h5 h6 (f 3 (by simp)).1 (f 3 (by simp)).2 (f 2 (by simp)).1 (f 2 (by simp)).2
 obtain⟨k1,k2,k3,k4,k5,k6,k7,k8,k9,k10,k11⟩:=q5r (fz ax-fz dx) (fz ay-fz dy) (fz bx-fz dx) (fz b2-fz dy) (fz cx-fz dx) (fz cy-fz dy) (Nat.le_refl _) (q1W _ _) (q1W _ _) (q1W _ _) (q1W _ _) (q1W _ _) (q1W _ _)
 have b1:=q1c ax dx
 have b2':=q1c ay dy
 have b3:=q1c bx dx
 have b4:=q1c b2 dy
 have b5:=q1c cx dx
 have b6:=q1c cy dy
 generalize (q6p (fz ax-fz dx) (fz ay-fz dy) (fz bx-fz dx) (fz b2-fz dy) (fz cx-fz dx) (fz cy-fz dy)).sign=z at *
 generalize Uz (fz ax-fz dx)=p1 at *
 generalize Uz (fz ay-fz dy)=p2 at *
 generalize Uz (fz bx-fz dx)=q1 at *
 generalize Uz (fz b2-fz dy)=q2 at *
 generalize Uz (fz cx-fz dx)=r1 at *
 generalize Uz (fz cy-fz dy)=r2 at *
 have iJ:Hid (Tab w):=hT
 have Di:Hid (∀ w1 v,G w w1→StepIs w1 v p1 p2→_):=fun w1 v g h=>q4f w1 v p1 p2 80 (by omega) (by omega) (iJ.out.G g) h b1 b2'
 have Dj:Hid (∀ w1 v,G w w1→StepIs w1 v q1 q2→_):=fun w1 v g h=>q4f w1 v q1 q2 80 (by omega) (by omega) (iJ.out.G g) h b3 b4
 have Dk:Hid (∀ w1 v,G w w1→StepIs w1 v r1 r2→_):=fun w1 v g h=>q4f w1 v r1 r2 80 (by omega) (by omega) (iJ.out.G g) h b5 b6
 have Dl:Hid (∀ w1 v u,G w w1→StepIs w1 v q1 q2→StepIs w1 u r1 r2→_):=fun w1 v u g h k=>q3f w1 v u q1 q2 r1 r2 80 (by omega) (by omega) (iJ.out.G g) h k b3 b4 b5 b6
 have Dm:Hid (∀ w1 v u,G w w1→StepIs w1 v r1 r2→StepIs w1 u p1 p2→_):=fun w1 v u g h k=>q3f w1 v u r1 r2 p1 p2 80 (by omega) (by omega) (iJ.out.G g) h k b5 b6 b1 b2'
 have Dn:Hid (∀ w1 v u,G w w1→StepIs w1 v p1 p2→StepIs w1 u q1 q2→_):=fun w1 v u g h k=>q3f w1 v u p1 p2 q1 q2 80 (by omega) (by omega) (iJ.out.G g) h k b1 b2' b3 b4
 have Dp:Hid (∀ w1 v u,G w w1→QIs w1 v (p1*p1+p2*p2)→QIs w1 u (q1*r2-q2*r1)→_):=fun w1 v u g h k=>q2v w1 v u _ _ 80 (by omega) (by omega) (iJ.out.G g) h k k1 k4
 have Dq:Hid (∀ w1 v u,G w w1→QIs w1 v (q1*q1+q2*q2)→QIs w1 u (r1*p2-r2*p1)→_):=fun w1 v u g h k=>q2v w1 v u _ _ 80 (by omega) (by omega) (iJ.out.G g) h k k2 k5
 have tC:Hid (∀ w1 v u,G w w1→QIs w1 v (r1*r1+r2*r2)→QIs w1 u (p1*q2-p2*q1)→_):=fun w1 v u g h k=>q2v w1 v u _ _ 80 (by omega) (by omega) (iJ.out.G g) h k k3 k6
 have Dr:Hid (∀ w1 v u,G w w1→QIs w1 v ((p1*p1+p2*p2)*(q1*r2-q2*r1))→QIs w1 u ((q1*q1+q2*q2)*(r1*p2-r2*p1))→_):=fun w1 v u g h k=>q6l w1 v u _ _ 160 (by omega) (by omega) (iJ.out.G g) h k k7 k8
 have Dt:Hid (∀ w1 v u,G w w1→QIs w1 v ((p1*p1+p2*p2)*(q1*r2-q2*r1)+(q1*q1+q2*q2)*(r1*p2-r2*p1))→QIs w1 u ((r1*r1+r2*r2)*(p1*q2-p2*q1))→_):=fun w1 v u g h k=>q6l w1 v u _ _ 160 (by omega) (by omega) (iJ.out.G g) h k k10 k9
 have vQ:Hid (∀ w1 v,QIs w1 v ((p1*p1+p2*p2)*(q1*r2-q2*r1)+(q1*q1+q2*q2)*(r1*p2-r2*p1)+(r1*r1+r2*r2)*(p1*q2-p2*q1))→Calls Tryz.prog 81 #[v] w1 fun e w'=>e= .returned (.int .i64 z)∧G w1 w'):=fun w1 v h=>by
  have k:=q60 w1 v _ h
  rw[k11] at k
  exact k
 clear iJ hT h1 h2 h3 h4 h5 h6 h7 h8 k1 k2 k3 k4 k5 k6 k7 k8 k9 k10 k11 b1 b2' b3 b4 b5 b6
 generalize (p1*p1+p2*p2)*(q1*r2-q2*r1)+(q1*q1+q2*q2)*(r1*p2-r2*p1)+(r1*r1+r2*r2)*(p1*q2-p2*q1)=s3 at *
 generalize (p1*p1+p2*p2)*(q1*r2-q2*r1)+(q1*q1+q2*q2)*(r1*p2-r2*p1)=s2 at *
 generalize (p1*p1+p2*p2)*(q1*r2-q2*r1)=s1 at *
 generalize (q1*q1+q2*q2)*(r1*p2-r2*p1)=y2 at *
 generalize (r1*r1+r2*r2)*(p1*q2-p2*q1)=y3 at *
 generalize p1*p1+p2*p2=n1 at *
 generalize q1*q1+q2*q2=n2 at *
 generalize r1*r1+r2*r2=n3 at *
 generalize q1*r2-q2*r1=x1 at *
 generalize r1*p2-r2*p1=x2 at *
 generalize p1*q2-p2*q1=x3 at *
 go_enter Tryz.func40,Tryz.ntmps40
 go_wp2_with fail
 obtain⟨w0,ae,g0,hz0,R0,R1,R2,R3,R4⟩:=q8L w [.float .f64 ax,.float .f64 ay] [.float .f64 bx,.float .f64 b2] [.float .f64 cx,.float .f64 cy] [.float .f64 dx,.float .f64 dy] [.int .i64 0,.int .i64 0] 66 66 66 66 29
 rw[ae]
 clear ae
 have gW:Rec (w0.alloc (.cells #[.float .f64 ax,.float .f64 ay,.float .f64 bx,.float .f64 b2,.float .f64 cx,.float .f64 cy,.float .f64 dx,.float .f64 dy] 66)) w0.heap.size _:=Rec.new8 w0 _ _ _ _ _ _ _ _ _
 have kr:G w0 (w0.alloc (.cells #[.float .f64 ax,.float .f64 ay,.float .f64 bx,.float .f64 b2,.float .f64 cx,.float .f64 cy,.float .f64 dx,.float .f64 dy] 66)):=(G.refl w0).alloc _
 rw[show w.heap.size+1+1+1+1+1=w0.heap.size from by omega]
 have hP:PSl (w0.alloc (.cells #[.float .f64 ax,.float .f64 ay,.float .f64 bx,.float .f64 b2,.float .f64 cx,.float .f64 cy,.float .f64 dx,.float .f64 dy] 66)) (.slice (some ⟨w0.heap.size,0,none⟩) 4 4) [(ax,ay),(bx,b2),(cx,cy),(dx,dy)]:=by
  refine⟨_,_,rfl,Nat.le_refl _,fun i hi=>⟨_,_,rfl,gW.lt,?_⟩⟩
  rcases i with _|_|_|_|i
  ·exact⟨gW.cell 0,gW.cell 1⟩
  ·exact⟨gW.cell 2,gW.cell 3⟩
  ·exact⟨gW.cell 4,gW.cell 5⟩
  ·exact⟨gW.cell 6,gW.cell 7⟩
  ·simp at hi;omega
 refine Calls.mono (P:=Tryz.prog) (HU.out _ _ hP) ?_
 intro e1 w1 hs
 obtain⟨c,a,rfl,g1,hv⟩:=hs
 have HV:Hid (q37 [(ax,ay),(bx,b2),(cx,cy),(dx,dy)] c a):=hv
 have aK:=G.trans kr g1
 clear hv g1 gW kr hP HU
 have S0:Hid (Rec _ _ _):=Rec.G R0.out (aK)
 have S1:Hid (Rec _ _ _):=Rec.G R1.out (aK)
 have S2:Hid (Rec _ _ _):=Rec.G R2.out (aK)
 have S3:Hid (Rec _ _ _):=Rec.G R3.out (aK)
 have S4:Hid (Rec _ _ _):=Rec.G R4.out (aK)
 have jT:=G.trans g0 aK
 have hlt1:=S4.out.lt
 clear R0 R1 R2 R3 R4 g0 hz0 aK
 by_cases hc:c=0
 ·subst hc
  have HF:Hid (FinL [(ax,ay),(bx,b2),(cx,cy),(dx,dy)]∧a=0):=by
   rcases HV.out with ⟨-,h1,h2⟩|⟨i,h1,-⟩
   ·exact⟨h2,h1⟩
   ·omega
  have HB1:Hid _:=vK.out HF.out.1
  have HB2:Hid _:=vM.out HF.out.1
  have HB3:Hid _:=Dh.out HF.out.1
  clear vK vM Dh
  go_wp2_with fail
  obtain⟨w2,ae,g2,hz2,R0⟩:=q0J w1 [.int .i64 0,.int .i64 a] 29
  rw[ae]
  clear ae
  have T0:Hid (Rec _ _ _):=Rec.G S0.out (g2)
  have T1:Hid (Rec _ _ _):=Rec.G S1.out (g2)
  have T2:Hid (Rec _ _ _):=Rec.G S2.out (g2)
  have T3:Hid (Rec _ _ _):=Rec.G S3.out (g2)
  have T4:Hid (Rec _ _ _):=Rec.G S4.out (g2)
  have wI:=G.trans jT g2
  clear S0 S1 S2 S3 S4 R0 hz2 g2 jT hlt1
  refine RN.region_each 12 3 #[true,true,true,true,true,true,true,true,true,true,true,true,false,false,false] [.is (.agg #[.float .f64 dx,.float .f64 dy]),.is (.agg #[.float .f64 ax,.float .f64 ay]),.any (fun v w'=>StepIs w' v p1 p2),.is (.agg #[.float .f64 dx,.float .f64 dy]),.is (.agg #[.float .f64 bx,.float .f64 b2]),.any (fun v w'=>StepIs w' v q1 q2),.is (.agg #[.float .f64 dx,.float .f64 dy]),.is (.agg #[.float .f64 cx,.float .f64 cy]),.any (fun v w'=>StepIs w' v r1 r2),.fresh (fun v w'=>NewRec w2 w' v ([.bool false,.slice none 0 0,.slice none 0 0,.bool false,.slice none 0 0,.slice none 0 0])),.fresh (fun v w'=>NewRec w2 w' v ([.bool false,.slice none 0 0,.slice none 0 0,.bool false,.slice none 0 0,.slice none 0 0])),.fresh (fun v w'=>NewRec w2 w' v ([.bool false,.slice none 0 0,.slice none 0 0,.bool false,.slice none 0 0,.slice none 0 0]))] [some 25,some 26,some 27,some 28,some 29,some 30,some 31,some 32,some 33,some 11,some 12,some 13] (by kernel_rfl) (by kernel_rfl) rfl (by kernel_rfl) (by repeat (first|exact trivial|refine⟨fun _ _ _ g h=>by first|exact h.G g|exact fun w3 g3=>h w3 (G.trans g g3),?_⟩)) (by kernel_rfl) (by kernel_rfl) ?_
  refine RN.Letters.is ?_
  refine RN.Letters.is ?_
  refine RN.Letters.any fun v2=> ?_
  refine RN.Letters.is ?_
  refine RN.Letters.is ?_
  refine RN.Letters.any fun v5=> ?_
  refine RN.Letters.is ?_
  refine RN.Letters.is ?_
  refine RN.Letters.any fun v8=> ?_
  refine RN.Letters.fresh fun v9=> ?_
  refine RN.Letters.fresh fun v10=> ?_
  refine RN.Letters.fresh fun v11=> ?_
  refine RN.Letters.nil ?_
  intro A hA
  simp only[q0L,Act.put,List.setIfInBounds_toArray,List.set_cons_zero,List.set_cons_succ] at hA
  subst hA
  refine⟨?_,?_⟩
  ·skip
   refine RN.Eaches.cons rfl ?aX (RN.Eaches.cons rfl ?bI (RN.Eaches.cons rfl ?bJ (RN.Eaches.cons rfl ?bK (RN.Eaches.cons rfl ?dI (RN.Eaches.cons rfl ?bX (RN.Eaches.cons rfl ?bR (RN.Eaches.cons rfl ?bY (RN.Eaches.cons rfl ?dn (RN.Eaches.cons rfl ?fI (RN.Eaches.cons rfl ?gM (RN.Eaches.cons rfl ?kT (RN.Eaches.nil))))))))))))
   case aX|bI|bK|dI|bR|bY=>
    intro W hW hD K hK
    clear hD
    have hT0:=Rec.f2 (Rec.G T0.out hW)
    have kV:=hT0.1
    have kW:=hT0.2.1
    clear hT0
    have hT1:=Rec.f2 (Rec.G T1.out hW)
    have kX:=hT1.1
    have kY:=hT1.2.1
    clear hT1
    have zO:=Rec.f2 (Rec.G T2.out hW)
    have Du:=zO.1
    have Dv:=zO.2.1
    clear zO
    have zP:=Rec.f2 (Rec.G T3.out hW)
    have Dw:=zP.1
    have DC:=zP.2.1
    clear zP
    go_simp
    exact hK.out _ _ ⟨_,rfl,G.refl _,rfl⟩
   ·intro W hW hD K hK
    clear hD
    go_simp
    go_wp2_with (go_at_call 78;refine Calls.mono (P:=Tryz.prog) (HB1.out W (G.trans wI hW)) ?_;intro e w9 hs;obtain⟨u9,rfl,g9,aa⟩:=hs)
    exact hK.out _ _ ⟨_,rfl,g9,aa⟩
   ·intro W hW hD K hK
    clear hD
    go_simp
    go_wp2_with (go_at_call 78;refine Calls.mono (P:=Tryz.prog) (HB2.out W (G.trans wI hW)) ?_;intro e w9 hs;obtain⟨u9,rfl,g9,aa⟩:=hs)
    exact hK.out _ _ ⟨_,rfl,g9,aa⟩
   ·intro W hW hD K hK
    clear hD
    go_simp
    go_wp2_with (go_at_call 78;refine Calls.mono (P:=Tryz.prog) (HB3.out W (G.trans wI hW)) ?_;intro e w9 hs;obtain⟨u9,rfl,g9,aa⟩:=hs)
    exact hK.out _ _ ⟨_,rfl,g9,aa⟩
   ·intro W hW hD K hK
    clear hD
    go_simp
    exact hK.out _ _ ⟨_,rfl,(G.refl _).alloc _,⟨_,rfl,hW.size,Rec.new6 _ _ _ _ _ _ _ _⟩,_,rfl,Nat.le_refl _,by simp⟩
   ·intro W hW hD K hK
    clear hD
    go_simp
    exact hK.out _ _ ⟨_,rfl,(G.refl _).alloc _,⟨_,rfl,hW.size,Rec.new6 _ _ _ _ _ _ _ _⟩,_,rfl,Nat.le_refl _,by simp⟩
   ·intro W hW hD K hK
    clear hD
    go_simp
    exact hK.out _ _ ⟨_,rfl,(G.refl _).alloc _,⟨_,rfl,hW.size,Rec.new6 _ _ _ _ _ _ _ _⟩,_,rfl,Nat.le_refl _,by simp⟩
  intro w3 g3 hH wJ
  have h2:=RN.Helds.get (v:=v2) 2 hH rfl rfl
  have h5:=RN.Helds.get (v:=v5) 5 hH rfl rfl
  have h8:=RN.Helds.get (v:=v8) 8 hH rfl rfl
  have h9:=RN.Helds.getF (v:=v9) 9 hH rfl rfl
  have h10:=RN.Helds.getF (v:=v10) 10 hH rfl rfl
  have h11:=RN.Helds.getF (v:=v11) 11 hH rfl rfl
  have lH:v9≠v10:=wJ 9 10 _ _ _ _ (by decide) rfl rfl trivial trivial rfl rfl
  have lI:v9≠v11:=wJ 9 11 _ _ _ _ (by decide) rfl rfl trivial trivial rfl rfl
  have jB:v10≠v11:=wJ 10 11 _ _ _ _ (by decide) rfl rfl trivial trivial rfl rfl
  clear hH wJ
  clear HB1 HB2 HB3
  obtain⟨np,rfl,lC,rp⟩:=h9
  obtain⟨nq,rfl,hnq,rq⟩:=h10
  obtain⟨nr,rfl,hnr,rr⟩:=h11
  have hpq:np≠nq:=fun e=>lH (by rw[e])
  have hpr:np≠nr:=fun e=>lI (by rw[e])
  have zQ:nq≠nr:=fun e=>jB (by rw[e])
  have IP:Hid (StepIs w3 v2 p1 p2):=h2
  have IQ:Hid (StepIs w3 v5 q1 q2):=h5
  have IR:Hid (StepIs w3 v8 r1 r2):=h8
  obtain⟨tP,aP,kP,cP,dP,eP,fP,gP,hP,iP,jP,lP,mP,nP,rfl,-,-⟩:=h2
  obtain⟨tQ,aQ,kQ,cQ,dQ,eQ,fQ,gQ,hQ,iQ,jQ,lQ,mQ,nQ,rfl,-,-⟩:=h5
  obtain⟨tR,aR,kR,cR,dR,eR,fR,gR,hR,iR,jR,lR,mR,nR,rfl,-,-⟩:=h8
  have T4':Hid (Rec w3 _ _):=Rec.G T4.out g3
  have hlow:Hid (w.heap.size+4<w2.heap.size):=T4.out.lt
  clear lH lI jB T0 T1 T2 T3 T4
  have Zp:Hid (Rec w3 np [.bool false,.slice none 0 0,.slice none 0 0,.bool false,.slice none 0 0,.slice none 0 0]):=rp
  have Zq:Hid (Rec w3 nq [.bool false,.slice none 0 0,.slice none 0 0,.bool false,.slice none 0 0,.slice none 0 0]):=rq
  have Zr:Hid (Rec w3 nr [.bool false,.slice none 0 0,.slice none 0 0,.bool false,.slice none 0 0,.slice none 0 0]):=rr
  have lJ:np≠w.heap.size+4:=by have:=hlow.out;omega
  have lK:nq≠w.heap.size+4:=by have:=hlow.out;omega
  have lL:nr≠w.heap.size+4:=by have:=hlow.out;omega
  clear rp rq rr
  have QP:Hid (StepAt (set6 w3 np (.bool tP) (.slice aP kP cP) (.slice dP eP fP) (.bool gP) (.slice hP iP jP) (.slice lP mP nP)) np p1 p2):=⟨_,_,_,_,_,_,_,_,_,_,_,_,_,_,q2c Zp.out,StepIs.set6 IP.out Zp.out⟩
  have JQ:Hid (StepIs (set6 w3 np (.bool tP) (.slice aP kP cP) (.slice dP eP fP) (.bool gP) (.slice hP iP jP) (.slice lP mP nP)) _ q1 q2):=StepIs.set6 IQ.out Zp.out
  have JR:Hid (StepIs (set6 w3 np (.bool tP) (.slice aP kP cP) (.slice dP eP fP) (.bool gP) (.slice hP iP jP) (.slice lP mP nP)) _ r1 r2):=StepIs.set6 IR.out Zp.out
  have Yq:Hid (Rec (set6 w3 np (.bool tP) (.slice aP kP cP) (.slice dP eP fP) (.bool gP) (.slice hP iP jP) (.slice lP mP nP)) nq [.bool false,.slice none 0 0,.slice none 0 0,.bool false,.slice none 0 0,.slice none 0 0]):=q1h Zq.out hpq
  have Yr:Hid (Rec (set6 w3 np (.bool tP) (.slice aP kP cP) (.slice dP eP fP) (.bool gP) (.slice hP iP jP) (.slice lP mP nP)) nr [.bool false,.slice none 0 0,.slice none 0 0,.bool false,.slice none 0 0,.slice none 0 0]):=q1h Zr.out hpr
  have jC:Hid (Rec (set6 w3 np (.bool tP) (.slice aP kP cP) (.slice dP eP fP) (.bool gP) (.slice hP iP jP) (.slice lP mP nP)) (w.heap.size+4) _):=q1h T4'.out lJ
  have gn:G w2 (set6 w3 np (.bool tP) (.slice aP kP cP) (.slice dP eP fP) (.bool gP) (.slice hP iP jP) (.slice lP mP nP)):=q4I g3 lC
  obtain⟨hc0,hc1,hc2,hc3,hc4,kG,hf0,hf1,hf2,hf3,jS,jg⟩:=Zp.out.f6
  refine wpAny_ready (rs:=[12]) (by kernel_rfl) (by simp) ?_
  refine AllReady.cons rfl (fun K hK=> ?_) AllReady.nil
  go_simp
  refine hK _ _ ?_
  clear hK K hc0 hc1 hc2 hc3 hc4 kG hf0 hf1 hf2 hf3 jS jg
  unfold set6 at QP jC gn JQ JR Yq Yr
  generalize (World.setCell (World.setCell (World.setCell (World.setCell (World.setCell (World.setCell w3 ⟨np,0,none⟩ (.bool tP)) ⟨np,1,none⟩ (.slice aP kP cP)) ⟨np,2,none⟩ (.slice dP eP fP)) ⟨np,3,none⟩ (.bool gP)) ⟨np,4,none⟩ (.slice hP iP jP)) ⟨np,5,none⟩ (.slice lP mP nP))=w4 at *
  clear Zp T4' g3 IP IQ IR Zq Zr
  have IQ:Hid _:=JQ
  clear JQ
  have IR:Hid _:=JR
  clear JR
  have Zq:Hid _:=Yq
  clear Yq
  have Zr:Hid _:=Yr
  clear Yr
  have T4':Hid _:=jC
  have g4:=gn
  clear jC gn
  have QQ:Hid (StepAt (set6 w4 nq (.bool tQ) (.slice aQ kQ cQ) (.slice dQ eQ fQ) (.bool gQ) (.slice hQ iQ jQ) (.slice lQ mQ nQ)) nq q1 q2):=⟨_,_,_,_,_,_,_,_,_,_,_,_,_,_,q2c Zq.out,StepIs.set6 IQ.out Zq.out⟩
  have JR:Hid (StepIs (set6 w4 nq (.bool tQ) (.slice aQ kQ cQ) (.slice dQ eQ fQ) (.bool gQ) (.slice hQ iQ jQ) (.slice lQ mQ nQ)) _ r1 r2):=StepIs.set6 IR.out Zq.out
  have Yr:Hid (Rec (set6 w4 nq (.bool tQ) (.slice aQ kQ cQ) (.slice dQ eQ fQ) (.bool gQ) (.slice hQ iQ jQ) (.slice lQ mQ nQ)) nr [.bool false,.slice none 0 0,.slice none 0 0,.bool false,.slice none 0 0,.slice none 0 0]):=q1h Zr.out zQ
  have OP:Hid (StepAt (set6 w4 nq (.bool tQ) (.slice aQ kQ cQ) (.slice dQ eQ fQ) (.bool gQ) (.slice hQ iQ jQ) (.slice lQ mQ nQ)) np p1 p2):=StepAt.set6 QP.out Zq.out hpq.symm
  have jC:Hid (Rec (set6 w4 nq (.bool tQ) (.slice aQ kQ cQ) (.slice dQ eQ fQ) (.bool gQ) (.slice hQ iQ jQ) (.slice lQ mQ nQ)) (w.heap.size+4) _):=q1h T4'.out lK
  have gn:G w2 (set6 w4 nq (.bool tQ) (.slice aQ kQ cQ) (.slice dQ eQ fQ) (.bool gQ) (.slice hQ iQ jQ) (.slice lQ mQ nQ)):=q4I g4 hnq
  obtain⟨hc0,hc1,hc2,hc3,hc4,kG,hf0,hf1,hf2,hf3,jS,jg⟩:=Zq.out.f6
  refine wpAny_ready (rs:=[13]) (by kernel_rfl) (by simp) ?_
  refine AllReady.cons rfl (fun K hK=> ?_) AllReady.nil
  go_simp
  refine hK _ _ ?_
  clear hK K hc0 hc1 hc2 hc3 hc4 kG hf0 hf1 hf2 hf3 jS jg
  unfold set6 at QQ jC gn JR Yr OP
  generalize (World.setCell (World.setCell (World.setCell (World.setCell (World.setCell (World.setCell w4 ⟨nq,0,none⟩ (.bool tQ)) ⟨nq,1,none⟩ (.slice aQ kQ cQ)) ⟨nq,2,none⟩ (.slice dQ eQ fQ)) ⟨nq,3,none⟩ (.bool gQ)) ⟨nq,4,none⟩ (.slice hQ iQ jQ)) ⟨nq,5,none⟩ (.slice lQ mQ nQ))=w5 at *
  clear Zq T4' g4 IQ IR Zr QP
  have IR:Hid _:=JR
  clear JR
  have Zr:Hid _:=Yr
  clear Yr
  have QP:Hid _:=OP
  clear OP
  have T4':Hid _:=jC
  have g5:=gn
  clear jC gn
  have QR:Hid (StepAt (set6 w5 nr (.bool tR) (.slice aR kR cR) (.slice dR eR fR) (.bool gR) (.slice hR iR jR) (.slice lR mR nR)) nr r1 r2):=⟨_,_,_,_,_,_,_,_,_,_,_,_,_,_,q2c Zr.out,StepIs.set6 IR.out Zr.out⟩
  have OP:Hid (StepAt (set6 w5 nr (.bool tR) (.slice aR kR cR) (.slice dR eR fR) (.bool gR) (.slice hR iR jR) (.slice lR mR nR)) np p1 p2):=StepAt.set6 QP.out Zr.out hpr.symm
  have OQ:Hid (StepAt (set6 w5 nr (.bool tR) (.slice aR kR cR) (.slice dR eR fR) (.bool gR) (.slice hR iR jR) (.slice lR mR nR)) nq q1 q2):=StepAt.set6 QQ.out Zr.out zQ.symm
  have jC:Hid (Rec (set6 w5 nr (.bool tR) (.slice aR kR cR) (.slice dR eR fR) (.bool gR) (.slice hR iR jR) (.slice lR mR nR)) (w.heap.size+4) _):=q1h T4'.out lL
  have gn:G w2 (set6 w5 nr (.bool tR) (.slice aR kR cR) (.slice dR eR fR) (.bool gR) (.slice hR iR jR) (.slice lR mR nR)):=q4I g5 hnr
  obtain⟨hc0,hc1,hc2,hc3,hc4,kG,hf0,hf1,hf2,hf3,jS,jg⟩:=Zr.out.f6
  refine wpAny_ready (rs:=[14]) (by kernel_rfl) (by simp) ?_
  refine AllReady.cons rfl (fun K hK=> ?_) AllReady.nil
  go_simp
  refine hK _ _ ?_
  clear hK K hc0 hc1 hc2 hc3 hc4 kG hf0 hf1 hf2 hf3 jS jg
  unfold set6 at QR jC gn OP OQ
  generalize (World.setCell (World.setCell (World.setCell (World.setCell (World.setCell (World.setCell w5 ⟨nr,0,none⟩ (.bool tR)) ⟨nr,1,none⟩ (.slice aR kR cR)) ⟨nr,2,none⟩ (.slice dR eR fR)) ⟨nr,3,none⟩ (.bool gR)) ⟨nr,4,none⟩ (.slice hR iR jR)) ⟨nr,5,none⟩ (.slice lR mR nR))=w6 at *
  clear Zr T4' g5 IR QP QQ
  have QP:Hid _:=OP
  clear OP
  have QQ:Hid _:=OQ
  clear OQ
  have T4':Hid _:=jC
  have g6:=gn
  clear jC gn
  refine wpAny_done (by kernel_rfl) ?_ _
  go_wp2_with fail
  obtain⟨tP,aP,kP,cP,dP,eP,fP,gP,hP,iP,jP,lP,mP,nP,hr,hi⟩:=QP.out
  have EP:Hid (Rec w6 np [.bool tP,.slice aP kP cP,.slice dP eP fP,.bool gP,.slice hP iP jP,.slice lP mP nP]):=hr
  have SP:Hid (StepIs w6 (.agg #[.bool tP,.slice aP kP cP,.slice dP eP fP,.bool gP,.slice hP iP jP,.slice lP mP nP]) p1 p2):=hi
  clear QP hr hi
  obtain⟨tQ,aQ,kQ,cQ,dQ,eQ,fQ,gQ,hQ,iQ,jQ,lQ,mQ,nQ,hr,hi⟩:=QQ.out
  have EQ:Hid (Rec w6 nq [.bool tQ,.slice aQ kQ cQ,.slice dQ eQ fQ,.bool gQ,.slice hQ iQ jQ,.slice lQ mQ nQ]):=hr
  have SQ:Hid (StepIs w6 (.agg #[.bool tQ,.slice aQ kQ cQ,.slice dQ eQ fQ,.bool gQ,.slice hQ iQ jQ,.slice lQ mQ nQ]) q1 q2):=hi
  clear QQ hr hi
  obtain⟨tR,aR,kR,cR,dR,eR,fR,gR,hR,iR,jR,lR,mR,nR,hr,hi⟩:=QR.out
  have ER:Hid (Rec w6 nr [.bool tR,.slice aR kR cR,.slice dR eR fR,.bool gR,.slice hR iR jR,.slice lR mR nR]):=hr
  have SR:Hid (StepIs w6 (.agg #[.bool tR,.slice aR kR cR,.slice dR eR fR,.bool gR,.slice hR iR jR,.slice lR mR nR]) r1 r2):=hi
  clear QR hr hi
  have oQ:=G.trans wI g6
  clear lJ lK lL hpq hpr zQ lC hnq hnr
  refine region_each 7 1 #[true,true,true,true,true,true,true,false] [.is (.agg #[.bool tP,.slice aP kP cP,.slice dP eP fP,.bool gP,.slice hP iP jP,.slice lP mP nP]),.any (fun v w'=>QIs w' v (n1)),.is (.agg #[.bool tQ,.slice aQ kQ cQ,.slice dQ eQ fQ,.bool gQ,.slice hQ iQ jQ,.slice lQ mQ nQ]),.is (.agg #[.bool tR,.slice aR kR cR,.slice dR eR fR,.bool gR,.slice hR iR jR,.slice lR mR nR]),.any (fun v w'=>QIs w' v (x1)),.any (fun v w'=>QIs w' v (s1)),.any (fun v w'=>NewRec w6 w' v ([.bool false,.slice none 0 0,.slice none 0 0]))] [some 34,some 35,some 36,some 37,some 38,some 39,some 14] (by kernel_rfl) (by kernel_rfl) rfl (by kernel_rfl) (by repeat (first|exact trivial|refine⟨fun _ _ _ g h=>by first|exact h.G g|exact fun w3 g3=>h w3 (G.trans g g3),?_⟩)) (by kernel_rfl) (by kernel_rfl) ?_
  refine Letters.is ?_
  refine Letters.any fun v1=> ?_
  refine Letters.is ?_
  refine Letters.is ?_
  refine Letters.any fun v4=> ?_
  refine Letters.any fun v5=> ?_
  refine Letters.any fun v6=> ?_
  refine Letters.nil ?_
  intro A hA
  simp only[q0L,Act.put,List.setIfInBounds_toArray,List.set_cons_zero,List.set_cons_succ] at hA
  subst hA
  refine⟨?_,?_⟩
  ·skip
   refine Eaches.cons rfl ?bW (Eaches.cons rfl ?dX (Eaches.cons rfl ?di (Eaches.cons rfl ?dm (Eaches.cons rfl ?dY (Eaches.cons rfl ?fE (Eaches.cons rfl ?ig (Eaches.nil)))))))
   case bW|di|dm=>
    intro W hW hD K hK
    clear hD
    have oU:=Rec.f6 (Rec.G EP.out hW)
    have DD:=oU.1
    have DF:=oU.2.1
    have DJ:=oU.2.2.1
    have DK:=oU.2.2.2.1
    have DL:=oU.2.2.2.2.1
    have DN:=oU.2.2.2.2.2.1
    clear oU
    have oV:=Rec.f6 (Rec.G EQ.out hW)
    have DR:=oV.1
    have DT:=oV.2.1
    have DU:=oV.2.2.1
    have DV:=oV.2.2.2.1
    have DW:=oV.2.2.2.2.1
    have DX:=oV.2.2.2.2.2.1
    clear oV
    have oW:=Rec.f6 (Rec.G ER.out hW)
    have DY:=oW.1
    have DZ:=oW.2.1
    have E5:=oW.2.2.1
    have E8:=oW.2.2.2.1
    have E9:=oW.2.2.2.2.1
    have Ea:=oW.2.2.2.2.2.1
    clear oW
    go_simp
    exact hK.out _ _ ⟨_,rfl,G.refl _,rfl⟩
   ·intro W hW hD K hK
    clear hD
    go_simp
    go_wp2_with (go_at_call 79;refine Calls.mono (P:=Tryz.prog) (Di.out W _ (G.trans oQ hW) (StepIs.G SP.out hW)) ?_;intro e w9 hs;obtain⟨u9,rfl,g9,aa⟩:=hs)
    exact hK.out _ _ ⟨_,rfl,g9,aa⟩
   ·intro W hW hD K hK
    clear hD
    go_simp
    go_wp2_with (go_at_call 80;refine Calls.mono (P:=Tryz.prog) (Dl.out W _ _ (G.trans oQ hW) (StepIs.G SQ.out hW) (StepIs.G SR.out hW)) ?_;intro e w9 hs;obtain⟨u9,rfl,g9,aa⟩:=hs)
    exact hK.out _ _ ⟨_,rfl,g9,aa⟩
   ·intro W hW hD K hK
    have h1:=Deps.get (v:=v1) 1 hD rfl rfl (by kernel_rfl)
    have h4:=Deps.get (v:=v4) 4 hD rfl rfl (by kernel_rfl)
    clear hD
    go_simp
    go_wp2_with (go_at_call 56;refine Calls.mono (P:=Tryz.prog) (Dp.out W v1 v4 (G.trans oQ hW) h1 h4) ?_;intro e w9 hs;obtain⟨u9,rfl,g9,aa⟩:=hs)
    exact hK.out _ _ ⟨_,rfl,g9,aa⟩
   ·intro W hW hD K hK
    clear hD
    go_simp
    exact hK.out _ _ ⟨_,rfl,(G.refl _).alloc _,_,rfl,hW.size,Rec.new3 _ _ _ _ _⟩
  intro w7 g7 hH
  have h5:=Helds.get (v:=v5) 5 hH rfl rfl
  have h6:=Helds.get (v:=v6) 6 hH rfl rfl
  clear hH
  clear Di Dl Dp
  obtain⟨nb,rfl,hnb,hrb⟩:=h6
  have N0:Hid (Rec w7 nb [.bool false,.slice none 0 0,.slice none 0 0]):=hrb
  clear hrb
  obtain⟨Ax,Kx,Cx,Bx,Ix,Dx,rfl,aN,av⟩:=h5
  obtain⟨ux,jD⟩:∃ t,t=decide (s1.num<0):=⟨_,rfl⟩
  have hQ:QIs w7 (.agg #[.bool ux,.slice Ax Kx Cx,.slice Bx Ix Dx]) s1:=⟨Ax,Kx,Cx,Bx,Ix,Dx,by rw[jD],aN,av⟩
  rw[← jD]
  have Eb:Hid _:=hQ.set3 (u1:= .bool ux) (u2:= .slice Ax Kx Cx) (u3:= .slice Bx Ix Dx) N0.out trivial trivial trivial
  clear aN av jD hQ
  have hS:=Rec.f3 (Rec.G N0.out ((G.refl _)))
  have ah:=hS.1
  have ai:=hS.2.1
  have aj:=hS.2.2.1
  have ak:=hS.2.2.2.1
  have aF:=hS.2.2.2.2.1
  have aG:=hS.2.2.2.2.2
  clear hS
  refine wpAny_ready (rs:=[7]) (by kernel_rfl) (by simp) ?_
  refine AllReady.cons rfl (fun K hK=> ?_) AllReady.nil
  go_simp
  refine hK _ _ ?_
  clear hK K ah ai aj ak aF aG
  refine wpAny_done (by kernel_rfl) ?_ _
  have N1:Hid (Rec _ nb [.bool ux,.slice Ax Kx Cx,.slice Bx Ix Dx]):=Rec.set3 N0.out
  have kM:=Rec.g3 (b:=nb) (u:= .bool ux) (v:= .slice Ax Kx Cx) (x:= .slice Bx Ix Dx) g7 hnb
  generalize (((w7.setCell ⟨nb,0,none⟩ (.bool ux)).setCell ⟨nb,1,none⟩ (.slice Ax Kx Cx)).setCell ⟨nb,2,none⟩ (.slice Bx Ix Dx))=w8 at *
  clear N0 g7
  have uU:Hid (Rec _ _ _):=Rec.G EP.out kM
  have uV:Hid (StepIs _ _ _ _):=StepIs.G SP.out kM
  have uW:Hid (Rec _ _ _):=Rec.G EQ.out kM
  have uX:Hid (StepIs _ _ _ _):=StepIs.G SQ.out kM
  have uY:Hid (Rec _ _ _):=Rec.G ER.out kM
  have uZ:Hid (StepIs _ _ _ _):=StepIs.G SR.out kM
  have jE:=G.trans oQ kM
  go_wp2_with fail
  refine region_each 8 1 #[true,true,true,true,true,true,true,true,false] [.is (.agg #[.bool ux,.slice Ax Kx Cx,.slice Bx Ix Dx]),.is (.agg #[.bool tQ,.slice aQ kQ cQ,.slice dQ eQ fQ,.bool gQ,.slice hQ iQ jQ,.slice lQ mQ nQ]),.any (fun v w'=>QIs w' v (n2)),.is (.agg #[.bool tR,.slice aR kR cR,.slice dR eR fR,.bool gR,.slice hR iR jR,.slice lR mR nR]),.is (.agg #[.bool tP,.slice aP kP cP,.slice dP eP fP,.bool gP,.slice hP iP jP,.slice lP mP nP]),.any (fun v w'=>QIs w' v (x2)),.any (fun v w'=>QIs w' v (y2)),.any (fun v w'=>QIs w' v (s2))] [some 40,some 41,some 42,some 43,some 44,some 45,some 46,some 47] (by kernel_rfl) (by kernel_rfl) rfl (by kernel_rfl) (by repeat (first|exact trivial|refine⟨fun _ _ _ g h=>by first|exact h.G g|exact fun w3 g3=>h w3 (G.trans g g3),?_⟩)) (by kernel_rfl) (by kernel_rfl) ?_
  refine Letters.is ?_
  refine Letters.is ?_
  refine Letters.any fun v2=> ?_
  refine Letters.is ?_
  refine Letters.is ?_
  refine Letters.any fun v5=> ?_
  refine Letters.any fun v6=> ?_
  refine Letters.any fun v7=> ?_
  refine Letters.nil ?_
  intro A hA
  simp only[q0L,Act.put,List.setIfInBounds_toArray,List.set_cons_zero,List.set_cons_succ] at hA
  subst hA
  refine⟨?_,?_⟩
  ·skip
   refine Eaches.cons rfl ?dH (Eaches.cons rfl ?dZ (Eaches.cons rfl ?ed (Eaches.cons rfl ?ek (Eaches.cons rfl ?eu (Eaches.cons rfl ?gZ (Eaches.cons rfl ?ic (Eaches.cons rfl ?iK (Eaches.nil))))))))
   case dH|dZ|ek|eu=>
    intro W hW hD K hK
    clear hD
    have hN1:=Rec.f3 (Rec.G N1.out hW)
    have Ec:=hN1.1
    have Ed:=hN1.2.1
    have Ee:=hN1.2.2.1
    clear hN1
    have bn:=Rec.f6 (Rec.G uU.out hW)
    have oZ:=bn.1
    have p8:=bn.2.1
    have p9:=bn.2.2.1
    have pg:=bn.2.2.2.1
    have pq:=bn.2.2.2.2.1
    have pE:=bn.2.2.2.2.2.1
    clear bn
    have bC:=Rec.f6 (Rec.G uW.out hW)
    have pF:=bC.1
    have pG:=bC.2.1
    have pI:=bC.2.2.1
    have pJ:=bC.2.2.2.1
    have pK:=bC.2.2.2.2.1
    have pM:=bC.2.2.2.2.2.1
    clear bC
    have bD:=Rec.f6 (Rec.G uY.out hW)
    have pO:=bD.1
    have pQ:=bD.2.1
    have pR:=bD.2.2.1
    have pU:=bD.2.2.2.1
    have pV:=bD.2.2.2.2.1
    have pW:=bD.2.2.2.2.2.1
    clear bD
    go_simp
    exact hK.out _ _ ⟨_,rfl,G.refl _,rfl⟩
   ·intro W hW hD K hK
    clear hD
    go_simp
    go_wp2_with (go_at_call 79;refine Calls.mono (P:=Tryz.prog) (Dj.out W _ (G.trans jE hW) (StepIs.G uX.out hW)) ?_;intro e w9 hs;obtain⟨u9,rfl,g9,aa⟩:=hs)
    exact hK.out _ _ ⟨_,rfl,g9,aa⟩
   ·intro W hW hD K hK
    clear hD
    go_simp
    go_wp2_with (go_at_call 80;refine Calls.mono (P:=Tryz.prog) (Dm.out W _ _ (G.trans jE hW) (StepIs.G uZ.out hW) (StepIs.G uV.out hW)) ?_;intro e w9 hs;obtain⟨u9,rfl,g9,aa⟩:=hs)
    exact hK.out _ _ ⟨_,rfl,g9,aa⟩
   ·intro W hW hD K hK
    have h2:=Deps.get (v:=v2) 2 hD rfl rfl (by kernel_rfl)
    have h5:=Deps.get (v:=v5) 5 hD rfl rfl (by kernel_rfl)
    clear hD
    go_simp
    go_wp2_with (go_at_call 56;refine Calls.mono (P:=Tryz.prog) (Dq.out W v2 v5 (G.trans jE hW) h2 h5) ?_;intro e w9 hs;obtain⟨u9,rfl,g9,aa⟩:=hs)
    exact hK.out _ _ ⟨_,rfl,g9,aa⟩
   ·intro W hW hD K hK
    have h6:=Deps.get (v:=v6) 6 hD rfl rfl (by kernel_rfl)
    clear hD
    go_simp
    go_wp2_with (go_at_call 62;refine Calls.mono (P:=Tryz.prog) (Dr.out W _ v6 (G.trans jE hW) (QIs.G Eb.out hW) h6) ?_;intro e w9 hs;obtain⟨u9,rfl,g9,aa⟩:=hs)
    exact hK.out _ _ ⟨_,rfl,g9,aa⟩
  intro w9 g9 hH
  have h7:=Helds.get (v:=v7) 7 hH rfl rfl
  clear hH
  clear Dj Dm Dq Dr uU uW uY uV uX uZ Eb
  have N2:Hid (Rec w9 nb _):=Rec.G N1.out g9
  have Ef:=G.trans kM g9
  clear N1 kM g9 jE
  obtain⟨Ay,Ky,Cy,By,Iy,Dy,rfl,aN,av⟩:=h7
  obtain⟨uy,jD⟩:∃ t,t=decide (s2.num<0):=⟨_,rfl⟩
  have hQ:QIs w9 (.agg #[.bool uy,.slice Ay Ky Cy,.slice By Iy Dy]) s2:=⟨Ay,Ky,Cy,By,Iy,Dy,by rw[jD],aN,av⟩
  rw[← jD]
  have Eg:Hid _:=hQ.set3 (u1:= .bool uy) (u2:= .slice Ay Ky Cy) (u3:= .slice By Iy Dy) N2.out trivial trivial trivial
  clear aN av jD hQ
  have hS:=Rec.f3 (Rec.G N2.out ((G.refl _)))
  have ah:=hS.1
  have ai:=hS.2.1
  have aj:=hS.2.2.1
  have ak:=hS.2.2.2.1
  have aF:=hS.2.2.2.2.1
  have aG:=hS.2.2.2.2.2
  clear hS
  refine wpAny_ready (rs:=[8]) (by kernel_rfl) (by simp) ?_
  refine AllReady.cons rfl (fun K hK=> ?_) AllReady.nil
  go_simp
  refine hK _ _ ?_
  clear hK K ah ai aj ak aF aG
  refine wpAny_done (by kernel_rfl) ?_ _
  have N3:Hid (Rec _ nb [.bool uy,.slice Ay Ky Cy,.slice By Iy Dy]):=Rec.set3 N2.out
  have dU:=Rec.g3 (b:=nb) (u:= .bool uy) (v:= .slice Ay Ky Cy) (x:= .slice By Iy Dy) Ef hnb
  generalize (((w9.setCell ⟨nb,0,none⟩ (.bool uy)).setCell ⟨nb,1,none⟩ (.slice Ay Ky Cy)).setCell ⟨nb,2,none⟩ (.slice By Iy Dy))=fD at *
  clear N2 Ef
  have uU:Hid (Rec _ _ _):=Rec.G EP.out dU
  have uV:Hid (StepIs _ _ _ _):=StepIs.G SP.out dU
  have uW:Hid (Rec _ _ _):=Rec.G EQ.out dU
  have uX:Hid (StepIs _ _ _ _):=StepIs.G SQ.out dU
  have uY:Hid (Rec _ _ _):=Rec.G ER.out dU
  have uZ:Hid (StepIs _ _ _ _):=StepIs.G SR.out dU
  have jE:=G.trans oQ dU
  go_wp2_with fail
  refine region_each 8 1 #[true,true,true,true,true,true,true,true,false] [.is (.agg #[.bool uy,.slice Ay Ky Cy,.slice By Iy Dy]),.is (.agg #[.bool tR,.slice aR kR cR,.slice dR eR fR,.bool gR,.slice hR iR jR,.slice lR mR nR]),.any (fun v w'=>QIs w' v (n3)),.is (.agg #[.bool tP,.slice aP kP cP,.slice dP eP fP,.bool gP,.slice hP iP jP,.slice lP mP nP]),.is (.agg #[.bool tQ,.slice aQ kQ cQ,.slice dQ eQ fQ,.bool gQ,.slice hQ iQ jQ,.slice lQ mQ nQ]),.any (fun v w'=>QIs w' v (x3)),.any (fun v w'=>QIs w' v (y3)),.any (fun v w'=>QIs w' v (s3))] [some 48,some 49,some 50,some 51,some 52,some 53,some 54,some 55] (by kernel_rfl) (by kernel_rfl) rfl (by kernel_rfl) (by repeat (first|exact trivial|refine⟨fun _ _ _ g h=>by first|exact h.G g|exact fun w3 g3=>h w3 (G.trans g g3),?_⟩)) (by kernel_rfl) (by kernel_rfl) ?_
  refine Letters.is ?_
  refine Letters.is ?_
  refine Letters.any fun v2=> ?_
  refine Letters.is ?_
  refine Letters.is ?_
  refine Letters.any fun v5=> ?_
  refine Letters.any fun v6=> ?_
  refine Letters.any fun v7=> ?_
  refine Letters.nil ?_
  intro A hA
  simp only[q0L,Act.put,List.setIfInBounds_toArray,List.set_cons_zero,List.set_cons_succ] at hA
  subst hA
  refine⟨?_,?_⟩
  ·skip
   refine Eaches.cons rfl ?iU (Eaches.cons rfl ?iV (Eaches.cons rfl ?jW (Eaches.cons rfl ?jX (Eaches.cons rfl ?iW (Eaches.cons rfl ?jY (Eaches.cons rfl ?r9 (Eaches.cons rfl ?rf (Eaches.nil))))))))
   case iU|iV|jX|iW=>
    intro W hW hD K hK
    clear hD
    have wK:=Rec.f3 (Rec.G N3.out hW)
    have Eh:=wK.1
    have Ei:=wK.2.1
    have Ej:=wK.2.2.1
    clear wK
    have bn:=Rec.f6 (Rec.G uU.out hW)
    have oZ:=bn.1
    have p8:=bn.2.1
    have p9:=bn.2.2.1
    have pg:=bn.2.2.2.1
    have pq:=bn.2.2.2.2.1
    have pE:=bn.2.2.2.2.2.1
    clear bn
    have bC:=Rec.f6 (Rec.G uW.out hW)
    have pF:=bC.1
    have pG:=bC.2.1
    have pI:=bC.2.2.1
    have pJ:=bC.2.2.2.1
    have pK:=bC.2.2.2.2.1
    have pM:=bC.2.2.2.2.2.1
    clear bC
    have bD:=Rec.f6 (Rec.G uY.out hW)
    have pO:=bD.1
    have pQ:=bD.2.1
    have pR:=bD.2.2.1
    have pU:=bD.2.2.2.1
    have pV:=bD.2.2.2.2.1
    have pW:=bD.2.2.2.2.2.1
    clear bD
    go_simp
    exact hK.out _ _ ⟨_,rfl,G.refl _,rfl⟩
   ·intro W hW hD K hK
    clear hD
    go_simp
    go_wp2_with (go_at_call 79;refine Calls.mono (P:=Tryz.prog) (Dk.out W _ (G.trans jE hW) (StepIs.G uZ.out hW)) ?_;intro e w9 hs;obtain⟨u9,rfl,g9,aa⟩:=hs)
    exact hK.out _ _ ⟨_,rfl,g9,aa⟩
   ·intro W hW hD K hK
    clear hD
    go_simp
    go_wp2_with (go_at_call 80;refine Calls.mono (P:=Tryz.prog) (Dn.out W _ _ (G.trans jE hW) (StepIs.G uV.out hW) (StepIs.G uX.out hW)) ?_;intro e w9 hs;obtain⟨u9,rfl,g9,aa⟩:=hs)
    exact hK.out _ _ ⟨_,rfl,g9,aa⟩
   ·intro W hW hD K hK
    have h2:=Deps.get (v:=v2) 2 hD rfl rfl (by kernel_rfl)
    have h5:=Deps.get (v:=v5) 5 hD rfl rfl (by kernel_rfl)
    clear hD
    go_simp
    go_wp2_with (go_at_call 56;refine Calls.mono (P:=Tryz.prog) (tC.out W v2 v5 (G.trans jE hW) h2 h5) ?_;intro e w9 hs;obtain⟨u9,rfl,g9,aa⟩:=hs)
    exact hK.out _ _ ⟨_,rfl,g9,aa⟩
   ·intro W hW hD K hK
    have h6:=Deps.get (v:=v6) 6 hD rfl rfl (by kernel_rfl)
    clear hD
    go_simp
    go_wp2_with (go_at_call 62;refine Calls.mono (P:=Tryz.prog) (Dt.out W _ v6 (G.trans jE hW) (QIs.G Eg.out hW) h6) ?_;intro e w9 hs;obtain⟨u9,rfl,g9,aa⟩:=hs)
    exact hK.out _ _ ⟨_,rfl,g9,aa⟩
  intro jU g11 hH
  have h7:=Helds.get (v:=v7) 7 hH rfl rfl
  clear hH
  clear Dk Dn tC Dt uU uW uY uV uX uZ Eg EP EQ ER SP SQ SR
  have N4:Hid (Rec jU nb _):=Rec.G N3.out g11
  have ve:=G.trans dU g11
  clear N3 dU g11 jE
  obtain⟨Az,Kz,Cz,Bz,Iz,Dz,rfl,aN,av⟩:=h7
  obtain⟨uz,jD⟩:∃ t,t=decide (s3.num<0):=⟨_,rfl⟩
  have hQ:QIs jU (.agg #[.bool uz,.slice Az Kz Cz,.slice Bz Iz Dz]) s3:=⟨Az,Kz,Cz,Bz,Iz,Dz,by rw[jD],aN,av⟩
  rw[← jD]
  have El:Hid _:=hQ.set3 (u1:= .bool uz) (u2:= .slice Az Kz Cz) (u3:= .slice Bz Iz Dz) N4.out trivial trivial trivial
  clear aN av jD hQ
  have hS:=Rec.f3 (Rec.G N4.out ((G.refl _)))
  have ah:=hS.1
  have ai:=hS.2.1
  have aj:=hS.2.2.1
  have ak:=hS.2.2.2.1
  have aF:=hS.2.2.2.2.1
  have aG:=hS.2.2.2.2.2
  clear hS
  refine wpAny_ready (rs:=[8]) (by kernel_rfl) (by simp) ?_
  refine AllReady.cons rfl (fun K hK=> ?_) AllReady.nil
  go_simp
  refine hK _ _ ?_
  clear hK K ah ai aj ak aF aG
  refine wpAny_done (by kernel_rfl) ?_ _
  have N5:Hid (Rec _ nb [.bool uz,.slice Az Kz Cz,.slice Bz Iz Dz]):=Rec.set3 N4.out
  have pX:=Rec.g3 (b:=nb) (u:= .bool uz) (v:= .slice Az Kz Cz) (x:= .slice Bz Iz Dz) ve hnb
  generalize (((jU.setCell ⟨nb,0,none⟩ (.bool uz)).setCell ⟨nb,1,none⟩ (.slice Az Kz Cz)).setCell ⟨nb,2,none⟩ (.slice Bz Iz Dz))=vo at *
  clear N4 ve
  have zR:=G.trans oQ pX
  have T5:Hid (Rec vo (w.heap.size+4) _):=Rec.G T4'.out pX
  clear T4' oQ pX hnb
  have gJ:=Rec.f3 (Rec.G N5.out (G.refl _))
  have pY:=gJ.1
  have qc:=gJ.2.1
  have qd:=gJ.2.2.1
  have qf:=gJ.2.2.2.1
  have qg:=gJ.2.2.2.2.1
  have qh:=gJ.2.2.2.2.2
  clear gJ
  go_wp2_with fail
  clear pY qc qd qf qg qh
  refine Calls.mono (P:=Tryz.prog) (vQ.out vo _ El.out) ?_
  rintro e13 Em ⟨rfl,g13⟩
  have zS:=G.trans zR g13
  clear vQ El N5
  have jF:=Rec.f2 (Rec.G T5.out (g13))
  have zT:=jF.1
  have zU:=jF.2.1
  have zV:=jF.2.2.1
  have zW:=jF.2.2.2
  clear jF
  go_wp2_with fail
  go_wp2_with fail
  have hT:Hid (Rec (World.setCell (World.setCell Em ⟨w.heap.size+4,0,none⟩ (.int .i64 0)) ⟨w.heap.size+4,1,none⟩ (.int .i64 0)) (w.heap.size+4) [.int .i64 0,.int .i64 0]):=Rec.set2 (Rec.G T5.out (g13))
  have g20:=Rec.g2 (b:=w.heap.size+4) (u:= .int .i64 0) (v:= .int .i64 0) (zS) (by omega)
  generalize (World.setCell (World.setCell Em ⟨w.heap.size+4,0,none⟩ (.int .i64 0)) ⟨w.heap.size+4,1,none⟩ (.int .i64 0))=Iw at *
  have hF:=Rec.f2 (Rec.G hT.out ((G.refl _)))
  have az:=hF.1
  have aA:=hF.2.1
  have aB:=hF.2.2.1
  have aC:=hF.2.2.2
  clear hF
  refine bodyPost_ret (v:= .tuple #[.int .i64 z,.agg #[.int .i64 0,.int .i64 0]]) (by simp [results,Tryz.results40,go_sem, *]) rfl ?_
  exact⟨0,0,z,rfl,g20,.inl ⟨rfl,rfl,HF.out.1⟩,rfl⟩
 ·have hcf:(c==0)=false:=by simpa using hc
  have jG:=Rec.f2 (Rec.G S4.out (G.refl _))
  have zX:=jG.1
  have zY:=jG.2.1
  have zZ:=jG.2.2.1
  have Aa:=jG.2.2.2
  clear jG
  go_wp2_with fail
  go_region
  go_wp2_with fail
  have hT:Hid (Rec (World.setCell (World.setCell w1 ⟨w.heap.size+4,0,none⟩ (.int .i64 c)) ⟨w.heap.size+4,1,none⟩ (.int .i64 a)) (w.heap.size+4) [.int .i64 c,.int .i64 a]):=Rec.set2 (Rec.G S4.out (G.refl _))
  have g9:=Rec.g2 (b:=w.heap.size+4) (u:= .int .i64 c) (v:= .int .i64 a) (jT) (by omega)
  generalize (World.setCell (World.setCell w1 ⟨w.heap.size+4,0,none⟩ (.int .i64 c)) ⟨w.heap.size+4,1,none⟩ (.int .i64 a))=w9 at *
  have hF:=Rec.f2 (Rec.G hT.out ((G.refl _)))
  have az:=hF.1
  have aA:=hF.2.1
  have aB:=hF.2.2.1
  have aC:=hF.2.2.2
  clear hF
  have iw:=Rec.lt hT.out
  refine bodyPost_ret (v:= .tuple #[.int .i64 0,.agg #[.int .i64 c,.int .i64 a]]) (by simp [results,Tryz.results40,go_sem, *]) rfl ?_
  exact⟨c,a,0,rfl,(g9.alloc _).drew,HV.out,by rw[if_neg hc]⟩
end Go.Proofs.YtljkfjjchkehaaaGreatDoor.EN
