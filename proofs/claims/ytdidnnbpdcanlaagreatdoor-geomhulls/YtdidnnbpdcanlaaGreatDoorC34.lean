/- What is proved here: how a fraction is cut to a float, its arithmetic (no program).
What is proved here: contracts of package exact: rounding, over this seat's translation.
What is proved here: contracts of package exact: Float, over this seat's translation.
What is proved here: contracts of package exact: Of, over this seat's translation.
What is proved here: the float at or below a ratio, by its size; floats around a ratio, over this seat's translation.
What is proved here: the four floats around a ratio: what the law asks of them, over this seat's translation.
What is proved here: lowest terms and bounds of fractions (no program), over this seat's translation.
What is proved here: contracts of the reference's ratios: SetFrac of a new ratio, whatever sign the lower part has, over this seat's translation.
What is proved here: sums of floats in units of 2 to the power of -1074; how near the nearest float is, over this seat's translation (no program).
What is proved here: the list of a sum: what is taken off it, float by float (no program), over this seat's translation.
What is proved here: the numbers of the closed fact on sums told by several floats (no program), over this seat's translation.
What is proved here: slices of floats and of fractions in memory, over this seat's translation (no program).
What is proved here: a slice of floats of our own that grows, over this seat's translation (no program).
What is proved here: sums of lists in which entries change places; bounds of sums (no program), over this seat's translation.
What is proved here: contracts of package expan: whole, Of, over this seat's translation.
What is proved here: contracts of package geom: steps from point to point, over this seat's translation.
What is proved here: contracts of package geom: cross, norm, turn, over this seat's translation.
What is proved here: contracts of package expan: Sum, Cmp, over this seat's translation.
What is proved here: contracts of package expan: the pair of a number, over this seat's translation.
What is proved here: contracts of package geom: finite, unfit, Turn, over this seat's translation.
What is proved here: contracts of package geom: Turn, over this seat's translation.
What is proved here: contracts of package geom: norm, Circle, over this seat's translation.
What is proved here: package geom's bent (the way along points without those where it doesn't turn left), over this seat's translation.
What is proved here: of points of whole numbers: the corners that are found by going through the points in their order, once upwards and once downwards, are those that are found by going from the first corner on, each time to the point of which none lies to the right. No word of a program.
What is proved here: the closed fact on sums told by several floats, over this seat's translation. -/
import Derived.Test.YtdidnnbpdcanlaaGreatDoorC20
import Derived.Test.YtdidnnbpdcanlaaGreatDoorC33
import Derived.Test.YtdidnnbpdcanlaaGreatDoorC9
import Derived.Test.YtdidnnbpdcanlaaGreatDoorC9
import Derived.Test.YtdidnnbpdcanlaaGreatDoorC2
import Derived.Test.YtdidnnbpdcanlaaGreatDoorC1
import Derived.Test.YtdidnnbpdcanlaaGreatDoorC29
import Derived.Test.YtdidnnbpdcanlaaGreatDoorC18
import Derived.Test.YtdidnnbpdcanlaaGreatDoorC30
import Derived.Test.YtdidnnbpdcanlaaGreatDoorC18
import Derived.Laws.IdiomCopy
namespace Go.Proofs.YtdidnnbpdcanlaaGreatDoor.EN
open Go.RowKit
/-- What is left behind a step: nothing, less than half of it, half, more. -/
def qcc (R D:Nat):Nat:=if R=0 then 0 else if 2*R<D then 1 else if 2*R=D then 2 else 3
/-- The float at or below A / B (its place among the floats from 0 on), and what is left. -/
def tV (A B:Nat):Nat:=if 971<q4u A B then 2047*2^52-1 else (q4u A B+1074).toNat*2^52+upP A (q4u A B)/loP B (q4u A B)
def lV (A B:Nat):Nat:=if 971<q4u A B then 3 else qcc (upP A (q4u A B)%loP B (q4u A B)) (loP B (q4u A B))
theorem q7w (a:Nat):EN.blen a=Go.Proofs.YtdidnnbpdcanlaaGreatDoor.blen a:=rfl
end Go.Proofs.YtdidnnbpdcanlaaGreatDoor.EN
namespace Go.Proofs.YtdidnnbpdcanlaaGreatDoor.EN
open Go.ChangeShapes Go.WideShapes Go.ChangeAt Go.RowKit
attribute [local go_sem] q1Y
/-- Whether a number between two floats goes on to the one that is farther from 0. -/
def onw (m:Int) (neg odd:Bool) (l:Nat):Bool:=if m=1 then l==3||(l==2&&odd) else if m=2 then neg else if m=3 then !neg else false
end Go.Proofs.YtdidnnbpdcanlaaGreatDoor.EN
namespace Go.Proofs.YtdidnnbpdcanlaaGreatDoor.EN
open Go.ChangeShapes Go.WideShapes Go.ChangeAt Go.RowKit
/-- A fraction above 0 rounded: the float's place. -/
def rdV (m:Int) (neg:Bool) (A B:Nat):Nat:=tV A B+if lV A B≠0∧onw m neg (tV A B%2==1) (lV A B)=true then 1 else 0
def fex (b:Nat):Nat:=b/2^52%2^11
def fmag (b:Nat):Nat:=if fex b=0 then b%2^52 else 2^52+b%2^52
/-- What a finite float is. -/
def FQ (b:Nat):Rat:=mkRat (frN (FT.neg b) (fmag b) (fex b)) (frD (fex b))
theorem qbN (w:World) (b:Nat) (m e:Int) (q:Rat) (HW:∀ w1,G w w1→Calls Tryz.prog 206 #[.float .f64 b] w1 fun r w'=>r= .returned (.tuple #[.int .i64 m,.int .i64 e,.int .i64 0])∧G w1 w')
  (HS:∀ w1,Calls Tryz.prog 207 #[.int .i64 m,.int .i64 e] w1 (RetQ w1 q)):
  Calls Tryz.prog 163 #[.float .f64 b] w (q8R w q 0):=by
 have HW1:Hid (∀ w1,G w w1→_):=HW
 have mV:Hid (∀ w1,_):=HS
 clear HW HS
 go_enter Tryz.func163,Tryz.ntmps163
 go_wp2_with fail
 obtain⟨w0,aL,g0,hz0,R0⟩:=q0B w [.bool false,.slice none 0 0,.slice none 0 0] 93
 rw[aL]
 clear aL
 refine Calls.mono (P:=Tryz.prog) (HW1.out w0 g0) ?_
 rintro e1 w1 ⟨rfl,g1⟩
 go_wp2_with fail
 refine Calls.mono (P:=Tryz.prog) (mV.out w1) ?_
 intro e1 w2 hs
 obtain⟨v,rfl,g2,hv⟩:=hs
 clear HW1 mV
 obtain⟨a8,k8,c8,a9,k9,c9,rfl,fA,dh⟩:=hv
 have kE:Hid (Num w2 (.slice a8 k8 c8) (q).num.natAbs):=fA
 have fJ:Hid (Num w2 (.slice a9 k9 c9) (q1J (q).den)):=dh
 obtain⟨t9,cK⟩:∃ t,t=decide ((q).num<0):=⟨_,rfl⟩
 rw[← cK]
 have gH:Hid (t9=decide ((q).num<0)):=cK
 clear fA dh cK
 have hS:=Rec.f3 (Rec.G R0.out ((G.trans g1 g2)))
 have bJ:=hS.1
 have bK:=hS.2.1
 have bL:=hS.2.2.1
 have bM:=hS.2.2.2.1
 have dM:=hS.2.2.2.2.1
 have dN:=hS.2.2.2.2.2
 clear hS
 have dO:Num _ _ _:=q0l (u1:= .bool t9) (u2:= .slice a8 k8 c8) (u3:= .slice a9 k9 c9) kE.out (Rec.G R0.out (G.trans g1 g2)) trivial trivial trivial
 have bH:Num _ _ _:=q0l (u1:= .bool t9) (u2:= .slice a8 k8 c8) (u3:= .slice a9 k9 c9) fJ.out (Rec.G R0.out (G.trans g1 g2)) trivial trivial trivial
 go_wp2_with fail
 have hT:Hid (Rec (World.setCell (World.setCell (World.setCell w2 ⟨w.heap.size,0,none⟩ (.bool t9)) ⟨w.heap.size,1,none⟩ (.slice a8 k8 c8)) ⟨w.heap.size,2,none⟩ (.slice a9 k9 c9)) (w.heap.size) [.bool t9,.slice a8 k8 c8,.slice a9 k9 c9]):=Rec.set3 (Rec.G R0.out (G.trans g1 g2))
 have g9:=Rec.g3 (b:=w.heap.size) (u:= .bool t9) (v:= .slice a8 k8 c8) (x:= .slice a9 k9 c9) (G.trans g0 (G.trans g1 g2)) (by omega)
 generalize (World.setCell (World.setCell (World.setCell w2 ⟨w.heap.size,0,none⟩ (.bool t9)) ⟨w.heap.size,1,none⟩ (.slice a8 k8 c8)) ⟨w.heap.size,2,none⟩ (.slice a9 k9 c9))=w9 at *
 have hF:=Rec.f3 (Rec.G hT.out ((G.refl _)))
 have bR:=hF.1
 have bU:=hF.2.1
 have bV:=hF.2.2.1
 have bW:=hF.2.2.2.1
 have jg:=hF.2.2.2.2.1
 have jh:=hF.2.2.2.2.2
 clear hF
 refine bodyPost_ret (v:= .tuple #[.agg #[.bool t9,.slice a8 k8 c8,.slice a9 k9 c9],.int .i64 0]) (by simp [results,Tryz.results163,go_sem, *]) rfl ?_
 exact⟨_,rfl,g9,a8,k8,c8,a9,k9,c9,by rw[← gH.out],dO,bH⟩
theorem qbX {s:Bool} {j k ex mag:Nat} (hm:mag=(2*j+1)*2^k):mk2 (if s then -(2*(j:Int)+1) else 2*(j:Int)+1) ((max ex 1:Nat)-1075+k)=mkRat (frN s mag ex) (frD ex):=by
 unfold mk2 frN frD frS
 rw[Rat.mkRat_eq_iff (by have:=Nat.two_pow_pos (-(((max ex 1:Nat):Int)-1075+k)).toNat;omega) (by have:=Nat.two_pow_pos (1075-max ex 1);omega)]
 have e:∀ X Y:Int,X*((2^k:Nat):Int)=Y→X*((2^(((max ex 1:Nat):Int)-1075+k).toNat:Nat):Int)*((2^(1075-max ex 1):Nat):Int)=Y*2^(max ex 1-1075)*((2^(-(((max ex 1:Nat):Int)-1075+k)).toNat:Nat):Int):=by
  intro X Y h
  rw[← h,Int.mul_assoc,Int.mul_assoc,Int.mul_assoc,FT.ipow,← Int.natCast_mul,← Int.natCast_mul,← Int.natCast_mul,← Nat.pow_add,← Nat.pow_add,← Nat.pow_add]
  congr 3
  omega
 cases s
 ·simp only[Bool.false_eq_true,if_false]
  refine e _ _ ?_
  rw[hm];push_cast;rfl
 ·simp only[if_true]
  refine e _ _ ?_
  rw[hm];push_cast;rw[Int.neg_mul]
theorem of_c (w:World) (b:Nat) (hT:Tab w) (h0:b<2^64) (he:fex b<2047):
  Calls Tryz.prog 163 #[.float .f64 b] w (q8R w (FQ b) 0):=by
 have hex:b/2^52%2^11=fex b:=rfl
 have hfr:b%2^52<2^52:=Nat.mod_lt _ (by omega)
 have hmb:fmag b<2^53:=by unfold fmag;split<;>omega
 by_cases hm:fmag b=0
 ·have h1:fex b=0:=by
   unfold fmag at hm
   split at hm
   ·assumption
   ·omega
  have h2:b%2^52=0:=by unfold fmag at hm;rwa[if_pos h1] at hm
  have hq:FQ b=mk2 0 0:=by
   unfold FQ mk2
   rw[hm]
   unfold frN frS
   simp
  rw[hq]
  exact qbN w b 0 0 _ (fun w1 _=>q4g b w1 h0 (hex.trans h1) h2) (fun w1=>q4x w1 0 0 (by omega) (by omega) (by omega) (by omega) (Or.inl rfl))
 ·obtain⟨j,k,hj⟩:=q45 (fmag b) (by omega)
  have hj2:2*j+1≤fmag b:=by
   rw[hj];exact Nat.le_mul_of_pos_right _ (Nat.two_pow_pos k)
  have hk:k<53:=by
   have:2^k≤fmag b:=by rw[hj];exact Nat.le_mul_of_pos_left _ (by omega)
   exact(Nat.pow_lt_pow_iff_right (by omega:1<2)).1 (Nat.lt_of_le_of_lt this hmb)
  have hq:FQ b=mk2 (if FT.neg b then -(2*(j:Int)+1) else 2*(j:Int)+1) ((max (fex b) 1:Nat)-1075+k):=(qbX hj).symm
  rw[hq]
  refine qbN w b _ _ _ (fun w1 g=>qag b (fex b) (b%2^52) (fmag b) j k w1 (hT.G g) h0 rfl rfl he rfl hj) (fun w1=>q4x w1 _ _ ?_ ?_ ?_ ?_ ?_)
  ·split<;>omega
  ·split<;>omega
  ·omega
  ·omega
  ·right;split<;>omega
/-- A finite float as a ratio. -/
theorem fq_v (s:Bool) {V:Nat} (h:V<2047*2^52):FQ (FT.wrd s V)=mkRat (if s then -(FT.v V:Int) else FT.v V) (2^1074)∧fex (FT.wrd s V)<2047:=by
 have e1:fex (FT.wrd s V)=V/2^52:=by
  unfold fex FT.wrd
  cases s<;>simp only[if_true,Bool.false_eq_true,if_false]<;>omega
 have e2:FT.wrd s V%2^52=V%2^52:=by
  unfold FT.wrd
  cases s<;>simp only[if_true,Bool.false_eq_true,if_false]<;>omega
 have e3:FT.neg (FT.wrd s V)=s:=by
  unfold FT.neg FT.wrd
  cases s
  ·simp only[Bool.false_eq_true,if_false,beq_eq_false_iff_ne,ne_eq];omega
  ·simp only[if_true,beq_iff_eq];omega
 refine⟨?_,by rw[e1];omega⟩
 have hm:fmag (FT.wrd s V)*2^(max (V/2^52) 1-1)=FT.v V:=by
  unfold fmag
  rw[e1,e2]
  by_cases h1:V<2^52
  ·rw[FT.v_sub h1,if_pos (by omega),show max (V/2^52) 1-1=0 from by omega,Nat.pow_zero,Nat.mul_one]
   omega
  ·rw[FT.v_nor h1,if_neg (by omega),show max (V/2^52) 1=V/2^52 from by omega]
 unfold FQ
 rw[e1,e3]
 rw[← hm]
 clear hm e1 e2 e3
 obtain⟨E,hE⟩:∃ E:Nat,E=1074:=⟨_,rfl⟩
 rw[← hE]
 generalize fmag (FT.wrd s V)=m
 generalize V/2^52=x
 unfold frN frD frS
 rw[Rat.mkRat_eq_iff (by have:=Nat.two_pow_pos (1075-max x 1);omega) (by have:=Nat.two_pow_pos E;omega)]
 have k:∀ z:Int,z*2^(max x 1-1075)*((2^E:Nat):Int)=z*((2^(max x 1-1):Nat):Int)*((2^(1075-max x 1):Nat):Int):=fun z=>by
  rw[Int.mul_assoc,Int.mul_assoc]
  refine congrArg (z*·) ?_
  rw[FT.ipow,← Int.natCast_mul,← Int.natCast_mul,← Nat.pow_add,← Nat.pow_add,show max x 1-1075+E=max x 1-1+(1075-max x 1) from by omega]
 cases s
 ·simp only[Bool.false_eq_true,if_false]
  rw[Int.natCast_mul]
  exact k (m:Int)
 ·simp only[if_true]
  rw[Int.natCast_mul,← Int.neg_mul]
  exact k (-(m:Int))
theorem qao (s:Bool) {V:Nat} (h:V≤2047*2^52):FT.nan (FT.wrd s V)=false:=by
 unfold FT.nan
 rw[FT.wrd_rung s V (by omega)]
 exact decide_eq_false (by unfold FT.infR;omega)
end Go.Proofs.YtdidnnbpdcanlaaGreatDoor.EN
namespace Go.Proofs.YtdidnnbpdcanlaaGreatDoor
open Go.RowKit
theorem q2l {z:Int} {d:Nat} (hd:0<d) {q:Rat} (h:q=mkRat z d):q.num=Int.tdiv z (Nat.gcd z.natAbs d:Nat)∧q.den=d/Nat.gcd z.natAbs d:=by
 have hg:0<Nat.gcd z.natAbs d:=Nat.gcd_pos_of_pos_right _ hd
 obtain⟨a,ha⟩:=Nat.gcd_dvd_right z.natAbs d
 have hz:z=Int.tdiv z (Nat.gcd z.natAbs d:Nat)*((Nat.gcd z.natAbs d:Nat):Int):=by
  rw[Int.tdiv_mul_cancel (Int.ofNat_dvd_left.2 (Nat.gcd_dvd_left _ _))]
 have Fx:d/Nat.gcd z.natAbs d*Nat.gcd z.natAbs d=d:=Nat.div_mul_cancel (Nat.gcd_dvd_right _ _)
 have hd2:0<d/Nat.gcd z.natAbs d:=Nat.div_pos (Nat.le_of_dvd hd (Nat.gcd_dvd_right _ _)) hg
 have hab:(Int.tdiv z (Nat.gcd z.natAbs d:Nat)).natAbs=z.natAbs/Nat.gcd z.natAbs d:=by
  rw[Int.natAbs_tdiv,Int.natAbs_natCast];rfl
 refine EN.rat_low hd2 (by rw[hab];exact Nat.gcd_div_gcd_div_gcd_of_pos_right hd) ?_
 have h1:=EN.mk_cross hd h
 have hgi:((Nat.gcd z.natAbs d:Nat):Int)≠0:=by omega
 refine Int.eq_of_mul_eq_mul_right hgi ?_
 rw[show Int.tdiv z (Nat.gcd z.natAbs d:Nat)*(q.den:Int)*((Nat.gcd z.natAbs d:Nat):Int)=Int.tdiv z (Nat.gcd z.natAbs d:Nat)*((Nat.gcd z.natAbs d:Nat):Int)*q.den from by ac_rfl,← hz,h1,Int.mul_assoc,← Int.natCast_mul,Fx]
end Go.Proofs.YtdidnnbpdcanlaaGreatDoor
namespace Go.Proofs.YtdidnnbpdcanlaaGreatDoor.EN
open Go.RowKit
theorem q6r {q:Rat} {z:Int} {d K:Nat} (hd:0<d) (h:q=mkRat z d) (h1:z.natAbs<2^(64*K)) (h2:d<2^(64*K)):QB q K:=by
 obtain⟨e1,e2⟩:=q2l hd h
 refine⟨?_,?_⟩
 ·rw[e1,Int.natAbs_tdiv,Int.natAbs_natCast]
  exact Nat.lt_of_le_of_lt (Nat.div_le_self _ _) h1
 ·rw[e2]
  exact Nat.lt_of_le_of_lt (Nat.div_le_self _ _) h2
theorem q23 {x y:Rat} {K L:Nat} (hx:QB x K) (hy:QB y L):QB (x*y) (K+L):=by
 refine q6r (z:=x.num*y.num) (d:=x.den*y.den) (Nat.mul_pos x.den_pos y.den_pos) ?_ ?_ (q0Y hx.2 hy.2)
 ·rw[← Rat.mkRat_mul_mkRat,Rat.mkRat_self,Rat.mkRat_self]
 ·rw[Int.natAbs_mul]
  exact q0Y hx.1 hy.1
end Go.Proofs.YtdidnnbpdcanlaaGreatDoor.EN
namespace Go.Proofs.YtdidnnbpdcanlaaGreatDoor
open Go.ChangeShapes Go.WideShapes Go.ChangeAt Go.RowKit
open BN
theorem Rec.f4 {w:World} {b:Nat} {x y z u:Value} (h:Rec w b [x,y,z,u]):w.cell? ⟨b,0,none⟩=some x∧w.cell? ⟨b,1,none⟩=some y∧w.cell? ⟨b,2,none⟩=some z∧w.cell? ⟨b,3,none⟩=some u∧w.frozen? ⟨b,0,none⟩=false∧w.frozen? ⟨b,1,none⟩=false∧w.frozen? ⟨b,2,none⟩=false∧w.frozen? ⟨b,3,none⟩=false:=
 ⟨h.cell 0,h.cell 1,h.cell 2,h.cell 3,h.frozen 0,h.frozen 1,h.frozen 2,h.frozen 3⟩
end Go.Proofs.YtdidnnbpdcanlaaGreatDoor
namespace Go.Proofs.YtdidnnbpdcanlaaGreatDoor.EN
open Go.RowKit
/-- A finite float in units. -/
def fz (b:Nat):Int:=if FT.neg b then -(FT.v (FT.rung b):Int) else FT.v (FT.rung b)
/-- So many units. -/
def Uz (z:Int):Rat:=mkRat z (2^1074)
theorem q90 {b:Nat} (h:b<2^64):FT.wrd (FT.neg b) (FT.rung b)=b:=by
 unfold FT.wrd FT.neg FT.rung
 by_cases h1:b/2^63%2=1
 ·simp only[h1,beq_self_eq_true,if_true]
  omega
 ·have h0:b/2^63%2=0:=by omega
  simp only[h0,show ((0:Nat)==1)=false from rfl,Bool.false_eq_true,if_false]
  omega
theorem rung_lt (b:Nat):FT.rung b<2^63:=Nat.mod_lt _ (Nat.two_pow_pos _)
theorem q8H (b:Nat):fex b=FT.rung b/2^52:=by
 unfold fex FT.rung
 omega
theorem q2X (b:Nat):fex b<2047↔FT.rung b<2047*2^52:=by
 rw[q8H]
 have:=rung_lt b
 omega
theorem q9Z {b:Nat} (h:b<2^64) (hf:fex b<2047):FQ b=Uz (fz b):=by
 have h1:=(fq_v (FT.neg b) ((q2X b).1 hf)).1
 rw[q90 h] at h1
 exact h1
theorem q1I:0<2^1074:=by
 obtain⟨n,hn⟩:∃ n:Nat,n=1074:=⟨_,rfl⟩
 rw[← hn]
 exact Nat.two_pow_pos _
theorem qbI (x y:Int):Uz x+Uz y=Uz (x+y):=by
 unfold Uz
 have h:=q1I
 generalize 2^1074=D at *
 rw[← Rat.divInt_ofNat,← Rat.divInt_ofNat,← Rat.divInt_ofNat,Rat.divInt_add_divInt _ _ (by omega) (by omega)]
 rw[Rat.divInt_eq_divInt_iff (by have:(D:Int)*D≠0:=by apply Int.mul_ne_zero<;>omega
                                 exact this) (by omega)]
 rw[← Int.add_mul,Int.mul_assoc]
theorem qaV (x:Int): -Uz x=Uz (-x):=by
 unfold Uz
 rw[Rat.neg_mkRat]
theorem q8o (x y:Int):Uz x-Uz y=Uz (x-y):=by
 rw[Rat.sub_eq_add_neg,qaV,qbI];rfl
theorem qbc {z:Int} (h:z.natAbs<2^5000):QB (Uz z) 80:=by
 obtain⟨K,hK⟩:∃ K:Nat,K=80:=⟨_,rfl⟩
 obtain⟨M,hM⟩:∃ M:Nat,M=5000:=⟨_,rfl⟩
 obtain⟨E,hE⟩:∃ E:Nat,E=1074:=⟨_,rfl⟩
 rw[← hM] at h
 rw[← hK]
 refine q6r q1I rfl (Nat.lt_of_lt_of_le h (Nat.pow_le_pow_right (by omega) (by omega))) ?_
 rw[← hE]
 exact Nat.pow_lt_pow_right (by omega) (by omega)
/-- The gap above a float. -/
def ug (V:Nat):Nat:=2^(V/2^52-1)
theorem qbp (V:Nat):0<ug V:=Nat.two_pow_pos _
theorem v_ug (V:Nat):FT.v V=(if V<2^52 then V else 2^52+V%2^52)*ug V:=by
 unfold FT.v ug
 by_cases h:V<2^52
 ·rw[if_pos h,if_pos h,Nat.div_eq_of_lt h]
  exact(Nat.mul_one V).symm
 ·rw[if_neg h,if_neg h]
/-- The place of a number's nearest float, and its word. -/
def rV (q:Rat):Nat:=rdV 1 (decide (q.num<0)) q.num.natAbs q.den
def nR (q:Rat):Nat:=FT.wrd (decide (q.num<0)) (rV q)
/-- What comes of a number whose floats are taken off, so many at most. -/
inductive Fr:Nat→Rat→List Nat→Bool→Prop where
 |zero (k:Nat):Fr k 0 [] true
 |most (v:Rat):Fr 0 v [] true
 |bad (k:Nat) (v:Rat) (h0:v≠0) (hq:QB v 80) (h:fex (nR v)=2047∨FQ (nR v)=0):Fr (k+1) v [] false
 |step (k:Nat) (v:Rat) (l:List Nat) (o:Bool) (h0:v≠0) (hq:QB v 80) (h1:fex (nR v)<2047) (h2:FQ (nR v)≠0) (h:Fr k (v-FQ (nR v)) l o):Fr (k+1) v (nR v::l) o
/-- Half of the gap above a float of this exponent. -/
def hv (e:Nat):Nat:=qch 11 52 1 (((e-1:Nat):Int)-1075)
/-- Each entry is no more than half of the gap above the one ahead. -/
def Steep:List Nat→Prop
 |a::b::l=>(2≤fex a∧FT.rung b≤hv (fex a))∧Steep (b::l)
 |_=>True
theorem Steep.at:∀ {l:List Nat},Steep l→∀ i,i+1<l.length→2≤fex (l.getD i 0)∧FT.rung (l.getD (i+1) 0)≤hv (fex (l.getD i 0))
 |[],_,i,hi=>by simp at hi
 |[_],_,i,hi=>by simp at hi
 |a::b::l,h,0,_=>h.1
 |a::b::l,h,i+1,hi=>by
  have:=Steep.at (l:=b::l) h.2 i (by simpa using hi)
  simpa using this
/-- A list tells so many units. -/
structure Tells (z:Int) (l:List Nat):Prop where
 sum:(l.map fz).sum=z
 fin:∀ b∈l,b<2^64∧fex b<2047
 steep:Steep l
 head:∀ a m,l=a::m→FT.rung a=rV (Uz z)∧z≠0
/-- The three floats whose sum is told. -/
def l3:List Nat:=[4607182418800017408,4861130398305394688,4307583784117748259]
end Go.Proofs.YtdidnnbpdcanlaaGreatDoor.EN
namespace Go.Proofs.YtdidnnbpdcanlaaGreatDoor.EN
open Go.ChangeShapes Go.WideShapes Go.ChangeAt Go.RowKit
/-- A slice of floats. -/
def FSl (w:World) (v:Value) (l:List Nat):Prop:=
 ∃ a c,v= .slice a l.length c∧l.length≤c∧∀ i,i<l.length→∃ b o,a=some ⟨b,o,none⟩∧b<w.heap.size∧w.cell? ⟨b,o+i,none⟩=some (.float .f64 (l.getD i 0))
theorem FSl.G {w w':World} {v:Value} {l:List Nat} (h:FSl w v l) (g:G w w'):FSl w' v l:=by
 obtain⟨a,c,e,hc,h⟩:=h
 refine⟨a,c,e,hc,fun i hi=> ?_⟩
 obtain⟨b,o,e1,h1,h2⟩:=h i hi
 exact⟨b,o,e1,Nat.lt_of_lt_of_le h1 g.size,g.cell (p:=⟨b,o+i,none⟩) h1 h2⟩
/-- A fraction that lies in three cells. -/
def QAt (w:World) (b o:Nat) (q:Rat):Prop:=∃ t a k c a' k' c',w.cell? ⟨b,o,none⟩=some (.bool t)∧w.cell? ⟨b,o+1,none⟩=some (.slice a k c)∧w.cell? ⟨b,o+2,none⟩=some (.slice a' k' c')∧QIs w (.agg #[.bool t,.slice a k c,.slice a' k' c']) q
theorem QAt.G {w w':World} {b o:Nat} {q:Rat} (h:QAt w b o q) (hb:b<w.heap.size) (g:G w w'):QAt w' b o q:=by
 obtain⟨t,a,k,c,a',k',c',h1,h2,h3,h4⟩:=h
 exact⟨t,a,k,c,a',k',c',g.cell (p:=⟨b,o,none⟩) hb h1,g.cell (p:=⟨b,o+1,none⟩) hb h2,g.cell (p:=⟨b,o+2,none⟩) hb h3,h4.G g⟩
/-- A slice of fractions, told in units. -/
def NSl (w:World) (v:Value) (l:List Int):Prop:=
 ∃ a c,v= .slice a l.length c∧l.length≤c∧∀ i,i<l.length→∃ b o,a=some ⟨b,o,none⟩∧b<w.heap.size∧QAt w b (o+i*3) (Uz (l.getD i 0))
theorem NSl.G {w w':World} {v:Value} {l:List Int} (h:NSl w v l) (g:G w w'):NSl w' v l:=by
 obtain⟨a,c,e,hc,h⟩:=h
 refine⟨a,c,e,hc,fun i hi=> ?_⟩
 obtain⟨b,o,e1,h1,h2⟩:=h i hi
 exact⟨b,o,e1,Nat.lt_of_lt_of_le h1 g.size,h2.G h1 g⟩
/-- No word of 64 bits. -/
def noU (x:Value):Prop:=∀ m,x≠ .int .u64 m
theorem qbk {x:Value} (h:q2j x):noU x:=fun m e=>by rw[e] at h;exact h
theorem q3t {w:World} {v:Value} {n b:Nat} {l:List Value} (h:Num w v n) (r:Rec w b l) (hl:∀ x∈l,noU x):∀ w':World,(∀ i k,i≠b→w'.cell? ⟨i,k,none⟩=w.cell? ⟨i,k,none⟩)→w.heap.size≤w'.heap.size→Num w' v n:=by
 intro w' hc hs
 obtain⟨m,hm,hcm,hv⟩:=h
 refine⟨m,?_,hcm,hv⟩
 rcases Sl.cases hm with ⟨rfl,a,c,rfl⟩|⟨hne,b2,o,c,rfl,hcc,hb,hr⟩
 ·exact⟨hm.1,Or.inl ⟨rfl,a,c,rfl⟩⟩
 ·have hbb:b2≠b:=by
   intro e
   subst e
   have h0:=hr 0 (List.length_pos_iff.2 hne)
   rw[r.cell] at h0
   exact hl _ (List.mem_of_getElem? h0) _ rfl
  exact⟨hm.1,Or.inr ⟨b2,o,c,rfl,hcc,by omega,fun i hi=>by rw[hc _ _ hbb];exact hr i hi⟩⟩
/-- A fraction stands where a block without words is written. -/
theorem QIs.apart {w w':World} {v:Value} {q:Rat} {b:Nat} {l:List Value} (h:QIs w v q) (r:Rec w b l) (hl:∀ x∈l,noU x)
  (hc:∀ i k,i≠b→w'.cell? ⟨i,k,none⟩=w.cell? ⟨i,k,none⟩) (hs:w.heap.size≤w'.heap.size):QIs w' v q:=by
 obtain⟨a,k,c,a',k',c',e,h1,h2⟩:=h
 exact⟨a,k,c,a',k',c',e,q3t h1 r hl w' hc hs,q3t h2 r hl w' hc hs⟩
/-- Block b is fractions, told in units, and may be written. -/
def NOwn (w:World) (b:Nat) (l:List Int):Prop:=
 ∃ L:List Value,Rec w b L∧L.length=3*l.length∧(∀ x∈L,q2j x)∧
  ∀ i,i<l.length→∃ t a k c a' k' c',L[i*3]? =some (.bool t)∧L[i*3+1]? =some (.slice a k c)∧L[i*3+2]? =some (.slice a' k' c')∧QIs w (.agg #[.bool t,.slice a k c,.slice a' k' c']) (Uz (l.getD i 0))
theorem NOwn.G {w w':World} {b:Nat} {l:List Int} (h:NOwn w b l) (g:Go.Proofs.YtdidnnbpdcanlaaGreatDoor.G w w'):NOwn w' b l:=by
 obtain⟨L,h1,h2,h3,h4⟩:=h
 refine⟨L,h1.G g,h2,h3,fun i hi=> ?_⟩
 obtain⟨t,a,k,c,a',k',c',e1,e2,e3,e4⟩:=h4 i hi
 exact⟨t,a,k,c,a',k',c',e1,e2,e3,e4.G g⟩
theorem NOwn.free {w:World} {b:Nat} {l:List Int} (h:NOwn w b l) (i:Nat):w.frozen? ⟨b,i,none⟩=false:=by
 obtain⟨L,h1,-⟩:=h
 exact h1.frozen i
theorem NOwn.lt {w:World} {b:Nat} {l:List Int} (h:NOwn w b l):b<w.heap.size:=by
 obtain⟨L,h1,-⟩:=h
 exact h1.lt
theorem NOwn.cells {w:World} {b:Nat} {l:List Int} (h:NOwn w b l) {i:Nat} (hi:i<l.length):QAt w b (i*3) (Uz (l.getD i 0)):=by
 obtain⟨L,h1,h2,h3,h4⟩:=h
 obtain⟨t,a,k,c,a',k',c',e1,e2,e3,e4⟩:=h4 i hi
 exact⟨t,a,k,c,a',k',c',by rw[h1.cell];exact e1,by rw[h1.cell];exact e2,by rw[h1.cell];exact e3,e4⟩
theorem NOwn.sl {w:World} {b:Nat} {l:List Int} (h:NOwn w b l) (c:Nat) (hc:l.length≤c):NSl w (.slice (some ⟨b,0,none⟩) l.length c) l:=
 ⟨_,c,rfl,hc,fun i hi=>⟨b,0,rfl,h.lt,by rw[Nat.zero_add];exact h.cells hi⟩⟩
theorem NOwn.set {w:World} {b:Nat} {l:List Int} (h:NOwn w b l) {i:Nat} (hi:i<l.length) {z:Int} {t:Bool} {a a':Option Addr} {k c k' c':Nat} (hq:QIs w (.agg #[.bool t,.slice a k c,.slice a' k' c']) (Uz z)):
  NOwn (((w.setCell ⟨b,i*3,none⟩ (.bool t)).setCell ⟨b,i*3+1,none⟩ (.slice a k c)).setCell ⟨b,i*3+2,none⟩ (.slice a' k' c')) b (l.set i z):=by
 obtain⟨L,h1,h2,h3,h4⟩:=h
 have hap:∀ {v:Value} {q:Rat},QIs w v q→QIs (((w.setCell ⟨b,i*3,none⟩ (.bool t)).setCell ⟨b,i*3+1,none⟩ (.slice a k c)).setCell ⟨b,i*3+2,none⟩ (.slice a' k' c')) v q:=fun hv=>hv.apart h1 (fun x hx=>qbk (h3 x hx)) (fun j m hj=>by
  rw[World.cell?_setCell_other _ _ _ _ (by intro e;injection e with e1;exact hj e1.symm),World.cell?_setCell_other _ _ _ _ (by intro e;injection e with e1;exact hj e1.symm),World.cell?_setCell_other _ _ _ _ (by intro e;injection e with e1;exact hj e1.symm)]) (by simp [World.setCell])
 refine⟨((L.set (i*3) (.bool t)).set (i*3+1) (.slice a k c)).set (i*3+2) (.slice a' k' c'),((h1.set _ _).set _ _).set _ _,by simp only[List.length_set];exact h2,?_,?_⟩
 ·intro x hx
  rcases List.mem_or_eq_of_mem_set hx with hx|rfl
  ·rcases List.mem_or_eq_of_mem_set hx with hx|rfl
   ·rcases List.mem_or_eq_of_mem_set hx with hx|rfl
    ·exact h3 x hx
    ·trivial
   ·trivial
  ·trivial
 ·intro j hj
  rw[List.length_set] at hj
  by_cases he:j=i
  ·subst he
   refine⟨t,a,k,c,a',k',c',?_,?_,?_,?_⟩
   ·rw[List.getElem?_set_ne (by omega),List.getElem?_set_ne (by omega),List.getElem?_set_self (by omega)]
   ·rw[List.getElem?_set_ne (by omega),List.getElem?_set_self (by simp only[List.length_set];omega)]
   ·rw[List.getElem?_set_self (by simp only[List.length_set];omega)]
   ·have:(l.set j z).getD j 0=z:=by simp [List.getD_eq_getElem?_getD,hj]
    rw[this]
    exact hap hq
  ·obtain⟨t1,a1,k1,c1,a2,k2,c2,e1,e2,e3,e4⟩:=h4 j hj
   refine⟨t1,a1,k1,c1,a2,k2,c2,?_,?_,?_,?_⟩
   ·rw[List.getElem?_set_ne (by omega),List.getElem?_set_ne (by omega),List.getElem?_set_ne (by omega)];exact e1
   ·rw[List.getElem?_set_ne (by omega),List.getElem?_set_ne (by omega),List.getElem?_set_ne (by omega)];exact e2
   ·rw[List.getElem?_set_ne (by omega),List.getElem?_set_ne (by omega),List.getElem?_set_ne (by omega)];exact e3
   ·have:(l.set i z).getD j 0=l.getD j 0:=by simp only[List.getD_eq_getElem?_getD];rw[List.getElem?_set_ne (by omega)]
    rw[this]
    exact hap e4
/-- Each float of a list is finite. -/
def Fin (l:List Nat):Prop:=∀ b∈l,fex b<2047
/-- Floats as cells. -/
def fl (l:List Nat):List Value:=l.map fun b=> .float .f64 b
/-- A slice of floats whose block is our own (from block base on). -/
def FOwn (w:World) (base:Nat) (v:Value) (l:List Nat):Prop:=
 (v= .slice none 0 0∧l=[])∨∃ g cap cur,v= .slice (some ⟨g,0,none⟩) l.length cap∧base≤g∧w.heap[g]? =some (.cells cur 30 (0,0))∧l.length≤cap∧cap≤maxLen∧cur.size=cap∧cur.toList.take l.length=fl l∧∀ x∈cur.toList,q2j x
theorem q7o {w:World} {g:Nat} {o:Obj} (h:w.heap[g]? =some o):g<w.heap.size:=(Array.getElem?_eq_some_iff.1 h).1
theorem FOwn.G {w w':World} {base:Nat} {v:Value} {l:List Nat} (h:FOwn w base v l) (g:Go.Proofs.YtdidnnbpdcanlaaGreatDoor.G w w'):FOwn w' base v l:=by
 rcases h with h|⟨b,cap,cur,e,h1,h2,h3⟩
 ·exact Or.inl h
 ·refine Or.inr ⟨b,cap,cur,e,h1,?_,h3⟩
  obtain⟨-,-,-,-,g5⟩:=g
  exact(g5 b (q7o h2)).trans h2
theorem FOwn.len {w:World} {base:Nat} {v:Value} {l:List Nat} (h:FOwn w base v l):∃ a c,v= .slice a l.length c:=by
 rcases h with ⟨rfl,rfl⟩|⟨b,cap,cur,rfl,-⟩
 ·exact⟨_,_,rfl⟩
 ·exact⟨_,_,rfl⟩
theorem FOwn.set {w:World} {base b i x n cap:Nat} {l:List Nat} (h:FOwn w base (.slice (some ⟨b,0,none⟩) n cap) l):FOwn (w.setCell ⟨b,i,none⟩ (.float .f64 x)) base (.slice (some ⟨b,0,none⟩) n cap) (l.set i x):=by
 rcases h with ⟨e,-⟩|⟨b',cap',cur,e,h1,h2,h3,h4,h5,h6,h7⟩
 ·cases e
 ·injection e with e1 e2 e3
  injection e1 with e1
  injection e1 with e1
  subst e1;subst e3
  refine Or.inr ⟨b,cap,cur.setIfInBounds i (.float .f64 x),by rw[List.length_set,e2],h1,?_,by rw[List.length_set];exact h3,h4,by simpa using h5,?_,?_⟩
  ·simp only[World.setCell,Array.getElem?_modify,if_true,h2,Option.map_some]
   simp
  ·rw[Array.toList_setIfInBounds,List.length_set]
   rw[List.take_set,h6]
   unfold fl
   rw[List.map_set]
  ·intro u hu
   rw[Array.toList_setIfInBounds] at hu
   rcases List.mem_or_eq_of_mem_set hu with hu|rfl
   ·exact h7 u hu
   ·trivial
theorem FOwn.own {w:World} {base:Nat} {v:Value} {l:List Nat} (h:FOwn w base v l) {b:Nat} (hb:b<base∨w.heap.size≤b):v.ownBlock≠some b:=by
 rcases h with ⟨rfl,-⟩|⟨g,cap,cur,rfl,h1,h2,-⟩
 ·intro e;cases e
 ·intro e
  have e1:g=b:=Option.some.inj e
  have:=q7o h2
  omega
theorem FOwn.oth {w w':World} {base:Nat} {v:Value} {l:List Nat} (h:FOwn w base v l) {b:Nat} (hb:v.ownBlock≠some b) (hw:∀ k,k≠b→w'.heap[k]? =w.heap[k]?):FOwn w' base v l:=by
 rcases h with h|⟨g,cap,cur,rfl,h1,h2,h3⟩
 ·exact Or.inl h
 ·exact Or.inr ⟨g,cap,cur,rfl,h1,by rw[hw g (by intro e;exact hb (by rw[← e];rfl))];exact h2,h3⟩
/-- What appending to a slice of our own leaves standing. -/
structure Onto (base:Nat) (v:Value) (w w':World):Prop where
 q:∀ (u:Value) (x:Rat),QIs w u x→QIs w' u x
 r:∀ (b:Nat) (L:List Value),Rec w b L→v.ownBlock≠some b→Rec w' b L
 g:∀ w0:World,w0.heap.size≤base→G w0 w→G w0 w'
/-- An append whose run is known. -/
theorem q1W {P:Program} (w:World) {ops:Array Oper} {rest:List Oper} {o:Oper} {a:Act} {Q:Exit→Act→World→Prop} (hgd:o.guard=none) (s x:Operand) (t:TypeId)
  (ho:o.op= .call {callee:= .builtin .append,args:=#[s,x],argTypes:=#[t,t]}) (v sl:Value) (hs:a.eval s=v) (hx:a.eval x=sl) {v':Value} {w':World}
  (hr:(Builtin.append_ #[t,t] o.type #[v,sl]).run P w= .ok v' w') (h:wpList P ops Q rest (a.put o.dst v') w'):wpList P ops Q (o::rest) a w:=
 wpList_plain hgd fun _ hK=>by
  unfold Oper.wp execOp
  simp only[ho,resolve,invoke,builtin,Sem.run_bind,Sem.run_pure,Result.andThen_ok,List.map_toArray,List.map_cons,List.map_nil,hs,hx,hr]
  exact hK _ _ h
end Go.Proofs.YtdidnnbpdcanlaaGreatDoor.EN
namespace Go.Proofs.YtdidnnbpdcanlaaGreatDoor.EN
open Go.RowKit
/-- Two entries change places. -/
def swap (l:List Nat) (p q:Nat):List Nat:=(l.set p (l.getD q 0)).set q (l.getD p 0)
/-- 1 for what is no number or infinite. -/
def bad (b:Nat):Int:=if fex b<2047 then 0 else 1
/-- Each word is below 2 to the power of 2099 units; sums of so many. -/
theorem q33 (b:Nat):(fz b).natAbs<2^2099:=by
 have hr:=rung_lt b
 have h:FT.v (FT.rung b)<2^2099:=by
  obtain⟨M,hM⟩:∃ M:Nat,M=2046:=⟨_,rfl⟩
  rw[show 2099=53+M from by omega,Nat.pow_add,v_ug]
  have h1:ug (FT.rung b)≤2^M:=Nat.pow_le_pow_right (by omega) (by omega)
  have h2:(if FT.rung b<2^52 then FT.rung b else 2^52+FT.rung b%2^52)<2^53:=by split<;>omega
  exact Nat.lt_of_lt_of_le (Nat.mul_lt_mul_of_pos_right h2 (qbp _)) (Nat.mul_le_mul_left _ h1)
 unfold fz
 split
 ·rw[Int.natAbs_neg,Int.natAbs_natCast];exact h
 ·rw[Int.natAbs_natCast];exact h
end Go.Proofs.YtdidnnbpdcanlaaGreatDoor.EN
namespace Go.Proofs.YtdidnnbpdcanlaaGreatDoor.EN
open Go.ChangeShapes Go.WideShapes Go.ChangeAt Go.RowKit
theorem q3p (b:Nat):QB (Uz (fz b)) 80:=by
 refine qbc ?_
 have h:=q33 b
 obtain⟨M,hM⟩:∃ M:Nat,M=5000:=⟨_,rfl⟩
 obtain⟨N,hN⟩:∃ N:Nat,N=2099:=⟨_,rfl⟩
 rw[← hM]
 rw[← hN] at h
 exact Nat.lt_of_lt_of_le h (Nat.pow_le_pow_right (by omega) (by omega))
end Go.Proofs.YtdidnnbpdcanlaaGreatDoor.EN
namespace Go.Proofs.YtdidnnbpdcanlaaGreatDoor
theorem Rec.new6 (w:World) (a b c d e f:Value) (t:TypeId):Rec (w.alloc (.cells #[a,b,c,d,e,f] t)) w.heap.size [a,b,c,d,e,f]:=Rec.new w [a,b,c,d,e,f] t
theorem Rec.f6 {w:World} {b:Nat} {x0 x1 x2 x3 x4 x5:Value} (h:Rec w b [x0,x1,x2,x3,x4,x5]):w.cell? ⟨b,0,none⟩=some x0∧w.cell? ⟨b,1,none⟩=some x1∧w.cell? ⟨b,2,none⟩=some x2∧w.cell? ⟨b,3,none⟩=some x3∧w.cell? ⟨b,4,none⟩=some x4∧w.cell? ⟨b,5,none⟩=some x5∧
  w.frozen? ⟨b,0,none⟩=false∧w.frozen? ⟨b,1,none⟩=false∧w.frozen? ⟨b,2,none⟩=false∧w.frozen? ⟨b,3,none⟩=false∧w.frozen? ⟨b,4,none⟩=false∧w.frozen? ⟨b,5,none⟩=false:=
 ⟨h.cell 0,h.cell 1,h.cell 2,h.cell 3,h.cell 4,h.cell 5,h.frozen 0,h.frozen 1,h.frozen 2,h.frozen 3,h.frozen 4,h.frozen 5⟩
end Go.Proofs.YtdidnnbpdcanlaaGreatDoor
namespace Go.Proofs.YtdidnnbpdcanlaaGreatDoor.EN
open Go.ChangeShapes Go.WideShapes Go.ChangeAt Go.RowKit
theorem q4U (w:World) (x y:Nat) (hT:Tab w) (hx:x<2^64) (hy:y<2^64) (hfx:fex x<2047) (nu:fex y<2047):
  Calls Tryz.prog 105 #[.float .f64 x,.float .f64 y] w (RetQ w (Uz (fz x-fz y))):=by
 have lJ:Hid (∀ w1,G w w1→Calls Tryz.prog 163 #[.float .f64 x] w1 (q8R w1 (Uz (fz x)) 0)):=fun w1 g=>by
  rw[← q9Z hx hfx];exact of_c w1 x (hT.G g) hx hfx
 have dL:Hid (∀ w1,G w w1→Calls Tryz.prog 163 #[.float .f64 y] w1 (q8R w1 (Uz (fz y)) 0)):=fun w1 g=>by
  rw[← q9Z hy nu];exact of_c w1 y (hT.G g) hy nu
 have HS:Hid (∀ w1 v u,G w w1→QIs w1 v (Uz (fz x))→QIs w1 u (Uz (fz y))→Calls Tryz.prog 112 #[v,u] w1 (RetQ w1 (Uz (fz x-fz y)))):=fun w1 v u g h1 h2=>by
  rw[← q8o]
  exact q9v w1 v u _ _ 80 (by omega) (by omega) (hT.G g) h1 h2 (q3p x) (q3p y)
 clear hT hx hy hfx nu
 generalize Uz (fz x-fz y)=r at *
 generalize Uz (fz x)=p at *
 generalize Uz (fz y)=q at *
 go_enter Tryz.func105,Tryz.ntmps105
 go_wp2_with fail
 obtain⟨w0,aL,g0,hz0,R0⟩:=q0B w [.bool false,.slice none 0 0,.slice none 0 0] 93
 rw[aL]
 clear aL
 refine Calls.mono (P:=Tryz.prog) (lJ.out w0 g0) ?_
 intro e1 w1 hs
 obtain⟨v,rfl,g1,hv⟩:=hs
 have HV:Hid (QIs w1 v p):=hv
 obtain⟨a8,k8,c8,a9,k9,c9,rfl,-,-⟩:=hv
 generalize decide (p.num<0)=t9 at *
 have RR:Hid (Rec w1 w.heap.size [.bool false,.slice none 0 0,.slice none 0 0]):=Rec.G R0.out g1
 have fG:=G.trans g0 g1
 clear lJ R0 g0 g1 hz0
 go_wp2_with fail
 obtain⟨w2,aL,g2,hz2,R0⟩:=q0B w1 [.bool t9,.slice a8 k8 c8,.slice a9 k9 c9] 93
 rw[aL]
 clear aL
 refine Calls.mono (P:=Tryz.prog) (dL.out w2 (G.trans fG g2)) ?_
 intro e1 w3 hs
 obtain⟨u,rfl,g3,hu⟩:=hs
 have HU:Hid (QIs w3 u q):=hu
 obtain⟨a6,k6,c6,a7,k7,c7,rfl,-,-⟩:=hu
 generalize decide (q.num<0)=t7 at *
 have g13:=G.trans g2 g3
 have R3:Hid (Rec w3 w1.heap.size _):=Rec.G R0.out g3
 have tH:Hid (QIs w3 _ p):=QIs.G HV.out g13
 clear dL HV R0 hz2 g2 g3
 have hlt:=R3.out.lt
 have iO:=Rec.f3 (Rec.G R3.out (G.refl _))
 have lh:=iO.1
 have ll:=iO.2.1
 have lq:=iO.2.2.1
 have lu:=iO.2.2.2.1
 have yL:=iO.2.2.2.2.1
 have yM:=iO.2.2.2.2.2
 clear iO
 go_wp2_with fail
 clear lh ll lq lu yL yM hlt
 obtain⟨w4,aL,g4,QJ,R0⟩:=q0B w3 [.bool t7,.slice a6 k6 c6,.slice a7 k7 c7] 93
 rw[aL]
 clear aL
 have g14:=G.trans g13 g4
 refine Calls.mono (P:=Tryz.prog) (HS.out w4 _ _ (G.trans fG g14) (QIs.G tH.out g4) (QIs.G HU.out g4)) ?_
 intro e1 w5 hs
 obtain⟨s,rfl,g5,hs5⟩:=hs
 have g15:=G.trans g14 g5
 clear HS tH HU R0 R3 QJ
 obtain⟨a8,k8,c8,a9,k9,c9,rfl,fA,dh⟩:=hs5
 have kE:Hid (Num w5 (.slice a8 k8 c8) (r).num.natAbs):=fA
 have fJ:Hid (Num w5 (.slice a9 k9 c9) (q1J (r).den)):=dh
 obtain⟨t9,cK⟩:∃ t,t=decide ((r).num<0):=⟨_,rfl⟩
 rw[← cK]
 have gH:Hid (t9=decide ((r).num<0)):=cK
 clear fA dh cK
 have hS:=Rec.f3 (Rec.G RR.out ((g15)))
 have bJ:=hS.1
 have bK:=hS.2.1
 have bL:=hS.2.2.1
 have bM:=hS.2.2.2.1
 have dM:=hS.2.2.2.2.1
 have dN:=hS.2.2.2.2.2
 clear hS
 have dO:Num _ _ _:=q0l (u1:= .bool t9) (u2:= .slice a8 k8 c8) (u3:= .slice a9 k9 c9) kE.out (Rec.G RR.out (g15)) trivial trivial trivial
 have bH:Num _ _ _:=q0l (u1:= .bool t9) (u2:= .slice a8 k8 c8) (u3:= .slice a9 k9 c9) fJ.out (Rec.G RR.out (g15)) trivial trivial trivial
 go_wp2_with fail
 have hT:Hid (Rec (World.setCell (World.setCell (World.setCell w5 ⟨w.heap.size,0,none⟩ (.bool t9)) ⟨w.heap.size,1,none⟩ (.slice a8 k8 c8)) ⟨w.heap.size,2,none⟩ (.slice a9 k9 c9)) (w.heap.size) [.bool t9,.slice a8 k8 c8,.slice a9 k9 c9]):=Rec.set3 (Rec.G RR.out (g15))
 have g9:=Rec.g3 (b:=w.heap.size) (u:= .bool t9) (v:= .slice a8 k8 c8) (x:= .slice a9 k9 c9) (G.trans fG g15) (by omega)
 generalize (World.setCell (World.setCell (World.setCell w5 ⟨w.heap.size,0,none⟩ (.bool t9)) ⟨w.heap.size,1,none⟩ (.slice a8 k8 c8)) ⟨w.heap.size,2,none⟩ (.slice a9 k9 c9))=w9 at *
 have hF:=Rec.f3 (Rec.G hT.out ((G.refl _)))
 have bR:=hF.1
 have bU:=hF.2.1
 have bV:=hF.2.2.1
 have bW:=hF.2.2.2.1
 have jg:=hF.2.2.2.2.1
 have jh:=hF.2.2.2.2.2
 clear hF
 refine bodyPost_ret (v:= .agg #[.bool t9,.slice a8 k8 c8,.slice a9 k9 c9]) (by simp [results,Tryz.results105,go_sem, *]) rfl ?_
 exact⟨_,rfl,g9,a8,k8,c8,a9,k9,c9,by rw[← gH.out],dO,bH⟩
/-- Six cells written. -/
def set6 (w:World) (b:Nat) (x0 x1 x2 x3 x4 x5:Value):World:=(((((w.setCell ⟨b,0,none⟩ x0).setCell ⟨b,1,none⟩ x1).setCell ⟨b,2,none⟩ x2).setCell ⟨b,3,none⟩ x3).setCell ⟨b,4,none⟩ x4).setCell ⟨b,5,none⟩ x5
theorem q2S {w:World} {b:Nat} {y0 y1 y2 y3 y4 y5 x0 x1 x2 x3 x4 x5:Value} (h:Rec w b [y0,y1,y2,y3,y4,y5]):Rec (set6 w b x0 x1 x2 x3 x4 x5) b [x0,x1,x2,x3,x4,x5]:=(((((h.set 0 x0).set 1 x1).set 2 x2).set 3 x3).set 4 x4).set 5 x5
theorem q5A {w0 w:World} {b:Nat} {x0 x1 x2 x3 x4 x5:Value} (g:G w0 w) (h:w0.heap.size≤b):G w0 (set6 w b x0 x1 x2 x3 x4 x5):=
 (((((g.setCell (p:=⟨b,0,none⟩) h x0).setCell (p:=⟨b,1,none⟩) h x1).setCell (p:=⟨b,2,none⟩) h x2).setCell (p:=⟨b,3,none⟩) h x3).setCell (p:=⟨b,4,none⟩) h x4).setCell (p:=⟨b,5,none⟩) h x5
theorem q5T {w:World} {b:Nat} {v:Value} {q:Rat} {y0 y1 y2 y3 y4 y5 x0 x1 x2 x3 x4 x5:Value} (h:QIs w v q) (r:Rec w b [y0,y1,y2,y3,y4,y5]) (hl:∀ x∈[y0,y1,y2,y3,y4,y5],noU x):QIs (set6 w b x0 x1 x2 x3 x4 x5) v q:=
 h.apart r hl (fun i k hi=>by
  have ho:∀ (w1:World) (j:Nat) (x:Value),(w1.setCell ⟨b,j,none⟩ x).cell? ⟨i,k,none⟩=w1.cell? ⟨i,k,none⟩:=fun w1 j x=>World.cell?_setCell_other _ _ _ _ (by intro e;injection e with e1;exact hi e1.symm)
  unfold set6
  rw[ho,ho,ho,ho,ho,ho]) (by simp [set6,World.setCell])
/-- A step's two parts. -/
def StepIs (w:World) (v:Value) (p q:Rat):Prop:=∃ t a k c a' k' c' t2 b j d b' j' d',v= .agg #[.bool t,.slice a k c,.slice a' k' c',.bool t2,.slice b j d,.slice b' j' d']∧QIs w (.agg #[.bool t,.slice a k c,.slice a' k' c']) p∧QIs w (.agg #[.bool t2,.slice b j d,.slice b' j' d']) q
theorem StepIs.G {w w':World} {v:Value} {p q:Rat} (h:StepIs w v p q) (g:Go.Proofs.YtdidnnbpdcanlaaGreatDoor.G w w'):StepIs w' v p q:=by
 obtain⟨t,a,k,c,a',k',c',t2,b,j,d,b',j',d',e,h1,h2⟩:=h
 exact⟨t,a,k,c,a',k',c',t2,b,j,d,b',j',d',e,h1.G g,h2.G g⟩
def q9S (w:World) (p q:Rat) (e:Ending) (w':World):Prop:=∃ v,e= .returned v∧G w w'∧StepIs w' v p q
theorem q1P (w:World) (x1 y1 x2 y2:Nat) (hT:Tab w) (h1:x1<2^64) (h2:y1<2^64) (h3:x2<2^64) (h4:y2<2^64) (f1:fex x1<2047) (f2:fex y1<2047) (f3:fex x2<2047) (f4:fex y2<2047):
  Calls Tryz.prog 62 #[.agg #[.float .f64 x1,.float .f64 y1],.agg #[.float .f64 x2,.float .f64 y2]] w (q9S w (Uz (fz x2-fz x1)) (Uz (fz y2-fz y1))):=by
 have MQ:Hid (∀ w1,G w w1→_):=fun w1 g=>q4U w1 x2 x1 (hT.G g) h3 h1 f3 f1
 have HL2:Hid (∀ w1,G w w1→_):=fun w1 g=>q4U w1 y2 y1 (hT.G g) h4 h2 f4 f2
 clear hT h1 h2 h3 h4 f1 f2 f3 f4
 generalize Uz (fz x2-fz x1)=p at *
 generalize Uz (fz y2-fz y1)=q at *
 go_enter Tryz.func62,Tryz.ntmps62
 go_wp2_with fail
 obtain⟨w0,aL,g0,hz0,R0,R1,R2⟩:=q1t w [.float .f64 x1,.float .f64 y1] [.float .f64 x2,.float .f64 y2] [.bool false,.slice none 0 0,.slice none 0 0,.bool false,.slice none 0 0,.slice none 0 0] 32 32 95
 rw[aL]
 clear aL
 refine region_each 10 2 #[true,true,true,true,true,true,true,true,true,true,false,false] [.is (.pointer (some ⟨w.heap.size+1,0,none⟩)),.is (.float .f64 x2),.is (.pointer (some ⟨w.heap.size,0,none⟩)),.is (.float .f64 x1),.any (fun v w'=>QIs w' v (p)),.is (.pointer (some ⟨w.heap.size+1,1,none⟩)),.is (.float .f64 y2),.is (.pointer (some ⟨w.heap.size,1,none⟩)),.is (.float .f64 y1),.any (fun v w'=>QIs w' v (q))] [some 5,some 6,some 7,some 8,some 9,some 10,some 11,some 12,some 13,some 14] (by kernel_rfl) (by kernel_rfl) rfl (by kernel_rfl) (by repeat (first|exact trivial|refine⟨fun _ _ _ g h=>by first|exact h.G g|exact fun w3 g3=>h w3 (G.trans g g3),?_⟩)) (by kernel_rfl) (by kernel_rfl) ?_
 refine Letters.is ?_
 refine Letters.is ?_
 refine Letters.is ?_
 refine Letters.is ?_
 refine Letters.any fun v4=> ?_
 refine Letters.is ?_
 refine Letters.is ?_
 refine Letters.is ?_
 refine Letters.is ?_
 refine Letters.any fun v9=> ?_
 refine Letters.nil ?_
 intro A hA
 simp only[q0N,Act.put,List.setIfInBounds_toArray,List.set_cons_zero,List.set_cons_succ] at hA
 subst hA
 refine⟨?_,?_⟩
 ·skip
  refine Eaches.cons rfl ?dW (Eaches.cons rfl ?eU (Eaches.cons rfl ?fB (Eaches.cons rfl ?dZ (Eaches.cons rfl ?iA (Eaches.cons rfl ?iB (Eaches.cons rfl ?iC (Eaches.cons rfl ?gT (Eaches.cons rfl ?iD (Eaches.cons rfl ?lK (Eaches.nil))))))))))
  case dW|fB|iB|gT=>
   intro W hW hD K hK
   clear hD
   go_simp
   exact hK.out _ _ ⟨_,rfl,G.refl _,rfl⟩
  case eU|dZ|iC|iD=>
   intro W hW hD K hK
   clear hD
   have hR0:=Rec.f2 (Rec.G R0.out hW)
   have ed:=hR0.1
   have ek:=hR0.2.1
   clear hR0
   have eu:=Rec.f2 (Rec.G R1.out hW)
   have jb:=eu.1
   have jc:=eu.2.1
   clear eu
   go_simp
   exact hK.out _ _ ⟨_,rfl,G.refl _,rfl⟩
  ·intro W hW hD K hK
   clear hD
   go_simp
   go_wp2_with (go_at_call 105;refine Calls.mono (P:=Tryz.prog) (MQ.out W (G.trans g0 hW)) ?_;intro e w9 hs;obtain⟨u9,rfl,g9,aH⟩:=hs)
   exact hK.out _ _ ⟨_,rfl,g9,aH⟩
  ·intro W hW hD K hK
   clear hD
   go_simp
   go_wp2_with (go_at_call 105;refine Calls.mono (P:=Tryz.prog) (HL2.out W (G.trans g0 hW)) ?_;intro e w9 hs;obtain⟨u9,rfl,g9,aH⟩:=hs)
   exact hK.out _ _ ⟨_,rfl,g9,aH⟩
 intro w1 g1 hH
 have h4:=Helds.get (v:=v4) 4 hH rfl rfl
 have h9:=Helds.get (v:=v9) 9 hH rfl rfl
 clear hH
 clear MQ HL2
 have MR:Hid (QIs w1 v4 p):=h4
 have MS:Hid (QIs w1 v9 q):=h9
 obtain⟨a8,k8,c8,a9,k9,c9,rfl,-,-⟩:=h4
 obtain⟨a6,k6,c6,a7,k7,c7,rfl,-,-⟩:=h9
 generalize decide (p.num<0)=t9 at *
 generalize decide (q.num<0)=t7 at *
 have RR:Hid (Rec w1 (w.heap.size+1+1) [.bool false,.slice none 0 0,.slice none 0 0,.bool false,.slice none 0 0,.slice none 0 0]):=Rec.G R2.out g1
 have fG:=G.trans g0 g1
 clear R0 R1 R2 g0 g1 hz0
 have hnu:∀ x∈[Value.bool false,.slice none 0 0,.slice none 0 0,.bool false,.slice none 0 0,.slice none 0 0],noU x:=by
  intro x hx m e
  subst e
  simp at hx
 have MU:Hid (QIs (set6 w1 (w.heap.size+1+1) (.bool t9) (.slice a8 k8 c8) (.slice a9 k9 c9) (.bool t7) (.slice a6 k6 c6) (.slice a7 k7 c7)) _ p):=q5T MR.out RR.out hnu
 have MV:Hid (QIs (set6 w1 (w.heap.size+1+1) (.bool t9) (.slice a8 k8 c8) (.slice a9 k9 c9) (.bool t7) (.slice a6 k6 c6) (.slice a7 k7 c7)) _ q):=q5T MS.out RR.out hnu
 have RS:Hid (Rec (set6 w1 (w.heap.size+1+1) (.bool t9) (.slice a8 k8 c8) (.slice a9 k9 c9) (.bool t7) (.slice a6 k6 c6) (.slice a7 k7 c7)) _ _):=q2S RR.out
 have gS:G w (set6 w1 (w.heap.size+1+1) (.bool t9) (.slice a8 k8 c8) (.slice a9 k9 c9) (.bool t7) (.slice a6 k6 c6) (.slice a7 k7 c7)):=q5A fG (by omega)
 clear MR MS hnu
 obtain⟨hc0,hc1,hc2,hc3,hc4,qC,hf0,hf1,hf2,hf3,tL,rF⟩:=RR.out.f6
 refine wpAny_ready (rs:=[10]) (by kernel_rfl) (by simp) ?_
 refine AllReady.cons rfl (fun K hK=> ?_) AllReady.nil
 go_simp
 refine hK _ _ ?_
 clear hK K
 refine wpAny_ready (rs:=[11]) (by kernel_rfl) (by simp) ?_
 refine AllReady.cons rfl (fun K hK=> ?_) AllReady.nil
 go_simp
 refine hK _ _ ?_
 clear hK K hc0 hc1 hc2 hc3 hc4 qC hf0 hf1 hf2 hf3 tL rF
 refine wpAny_done (by kernel_rfl) ?_ _
 unfold set6 at MU MV RS gS
 generalize (((((w1.setCell ⟨w.heap.size+1+1,0,none⟩ (.bool t9)).setCell ⟨w.heap.size+1+1,1,none⟩ (.slice a8 k8 c8)).setCell ⟨w.heap.size+1+1,2,none⟩ (.slice a9 k9 c9)).setCell ⟨w.heap.size+1+1,3,none⟩ (.bool t7)).setCell ⟨w.heap.size+1+1,4,none⟩ (.slice a6 k6 c6)).setCell ⟨w.heap.size+1+1,5,none⟩ (.slice a7 k7 c7)=w2 at *
 obtain⟨hc0,hc1,hc2,hc3,hc4,qC,-⟩:=RS.out.f6
 go_wp2_with fail
 refine bodyPost_ret (v:= .agg #[.bool t9,.slice a8 k8 c8,.slice a9 k9 c9,.bool t7,.slice a6 k6 c6,.slice a7 k7 c7]) (by simp [results,Tryz.results62,go_sem, *]) rfl ?_
 exact⟨_,rfl,gS,t9,a8,k8,c8,a9,k9,c9,t7,a6,k6,c6,a7,k7,c7,rfl,MU.out,MV.out⟩
theorem q3Z (w:World) (v u:Value) (px py qx qy:Rat) (K:Nat) (hK1:1≤K) (hK:K≤10000) (hT:Tab w) (hv:StepIs w v px py) (hu:StepIs w u qx qy) (b1:QB px K) (b2:QB py K) (b3:QB qx K) (b4:QB qy K):
  Calls Tryz.prog 65 #[v,u] w (RetQ w (px*qy-py*qx)):=by
 obtain⟨t1,a1,k1,c1,a2,k2,c2,t2,a3,k3,c3,a4,k4,c4,rfl,hp1,hp2⟩:=hv
 obtain⟨t3,a5,k5,c5,a6,k6,c6,t4,a7,k7,c7,a8,k8,c8,rfl,hq1,hq2⟩:=hu
 have lL:Hid (∀ w1,G w w1→_):=fun w1 g=>q36 w1 _ _ px qy K (by omega) hK1 (hT.G g) (hp1.G g) (hq2.G g) b1 b4
 have jI:Hid (∀ w1,G w w1→_):=fun w1 g=>q36 w1 _ _ py qx K (by omega) hK1 (hT.G g) (hp2.G g) (hq1.G g) b2 b3
 have HS:Hid (∀ w1 v u,G w w1→QIs w1 v (px*qy)→QIs w1 u (py*qx)→_):=fun w1 v u g k1 k2=>q9v w1 v u _ _ (K+K) (by omega) (by omega) (hT.G g) k1 k2 (q23 b1 b4) (q23 b2 b3)
 clear hT hp1 hp2 hq1 hq2 b1 b2 b3 b4
 generalize px*qy-py*qx=r at *
 generalize px*qy=p at *
 generalize py*qx=q at *
 go_enter Tryz.func65,Tryz.ntmps65
 go_wp2_with fail
 obtain⟨w0,aL,g0,hz0,R0,R1,R2⟩:=q1t w [.bool t1,.slice a1 k1 c1,.slice a2 k2 c2,.bool t2,.slice a3 k3 c3,.slice a4 k4 c4] [.bool t3,.slice a5 k5 c5,.slice a6 k6 c6,.bool t4,.slice a7 k7 c7,.slice a8 k8 c8] [.bool false,.slice none 0 0,.slice none 0 0] 95 95 93
 rw[aL]
 clear aL
 refine region_each 11 1 #[true,true,true,true,true,true,true,true,true,true,true,false] [.is (.pointer (some ⟨w.heap.size,0,none⟩)),.is (.agg #[.bool t1,.slice a1 k1 c1,.slice a2 k2 c2]),.is (.pointer (some ⟨w.heap.size+1,3,none⟩)),.is (.agg #[.bool t4,.slice a7 k7 c7,.slice a8 k8 c8]),.any (fun v w'=>QIs w' v (p)),.is (.pointer (some ⟨w.heap.size,3,none⟩)),.is (.agg #[.bool t2,.slice a3 k3 c3,.slice a4 k4 c4]),.is (.pointer (some ⟨w.heap.size+1,0,none⟩)),.is (.agg #[.bool t3,.slice a5 k5 c5,.slice a6 k6 c6]),.any (fun v w'=>QIs w' v (q)),.any (fun v w'=>QIs w' v (r))] [some 5,some 6,some 7,some 8,some 9,some 10,some 11,some 12,some 13,some 14,some 15] (by kernel_rfl) (by kernel_rfl) rfl (by kernel_rfl) (by repeat (first|exact trivial|refine⟨fun _ _ _ g h=>by first|exact h.G g|exact fun w3 g3=>h w3 (G.trans g g3),?_⟩)) (by kernel_rfl) (by kernel_rfl) ?_
 refine Letters.is ?_
 refine Letters.is ?_
 refine Letters.is ?_
 refine Letters.is ?_
 refine Letters.any fun v4=> ?_
 refine Letters.is ?_
 refine Letters.is ?_
 refine Letters.is ?_
 refine Letters.is ?_
 refine Letters.any fun v9=> ?_
 refine Letters.any fun v10=> ?_
 refine Letters.nil ?_
 intro A hA
 simp only[q0N,Act.put,List.setIfInBounds_toArray,List.set_cons_zero,List.set_cons_succ] at hA
 subst hA
 refine⟨?_,?_⟩
 ·skip
  refine Eaches.cons rfl ?dW (Eaches.cons rfl ?eU (Eaches.cons rfl ?fB (Eaches.cons rfl ?dZ (Eaches.cons rfl ?iA (Eaches.cons rfl ?iB (Eaches.cons rfl ?iC (Eaches.cons rfl ?gT (Eaches.cons rfl ?iD (Eaches.cons rfl ?lK (Eaches.cons rfl ?ja (Eaches.nil)))))))))))
  case dW|fB|iB|gT=>
   intro W hW hD K hK
   clear hD
   go_simp
   exact hK.out _ _ ⟨_,rfl,G.refl _,rfl⟩
  case eU|dZ|iC|iD=>
   intro W hW hD K hK
   clear hD
   have hR0:=Rec.f6 (Rec.G R0.out hW)
   have ed:=hR0.1
   have ek:=hR0.2.1
   have qN:=hR0.2.2.1
   have Dq:=hR0.2.2.2.1
   have Dr:=hR0.2.2.2.2.1
   have Dt:=hR0.2.2.2.2.2.1
   clear hR0
   have eu:=Rec.f6 (Rec.G R1.out hW)
   have jb:=eu.1
   have jc:=eu.2.1
   have wC:=eu.2.2.1
   have MN:=eu.2.2.2.1
   have MO:=eu.2.2.2.2.1
   have MP:=eu.2.2.2.2.2.1
   clear eu
   go_simp
   exact hK.out _ _ ⟨_,rfl,G.refl _,rfl⟩
  ·intro W hW hD K hK
   clear hD
   go_simp
   go_wp2_with (go_at_call 64;refine Calls.mono (P:=Tryz.prog) (lL.out W (G.trans g0 hW)) ?_;intro e w9 hs;obtain⟨u9,rfl,g9,aH⟩:=hs)
   exact hK.out _ _ ⟨_,rfl,g9,aH⟩
  ·intro W hW hD K hK
   clear hD
   go_simp
   go_wp2_with (go_at_call 64;refine Calls.mono (P:=Tryz.prog) (jI.out W (G.trans g0 hW)) ?_;intro e w9 hs;obtain⟨u9,rfl,g9,aH⟩:=hs)
   exact hK.out _ _ ⟨_,rfl,g9,aH⟩
  ·intro W hW hD K hK
   have h4:=Deps.get (v:=v4) 4 hD rfl rfl (by kernel_rfl)
   have h9:=Deps.get (v:=v9) 9 hD rfl rfl (by kernel_rfl)
   clear hD
   go_simp
   go_wp2_with (go_at_call 112;refine Calls.mono (P:=Tryz.prog) (HS.out W v4 v9 (G.trans g0 hW) h4 h9) ?_;intro e w9 hs;obtain⟨u9,rfl,g9,aH⟩:=hs)
   exact hK.out _ _ ⟨_,rfl,g9,aH⟩
 intro w1 g1 hH
 have h10:=Helds.get (v:=v10) 10 hH rfl rfl
 clear hH
 clear lL jI HS
 have RR:Hid (Rec w1 (w.heap.size+1+1) [.bool false,.slice none 0 0,.slice none 0 0]):=Rec.G R2.out g1
 obtain⟨a8,k8,c8,a9,k9,c9,rfl,fA,dh⟩:=h10
 have kE:Hid (Num w1 (.slice a8 k8 c8) (r).num.natAbs):=fA
 have fJ:Hid (Num w1 (.slice a9 k9 c9) (q1J (r).den)):=dh
 obtain⟨t9,cK⟩:∃ t,t=decide ((r).num<0):=⟨_,rfl⟩
 rw[← cK]
 have gH:Hid (t9=decide ((r).num<0)):=cK
 clear fA dh cK
 have hS:=Rec.f3 (Rec.G RR.out (G.refl _))
 have bJ:=hS.1
 have bK:=hS.2.1
 have bL:=hS.2.2.1
 have bM:=hS.2.2.2.1
 have dM:=hS.2.2.2.2.1
 have dN:=hS.2.2.2.2.2
 clear hS
 refine wpAny_ready (rs:=[11]) (by kernel_rfl) (by simp) ?_
 refine AllReady.cons rfl (fun K hK=> ?_) AllReady.nil
 go_simp
 refine hK _ _ ?_
 clear hK K bJ bK bL bM dM dN
 refine wpAny_done (by kernel_rfl) ?_ _
 have dO:Num _ _ _:=q0l (u1:= .bool t9) (u2:= .slice a8 k8 c8) (u3:= .slice a9 k9 c9) kE.out (Rec.G RR.out (G.refl _)) trivial trivial trivial
 have bH:Num _ _ _:=q0l (u1:= .bool t9) (u2:= .slice a8 k8 c8) (u3:= .slice a9 k9 c9) fJ.out (Rec.G RR.out (G.refl _)) trivial trivial trivial
 go_wp2_with fail
 have hT:Hid (Rec (World.setCell (World.setCell (World.setCell w1 ⟨w.heap.size+1+1,0,none⟩ (.bool t9)) ⟨w.heap.size+1+1,1,none⟩ (.slice a8 k8 c8)) ⟨w.heap.size+1+1,2,none⟩ (.slice a9 k9 c9)) (w.heap.size+1+1) [.bool t9,.slice a8 k8 c8,.slice a9 k9 c9]):=Rec.set3 (Rec.G RR.out (G.refl _))
 have g9:=Rec.g3 (b:=w.heap.size+1+1) (u:= .bool t9) (v:= .slice a8 k8 c8) (x:= .slice a9 k9 c9) (G.trans g0 g1) (by omega)
 generalize (World.setCell (World.setCell (World.setCell w1 ⟨w.heap.size+1+1,0,none⟩ (.bool t9)) ⟨w.heap.size+1+1,1,none⟩ (.slice a8 k8 c8)) ⟨w.heap.size+1+1,2,none⟩ (.slice a9 k9 c9))=w9 at *
 have hF:=Rec.f3 (Rec.G hT.out ((G.refl _)))
 have bR:=hF.1
 have bU:=hF.2.1
 have bV:=hF.2.2.1
 have bW:=hF.2.2.2.1
 have jg:=hF.2.2.2.2.1
 have jh:=hF.2.2.2.2.2
 clear hF
 refine bodyPost_ret (v:= .agg #[.bool t9,.slice a8 k8 c8,.slice a9 k9 c9]) (by simp [results,Tryz.results65,go_sem, *]) rfl ?_
 exact⟨_,rfl,g9,a8,k8,c8,a9,k9,c9,by rw[← gH.out],dO,bH⟩
theorem q15 (x y:Nat):QB (Uz (fz x-fz y)) 80:=by
 refine qbc ?_
 have h1:=q33 x
 have h2:=q33 y
 obtain⟨M,hM⟩:∃ M:Nat,M=5000:=⟨_,rfl⟩
 obtain⟨N,hN⟩:∃ N:Nat,N=2099:=⟨_,rfl⟩
 rw[← hM]
 rw[← hN] at h1 h2
 have h3:2^(N+1)≤2^M:=Nat.pow_le_pow_right (by omega) (by omega)
 rw[Nat.pow_succ] at h3
 omega
/-- Twice the area of three points, in units times units. -/
def q2O (ax ay bx kT cx cy:Nat):Int:=(fz bx-fz ax)*(fz cy-fz ay)-(fz kT-fz ay)*(fz cx-fz ax)
theorem q4j {D:Nat} (h:0<D) (x y:Int):mkRat x D+mkRat y D=mkRat (x+y) D:=by
 rw[← Rat.divInt_ofNat,← Rat.divInt_ofNat,← Rat.divInt_ofNat,Rat.divInt_add_divInt _ _ (by omega) (by omega)]
 rw[Rat.divInt_eq_divInt_iff (by have:(D:Int)*D≠0:=by apply Int.mul_ne_zero<;>omega
                                 exact this) (by omega)]
 rw[← Int.add_mul,Int.mul_assoc]
theorem q5w {D:Nat} (h:0<D) (x y:Int):mkRat x D-mkRat y D=mkRat (x-y) D:=by
 rw[Rat.sub_eq_add_neg,Rat.neg_mkRat,q4j h];rfl
theorem q3i {D:Nat} (hD:0<D) (z:Int):(mkRat z D).num.sign=z.sign:=by
 have h:=mk_cross (q:=mkRat z D) hD rfl
 have h1:=(mkRat z D).den_pos
 generalize (mkRat z D).den=d at *
 generalize (mkRat z D).num=n at *
 have h3:=congrArg Int.sign h
 rw[Int.sign_mul,Int.sign_mul,Int.sign_eq_one_of_pos (a:=(d:Int)) (by omega),Int.sign_eq_one_of_pos (a:=(D:Int)) (by omega),Int.mul_one,Int.mul_one] at h3
 exact h3.symm
theorem q9C:∃ D,0<D∧∀ a b:Int,Uz a*Uz b=mkRat (a*b) D:=⟨_,Nat.mul_pos q1I q1I,fun a b=>by unfold Uz;rw[Rat.mkRat_mul_mkRat]⟩
theorem q54 (a b c d:Int):(Uz a*Uz b-Uz c*Uz d).num.sign=(a*b-c*d).sign:=by
 obtain⟨D,hD,e⟩:=q9C
 rw[e,e,q5w hD,q3i hD]
theorem q9E (w:World) (ax ay bx b2 cx cy:Nat) (hT:Tab w) (h1:ax<2^64) (h2:ay<2^64) (h3:bx<2^64) (h4:b2<2^64) (h5:cx<2^64) (h6:cy<2^64)
  (f1:fex ax<2047) (f2:fex ay<2047) (f3:fex bx<2047) (f4:fex b2<2047) (f5:fex cx<2047) (f6:fex cy<2047):
  Calls Tryz.prog 61 #[.agg #[.float .f64 ax,.float .f64 ay],.agg #[.float .f64 bx,.float .f64 b2],.agg #[.float .f64 cx,.float .f64 cy]] w fun e w'=>e= .returned (.int .i64 (q2O ax ay bx b2 cx cy).sign)∧G w w':=by
 have HB1:Hid (∀ w1,G w w1→_):=fun w1 g=>q1P w1 ax ay bx b2 (hT.G g) h1 h2 h3 h4 f1 f2 f3 f4
 have HB2:Hid (∀ w1,G w w1→_):=fun w1 g=>q1P w1 ax ay cx cy (hT.G g) h1 h2 h5 h6 f1 f2 f5 f6
 have HX:Hid (∀ w1 v u,G w w1→StepIs w1 v (Uz (fz bx-fz ax)) (Uz (fz b2-fz ay))→StepIs w1 u (Uz (fz cx-fz ax)) (Uz (fz cy-fz ay))→_):=fun w1 v u g k1 k2=>q3Z w1 v u _ _ _ _ 80 (by omega) (by omega) (hT.G g) k1 k2 (q15 _ _) (q15 _ _) (q15 _ _) (q15 _ _)
 have hz:=q54 (fz bx-fz ax) (fz cy-fz ay) (fz b2-fz ay) (fz cx-fz ax)
 have Bo:Hid (∀ w1 v,QIs w1 v (Uz (fz bx-fz ax)*Uz (fz cy-fz ay)-Uz (fz b2-fz ay)*Uz (fz cx-fz ax))→Calls Tryz.prog 67 #[v] w1 fun e w'=>e= .returned (.int .i64 (q2O ax ay bx b2 cx cy).sign)∧G w1 w'):=fun w1 v h=>by
  have k:=q7c w1 v _ h
  rw[hz] at k
  exact k
 clear hz hT h1 h2 h3 h4 h5 h6 f1 f2 f3 f4 f5 f6
 generalize (q2O ax ay bx b2 cx cy).sign=z at *
 generalize Uz (fz bx-fz ax)=p1 at *
 generalize Uz (fz b2-fz ay)=p2 at *
 generalize Uz (fz cx-fz ax)=q1 at *
 generalize Uz (fz cy-fz ay)=q2 at *
 generalize p1*q2-p2*q1=r at *
 go_enter Tryz.func61,Tryz.ntmps61
 go_wp2_with fail
 obtain⟨w0,aL,g0,hz0,R0,R1,R2⟩:=q1t w [.float .f64 ax,.float .f64 ay] [.float .f64 bx,.float .f64 b2] [.float .f64 cx,.float .f64 cy] 32 32 32
 rw[aL]
 clear aL
 refine region_each 8 1 #[true,true,true,true,true,true,true,true,false] [.is (.agg #[.float .f64 ax,.float .f64 ay]),.is (.agg #[.float .f64 bx,.float .f64 b2]),.any (fun v w'=>StepIs w' v p1 p2),.is (.agg #[.float .f64 ax,.float .f64 ay]),.is (.agg #[.float .f64 cx,.float .f64 cy]),.any (fun v w'=>StepIs w' v q1 q2),.any (fun v w'=>QIs w' v (r)),.is (.int .i64 z)] [some 7,some 8,some 9,some 10,some 11,some 12,some 13,some 14] (by kernel_rfl) (by kernel_rfl) rfl (by kernel_rfl) (by repeat (first|exact trivial|refine⟨fun _ _ _ g h=>by first|exact h.G g|exact fun w3 g3=>h w3 (G.trans g g3),?_⟩)) (by kernel_rfl) (by kernel_rfl) ?_
 refine Letters.is ?_
 refine Letters.is ?_
 refine Letters.any fun v2=> ?_
 refine Letters.is ?_
 refine Letters.is ?_
 refine Letters.any fun v5=> ?_
 refine Letters.any fun v6=> ?_
 refine Letters.is ?_
 refine Letters.nil ?_
 intro A hA
 simp only[q0N,Act.put,List.setIfInBounds_toArray,List.set_cons_zero,List.set_cons_succ] at hA
 subst hA
 refine⟨?_,?_⟩
 ·skip
  refine Eaches.cons rfl ?gN (Eaches.cons rfl ?iU (Eaches.cons rfl ?iV (Eaches.cons rfl ?iW (Eaches.cons rfl ?iX (Eaches.cons rfl ?kH (Eaches.cons rfl ?kI (Eaches.cons rfl ?pR (Eaches.nil))))))))
  case gN|iU|iW|iX=>
   intro W hW hD K hK
   clear hD
   have hR0:=Rec.f2 (Rec.G R0.out hW)
   have ed:=hR0.1
   have ek:=hR0.2.1
   clear hR0
   have eu:=Rec.f2 (Rec.G R1.out hW)
   have jb:=eu.1
   have jc:=eu.2.1
   clear eu
   have hR2:=Rec.f2 (Rec.G R2.out hW)
   have wV:=hR2.1
   have wW:=hR2.2.1
   clear hR2
   go_simp
   exact hK.out _ _ ⟨_,rfl,G.refl _,rfl⟩
  ·intro W hW hD K hK
   clear hD
   go_simp
   go_wp2_with (go_at_call 62;refine Calls.mono (P:=Tryz.prog) (HB1.out W (G.trans g0 hW)) ?_;intro e w9 hs;obtain⟨u9,rfl,g9,aH⟩:=hs)
   exact hK.out _ _ ⟨_,rfl,g9,aH⟩
  ·intro W hW hD K hK
   clear hD
   go_simp
   go_wp2_with (go_at_call 62;refine Calls.mono (P:=Tryz.prog) (HB2.out W (G.trans g0 hW)) ?_;intro e w9 hs;obtain⟨u9,rfl,g9,aH⟩:=hs)
   exact hK.out _ _ ⟨_,rfl,g9,aH⟩
  ·intro W hW hD K hK
   have h2:=Deps.get (v:=v2) 2 hD rfl rfl (by kernel_rfl)
   have h5:=Deps.get (v:=v5) 5 hD rfl rfl (by kernel_rfl)
   clear hD
   go_simp
   go_wp2_with (go_at_call 65;refine Calls.mono (P:=Tryz.prog) (HX.out W v2 v5 (G.trans g0 hW) h2 h5) ?_;intro e w9 hs;obtain⟨u9,rfl,g9,aH⟩:=hs)
   exact hK.out _ _ ⟨_,rfl,g9,aH⟩
  ·intro W hW hD K hK
   have h6:=Deps.get (v:=v6) 6 hD rfl rfl (by kernel_rfl)
   clear hD
   go_simp
   go_wp2_with (go_at_call 67;refine Calls.mono (P:=Tryz.prog) (Bo.out W v6 h6) ?_;intro e w9 hs;obtain⟨rfl,g9⟩:=hs)
   exact hK.out _ _ ⟨_,rfl,g9,rfl⟩
 intro w1 g1 hH
 clear hH
 refine wpAny_ready (rs:=[8]) (by kernel_rfl) (by simp) ?_
 refine AllReady.cons rfl (fun K hK=> ?_) AllReady.nil
 go_simp
 refine hK _ _ ?_
 clear hK K
 refine wpAny_done (by kernel_rfl) ?_ _
 go_wp2_with fail
 go_ret
 exact⟨rfl,G.trans g0 g1⟩
/-- A number's float in a mode. -/
def flW (m:Int) (q:Rat):Nat:=if q=0 then 0 else FT.wrd (decide (q.num<0)) (rdV m (decide (q.num<0)) q.num.natAbs q.den)
/-- A call hands back a sum's float, or what is at fault. -/
def q9B (w:World) (l:List Nat) (m:Int) (e:Ending) (w':World):Prop:=∃ (b:Nat) (c a:Int),e= .returned (.tuple #[.float .f64 b,.agg #[.int .i64 c,.int .i64 a]])∧G w w'∧
 ((Fin l∧b=flW m (Uz (l.map fz).sum)∧c=0∧a=0)∨(∃ i:Nat,b=0∧c=4∧a=i∧i<l.length∧fex (l.getD i 0)=2047∧∀ j,j<i→fex (l.getD j 0)<2047))
/-- A store of a float. -/
theorem q0d (P:Program) (w:World) (a:Addr) (m:Mode) (k:FloatKind) (n:Nat):(store a (.float k n) m).run P w=stored P w a (.float k n) m:=run_store P w a _ m rfl
attribute [local go_sem] q0d
end Go.Proofs.YtdidnnbpdcanlaaGreatDoor.EN
namespace Go.Proofs.YtdidnnbpdcanlaaGreatDoor.EN
open Go.ChangeShapes Go.WideShapes Go.ChangeAt Go.RowKit
attribute [local go_sem] q0d
theorem qax {x:Nat}:(FloatKind.f64.format.order (FT.rung x) 9218868437227405311==some .lt||FloatKind.f64.format.order (FT.rung x) 9218868437227405311==some .eq)=decide (fex x<2047):=by
 have hr:=rung_lt x
 have e1:FT.wrd false (FT.rung x)=FT.rung x:=rfl
 have e2:FT.wrd false 9218868437227405311=9218868437227405311:=rfl
 have n2:=qao false (V:=9218868437227405311) (by omega)
 have r1:=FT.wrd_rung false (FT.rung x) hr
 have r2:=FT.wrd_rung false 9218868437227405311 (by omega)
 have s1:=FT.wrd_neg false (FT.rung x) hr
 have s2:=FT.wrd_neg false 9218868437227405311 (by omega)
 rw[e1] at r1 s1
 rw[e2] at n2 r2 s2
 have hfi:=q2X x
 rw[FT.ord_f,n2]
 by_cases hn:FT.nan (FT.rung x)=true
 ·have h1:2047*2^52<FT.rung x:=by
   unfold FT.nan at hn
   rw[r1] at hn
   exact of_decide_eq_true hn
  rw[hn]
  have:decide (fex x<2047)=false:=decide_eq_false (fun h=>by have:=hfi.1 h;omega)
  rw[this]
  rfl
 ·have hn:FT.nan (FT.rung x)=false:=by simpa using hn
  rw[hn]
  unfold FT.key
  rw[s1,s2,r1,r2]
  simp only[Bool.or_self,Bool.false_eq_true,if_false]
  simp only[show ((9218868437227405311:Nat):Int)=9218868437227405311 from rfl]
  rcases Int.lt_trichotomy (FT.rung x:Int) 9218868437227405311 with h|h|h
  ·rw[Int.compare_eq_lt.2 h,decide_eq_true (hfi.2 (by omega))];rfl
  ·rw[Int.compare_eq_eq.2 h,decide_eq_true (hfi.2 (by omega))];rfl
  ·rw[Int.compare_eq_gt.2 h,decide_eq_false (fun h2=>by have:=hfi.1 h2;omega)];rfl
theorem q4n (w:World) (x:Nat) (hx:x<2^64):Calls Tryz.prog 80 #[.float .f64 x] w fun e w'=>e= .returned (.bool (decide (fex x<2047)))∧G w w':=by
 have HA:Hid (∀ w1,_):=fun w1=>qb6 x w1 hx
 go_enter Tryz.func80,Tryz.ntmps80
 go_wp2_with fail
 refine Calls.mono (P:=Tryz.prog) (HA.out w) ?_
 rintro e w1 ⟨rfl,g1⟩
 go_wp2_with fail
 go_ret
 exact⟨by rw[← qax];rfl,g1⟩
/-- A slice of points. -/
def PSl (w:World) (v:Value) (l:List (Nat×Nat)):Prop:=
 ∃ a c,v= .slice a l.length c∧l.length≤c∧∀ i,i<l.length→∃ b o,a=some ⟨b,o,none⟩∧b<w.heap.size∧w.cell? ⟨b,o+i*2,none⟩=some (.float .f64 (l.getD i (0,0)).1)∧w.cell? ⟨b,o+i*2+1,none⟩=some (.float .f64 (l.getD i (0,0)).2)
theorem PSl.G {w w':World} {v:Value} {l:List (Nat×Nat)} (h:PSl w v l) (g:G w w'):PSl w' v l:=by
 obtain⟨a,c,e,hc,h⟩:=h
 refine⟨a,c,e,hc,fun i hi=> ?_⟩
 obtain⟨b,o,e1,h1,h2,h3⟩:=h i hi
 exact⟨b,o,e1,Nat.lt_of_lt_of_le h1 g.size,g.cell (p:=⟨b,o+i*2,none⟩) h1 h2,g.cell (p:=⟨b,o+i*2+1,none⟩) h1 h3⟩
def FinP (p:Nat×Nat):Prop:=fex p.1<2047∧fex p.2<2047
/-- A call hands back where the first point is that isn't finite, or no fault. -/
def q5B (w:World) (l:List (Nat×Nat)) (e:Ending) (w':World):Prop:=∃ c a:Int,e= .returned (.agg #[.int .i64 c,.int .i64 a])∧G w w'∧
 ((c=0∧a=0∧∀ i,i<l.length→FinP (l.getD i (0,0)))∨(∃ i:Nat,c=4∧a=i∧i<l.length∧¬ FinP (l.getD i (0,0))∧∀ j,j<i→FinP (l.getD j (0,0))))
theorem q2x (w:World) (v:Value) (l:List (Nat×Nat)) (h:PSl w v l) (hl:∀ i,i<l.length→(l.getD i (0,0)).1<2^64∧(l.getD i (0,0)).2<2^64) (hn:l.length≤60):
  Calls Tryz.prog 38 #[v] w (q5B w l):=by
 obtain⟨pa,ca,rfl,-,hrow⟩:=h
 have HR:Hid _:=hrow
 have HL:Hid _:=hl
 obtain⟨n,hn'⟩:∃ n,n=l.length:=⟨_,rfl⟩
 rw[← hn'] at hn ⊢
 have HN:Hid (n=l.length):=hn'
 have hlim:decide ((60:Int)<n)=false:=decide_eq_false (by omega)
 clear hrow hl hn'
 go_enter Tryz.func38,Tryz.ntmps38
 go_wp2_with fail
 obtain⟨w0,aL,g0,hz0,R0⟩:=q0B w [.int .i64 0,.int .i64 0] 26
 rw[aL]
 clear aL
 go_loopw [11] (fun vk wr=>∃ k:Nat,k≤n∧vk= .int .i64 k∧(∀ j,j<k→FinP (l.getD j (0,0)))∧G w0 wr) (fun vk _=>n-(intOf vk).toNat)
 case atStart=>exact⟨0,Nat.zero_le _,rfl,fun j hj=>by omega,G.refl _⟩
 case round=>
  obtain⟨k,hk,rfl,hf,hG⟩:=hrel
  have HF:Hid _:=hf
  have RF:Hid (Rec wr w.heap.size [.int .i64 0,.int .i64 0]):=Rec.G R0.out hG
  clear hf
  by_cases hkn:k<n
  ·obtain⟨b1,o1,rfl,hB1,hx',hy'⟩:=HR.out k (by rw[← HN.out];exact hkn)
   have hgw:=G.trans g0 hG
   have hx:=hgw.cell (p:=⟨b1,o1+k*2,none⟩) hB1 hx'
   have hy:=hgw.cell (p:=⟨b1,o1+k*2+1,none⟩) hB1 hy'
   obtain⟨oC,oD⟩:=HL.out k (by rw[← HN.out];exact hkn)
   obtain⟨x,ex⟩:∃ x,x=(l.getD k (0,0)).1:=⟨_,rfl⟩
   obtain⟨y,ey⟩:∃ y,y=(l.getD k (0,0)).2:=⟨_,rfl⟩
   rw[← ex] at hx oC
   rw[← ey] at hy oD
   have HE:Hid (FinP (l.getD k (0,0))↔(fex x<2047∧fex y<2047)):=by show _↔_;rw[ex,ey];exact Iff.rfl
   have HX:Hid (∀ w1,_):=fun w1=>q4n w1 x oC
   have HY:Hid (∀ w1,_):=fun w1=>q4n w1 y oD
   clear hx' hy' oC oD ex ey hB1
   have lI:Hid (¬ fex x<2047→¬ FinP (l.getD k (0,0))):=fun h1 h2=>h1 (HE.out.1 h2).1
   have kJ:Hid (¬ fex y<2047→¬ FinP (l.getD k (0,0))):=fun h1 h2=>h1 (HE.out.1 h2).2
   have qg:Hid (fex x<2047→fex y<2047→FinP (l.getD k (0,0))):=fun h1 h2=>HE.out.2 ⟨h1,h2⟩
   clear HE
   by_cases hfx:fex x<2047
   ·rw[decide_eq_true hfx] at HX
    have qg:Hid (fex y<2047→FinP (l.getD k (0,0))):=fun h2=>qg.out hfx h2
    clear hfx lI
    have kY:Hid (Rec (wr.alloc (.cells #[.float .f64 x,.float .f64 y] 32)) wr.heap.size [.float .f64 x,.float .f64 y]):=Rec.new2 wr _ _ _
    have l6:Hid (G wr (wr.alloc (.cells #[.float .f64 x,.float .f64 y] 32))):=(G.refl wr).alloc _
    go_wp2_with fail
    refine Calls.mono (P:=Tryz.prog) (HX.out _) ?_
    rintro e1 w1 ⟨rfl,g1⟩
    have R1:Hid (Rec w1 wr.heap.size [.float .f64 x,.float .f64 y]):=Rec.G kY.out g1
    have oF:=G.trans l6.out g1
    clear kY l6 g1 HX
    have cB:=Rec.f2 (Rec.G R1.out (G.refl _))
    have eO:=cB.1
    have eT:=cB.2.1
    have gL:=cB.2.2.1
    have gM:=cB.2.2.2
    clear cB
    have hlt1:=R1.out.lt
    go_wp2_with fail
    refine Calls.mono (P:=Tryz.prog) (HY.out _) ?_
    rintro e2 w2 ⟨rfl,g2⟩
    by_cases nu:fex y<2047
    ·have HP:Hid (FinP (l.getD k (0,0))):=qg.out nu
     rw[decide_eq_true nu]
     clear nu qg kJ HY
     go_wp2_with fail
     refine⟨⟨k+1,hkn,rfl,fun j hj=> ?_,G.trans hG (G.trans oF g2)⟩,?_⟩
     ·by_cases hjk:j<k
      ·exact HF.out j hjk
      ·have:j=k:=by omega
       subst this
       exact HP.out
     ·show n-((k:Int)+1).toNat<n-(k:Int).toNat
      omega
    ·have yK:Hid (¬ FinP (l.getD k (0,0))):=kJ.out nu
     rw[decide_eq_false nu]
     clear nu qg kJ HY
     have bX:=Rec.f2 (Rec.G RF.out (G.trans oF g2))
     have gV:=bX.1
     have gW:=bX.2.1
     have gX:=bX.2.2.1
     have gY:=bX.2.2.2
     clear bX
     go_wp2_with fail
     clear eO eT gL gM
     go_wp2_with fail
     have hT:Hid (Rec (World.setCell (World.setCell w2 ⟨w.heap.size,0,none⟩ (.int .i64 4)) ⟨w.heap.size,1,none⟩ (.int .i64 k)) (w.heap.size) [.int .i64 4,.int .i64 k]):=Rec.set2 (Rec.G RF.out (G.trans oF g2))
     have g9:=Rec.g2 (b:=w.heap.size) (u:= .int .i64 4) (v:= .int .i64 k) (G.trans (G.trans g0 hG) (G.trans oF g2)) (by omega)
     generalize (World.setCell (World.setCell w2 ⟨w.heap.size,0,none⟩ (.int .i64 4)) ⟨w.heap.size,1,none⟩ (.int .i64 k))=w9 at *
     have hF:=Rec.f2 (Rec.G hT.out ((G.refl _)))
     have bR:=hF.1
     have bU:=hF.2.1
     have bV:=hF.2.2.1
     have bW:=hF.2.2.2
     clear hF
     have iG:=Rec.lt hT.out
     refine bodyPost_ret (v:= .agg #[.int .i64 4,.int .i64 k]) (by simp [results,Tryz.results38,go_sem, *]) rfl ?_
     exact⟨4,k,rfl,g9,.inr ⟨k,rfl,rfl,by rw[← HN.out];exact hkn,yK.out,HF.out⟩⟩
   ·have yK:Hid (¬ FinP (l.getD k (0,0))):=lI.out hfx
    rw[decide_eq_false hfx] at HX
    clear hfx qg lI kJ HY
    have kY:Hid (Rec (wr.alloc (.cells #[.float .f64 x,.float .f64 y] 32)) wr.heap.size [.float .f64 x,.float .f64 y]):=Rec.new2 wr _ _ _
    have l6:Hid (G wr (wr.alloc (.cells #[.float .f64 x,.float .f64 y] 32))):=(G.refl wr).alloc _
    go_wp2_with fail
    refine Calls.mono (P:=Tryz.prog) (HX.out _) ?_
    rintro e1 w1 ⟨rfl,g1⟩
    have oF:=G.trans l6.out g1
    clear kY l6 g1 HX
    have bX:=Rec.f2 (Rec.G RF.out (oF))
    have gV:=bX.1
    have gW:=bX.2.1
    have gX:=bX.2.2.1
    have gY:=bX.2.2.2
    clear bX
    go_wp2_with fail
    go_wp2_with fail
    have hT:Hid (Rec (World.setCell (World.setCell w1 ⟨w.heap.size,0,none⟩ (.int .i64 4)) ⟨w.heap.size,1,none⟩ (.int .i64 k)) (w.heap.size) [.int .i64 4,.int .i64 k]):=Rec.set2 (Rec.G RF.out (oF))
    have g9:=Rec.g2 (b:=w.heap.size) (u:= .int .i64 4) (v:= .int .i64 k) (G.trans (G.trans g0 hG) oF) (by omega)
    generalize (World.setCell (World.setCell w1 ⟨w.heap.size,0,none⟩ (.int .i64 4)) ⟨w.heap.size,1,none⟩ (.int .i64 k))=w9 at *
    have hF:=Rec.f2 (Rec.G hT.out ((G.refl _)))
    have bR:=hF.1
    have bU:=hF.2.1
    have bV:=hF.2.2.1
    have bW:=hF.2.2.2
    clear hF
    have iG:=Rec.lt hT.out
    refine bodyPost_ret (v:= .agg #[.int .i64 4,.int .i64 k]) (by simp [results,Tryz.results38,go_sem, *]) rfl ?_
    exact⟨4,k,rfl,g9,.inr ⟨k,rfl,rfl,by rw[← HN.out];exact hkn,yK.out,HF.out⟩⟩
  ·have hkn:k=n:=by omega
   subst hkn
   have bX:=Rec.f2 (Rec.G RF.out (G.refl _))
   have gV:=bX.1
   have gW:=bX.2.1
   have gX:=bX.2.2.1
   have gY:=bX.2.2.2
   clear bX
   go_wp2_with fail
   clear gV gW gX gY
   go_wp2_with fail
   have hT:Hid (Rec (World.setCell (World.setCell wr ⟨w.heap.size,0,none⟩ (.int .i64 0)) ⟨w.heap.size,1,none⟩ (.int .i64 0)) (w.heap.size) [.int .i64 0,.int .i64 0]):=Rec.set2 (Rec.G RF.out (G.refl _))
   have g9:=Rec.g2 (b:=w.heap.size) (u:= .int .i64 0) (v:= .int .i64 0) (G.trans g0 hG) (by omega)
   generalize (World.setCell (World.setCell wr ⟨w.heap.size,0,none⟩ (.int .i64 0)) ⟨w.heap.size,1,none⟩ (.int .i64 0))=w9 at *
   have hF:=Rec.f2 (Rec.G hT.out ((G.refl _)))
   have bR:=hF.1
   have bU:=hF.2.1
   have bV:=hF.2.2.1
   have bW:=hF.2.2.2
   clear hF
   have iG:=Rec.lt hT.out
   refine bodyPost_ret (v:= .agg #[.int .i64 0,.int .i64 0]) (by simp [results,Tryz.results38,go_sem, *]) rfl ?_
   exact⟨0,0,rfl,g9,.inl ⟨rfl,rfl,fun i hi=>HF.out i (by rw[HN.out];exact hi)⟩⟩
end Go.Proofs.YtdidnnbpdcanlaaGreatDoor.EN
namespace Go.Proofs.YtdidnnbpdcanlaaGreatDoor.EN
open Go.ChangeShapes Go.WideShapes Go.ChangeAt Go.RowKit
attribute [local go_sem] q0d
def FinL (l:List (Nat×Nat)):Prop:=∀ i,i<l.length→FinP (l.getD i (0,0))
/-- The fault of a list of points. -/
def q27 (l:List (Nat×Nat)) (c a:Int):Prop:=(c=0∧a=0∧FinL l)∨(∃ i:Nat,c=4∧a=i∧i<l.length∧¬ FinP (l.getD i (0,0))∧∀ j,j<i→FinP (l.getD j (0,0)))
def q7l (w:World) (l:List (Nat×Nat)) (z:Int) (e:Ending) (w':World):Prop:=∃ c a t:Int,e= .returned (.tuple #[.int .i64 t,.agg #[.int .i64 c,.int .i64 a]])∧G w w'∧q27 l c a∧t=if c=0 then z else 0
theorem qbU (w:World) (ax ay bx b2 cx cy:Nat) (hT:Tab w) (h1:ax<2^64) (h2:ay<2^64) (h3:bx<2^64) (h4:b2<2^64) (h5:cx<2^64) (h6:cy<2^64):
  Calls Tryz.prog 26 #[.agg #[.float .f64 ax,.float .f64 ay],.agg #[.float .f64 bx,.float .f64 b2],.agg #[.float .f64 cx,.float .f64 cy]] w (q7l w [(ax,ay),(bx,b2),(cx,cy)] (q2O ax ay bx b2 cx cy).sign):=by
 have HU:Hid (∀ w1 v,PSl w1 v [(ax,ay),(bx,b2),(cx,cy)]→_):=fun w1 v h=>q2x w1 v _ h (fun i hi=>by
  rcases i with _|_|_|i
  ·exact⟨h1,h2⟩
  ·exact⟨h3,h4⟩
  ·exact⟨h5,h6⟩
  ·simp at hi;omega) (by simp)
 have HT:Hid (FinL [(ax,ay),(bx,b2),(cx,cy)]→∀ w1,G w w1→_):=fun f w1 g=>q9E w1 ax ay bx b2 cx cy (hT.G g) h1 h2 h3 h4 h5 h6 (f 0 (by simp)).1 (f 0 (by simp)).2 (f 1 (by simp)).1 (f 1 (by simp)).2 (f 2 (by simp)).1 (f 2 (by simp)).2
 clear hT h1 h2 h3 h4 h5 h6
 generalize (q2O ax ay bx b2 cx cy).sign=z at *
 go_enter Tryz.func26,Tryz.ntmps26
 go_wp2_with fail
 obtain⟨w0,aL,g0,hz0,R0,R1,R2,R3⟩:=q9J w [.float .f64 ax,.float .f64 ay] [.float .f64 bx,.float .f64 b2] [.float .f64 cx,.float .f64 cy] [.int .i64 0,.int .i64 0] 32 32 32 26
 rw[aL]
 clear aL
 have pq:Rec (w0.alloc (.cells #[.float .f64 ax,.float .f64 ay,.float .f64 bx,.float .f64 b2,.float .f64 cx,.float .f64 cy] 32)) w0.heap.size _:=Rec.new6 w0 _ _ _ _ _ _ _
 have uE:G w0 (w0.alloc (.cells #[.float .f64 ax,.float .f64 ay,.float .f64 bx,.float .f64 b2,.float .f64 cx,.float .f64 cy] 32)):=(G.refl w0).alloc _
 rw[show w.heap.size+1+1+1+1=w0.heap.size from by omega]
 have hP:PSl (w0.alloc (.cells #[.float .f64 ax,.float .f64 ay,.float .f64 bx,.float .f64 b2,.float .f64 cx,.float .f64 cy] 32)) (.slice (some ⟨w0.heap.size,0,none⟩) 3 3) [(ax,ay),(bx,b2),(cx,cy)]:=by
  obtain⟨k0,k1,k2,k3,k4,k5,-⟩:=pq.f6
  refine⟨_,_,rfl,Nat.le_refl _,fun i hi=>⟨_,_,rfl,pq.lt,?_⟩⟩
  rcases i with _|_|_|i
  ·exact⟨k0,k1⟩
  ·exact⟨k2,k3⟩
  ·exact⟨k4,k5⟩
  ·simp at hi;omega
 refine Calls.mono (P:=Tryz.prog) (HU.out _ _ hP) ?_
 intro e1 w1 hs
 obtain⟨c,a,rfl,g1,hv⟩:=hs
 have HV:Hid (q27 [(ax,ay),(bx,b2),(cx,cy)] c a):=hv
 have fG:=G.trans uE g1
 clear hv g1 pq uE hP HU
 have S0:Hid (Rec _ _ _):=Rec.G R0.out (fG)
 have S1:Hid (Rec _ _ _):=Rec.G R1.out (fG)
 have S2:Hid (Rec _ _ _):=Rec.G R2.out (fG)
 have S3:Hid (Rec _ _ _):=Rec.G R3.out (fG)
 have mI:=G.trans g0 fG
 have hlt1:=S3.out.lt
 clear R0 R1 R2 R3 g0 hz0 fG
 by_cases hc:c=0
 ·subst hc
  have qF:G w1 (w1.alloc (.cells #[.int .i64 0,.int .i64 a] 26)):=(G.refl w1).alloc _
  have HF:Hid (FinL [(ax,ay),(bx,b2),(cx,cy)]∧a=0):=by
   rcases HV.out with ⟨-,h1,h2⟩|⟨i,h1,-⟩
   ·exact⟨h2,h1⟩
   ·omega
  have rZ:=Rec.f2 (Rec.G S0.out (qF))
  have zB:=rZ.1
  have zC:=rZ.2.1
  have zD:=rZ.2.2.1
  have zF:=rZ.2.2.2
  clear rZ
  have si:=Rec.f2 (Rec.G S1.out (qF))
  have zG:=si.1
  have zH:=si.2.1
  have zI:=si.2.2.1
  have zJ:=si.2.2.2
  clear si
  have sj:=Rec.f2 (Rec.G S2.out (qF))
  have zK:=sj.1
  have zL:=sj.2.1
  have zM:=sj.2.2.1
  have zN:=sj.2.2.2
  clear sj
  go_wp2_with fail
  have L8:=G.trans mI qF
  refine Calls.mono (P:=Tryz.prog) (HT.out HF.out.1 _ L8) ?_
  rintro e2 w2 ⟨rfl,g2⟩
  have uM:Hid (G w w2):=G.trans L8 g2
  have HG2:Hid (G w1 w2):=G.trans qF g2
  clear zB zC zD zF zG zH zI zJ zK zL zM zN L8 qF g2 mI
  have jW:=Rec.f2 (Rec.G S3.out (HG2.out))
  have zO:=jW.1
  have zP:=jW.2.1
  have zQ:=jW.2.2.1
  have zR:=jW.2.2.2
  clear jW
  go_wp2_with fail
  go_wp2_with fail
  have hT:Hid (Rec (World.setCell (World.setCell w2 ⟨w.heap.size+3,0,none⟩ (.int .i64 0)) ⟨w.heap.size+3,1,none⟩ (.int .i64 0)) (w.heap.size+3) [.int .i64 0,.int .i64 0]):=Rec.set2 (Rec.G S3.out (HG2.out))
  have g9:=Rec.g2 (b:=w.heap.size+3) (u:= .int .i64 0) (v:= .int .i64 0) (uM.out) (by omega)
  generalize (World.setCell (World.setCell w2 ⟨w.heap.size+3,0,none⟩ (.int .i64 0)) ⟨w.heap.size+3,1,none⟩ (.int .i64 0))=w9 at *
  have hF:=Rec.f2 (Rec.G hT.out ((G.refl _)))
  have bR:=hF.1
  have bU:=hF.2.1
  have bV:=hF.2.2.1
  have bW:=hF.2.2.2
  clear hF
  refine bodyPost_ret (v:= .tuple #[.int .i64 z,.agg #[.int .i64 0,.int .i64 0]]) (by simp [results,Tryz.results26,go_sem, *]) rfl ?_
  exact⟨0,0,z,rfl,g9,.inl ⟨rfl,rfl,HF.out.1⟩,rfl⟩
 ·have hcf:(c==0)=false:=by simpa using hc
  have jW:=Rec.f2 (Rec.G S3.out (G.refl _))
  have zO:=jW.1
  have zP:=jW.2.1
  have zQ:=jW.2.2.1
  have zR:=jW.2.2.2
  clear jW
  go_wp2_with fail
  go_region
  go_wp2_with fail
  have hT:Hid (Rec (World.setCell (World.setCell w1 ⟨w.heap.size+3,0,none⟩ (.int .i64 c)) ⟨w.heap.size+3,1,none⟩ (.int .i64 a)) (w.heap.size+3) [.int .i64 c,.int .i64 a]):=Rec.set2 (Rec.G S3.out (G.refl _))
  have g9:=Rec.g2 (b:=w.heap.size+3) (u:= .int .i64 c) (v:= .int .i64 a) (mI) (by omega)
  generalize (World.setCell (World.setCell w1 ⟨w.heap.size+3,0,none⟩ (.int .i64 c)) ⟨w.heap.size+3,1,none⟩ (.int .i64 a))=w9 at *
  have hF:=Rec.f2 (Rec.G hT.out ((G.refl _)))
  have bR:=hF.1
  have bU:=hF.2.1
  have bV:=hF.2.2.1
  have bW:=hF.2.2.2
  clear hF
  have iG:=Rec.lt hT.out
  refine bodyPost_ret (v:= .tuple #[.int .i64 0,.agg #[.int .i64 c,.int .i64 a]]) (by simp [results,Tryz.results26,go_sem, *]) rfl ?_
  exact⟨c,a,0,rfl,(g9.alloc _).drew,HV.out,by rw[if_neg hc]⟩
end Go.Proofs.YtdidnnbpdcanlaaGreatDoor.EN
namespace Go.Proofs.YtdidnnbpdcanlaaGreatDoor.EN
open Go.ChangeShapes Go.WideShapes Go.ChangeAt Go.RowKit
theorem q5n (w:World) (v:Value) (px py:Rat) (K:Nat) (hK1:1≤K) (hK:K≤10000) (hT:Tab w) (hv:StepIs w v px py) (b1:QB px K) (b2:QB py K):
  Calls Tryz.prog 63 #[v] w (RetQ w (px*px+py*py)):=by
 obtain⟨t1,a1,k1,c1,a2,k2,c2,t2,a3,k3,c3,a4,k4,c4,rfl,hp1,hp2⟩:=hv
 have lL:Hid (∀ w1,G w w1→_):=fun w1 g=>q36 w1 _ _ px px K (by omega) hK1 (hT.G g) (hp1.G g) (hp1.G g) b1 b1
 have jI:Hid (∀ w1,G w w1→_):=fun w1 g=>q36 w1 _ _ py py K (by omega) hK1 (hT.G g) (hp2.G g) (hp2.G g) b2 b2
 have HS:Hid (∀ w1 v u,G w w1→QIs w1 v (px*px)→QIs w1 u (py*py)→_):=fun w1 v u g k1 k2=>q8c w1 v u _ _ (K+K) (by omega) (by omega) (hT.G g) k1 k2 (q23 b1 b1) (q23 b2 b2)
 clear hT hp1 hp2 b1 b2
 generalize px*px+py*py=r at *
 generalize px*px=p at *
 generalize py*py=q at *
 go_enter Tryz.func63,Tryz.ntmps63
 go_wp2_with fail
 obtain⟨w0,aL,g0,hz0,R0,R1⟩:=q2s w [.bool t1,.slice a1 k1 c1,.slice a2 k2 c2,.bool t2,.slice a3 k3 c3,.slice a4 k4 c4] [.bool false,.slice none 0 0,.slice none 0 0] 95 93
 rw[aL]
 clear aL
 refine region_each 11 1 #[true,true,true,true,true,true,true,true,true,true,true,false] [.is (.pointer (some ⟨w.heap.size,0,none⟩)),.is (.agg #[.bool t1,.slice a1 k1 c1,.slice a2 k2 c2]),.is (.pointer (some ⟨w.heap.size,0,none⟩)),.is (.agg #[.bool t1,.slice a1 k1 c1,.slice a2 k2 c2]),.any (fun v w'=>QIs w' v (p)),.is (.pointer (some ⟨w.heap.size,3,none⟩)),.is (.agg #[.bool t2,.slice a3 k3 c3,.slice a4 k4 c4]),.is (.pointer (some ⟨w.heap.size,3,none⟩)),.is (.agg #[.bool t2,.slice a3 k3 c3,.slice a4 k4 c4]),.any (fun v w'=>QIs w' v (q)),.any (fun v w'=>QIs w' v (r))] [some 3,some 4,some 5,some 6,some 7,some 8,some 9,some 10,some 11,some 12,some 13] (by kernel_rfl) (by kernel_rfl) rfl (by kernel_rfl) (by repeat (first|exact trivial|refine⟨fun _ _ _ g h=>by first|exact h.G g|exact fun w3 g3=>h w3 (G.trans g g3),?_⟩)) (by kernel_rfl) (by kernel_rfl) ?_
 refine Letters.is ?_
 refine Letters.is ?_
 refine Letters.is ?_
 refine Letters.is ?_
 refine Letters.any fun v4=> ?_
 refine Letters.is ?_
 refine Letters.is ?_
 refine Letters.is ?_
 refine Letters.is ?_
 refine Letters.any fun v9=> ?_
 refine Letters.any fun v10=> ?_
 refine Letters.nil ?_
 intro A hA
 simp only[q0N,Act.put,List.setIfInBounds_toArray,List.set_cons_zero,List.set_cons_succ] at hA
 subst hA
 refine⟨?_,?_⟩
 ·skip
  refine Eaches.cons rfl ?dW (Eaches.cons rfl ?eU (Eaches.cons rfl ?fB (Eaches.cons rfl ?dZ (Eaches.cons rfl ?iA (Eaches.cons rfl ?iB (Eaches.cons rfl ?iC (Eaches.cons rfl ?gT (Eaches.cons rfl ?iD (Eaches.cons rfl ?lK (Eaches.cons rfl ?ja (Eaches.nil)))))))))))
  case dW|fB|iB|gT=>
   intro W hW hD K hK
   clear hD
   go_simp
   exact hK.out _ _ ⟨_,rfl,G.refl _,rfl⟩
  case eU|dZ|iC|iD=>
   intro W hW hD K hK
   clear hD
   have hR0:=Rec.f6 (Rec.G R0.out hW)
   have ed:=hR0.1
   have ek:=hR0.2.1
   have qN:=hR0.2.2.1
   have Dq:=hR0.2.2.2.1
   have Dr:=hR0.2.2.2.2.1
   have Dt:=hR0.2.2.2.2.2.1
   clear hR0
   go_simp
   exact hK.out _ _ ⟨_,rfl,G.refl _,rfl⟩
  ·intro W hW hD K hK
   clear hD
   go_simp
   go_wp2_with (go_at_call 64;refine Calls.mono (P:=Tryz.prog) (lL.out W (G.trans g0 hW)) ?_;intro e w9 hs;obtain⟨u9,rfl,g9,aH⟩:=hs)
   exact hK.out _ _ ⟨_,rfl,g9,aH⟩
  ·intro W hW hD K hK
   clear hD
   go_simp
   go_wp2_with (go_at_call 64;refine Calls.mono (P:=Tryz.prog) (jI.out W (G.trans g0 hW)) ?_;intro e w9 hs;obtain⟨u9,rfl,g9,aH⟩:=hs)
   exact hK.out _ _ ⟨_,rfl,g9,aH⟩
  ·intro W hW hD K hK
   have h4:=Deps.get (v:=v4) 4 hD rfl rfl (by kernel_rfl)
   have h9:=Deps.get (v:=v9) 9 hD rfl rfl (by kernel_rfl)
   clear hD
   go_simp
   go_wp2_with (go_at_call 66;refine Calls.mono (P:=Tryz.prog) (HS.out W v4 v9 (G.trans g0 hW) h4 h9) ?_;intro e w9 hs;obtain⟨u9,rfl,g9,aH⟩:=hs)
   exact hK.out _ _ ⟨_,rfl,g9,aH⟩
 intro w1 g1 hH
 have h10:=Helds.get (v:=v10) 10 hH rfl rfl
 clear hH
 clear lL jI HS
 have RR:Hid (Rec w1 (w.heap.size+1) [.bool false,.slice none 0 0,.slice none 0 0]):=Rec.G R1.out g1
 obtain⟨a8,k8,c8,a9,k9,c9,rfl,fA,dh⟩:=h10
 have kE:Hid (Num w1 (.slice a8 k8 c8) (r).num.natAbs):=fA
 have fJ:Hid (Num w1 (.slice a9 k9 c9) (q1J (r).den)):=dh
 obtain⟨t9,cK⟩:∃ t,t=decide ((r).num<0):=⟨_,rfl⟩
 rw[← cK]
 have gH:Hid (t9=decide ((r).num<0)):=cK
 clear fA dh cK
 have hS:=Rec.f3 (Rec.G RR.out (G.refl _))
 have bJ:=hS.1
 have bK:=hS.2.1
 have bL:=hS.2.2.1
 have bM:=hS.2.2.2.1
 have dM:=hS.2.2.2.2.1
 have dN:=hS.2.2.2.2.2
 clear hS
 refine wpAny_ready (rs:=[11]) (by kernel_rfl) (by simp) ?_
 refine AllReady.cons rfl (fun K hK=> ?_) AllReady.nil
 go_simp
 refine hK _ _ ?_
 clear hK K bJ bK bL bM dM dN
 refine wpAny_done (by kernel_rfl) ?_ _
 have dO:Num _ _ _:=q0l (u1:= .bool t9) (u2:= .slice a8 k8 c8) (u3:= .slice a9 k9 c9) kE.out (Rec.G RR.out (G.refl _)) trivial trivial trivial
 have bH:Num _ _ _:=q0l (u1:= .bool t9) (u2:= .slice a8 k8 c8) (u3:= .slice a9 k9 c9) fJ.out (Rec.G RR.out (G.refl _)) trivial trivial trivial
 go_wp2_with fail
 have hT:Hid (Rec (World.setCell (World.setCell (World.setCell w1 ⟨w.heap.size+1,0,none⟩ (.bool t9)) ⟨w.heap.size+1,1,none⟩ (.slice a8 k8 c8)) ⟨w.heap.size+1,2,none⟩ (.slice a9 k9 c9)) (w.heap.size+1) [.bool t9,.slice a8 k8 c8,.slice a9 k9 c9]):=Rec.set3 (Rec.G RR.out (G.refl _))
 have g9:=Rec.g3 (b:=w.heap.size+1) (u:= .bool t9) (v:= .slice a8 k8 c8) (x:= .slice a9 k9 c9) (G.trans g0 g1) (by omega)
 generalize (World.setCell (World.setCell (World.setCell w1 ⟨w.heap.size+1,0,none⟩ (.bool t9)) ⟨w.heap.size+1,1,none⟩ (.slice a8 k8 c8)) ⟨w.heap.size+1,2,none⟩ (.slice a9 k9 c9))=w9 at *
 have hF:=Rec.f3 (Rec.G hT.out ((G.refl _)))
 have bR:=hF.1
 have bU:=hF.2.1
 have bV:=hF.2.2.1
 have bW:=hF.2.2.2.1
 have jg:=hF.2.2.2.2.1
 have jh:=hF.2.2.2.2.2
 clear hF
 refine bodyPost_ret (v:= .agg #[.bool t9,.slice a8 k8 c8,.slice a9 k9 c9]) (by simp [results,Tryz.results63,go_sem, *]) rfl ?_
 exact⟨_,rfl,g9,a8,k8,c8,a9,k9,c9,by rw[← gH.out],dO,bH⟩
theorem q7p:∃ D G:Nat,G≤2560∧0<D∧D<2^G∧∀ a b:Int,Uz a*Uz b=mkRat (a*b) D:=by
 obtain⟨E,hE⟩:∃ E:Nat,E=1074:=⟨_,rfl⟩
 refine⟨2^E*2^E,2*E+1,by omega,Nat.mul_pos (Nat.two_pow_pos _) (Nat.two_pow_pos _),?_,fun a b=>by unfold Uz;rw[← hE,Rat.mkRat_mul_mkRat]⟩
 rw[← Nat.pow_add]
 exact Nat.pow_lt_pow_right (by omega) (by omega)
theorem q0e {a b:Int} {F:Nat} (h1:a.natAbs<2^F) (h2:b.natAbs<2^F):(a*b).natAbs<2^(F+F):=by
 rw[Int.natAbs_mul,Nat.pow_add]
 exact Nat.mul_lt_mul'' h1 h2
theorem q1D {a b:Int} {F:Nat} (h1:a.natAbs<2^F) (h2:b.natAbs<2^F):(a+b).natAbs<2^(F+1):=by
 have:=Int.natAbs_add_le a b
 rw[Nat.pow_succ]
 omega
theorem q1k {a b:Int} {F:Nat} (h1:a.natAbs<2^F) (h2:b.natAbs<2^F):(a-b).natAbs<2^(F+1):=by
 have:=Int.natAbs_sub_le a b
 rw[Nat.pow_succ]
 omega
/-- The circle's sign, in units. -/
def q7n (a b c d e f:Int):Int:=(a*a+b*b)*(c*f-d*e)+(c*c+d*d)*(e*b-f*a)+(e*e+f*f)*(a*d-b*c)
theorem q6J (a b c d e f:Int) {F:Nat} (hF:F≤2100) (ha:a.natAbs<2^F) (hb:b.natAbs<2^F) (hc:c.natAbs<2^F) (hd:d.natAbs<2^F) (he:e.natAbs<2^F) (hf:f.natAbs<2^F):
  QB (Uz a*Uz a+Uz b*Uz b) 80∧QB (Uz c*Uz c+Uz d*Uz d) 80∧QB (Uz e*Uz e+Uz f*Uz f) 80∧QB (Uz c*Uz f-Uz d*Uz e) 80∧QB (Uz e*Uz b-Uz f*Uz a) 80∧QB (Uz a*Uz d-Uz b*Uz c) 80∧
  QB ((Uz a*Uz a+Uz b*Uz b)*(Uz c*Uz f-Uz d*Uz e)) 160∧QB ((Uz c*Uz c+Uz d*Uz d)*(Uz e*Uz b-Uz f*Uz a)) 160∧QB ((Uz e*Uz e+Uz f*Uz f)*(Uz a*Uz d-Uz b*Uz c)) 160∧
  QB ((Uz a*Uz a+Uz b*Uz b)*(Uz c*Uz f-Uz d*Uz e)+(Uz c*Uz c+Uz d*Uz d)*(Uz e*Uz b-Uz f*Uz a)) 160∧
  ((Uz a*Uz a+Uz b*Uz b)*(Uz c*Uz f-Uz d*Uz e)+(Uz c*Uz c+Uz d*Uz d)*(Uz e*Uz b-Uz f*Uz a)+(Uz e*Uz e+Uz f*Uz f)*(Uz a*Uz d-Uz b*Uz c)).num.sign=(q7n a b c d e f).sign:=by
 obtain⟨D,E,hE,hD,Fa,hm⟩:=q7p
 have hD2:0<D*D:=Nat.mul_pos hD hD
 simp only[hm,q4j hD,q5w hD]
 have n1:=q1D (q0e ha ha) (q0e hb hb)
 have n2:=q1D (q0e hc hc) (q0e hd hd)
 have n3:=q1D (q0e he he) (q0e hf hf)
 have x1:=q1k (q0e hc hf) (q0e hd he)
 have x2:=q1k (q0e he hb) (q0e hf ha)
 have x3:=q1k (q0e ha hd) (q0e hb hc)
 unfold q7n
 generalize a*a+b*b=N1 at *
 generalize c*c+d*d=N2 at *
 generalize e*e+f*f=N3 at *
 generalize c*f-d*e=X1 at *
 generalize e*b-f*a=X2 at *
 generalize a*d-b*c=X3 at *
 obtain⟨M,hM⟩:∃ M:Nat,M=F+F+1:=⟨_,rfl⟩
 rw[← hM] at n1 n2 n3 x1 x2 x3
 obtain⟨K,hK⟩:∃ K:Nat,K=80:=⟨_,rfl⟩
 obtain⟨L,hL⟩:∃ L:Nat,L=160:=⟨_,rfl⟩
 rw[← hK,← hL]
 have q1:∀ z:Int,z.natAbs<2^M→QB (mkRat z D) K:=fun z hz=>
  q6r hD rfl (Nat.lt_of_lt_of_le hz (Nat.pow_le_pow_right (by omega) (by omega))) (Nat.lt_of_lt_of_le Fa (Nat.pow_le_pow_right (by omega) (by omega)))
 have ZY:D*D<2^(64*L):=by
  have h1:D*D<2^E*2^E:=Nat.mul_lt_mul'' Fa Fa
  rw[← Nat.pow_add] at h1
  exact Nat.lt_of_lt_of_le h1 (Nat.pow_le_pow_right (by omega) (by omega))
 have q2:∀ z:Int,z.natAbs<2^(M+M+1)→QB (mkRat z (D*D)) L:=fun z hz=>
  q6r hD2 rfl (Nat.lt_of_lt_of_le hz (Nat.pow_le_pow_right (by omega) (by omega))) ZY
 have up:∀ z:Int,z.natAbs<2^(M+M)→z.natAbs<2^(M+M+1):=fun z hz=>Nat.lt_of_lt_of_le hz (Nat.pow_le_pow_right (by omega) (by omega))
 simp only[Rat.mkRat_mul_mkRat,q4j hD2]
 exact⟨q1 _ n1,q1 _ n2,q1 _ n3,q1 _ x1,q1 _ x2,q1 _ x3,q2 _ (up _ (q0e n1 x1)),q2 _ (up _ (q0e n2 x2)),q2 _ (up _ (q0e n3 x3)),q2 _ (q1D (q0e n1 x1) (q0e n2 x2)),q3i hD2 _⟩
theorem q2w (x y:Nat):(fz x-fz y).natAbs<2^2100:=by
 have h1:=q33 x
 have h2:=q33 y
 obtain⟨F,hF⟩:∃ F:Nat,F=2099:=⟨_,rfl⟩
 rw[show 2100=F+1 from by omega,Nat.pow_succ]
 rw[← hF] at h1 h2
 have:=Int.natAbs_sub_le (fz x) (fz y)
 omega
theorem StepIs.set6 {w:World} {b:Nat} {v:Value} {p q:Rat} {x0 x1 x2 x3 x4 x5:Value} (h:StepIs w v p q) (r:Rec w b [.bool false,.slice none 0 0,.slice none 0 0,.bool false,.slice none 0 0,.slice none 0 0]):StepIs (set6 w b x0 x1 x2 x3 x4 x5) v p q:=by
 have hnu:∀ x∈[Value.bool false,.slice none 0 0,.slice none 0 0,.bool false,.slice none 0 0,.slice none 0 0],noU x:=by
  intro x hx m e
  subst e
  simp at hx
 obtain⟨t,a,k,c,a',k',c',t2,b',j,d,b2,j',d',e,h1,h2⟩:=h
 exact⟨t,a,k,c,a',k',c',t2,b',j,d,b2,j',d',e,q5T h1 r hnu,q5T h2 r hnu⟩
/-- A step that lies in a block of its own. -/
def StepAt (w:World) (b:Nat) (p q:Rat):Prop:=∃ t a k c a' k' c' t2 b1 j d b' j' d',Rec w b [.bool t,.slice a k c,.slice a' k' c',.bool t2,.slice b1 j d,.slice b' j' d']∧StepIs w (.agg #[.bool t,.slice a k c,.slice a' k' c',.bool t2,.slice b1 j d,.slice b' j' d']) p q
theorem StepAt.G {w w':World} {b:Nat} {p q:Rat} (h:StepAt w b p q) (g:Go.Proofs.YtdidnnbpdcanlaaGreatDoor.G w w'):StepAt w' b p q:=by
 obtain⟨t,a,k,c,a',k',c',t2,b1,j,d,b',j',d',h1,h2⟩:=h
 exact⟨t,a,k,c,a',k',c',t2,b1,j,d,b',j',d',Rec.G h1 g,h2.G g⟩
attribute [local go_sem] q0d
/-- How the way from a over b to p turns. -/
def q4R (a b p:Nat×Nat):Int:=(q2O a.1 a.2 b.1 b.2 p.1 p.2).sign
/-- The last points of a way (the last one ahead) that stay where p comes next. -/
def popR (p:Nat×Nat):List (Nat×Nat)→List (Nat×Nat)
 |b::a::r=>if q4R a b p=1 then b::a::r else popR p (a::r)
 |r=>r
def q0v (r l:List (Nat×Nat)):List (Nat×Nat):=l.foldl (fun r p=>p::popR p r) r
/-- A point of two finite floats. -/
def PtOk (p:Nat×Nat):Prop:=p.1<2^64∧p.2<2^64∧FinP p
theorem q5V {p:Nat×Nat}:∀ {r:List (Nat×Nat)},∀ q∈popR p r,q∈r
 |[],q,h=>h
 |[_],q,h=>h
 |b::a::r,q,h=>by
  unfold popR at h
  split at h
  ·exact h
  ·exact List.mem_cons_of_mem _ (q5V q h)
theorem q5M {p:Nat×Nat}:∀ {r:List (Nat×Nat)},(popR p r).length≤r.length
 |[]=>Nat.le_refl _
 |[_]=>Nat.le_refl _
 |b::a::r=>by
  unfold popR
  split
  ·exact Nat.le_refl _
  ·exact Nat.le_succ_of_le (q5M (r:=a::r))
theorem qaG {p a b:Nat×Nat} {r:List (Nat×Nat)} (h:q4R a b p≠1):popR p (b::a::r)=popR p (a::r):=by
 rw[popR,if_neg h]
theorem q7Y {p a b:Nat×Nat} {r:List (Nat×Nat)} (h:q4R a b p=1):popR p (b::a::r)=b::a::r:=by
 rw[popR,if_pos h]
theorem q4e (b:Nat×Nat) (r:List (Nat×Nat)):(b::r).reverse.getD r.length (0,0)=b:=by
 rw[List.reverse_cons,List.getD_eq_getElem?_getD,List.getElem?_append_right (by simp)]
 simp
theorem q7v (b a:Nat×Nat) (r:List (Nat×Nat)):(b::a::r).reverse.getD r.length (0,0)=a:=by
 rw[List.reverse_cons,List.getD_eq_getElem?_getD,List.getElem?_append_left (by simp),← List.getD_eq_getElem?_getD,q4e]
theorem q9a (b:Nat×Nat) (r:List (Nat×Nat)):(b::r).reverse.take r.length=r.reverse:=by
 rw[List.reverse_cons]
 exact List.take_left' (by simp)
def lenS:Value→Nat
 | .slice _ n _=>n
 |_=>0
def qc9 (w:World) (base:Nat) (l:List (Nat×Nat)) (e:Ending) (w':World):Prop:=∃ v,e= .returned v∧G w w'∧POwn w' base v l
set_option maxHeartbeats 2000000 in
set_option maxRecDepth 10000 in
theorem q5J (w:World) (v:Value) (l:List (Nat×Nat)) (hT:Tab w) (h:PSl w v l) (hl:∀ p∈l,PtOk p) (hn:l.length≤1000000):Calls Tryz.prog 43 #[v] w (qc9 w w.heap.size (q0v [] l).reverse):=by
 obtain⟨pa,ca,rfl,-,hrow⟩:=h
 have HR:Hid _:=hrow
 have HL:Hid _:=hl
 have HT:Hid (Tab w):=hT
 obtain⟨n,hn'⟩:∃ n,n=l.length:=⟨_,rfl⟩
 rw[← hn'] at hn ⊢
 have HN:Hid (n=l.length):=hn'
 clear hrow hl hn' hT
 go_enter Tryz.func43,Tryz.ntmps43
 go_wp2_with fail
 go_loopw [3,8] (fun vl vk wr=>∃ (k:Nat) (r:List (Nat×Nat)),k≤n∧vk= .int .i64 k∧G w wr∧POwn wr w.heap.size vl r.reverse∧r=q0v [] (l.take k)∧r.length≤k∧(∀ q∈r,PtOk q)) (fun _ vk _=>n-(intOf vk).toNat)
 case atStart=>exact⟨0,[],Nat.zero_le _,rfl,G.refl _,q2m _ _,rfl,Nat.le_refl _,fun q hq=>by simp at hq⟩
 case round=>
  obtain⟨k,r,hk,rfl,hG,hO,hr,hrl,hrq⟩:=hrel
  have KV:Hid _:=hr
  have Bv:Hid _:=hrq
  obtain⟨ga,gc,rfl⟩:=hO.len
  have HO:Hid (POwn wr w.heap.size (.slice ga r.reverse.length gc) r.reverse):=hO
  clear hr hrq hO
  by_cases hkn:k<n
  ·obtain⟨b1,o1,rfl,hB1,hx',hy'⟩:=HR.out k (by rw[← HN.out];exact hkn)
   have hx:=hG.cell (p:=⟨b1,o1+k*2,none⟩) hB1 hx'
   have hy:=hG.cell (p:=⟨b1,o1+k*2+1,none⟩) hB1 hy'
   have hpo:Hid (PtOk (l.getD k (0,0))):=HL.out _ (by
    have hkl:k<l.length:=by rw[← HN.out];exact hkn
    rw[List.getD_eq_getElem?_getD,List.getElem?_eq_getElem hkl]
    exact List.getElem_mem hkl)
   have htk:Hid (l.take (k+1)=l.take k++[l.getD k (0,0)]):=by
    show _=_
    have hkl:k<l.length:=by rw[← HN.out];exact hkn
    rw[List.take_succ_eq_append_getElem hkl,List.getD_eq_getElem?_getD,List.getElem?_eq_getElem hkl]
    rfl
   generalize l.getD k (0,0)=p at *
   obtain⟨px,py⟩:=p
   dsimp only at hx hy
   have RP:Hid (Rec (wr.alloc (.cells #[.float .f64 px,.float .f64 py] 32)) wr.heap.size [.float .f64 px,.float .f64 py]):=Rec.new2 wr _ _ _
   have hG1:G wr (wr.alloc (.cells #[.float .f64 px,.float .f64 py] 32)):=(G.refl wr).alloc _
   have lJ:Hid (POwn _ w.heap.size _ r.reverse):=HO.out.G hG1
   have hsz:=hG.size
   clear hx' hy' hB1
   go_wp2_with fail
   have tJ:Hid (G w (wr.alloc (.cells #[.float .f64 px,.float .f64 py] 32))):=G.trans hG hG1
   generalize wr.alloc (.cells #[.float .f64 px,.float .f64 py] 32)=w0 at *
   have hb0:=RP.out.lt
   have hbp:w.heap.size≤wr.heap.size:=hG.size
   generalize wr.heap.size=bp at *
   clear hG hsz HO hx hy hG1
   go_loopw [3] (fun vl wr2=>∃ r':List (Nat×Nat),POwn wr2 w.heap.size vl r'.reverse∧G w wr2∧Rec wr2 bp [.float .f64 px,.float .f64 py]∧popR (px,py) r'=popR (px,py) r∧r'.length≤r.length∧(∀ q∈r',q∈r)) (fun vl _=>lenS vl)
   case atStart=>exact⟨r,lJ.out,tJ.out,RP.out,rfl,Nat.le_refl _,fun q hq=>hq⟩
   case round=>
    obtain⟨r',hO2,hG2,G9,hp2,hl2,hq2⟩:=hrel
    have jS:Hid _:=hp2
    have Bw:Hid _:=hq2
    obtain⟨SV,KW,rfl⟩:=hO2.len
    have dL:Hid (POwn wr w.heap.size (.slice SV r'.reverse.length KW) r'.reverse):=hO2
    have KX:Hid _:=G9
    have hb2:=G9.lt
    clear hp2 hq2 hO2
    by_cases hle:r'.length≤1
    ·have ql:Hid (popR (px,py) r=r'):=by
      show _=_
      rw[← jS.out]
      rcases r' with _|⟨b,_|⟨a,rs⟩⟩
      ·rfl
      ·rfl
      ·simp at hle
     obtain⟨m,hm⟩:∃ m,m=r'.length:=⟨_,rfl⟩
     have HM:Hid (m=r'.length):=hm
     rw[List.length_reverse,← hm] at dL ⊢
     rw[← hm] at hle hl2
     clear hm
     have hm:decide ((1:Int)<(m:Int))=false:=decide_eq_false (by omega)
     go_wp2_with fail
     refine q07 (by kernel_rfl) (by kernel_rfl) ?_
     intro W hW
     clear hW
     repeat (go_big_quiet_step (fail))
     refine wpQuiet_nil ?_
     intro w1 hw1
     have EC:=Rec.G KX.out hw1
     obtain⟨q0,q1,-⟩:=EC.f2
     have hO4:=(dL.out.G hw1).G ((G.refl w1).alloc (.cells #[.float .f64 px,.float .f64 py] 32))
     obtain⟨n0,n1,-⟩:=(Rec.new2 w1 (.float .f64 px) (.float .f64 py) 32).f2
     have hs1:=hw1.size
     have hs2:=hG2.size
     obtain⟨v',w2,hrun,ic,lg⟩:=q1f _ w.heap.size _ r'.reverse [(px,py)] hO4 (by simp;omega) ⟨w1.heap.size,0,none⟩ 1 1 rfl (fun j u hu=>by
      rcases j with _|_|j
      ·cases hu;exact n0
      ·cases hu;exact n1
      ·simp [pl] at hu) (by have:=HM.out;simp;omega) (by simp)
     have hg3:Hid (G w w2):=lg.g w (Nat.le_refl _) (G.trans (G.trans hG2 hw1) ((G.refl w1).alloc _))
     obtain⟨a5,c5,rfl⟩:=ic.len
     rw[show (r'.reverse++[(px,py)]).length=m+1 from by rw[HM.out];simp] at hrun ic
     have fF:Hid _:=ic
     clear EC hO4 n0 n1 lg ic
     go_wp2_with (at_builtin;refine q1W _ rfl (.tmp 37) (.tmp 39) 22 rfl _ _ rfl rfl hrun ?_)
     have hpk:(px,py)::r'=q0v [] (l.take (k+1)):=by
      rw[htk.out]
      unfold q0v
      rw[List.foldl_append]
      show _=(px,py)::popR (px,py) (q0v [] (l.take k))
      rw[← KV.out,ql.out]
     have hlr:((px,py)::r').length≤k+1:=by have:=HM.out;simp;omega
     have hrr:POwn w2 w.heap.size (.slice a5 (m+1) c5) ((px,py)::r').reverse:=by rw[List.reverse_cons];exact fF.out
     clear hrun fF
     refine⟨⟨k+1,(px,py)::r',hkn,rfl,hg3.out,hrr,hpk,hlr,fun q hq=> ?_⟩,?_⟩
     ·rcases List.mem_cons.1 hq with rfl|hq
      ·exact hpo.out
      ·exact Bv.out q (Bw.out q hq)
     ·show n-((k:Int)+1).toNat<n-(k:Int).toNat
      omega
    ·obtain⟨b,a,rs,rfl⟩:∃ b a rs,r'=b::a::rs:=by
      rcases r' with _|⟨b,_|⟨a,rs⟩⟩
      ·simp at hle
      ·simp at hle
      ·exact⟨b,a,rs,rfl⟩
     obtain⟨m,hm⟩:∃ m,m=rs.length:=⟨_,rfl⟩
     have HM:Hid (m+2=(b::a::rs).length):=by show _=_;rw[hm];rfl
     rw[show (b::a::rs).reverse.length=m+2 from by rw[List.length_reverse];exact HM.out.symm] at dL ⊢
     have hl3:m+2≤r.length:=by rw[HM.out];exact hl2
     rcases dL.out with ⟨e,-⟩|⟨g,cap,cur,e,h1,h2,h3,h4,h5,h6,h7⟩
     ·cases e
     injection e with e1 e2 e3
     subst e1 e3
     obtain⟨Ga,Gb⟩:=POwn.cellAt h2 h6 (i:=m) (by simp;omega)
     obtain⟨Gc,Gd⟩:=POwn.cellAt h2 h6 (i:=m+1) (by simp;omega)
     rw[hm,q7v,← hm] at Ga Gb
     rw[show m+1=(a::rs).length from by rw[hm];rfl,q4e,show (a::rs).length=m+1 from by rw[hm];rfl] at Gc Gd
     have hgl:=q1l h2
     obtain⟨NT,NU,KY⟩:=Bv.out a (Bw.out a (by simp))
     obtain⟨NV,NW,KZ⟩:=Bv.out b (Bw.out b (by simp))
     have xk:Hid (∀ p,_):=fun p=>q9E (gw wr p) a.1 a.2 b.1 b.2 px py (HT.out.G (G.trans hG2 (gw_G wr p))) NT NU NV NW hpo.out.1 hpo.out.2.1 KY.1 KY.2 KZ.1 KZ.2 hpo.out.2.2.1 hpo.out.2.2.2
     obtain⟨t,ht⟩:∃ t,t=q4R a b (px,py):=⟨_,rfl⟩
     rw[show (q2O a.1 a.2 b.1 b.2 px py).sign=t from ht.symm] at xk
     have Gf:Hid _:=ht
     have NY:=G9.f2.1
     have ED:=G9.f2.2.1
     have hcap:m+2≤KW:=by have:=HM.out;rw[List.length_reverse] at h3;omega
     clear hm hle h1 h2 h3 h4 h5 h6 h7 e2 NT NU KY NV NW KZ ht hl2
     have hm1:decide ((1:Int)<(m:Int)+2)=true:=decide_eq_true (by omega)
     have hmb:m≤1000000:=by omega
     obtain⟨a1,a2⟩:=a
     obtain⟨b5,b6⟩:=b
     dsimp only at Ga Gb Gc Gd xk
     go_wp2_with fail
     refine q07 (by kernel_rfl) (by kernel_rfl) ?_
     intro W hW
     have q1:=q04 (w:=W) (a:=⟨g,m*2,none⟩) (x:= .float .f64 a1) (by rw[hW];exact hgl) (by rw[hW];exact Ga)
     have q2:=q04 (w:=W) (a:=⟨g,m*2+1,none⟩) (x:= .float .f64 a2) (by rw[hW];exact hgl) (by rw[hW];exact Gb)
     have q3:=q04 (w:=W) (a:=⟨g,(m+1)*2,none⟩) (x:= .float .f64 b5) (by rw[hW];exact hgl) (by rw[hW];exact Gc)
     have q4:=q04 (w:=W) (a:=⟨g,(m+1)*2+1,none⟩) (x:= .float .f64 b6) (by rw[hW];exact hgl) (by rw[hW];exact Gd)
     have q5:=q04 (w:=W) (a:=⟨bp,0,none⟩) (x:= .float .f64 px) (by rw[hW];exact hb2) (by rw[hW];exact NY)
     have q6:=q04 (w:=W) (a:=⟨bp,1,none⟩) (x:= .float .f64 py) (by rw[hW];exact hb2) (by rw[hW];exact ED)
     have L6:=xk
     rw[← hW] at L6
     clear hW xk Ga Gb Gc Gd NY ED
     repeat (go_big_quiet_step (first|(go_at_call 61;exact q1g (L6.out _))))
     refine wpQuiet_nil ?_
     clear q1 q2 q3 q4 q5 q6 L6
     intro w1 hw1
     by_cases ht1:t=1
     ·subst ht1
      have ql:Hid (popR (px,py) r=(b5,b6)::(a1,a2)::rs):=by
       show _=_
       rw[← jS.out]
       exact q7Y Gf.out.symm
      clear Gf hm1
      generalize (b5,b6)::(a1,a2)::rs=r' at jS Bw HM dL ql
      generalize m+2=m at HM dL hl3 hcap ⊢
      have hl2:=hl3
      have EC:=Rec.G KX.out hw1
      obtain⟨q0,q1,-⟩:=EC.f2
      have hO4:=(dL.out.G hw1).G ((G.refl w1).alloc (.cells #[.float .f64 px,.float .f64 py] 32))
      obtain⟨n0,n1,-⟩:=(Rec.new2 w1 (.float .f64 px) (.float .f64 py) 32).f2
      have hs1:=hw1.size
      have hs2:=hG2.size
      obtain⟨v',w2,hrun,ic,lg⟩:=q1f _ w.heap.size _ r'.reverse [(px,py)] hO4 (by simp;omega) ⟨w1.heap.size,0,none⟩ 1 1 rfl (fun j u hu=>by
       rcases j with _|_|j
       ·cases hu;exact n0
       ·cases hu;exact n1
       ·simp [pl] at hu) (by have:=HM.out;simp;omega) (by simp)
      have hg3:Hid (G w w2):=lg.g w (Nat.le_refl _) (G.trans (G.trans hG2 hw1) ((G.refl w1).alloc _))
      obtain⟨a5,c5,rfl⟩:=ic.len
      rw[show (r'.reverse++[(px,py)]).length=m+1 from by rw[HM.out];simp] at hrun ic
      have fF:Hid _:=ic
      clear EC hO4 n0 n1 lg ic
      go_wp2_with (at_builtin;refine q1W _ rfl (.tmp 37) (.tmp 39) 22 rfl _ _ rfl rfl hrun ?_)
      have hpk:(px,py)::r'=q0v [] (l.take (k+1)):=by
       rw[htk.out]
       unfold q0v
       rw[List.foldl_append]
       show _=(px,py)::popR (px,py) (q0v [] (l.take k))
       rw[← KV.out,ql.out]
      have hlr:((px,py)::r').length≤k+1:=by have:=HM.out;simp;omega
      have hrr:POwn w2 w.heap.size (.slice a5 (m+1) c5) ((px,py)::r').reverse:=by rw[List.reverse_cons];exact fF.out
      clear hrun fF
      refine⟨⟨k+1,(px,py)::r',hkn,rfl,hg3.out,hrr,hpk,hlr,fun q hq=> ?_⟩,?_⟩
      ·rcases List.mem_cons.1 hq with rfl|hq
       ·exact hpo.out
       ·exact Bv.out q (Bw.out q hq)
      ·show n-((k:Int)+1).toNat<n-(k:Int).toNat
       omega
     ·have ql:Hid (popR (px,py) ((a1,a2)::rs)=popR (px,py) r):=by
       show _=_
       rw[← jS.out]
       exact(qaG (by rw[← Gf.out];exact ht1)).symm
      have htb:(t != 1)=true:=by simpa using ht1
      have tu:Hid (POwn w1 w.heap.size (.slice (some ⟨g,0,none⟩) (m+1) KW) ((a1,a2)::rs).reverse):=by
       have h:=(dL.out.G hw1).cut (k:=((a1,a2)::rs).length) (by simp)
       rw[q9a] at h
       have hm:=HM.out
       rw[show ((a1,a2)::rs).length=m+1 from by simp at hm ⊢;omega] at h
       exact h
      have Er:Hid (∀ q∈(a1,a2)::rs,q∈r):=fun q hq=>Bw.out q (List.mem_cons_of_mem _ hq)
      have SX:Hid (((a1,a2)::rs).length≤r.length):=by
       have hm:=HM.out
       show _≤_
       simp at hm ⊢
       omega
      have hg2:=G.trans hG2 hw1
      have Bv:=Rec.G KX.out hw1
      clear ht1 Gf hm1
      go_wp2_with fail
      refine⟨⟨(a1,a2)::rs,tu.out,hg2,Bv,ql.out,SX.out,Er.out⟩,?_⟩
      show m+1<m+2
      omega
  ·obtain rfl:k=n:=by omega
   have HF:Hid (r=q0v [] l):=by
    show r=_
    rw[KV.out,HN.out,List.take_length]
   clear hkn
   go_wp2_with fail
   go_ret
   exact⟨_,rfl,hG,by rw[← HF.out];exact HO.out⟩
end Go.Proofs.YtdidnnbpdcanlaaGreatDoor.EN
namespace Go.Proofs.YtdidnnbpdcanlaaGreatDoor.Hull
/-- Twice the area of three points. -/
def ori (a b c:Int×Int):Int:=(b.1-a.1)*(c.2-a.2)-(b.2-a.2)*(c.1-a.1)
/-- The order of the corners. -/
def lt (a b:Int×Int):Prop:=a.1<b.1∨(a.1=b.1∧a.2<b.2)
theorem q7G {X k Y:Int} (hk:0<k) (e:X*k=Y) (hY:0<Y):0<X:=by
 rcases Int.lt_trichotomy X 0 with h|h|h
 ·have:X*k<0:=Int.mul_neg_of_neg_of_pos h hk
  omega
 ·subst h;omega
 ·exact h
theorem qaq {X k Y:Int} (hk:0<k) (e:X*k=Y) (hY:0≤Y):0≤X:=by
 rcases Int.lt_or_le X 0 with h|h
 ·have:X*k<0:=Int.mul_neg_of_neg_of_pos h hk
  omega
 ·exact h
/-- The plane pushed aside, so that the order is that of the first coordinate. -/
def push (M:Int) (a:Int×Int):Int×Int:=(M*a.1+a.2,a.2)
theorem q0Q (M:Int) (a b c:Int×Int):ori (push M a) (push M b) (push M c)=M*ori a b c:=by
 unfold ori push
 grind
theorem q1r {M:Int} {a b:Int×Int} (h0:0<M) (hM:(a.2-b.2)<M) (h:lt a b):(push M a).1<(push M b).1:=by
 show M*a.1+a.2<M*b.1+b.2
 rcases h with h|⟨h1,h2⟩
 ·have:=Int.mul_le_mul_of_nonneg_left (show a.1+1≤b.1 from h) (show 0≤M by omega)
  rw[Int.mul_add,Int.mul_one] at this
  omega
 ·rw[h1];omega
/-- Before, or the same. -/
def le (a b:Int×Int):Prop:=lt a b∨a=b
theorem q53 {M:Int} {a b:Int×Int} (h0:0<M) (hM:(a.2-b.2)<M) (h:le a b):(push M a).1≤(push M b).1:=by
 rcases h with h|rfl
 ·exact Int.le_of_lt (q1r h0 hM h)
 ·exact Int.le_refl _
theorem qbS (a b:Int×Int):lt a b∨a=b∨lt b a:=by
 obtain⟨a1,a2⟩:=a
 obtain⟨b1,b2⟩:=b
 unfold lt
 simp only[Prod.mk.injEq]
 omega
theorem lt_irrefl {a:Int×Int} (h:lt a a):False:=by unfold lt at h;omega
theorem lt_trans {a b c:Int×Int} (h:lt a b) (k:lt b c):lt a c:=by unfold lt at *;omega
theorem q1X {a b:Int×Int} (h:lt a b) (k:lt b a):False:=lt_irrefl (lt_trans h k)
theorem qc0 {a b c:Int×Int} (h:le a b) (k:lt b c):lt a c:=by
 rcases h with h|rfl
 ·exact lt_trans h k
 ·exact k
theorem le_of_not {a b:Int×Int} (h:¬ lt a b):le b a:=by
 rcases qbS a b with k|k|k
 ·exact absurd k h
 ·exact Or.inr k.symm
 ·exact Or.inl k
theorem q60 {M X:Int} (h0:0<M) (h:0<M*X):0<X:=q7G h0 (Int.mul_comm X M) h
theorem q7I {M X:Int} (h0:0<M) (h:0≤M*X):0≤X:=qaq h0 (Int.mul_comm X M) h
theorem x1 {a b c p:Int×Int} (h1:a.1<b.1) (h2:b.1<c.1) (h3:c.1<p.1) (k1:0<ori a b c) (k2:0<ori b c p):0<ori a b p:=by
 refine q7G (k:=c.1-b.1) (Y:=ori a b c*(p.1-b.1)+ori b c p*(b.1-a.1)) (by omega) (by unfold ori;grind) ?_
 have:=Int.mul_pos k1 (show 0<p.1-b.1 by omega)
 have:=Int.mul_pos k2 (show 0<b.1-a.1 by omega)
 omega
theorem x2 {z t q p:Int×Int} (h1:z.1<t.1) (h2:q.1<t.1) (h3:t.1<p.1) (k1:0≤ori z t q) (k2:0<ori z t p):0<ori t p q:=by
 refine q7G (k:=t.1-z.1) (Y:=ori z t q*(p.1-t.1)+ori z t p*(t.1-q.1)) (by omega) (by unfold ori;grind) ?_
 have:=Int.mul_nonneg k1 (show 0≤p.1-t.1 by omega)
 have:=Int.mul_pos k2 (show 0<t.1-q.1 by omega)
 omega
theorem x3 {a b p q:Int×Int} (h1:a.1<b.1) (h2:b.1<p.1) (_h3:b.1≤q.1) (h4:q.1≤p.1) (k1:ori a b p≤0) (k2:0≤ori b p q):0≤ori a p q:=by
 refine qaq (k:=p.1-b.1) (Y:=ori b p q*(p.1-a.1)+(-ori a b p)*(p.1-q.1)) (by omega) (by unfold ori;grind) ?_
 have:=Int.mul_nonneg k2 (show 0≤p.1-a.1 by omega)
 have:=Int.mul_nonneg (show 0≤ -ori a b p by omega) (show 0≤p.1-q.1 by omega)
 omega
theorem x4 {a b p q:Int×Int} (h1:a.1<b.1) (h2:b.1<p.1) (h3:a.1≤q.1) (k1:ori a b p≤0) (k2:0≤ori a b q):0≤ori a p q:=by
 refine qaq (k:=b.1-a.1) (Y:=ori a b q*(p.1-a.1)+(-ori a b p)*(q.1-a.1)) (by omega) (by unfold ori;grind) ?_
 have:=Int.mul_nonneg k2 (show 0≤p.1-a.1 by omega)
 have:=Int.mul_nonneg (show 0≤ -ori a b p by omega) (show 0≤q.1-a.1 by omega)
 omega
/-- Pushed far enough for four points. -/
theorem far (a b c d:Int×Int):∃ M:Int,0<M∧∀ u∈[a,b,c,d],∀ v∈[a,b,c,d],u.2-v.2<M:=by
 refine⟨1+a.2.natAbs+b.2.natAbs+c.2.natAbs+d.2.natAbs+a.2.natAbs+b.2.natAbs+c.2.natAbs+d.2.natAbs,by omega,fun u hu v hv=> ?_⟩
 simp only[List.mem_cons,List.not_mem_nil,or_false] at hu hv
 rcases hu with rfl|rfl|rfl|rfl<;>rcases hv with rfl|rfl|rfl|rfl<;>omega
theorem y1 {a b c p:Int×Int} (h1:lt a b) (h2:lt b c) (h3:lt c p) (k1:0<ori a b c) (k2:0<ori b c p):0<ori a b p:=by
 obtain⟨M,h0,hM⟩:=far a b c p
 refine q60 h0 ?_
 rw[← q0Q]
 refine x1 (c:=push M c) (q1r h0 (hM _ (by simp) _ (by simp)) h1) (q1r h0 (hM _ (by simp) _ (by simp)) h2) (q1r h0 (hM _ (by simp) _ (by simp)) h3) ?_ ?_
 ·rw[q0Q];exact Int.mul_pos h0 k1
 ·rw[q0Q];exact Int.mul_pos h0 k2
theorem y2 {z t q p:Int×Int} (h1:lt z t) (h2:lt q t) (h3:lt t p) (k1:0≤ori z t q) (k2:0<ori z t p):0<ori t p q:=by
 obtain⟨M,h0,hM⟩:=far z t q p
 refine q60 h0 ?_
 rw[← q0Q]
 refine x2 (z:=push M z) (q1r h0 (hM _ (by simp) _ (by simp)) h1) (q1r h0 (hM _ (by simp) _ (by simp)) h2) (q1r h0 (hM _ (by simp) _ (by simp)) h3) ?_ ?_
 ·rw[q0Q];exact Int.mul_nonneg (Int.le_of_lt h0) k1
 ·rw[q0Q];exact Int.mul_pos h0 k2
theorem y3 {a b p q:Int×Int} (h1:lt a b) (h2:lt b p) (h3:le b q) (h4:le q p) (k1:ori a b p≤0) (k2:0≤ori b p q):0≤ori a p q:=by
 obtain⟨M,h0,hM⟩:=far a b p q
 refine q7I h0 ?_
 rw[← q0Q]
 refine x3 (b:=push M b) (q1r h0 (hM _ (by simp) _ (by simp)) h1) (q1r h0 (hM _ (by simp) _ (by simp)) h2) (q53 h0 (hM _ (by simp) _ (by simp)) h3) (q53 h0 (hM _ (by simp) _ (by simp)) h4) ?_ ?_
 ·rw[q0Q];exact Int.mul_nonpos_of_nonneg_of_nonpos (Int.le_of_lt h0) k1
 ·rw[q0Q];exact Int.mul_nonneg (Int.le_of_lt h0) k2
theorem y4 {a b p q:Int×Int} (h1:lt a b) (h2:lt b p) (h3:le a q) (k1:ori a b p≤0) (k2:0≤ori a b q):0≤ori a p q:=by
 obtain⟨M,h0,hM⟩:=far a b p q
 refine q7I h0 ?_
 rw[← q0Q]
 refine x4 (b:=push M b) (q1r h0 (hM _ (by simp) _ (by simp)) h1) (q1r h0 (hM _ (by simp) _ (by simp)) h2) (q53 h0 (hM _ (by simp) _ (by simp)) h3) ?_ ?_
 ·rw[q0Q];exact Int.mul_nonpos_of_nonneg_of_nonpos (Int.le_of_lt h0) k1
 ·rw[q0Q];exact Int.mul_nonneg (Int.le_of_lt h0) k2
/-- The corners from which p can't be seen are let go. -/
def pop (p:Int×Int):List (Int×Int)→List (Int×Int)
 |b::a::r=>if 0<ori a b p then b::a::r else pop p (a::r)
 |r=>r
/-- No point of s lies to the right of the way from a to b; those on its line lie on it. -/
def Good (s:List (Int×Int)) (a b:Int×Int):Prop:=lt a b∧∀ q∈s,0≤ori a b q∧(ori a b q=0→le a q∧le q b)
/-- Corners, the last one first. -/
def q4t (s:List (Int×Int)):List (Int×Int)→Prop
 |b::a::r=>Good s a b∧q4t s (a::r)
 |_=>True
/-- What holds of the corners while p is looked at. -/
structure At (s:List (Int×Int)) (p:Int×Int) (t:Int×Int) (r:List (Int×Int)):Prop where
 mem:t∈s
 chain:q4t s (t::r)
 top:∀ q∈s,le t q→0≤ori t p q
 low:∀ q∈s,le ((t::r).getLast (by simp)) q
theorem q9w {s:List (Int×Int)} {p:Int×Int} (hp:∀ q∈s,lt q p):∀ {r:List (Int×Int)} {t:Int×Int},(∀ q∈r,q∈s)→At s p t r→
  ∃ t' r',pop p (t::r)=t'::r'∧(∀ q∈r',q∈s)∧At s p t' r'∧(∀ z Ac,r'=z::Ac→0<ori z t' p)∧(t'::r').getLast (by simp)=(t::r).getLast (by simp):=by
 intro r
 induction r with
 |nil=>intro t hr h;exact⟨t,[],rfl,hr,h,fun _ _ e=>(by cases e),rfl⟩
 |cons a r ih=>
  intro t hr h
  unfold pop
  by_cases ho:0<ori a t p
  ·rw[if_pos ho]
   refine⟨t,a::r,rfl,hr,h,fun z Ac e=> ?_,rfl⟩
   injection e with e1 e2
   rw[← e1];exact ho
  ·rw[if_neg ho]
   have hg:Good s a t:=h.chain.1
   have ha:a∈s:=hr a (by simp)
   have hlast:((t::a::r).getLast (by simp))=(a::r).getLast (by simp):=by rw[List.getLast_cons (by simp)]
   have htop:∀ q∈s,le a q→0≤ori a p q:=fun q hq hle=>by
    by_cases xx:lt q t
    ·exact y4 hg.1 (hp t h.mem) hle (by omega) (hg.2 q hq).1
    ·exact y3 hg.1 (hp t h.mem) (le_of_not xx) (Or.inl (hp q hq)) (by omega) (h.top q hq (le_of_not xx))
   obtain⟨t',r',e,k1,k2,k3,k4⟩:=ih (t:=a) (fun q hq=>hr q (by simp [hq])) ⟨ha,h.chain.2,htop,fun q hq=>by rw[← hlast];exact h.low q hq⟩
   exact⟨t',r',e,k1,k2,k3,by rw[k4,hlast]⟩
theorem q7r {s:List (Int×Int)} {p:Int×Int} (hp:∀ q∈s,lt q p):∀ {r:List (Int×Int)} {t:Int×Int},t∈s→(∀ q∈r,q∈s)→q4t s (t::r)→(∀ z Ac,r=z::Ac→0<ori z t p)→q4t (s++[p]) (t::r):=by
 intro r
 induction r with
 |nil=>intro t _ _ _ _;trivial
 |cons a r ih=>
  intro t ht hr h hz
  have h0:=hz a r rfl
  refine⟨⟨h.1.1,fun q hq=> ?_⟩,ih (hr a (by simp)) (fun q hq=>hr q (by simp [hq])) h.2 fun z Ac e=> ?_⟩
  ·rcases List.mem_append.1 hq with hq|hq
   ·exact h.1.2 q hq
   ·obtain rfl:=List.mem_singleton.1 hq
    exact⟨Int.le_of_lt h0,fun e=>by omega⟩
  ·subst e
   have hg:Good s z a:=h.2.1
   have hza:=hg.1
   have h1:=hg.2 t ht
   have h2:0<ori z a t:=by
    rcases Int.lt_or_eq_of_le h1.1 with k|k
    ·exact k
    ·rcases(h1.2 k.symm).2 with k2|k2
     ·exact(q1X k2 h.1.1).elim
     ·subst k2;exact(lt_irrefl h.1.1).elim
   exact y1 hza h.1.1 (hp t ht) h2 h0
theorem q8M (a p:Int×Int):ori a p p=0:=by unfold ori;grind
theorem q4k (a p:Int×Int):ori a p a=0:=by unfold ori;grind
/-- One more point. -/
theorem q9R {s:List (Int×Int)} {p t:Int×Int} {r:List (Int×Int)} (hp:∀ q∈s,lt q p) (hr:∀ q∈r,q∈s) (h:At s p t r):
  q4t (s++[p]) (p::pop p (t::r)):=by
 obtain⟨t',r',e,k1,k2,k3,k4⟩:=q9w hp hr h
 rw[e]
 refine⟨⟨hp _ k2.mem,fun q hq=> ?_⟩,q7r hp k2.mem k1 k2.chain k3⟩
 rcases List.mem_append.1 hq with hq|hq
 ·by_cases xx:lt q t'
  ·have h0:0<ori t' p q:=by
    match r',k1,k2,k3 with
    |[],k1,k2,k3=>
     have:=k2.low q hq
     simp only[List.getLast_singleton] at this
     rcases this with h|h
     ·exact(q1X h xx).elim
     ·subst h;exact(lt_irrefl xx).elim
    |z::Ac,k1,k2,k3=>
     have hg:Good s z t':=k2.chain.1
     exact y2 hg.1 xx (hp _ k2.mem) (hg.2 q hq).1 (k3 z Ac rfl)
   exact⟨Int.le_of_lt h0,fun e=>by omega⟩
  ·exact⟨k2.top q hq (le_of_not xx),fun _=>⟨le_of_not xx,Or.inl (hp q hq)⟩⟩
 ·obtain rfl:=List.mem_singleton.1 hq
  rw[q8M]
  exact⟨Int.le_refl _,fun _=>⟨Or.inl (hp _ k2.mem),Or.inr rfl⟩⟩
/-- All points, one behind the other. -/
def bent (r l:List (Int×Int)):List (Int×Int):=l.foldl (fun r p=>p::pop p r) r
structure Inv (s:List (Int×Int)) (t:Int×Int) (r:List (Int×Int)):Prop where
 mem:∀ q∈t::r,q∈s
 max:∀ q∈s,le q t
 chain:q4t s (t::r)
 low:∀ q∈s,le ((t::r).getLast (by simp)) q
theorem q8U {s:List (Int×Int)} {p t:Int×Int} {r:List (Int×Int)} (hp:∀ q∈s,lt q p) (h:Inv s t r):
  Inv (s++[p]) p (pop p (t::r))∧(p::pop p (t::r)).getLast (by simp)=(t::r).getLast (by simp):=by
 have hA:At s p t r:=⟨h.mem t (by simp),h.chain,fun q hq hle=>by
  rcases h.max q hq with k|k
  ·rcases hle with k2|k2
   ·exact(q1X k k2).elim
   ·subst k2;rw[q4k];exact Int.le_refl _
  ·subst k;rw[q4k];exact Int.le_refl _,h.low⟩
 have hr:∀ q∈r,q∈s:=fun q hq=>h.mem q (by simp [hq])
 have hc:=q9R hp hr hA
 obtain⟨t',r',e,k1,k2,k3,k4⟩:=q9w hp hr hA
 have hl:(p::pop p (t::r)).getLast (by simp)=(t::r).getLast (by simp):=by
  rw[← k4]
  simp only[e]
  rw[List.getLast_cons (by simp)]
 refine⟨⟨fun q hq=> ?_,fun q hq=> ?_,hc,fun q hq=> ?_⟩,hl⟩
 ·rw[e] at hq
  rcases List.mem_cons.1 hq with rfl|hq
  ·simp
  ·rcases List.mem_cons.1 hq with rfl|hq
   ·simp [k2.mem]
   ·simp [k1 q hq]
 ·rcases List.mem_append.1 hq with hq|hq
  ·exact Or.inl (hp q hq)
  ·exact Or.inr (List.mem_singleton.1 hq)
 ·rw[hl]
  rcases List.mem_append.1 hq with hq|hq
  ·exact h.low q hq
  ·obtain rfl:=List.mem_singleton.1 hq
   exact Or.inl (hp _ (h.mem _ (List.getLast_mem _)))
theorem q9e:∀ (l s:List (Int×Int)) (t:Int×Int) (r:List (Int×Int)),Inv s t r→l.Pairwise lt→(∀ q∈s,∀ p∈l,lt q p)→
  ∃ t' r',bent (t::r) l=t'::r'∧Inv (s++l) t' r'∧(t'::r').getLast (by simp)=(t::r).getLast (by simp):=by
 intro l
 induction l with
 |nil=>intro s t r h _ _;exact⟨t,r,rfl,by rw[List.append_nil];exact h,rfl⟩
 |cons p l ih=>
  intro s t r h hl hs
  obtain⟨k1,k2⟩:=q8U (fun q hq=>hs q hq p (by simp)) h
  obtain⟨hl1,hl2⟩:=List.pairwise_cons.1 hl
  obtain⟨t',r',e,m1,m2⟩:=ih (s++[p]) p _ k1 hl2 (fun q hq x hx=>by
   rcases List.mem_append.1 hq with hq|hq
   ·exact hs q hq x (by simp [hx])
   ·obtain rfl:=List.mem_singleton.1 hq
    exact hl1 x hx)
  refine⟨t',r',e,?_,by rw[m2,k2]⟩
  rw[List.append_assoc] at m1
  exact m1
/-- The corners below, of points in their order. -/
theorem q67 {p:Int×Int} {l:List (Int×Int)} (hl:(p::l).Pairwise lt):∃ t r,bent [] (p::l)=t::r∧Inv (p::l) t r∧(t::r).getLast (by simp)=p:=by
 obtain⟨hl1,hl2⟩:=List.pairwise_cons.1 hl
 obtain⟨t,r,e,m1,m2⟩:=q9e l [p] p [] ⟨fun q hq=>hq,fun q hq=>Or.inr (List.mem_singleton.1 hq),trivial,fun q hq=>Or.inr (List.mem_singleton.1 hq).symm⟩ hl2 (fun q hq x hx=>by
  obtain rfl:=List.mem_singleton.1 hq
  exact hl1 x hx)
 exact⟨t,r,e,m1,m2⟩
/-- How far, times itself. -/
def dist (a b:Int×Int):Int:=(b.1-a.1)*(b.1-a.1)+(b.2-a.2)*(b.2-a.2)
theorem qbx {u w:Int} (h0:0≤u) (h:u<w):u*u<w*w:=by
 have h1:=Int.mul_le_mul_of_nonneg_left (Int.le_of_lt h) h0
 have h2:=Int.mul_lt_mul_of_pos_right h (show 0<w by omega)
 omega
theorem qcb (u:Int):0≤u*u:=by
 rcases Int.le_total 0 u with h|h
 ·exact Int.mul_nonneg h h
 ·exact Int.mul_nonneg_of_nonpos_of_nonpos h h
theorem q79 {a b q:Int×Int} (h0:ori a b q=0) (h1:le a q) (h2:lt q b):dist a q<dist a b:=by
 obtain⟨a1,a2⟩:=a
 obtain⟨b1,b2⟩:=b
 obtain⟨q1,q2⟩:=q
 have hab:=qc0 h1 h2
 unfold ori at h0
 unfold dist
 unfold le at h1
 unfold lt at h1 h2 hab
 simp only[Prod.mk.injEq] at *
 obtain⟨u,hu⟩:∃ u,u=q1-a1:=⟨_,rfl⟩
 obtain⟨v,hv⟩:∃ v,v=q2-a2:=⟨_,rfl⟩
 obtain⟨w,hw⟩:∃ w,w=b1-a1:=⟨_,rfl⟩
 obtain⟨z,hz⟩:∃ z,z=b2-a2:=⟨_,rfl⟩
 rw[← hu,← hv,← hw,← hz]
 rw[← hu,← hv,← hw,← hz] at h0
 by_cases hw0:w=0
 ·have hu0:u=0:=by omega
  subst hw0 hu0
  have:=qbx (u:=v) (w:=z) (by omega) (by omega)
  omega
 ·have hwp:0<w:=by omega
  have Ue:u≤w:=by omega
  by_cases he:u=w
  ·subst he
   have:v=z:=by
    have h3:u*(v-z)=0:=by grind
    rcases Int.mul_eq_zero.1 h3 with h|h<;>omega
   omega
  ·have k1:=qbx (u:=u) (w:=w) (by omega) (by omega)
   have k2:=qcb z
   have k3:0<w*w:=Int.mul_pos hwp hwp
   have e:w*w*(u*u+v*v)=u*u*(w*w+z*z):=by
    have h4:w*v=z*u:=by omega
    have h5:w*v*(w*v)=z*u*(z*u):=by rw[h4]
    grind
   have k4:u*u*(w*w+z*z)<w*w*(w*w+z*z):=Int.mul_lt_mul_of_pos_right k1 (by omega)
   rw[← e] at k4
   exact Int.lt_of_mul_lt_mul_left k4 (by omega)
/-- The same way, turned round. -/
def neg (a:Int×Int):Int×Int:=(-a.1,-a.2)
theorem q7Q (a:Int×Int):neg (neg a)=a:=by unfold neg;simp
theorem q59 (a b c:Int×Int):ori (neg a) (neg b) (neg c)=ori a b c:=by unfold ori neg;grind
theorem q61 (a b:Int×Int):dist (neg a) (neg b)=dist a b:=by unfold dist neg;grind
theorem q7J (a b:Int×Int):lt (neg a) (neg b)↔lt b a:=by unfold lt neg;simp only;omega
theorem q3Y {a b:Int×Int} (h:neg a=neg b):a=b:=by rw[← q7Q a,h,q7Q]
theorem q4N (a b:Int×Int):le (neg a) (neg b)↔le b a:=by
 unfold le
 rw[q7J]
 exact⟨fun h=>h.imp_right fun h=>(q3Y h).symm,fun h=>h.imp_right fun h=>by rw[h]⟩
/-- A side of the figure: no point to its right, those on its line between its ends. -/
def Side (s:List (Int×Int)) (a b:Int×Int):Prop:=a≠b∧∀ q∈s,0≤ori a b q∧(ori a b q=0→(le a q∧le q b)∨(le b q∧le q a))
theorem Good.side {s:List (Int×Int)} {a b:Int×Int} (h:Good s a b):Side s a b:=⟨fun e=>by subst e;exact lt_irrefl h.1,fun q hq=>⟨(h.2 q hq).1,fun e=>Or.inl ((h.2 q hq).2 e)⟩⟩
theorem Good.side' {s:List (Int×Int)} {a b:Int×Int} (h:Good (s.map neg) (neg a) (neg b)):Side s a b:=by
 refine⟨fun e=>by subst e;exact lt_irrefl h.1,fun q hq=> ?_⟩
 obtain⟨h1,h2⟩:=h.2 (neg q) (List.mem_map_of_mem hq)
 rw[q59] at h1 h2
 rw[q4N,q4N] at h2
 exact⟨h1,fun e=>Or.inr ⟨(h2 e).2,(h2 e).1⟩⟩
theorem Side.near {s:List (Int×Int)} {a b q:Int×Int} (h:Side s a b) (hq:q∈s) (h0:ori a b q=0) (hne:q≠b):dist a q<dist a b:=by
 rcases(h.2 q hq).2 h0 with ⟨h1,h2⟩|⟨h1,h2⟩
 ·rcases h2 with h2|h2
  ·exact q79 h0 h1 h2
  ·exact absurd h2 hne
 ·rcases h1 with h1|h1
  ·rw[← q61 a q,← q61 a b]
   exact q79 (by rw[q59];exact h0) ((q4N _ _).2 h2) ((q7J _ _).2 h1)
  ·exact absurd h1.symm hne
theorem q8Q (a b c:Int×Int):ori a c b= -ori a b c:=by unfold ori;grind
/-- The other's way: of all points the one of which none lies to the right, the farthest of a line. -/
def step (a:Int×Int) (o:Option (Int×Int)) (q:Int×Int):Option (Int×Int):=
 if q=a then o else match o with
 |none=>some q
 |some n=>if ori a n q<0∨(ori a n q=0∧dist a n<dist a q) then some q else some n
theorem q7u {s:List (Int×Int)} {a b:Int×Int} (h:Side s a b):∀ (l:List (Int×Int)),(∀ q∈l,q∈s)→l.foldl (step a) (some b)=some b:=by
 intro l
 induction l with
 |nil=>intro _;rfl
 |cons q l ih=>
  intro hl
  have hq:=hl q (by simp)
  have e:step a (some b) q=some b:=by
   unfold step
   by_cases Og:q=a
   ·rw[if_pos Og]
   ·rw[if_neg Og]
    show (if _ then some q else some b)=some b
    rw[if_neg]
    rintro(h1|⟨h1,h2⟩)
    ·have:=(h.2 q hq).1;omega
    ·by_cases qw:q=b
     ·subst qw;omega
     ·have:=h.near hq h1 qw;omega
  rw[List.foldl_cons,e]
  exact ih fun q hq=>hl q (by simp [hq])
theorem q8f {s:List (Int×Int)} {a b:Int×Int} (h:Side s a b):∀ (l:List (Int×Int)) (o:Option (Int×Int)),(∀ q∈l,q∈s)→(∀ n,o=some n→n∈s)→b∈l→l.foldl (step a) o=some b:=by
 intro l
 induction l with
 |nil=>intro o _ _ hb;cases hb
 |cons q l ih=>
  intro o hl ho hb
  have hq:=hl q (by simp)
  rw[List.foldl_cons]
  by_cases qw:q=b
  ·subst qw
   have e:step a o q=some q:=by
    unfold step
    rw[if_neg (fun e=>h.1 e.symm)]
    match o,ho with
    |none,_=>rfl
    |some n,ho=>
     show (if _ then some q else some n)=some q
     by_cases hnq:n=q
     ·subst hnq;split<;>rfl
     ·rw[if_pos]
      have hn:=ho n rfl
      rw[q8Q]
      have h1:=(h.2 n hn).1
      rcases Int.lt_or_eq_of_le h1 with k|k
      ·exact Or.inl (by omega)
      ·exact Or.inr ⟨by omega,h.near hn k.symm hnq⟩
   rw[e]
   exact q7u h l fun q hq=>hl q (by simp [hq])
  ·refine ih _ (fun q hq=>hl q (by simp [hq])) (fun n e=> ?_) (by rcases List.mem_cons.1 hb with e|hb;exact absurd e.symm qw;exact hb)
   unfold step at e
   split at e
   ·exact ho n e
   ·split at e
    ·injection e with e;subst e;exact hq
    ·split at e
     ·injection e with e;subst e;exact hq
     ·injection e with e;subst e;exact ho _ rfl
/-- Sides, one behind the other. -/
def Path (s:List (Int×Int)):List (Int×Int)→Prop
 |x::y::r=>Side s x y∧Path s (y::r)
 |_=>True
theorem q47 {s:List (Int×Int)} {t:Int×Int} {B:List (Int×Int)} (hB:Path s (t::B)):∀ A,Path s (A++[t])→Path s (A++t::B)
 |[],_=>hB
 |[_],h=>⟨h.1,hB⟩
 |_::y::A,h=>⟨h.1,q47 hB (y::A) h.2⟩
theorem q2E {s u:List (Int×Int)} {f:Int×Int→Int×Int} (hf:∀ a b,Good u (f a) (f b)→Side s a b):∀ st:List (Int×Int),q4t u (st.map f)→Path s st.reverse
 |[],_=>trivial
 |[_],_=>trivial
 |b::a::r,h=>by
  have h1:=q2E hf (a::r) h.2
  rw[List.reverse_cons,List.reverse_cons,List.append_assoc]
  rw[List.reverse_cons] at h1
  exact q47 (t:=a) (B:=[b]) ⟨hf _ _ h.1,trivial⟩ r.reverse h1
theorem q3V {s:List (Int×Int)}:∀ st:List (Int×Int),q4t s st→st.Pairwise fun b a=>lt a b
 |[],_=>List.Pairwise.nil
 |[_],_=>by simp
 |b::a::r,h=>by
  have h1:=q3V (a::r) h.2
  refine List.pairwise_cons.2 ⟨fun x hx=> ?_,h1⟩
  rcases List.mem_cons.1 hx with rfl|hx
  ·exact h.1.1
  ·exact lt_trans ((List.pairwise_cons.1 h1).1 x hx) h.1.1
theorem q7t (p:Int×Int):∀ r:List (Int×Int),pop (neg p) (r.map neg)=(pop p r).map neg
 |[]=>rfl
 |[_]=>rfl
 |b::a::r=>by
  show (if 0<ori (neg a) (neg b) (neg p) then neg b::neg a::r.map neg else pop (neg p) ((a::r).map neg))=List.map neg (if 0<ori a b p then b::a::r else pop p (a::r))
  rw[q59]
  split
  ·rfl
  ·exact q7t p (a::r)
theorem q8F:∀ (l r:List (Int×Int)),bent (r.map neg) (l.map neg)=(bent r l).map neg:=by
 intro l
 induction l with
 |nil=>intro r;rfl
 |cons p l ih=>
  intro r
  show bent (neg p::pop (neg p) (r.map neg)) (l.map neg)=(bent (p::pop p r) l).map neg
  rw[q7t,← ih]
  rfl
/-- The corners of points that lie in their order. -/
def hull (s:List (Int×Int)):List (Int×Int):=(bent [] s).reverse.dropLast++(bent [] s.reverse).reverse.dropLast
theorem le_antisymm {a b:Int×Int} (h:le a b) (k:le b a):a=b:=by
 rcases h with h|h
 ·rcases k with k|k
  ·exact(q1X h k).elim
  ·exact k.symm
 ·exact h
theorem q3A {x:Int×Int}:∀ {l:List (Int×Int)} (h:l≠[]),l.getLast h=x→∃ m,l=m++[x]:=by
 intro l h e
 exact⟨l.dropLast,by rw[← e];exact(List.dropLast_concat_getLast h).symm⟩
/-- The corners are a way round: each to the next a side, from the first corner back to it, which comes but once. -/
theorem hull_sides {p:Int×Int} {l:List (Int×Int)} (hl:(p::l).Pairwise lt) (hne:l≠[]):
  ∃ H,hull (p::l)=p::H∧H≠[]∧p∉H∧(∀ q∈H,q∈p::l)∧Path (p::l) (p::H++[p]):=by
 obtain⟨s,hs⟩:∃ s,s=p::l:=⟨_,rfl⟩
 obtain⟨t,r,e,hI,hlast⟩:=q67 hl
 rw[← hs] at hl e hI ⊢
 have hmin:∀ q∈s,le p q:=fun q hq=>by rw[← hlast];exact hI.low q hq
 have hps:p∈s:=by rw[hs];simp
 -- the last one Oh the first one
 have htp:t≠p:=by
  rintro rfl
  match l,hne with
  |x::l,_=>
   have h1:lt t x:=by rw[hs] at hl;exact(List.pairwise_cons.1 hl).1 x (by simp)
   have h2:=hI.max x (by rw[hs];simp)
   rcases h2 with h2|h2
   ·exact q1X h1 h2
   ·subst h2;exact lt_irrefl h1
 have hr:r≠[]:=by rintro rfl;exact htp hlast
 obtain⟨r0,hr0⟩:=q3A (x:=p) hr (by rw[← hlast];exact(List.getLast_cons hr).symm)
 -- above
 have hrev:(s.reverse.map neg).Pairwise lt:=by
  rw[List.pairwise_map,List.pairwise_reverse]
  exact hl.imp fun h=>(q7J _ _).2 h
 obtain⟨m,l2,hm⟩:∃ m l2,s.reverse=m::l2:=by
  match h:s.reverse with
  |[]=>rw[List.reverse_eq_nil_iff] at h;rw[h] at hps;cases hps
  |m::l2=>exact⟨m,l2,rfl⟩
 have hb:bent [] (s.reverse.map neg)=(bent [] s.reverse).map neg:=q8F s.reverse []
 rw[hm,List.map_cons] at hrev
 obtain⟨t',r',e',hI',oU⟩:=q67 hrev
 rw[← List.map_cons,← hm,hb] at e'
 rw[← List.map_cons,← hm] at hI'
 obtain⟨t2,ru,e2⟩:∃ t2 ru,bent [] s.reverse=t2::ru:=by
  match h:bent [] s.reverse with
  |[]=>rw[h] at e';cases e'
  |a::b=>exact⟨a,b,rfl⟩
 rw[e2,List.map_cons] at e'
 injection e' with e3 e4
 subst e3 e4
 have hmem:∀ q,neg q∈s.reverse.map neg→q∈s:=fun q hq=>by
  obtain⟨x,hx,ex⟩:=List.mem_map.1 hq
  rw[← q3Y ex]
  exact List.mem_reverse.1 hx
 have ht2:t2∈s:=hmem t2 (hI'.mem _ (by simp))
 have Tm:t2=p:=by
  have h1:=hI'.max (neg p) (List.mem_map_of_mem (List.mem_reverse.2 hps))
  rw[q4N] at h1
  exact le_antisymm h1 (hmin t2 ht2)
 subst Tm
 have hms:m∈s:=List.mem_reverse.1 (by rw[hm];simp)
 have hmt:m=t:=by
  refine le_antisymm (hI.max m hms) ?_
  have h1:=hI'.low (neg t) (List.mem_map_of_mem (List.mem_reverse.2 (hI.mem t (by simp))))
  rw[oU,q4N] at h1
  exact h1
 subst hmt
 have Gr:ru≠[]:=by
  rintro rfl
  exact htp (q3Y oU).symm
 have hrl:ru.getLast Gr=m:=by
  have h1:(List.map neg ru).getLast (by simpa using Gr)=neg m:=by rw[← oU,List.getLast_cons (by simpa using Gr)]
  rw[List.getLast_map] at h1
  exact q3Y h1
 obtain⟨Lm,wm⟩:=q3A Gr hrl
 have hH:hull s=t2::(r0.reverse++m::Lm.reverse):=by
  unfold hull
  rw[e,e2,List.reverse_cons,List.dropLast_concat,List.reverse_cons,List.dropLast_concat,hr0,wm]
  simp
 have Oi:=q3V _ hI.chain
 have Tn:=q3V _ hI'.chain
 have P1:Path s (m::r).reverse:=q2E (f:=id) (u:=s) (fun a b h=>Good.side h) (m::r) (by rw[List.map_id];exact hI.chain)
 have P2:Path s (t2::ru).reverse:=q2E (f:=neg) (u:=s.reverse.map neg) (fun a b h=>by
  have k:=Good.side' h
  exact⟨k.1,fun q hq=>k.2 q (List.mem_reverse.2 hq)⟩) (t2::ru) hI'.chain
 refine⟨r0.reverse++m::Lm.reverse,hH,by simp,fun hp=> ?_,fun q hq=> ?_,?_⟩
 ·rcases List.mem_append.1 hp with hp|hp
  ·rw[hr0] at Oi
   have h1:=(List.pairwise_append.1 (List.pairwise_cons.1 Oi).2).2.2 t2 (List.mem_reverse.1 hp) t2 (by simp)
   exact lt_irrefl h1
  ·have h3:t2∈ru:=by
    rw[wm]
    rcases List.mem_cons.1 hp with hp|hp
    ·rw[hp];simp
    ·exact List.mem_append_left _ (List.mem_reverse.1 hp)
   have h1:=(List.pairwise_cons.1 Tn).1 (neg t2) (List.mem_map_of_mem h3)
   exact lt_irrefl h1
 ·rcases List.mem_append.1 hq with hq|hq
  ·exact hI.mem q (by rw[hr0];simp [List.mem_reverse.1 hq])
  ·have h3:q∈ru:=by
    rw[wm]
    rcases List.mem_cons.1 hq with hq|hq
    ·rw[hq];simp
    ·exact List.mem_append_left _ (List.mem_reverse.1 hq)
   exact hmem q (hI'.mem _ (List.mem_cons_of_mem _ (List.mem_map_of_mem h3)))
 ·have k1:Path s (t2::r0.reverse++[m]):=by
   rw[hr0] at P1
   simpa using P1
  have k2:Path s (m::(Lm.reverse++[t2])):=by
   rw[wm] at P2
   simpa using P2
  have k3:=q47 k2 (t2::r0.reverse) k1
  simpa using k3
theorem q88 {s:List (Int×Int)}:∀ (L:List (Int×Int)) (i:Nat) (h:i+1<L.length),Path s L→Side s (L[i]'(by omega)) L[i+1]
 |_::_::_,0,_,hp=>hp.1
 |_::y::r,i+1,h,hp=>q88 (y::r) i (by simpa using h) hp.2
/-- So the other's way goes from each corner to the next one. -/
theorem wrap_next {p:Int×Int} {s H:List (Int×Int)} (hs:∀ q∈p::H,q∈s) (hP:Path s (p::H++[p])) (i:Nat) (hi:i<(p::H).length):
  s.foldl (step ((p::H)[i]'hi)) none=some ((p::H++[p])[i+1]'(by simp at hi ⊢;omega)):=by
 have h:=q88 _ i (by simp at hi ⊢;omega) hP
 have e:(p::H++[p])[i]'(by simp at hi ⊢;omega)=(p::H)[i]'hi:=List.getElem_append_left hi
 rw[e] at h
 refine q8f h s none (fun q hq=>hq) (fun n e=>by cases e) ?_
 have hm:(p::H++[p])[i+1]'(by simp at hi ⊢;omega)∈p::H++[p]:=List.getElem_mem _
 rcases List.mem_append.1 hm with hm|hm
 ·exact hs _ hm
 ·rw[List.mem_singleton.1 hm];exact hs p (by simp)
/-- Points in their order are told by which they are. -/
theorem same_sorted:∀ (l m:List (Int×Int)),l.Pairwise lt→m.Pairwise lt→(∀ q,q∈l↔q∈m)→l=m:=by
 intro l
 induction l with
 |nil=>
  intro m _ _ h
  match m with
  |[]=>rfl
  |x::m=>exact absurd ((h x).2 (by simp)) (by simp)
 |cons a l ih=>
  intro m hl hm h
  match m with
  |[]=>exact absurd ((h a).1 (by simp)) (by simp)
  |b::m=>
   obtain⟨l1,l2⟩:=List.pairwise_cons.1 hl
   obtain⟨m1,m2⟩:=List.pairwise_cons.1 hm
   have hab:a=b:=by
    rcases List.mem_cons.1 ((h a).1 (by simp)) with e|e
    ·exact e
    ·rcases List.mem_cons.1 ((h b).2 (by simp)) with e2|e2
     ·exact e2.symm
     ·exact(q1X (m1 a e) (l1 b e2)).elim
   subst hab
   rw[ih m l2 m2 fun q=>⟨fun hq=> ?_,fun hq=> ?_⟩]
   ·rcases List.mem_cons.1 ((h q).1 (by simp [hq])) with e|e
    ·subst e;exact(lt_irrefl (l1 q hq)).elim
    ·exact e
   ·rcases List.mem_cons.1 ((h q).2 (by simp [hq])) with e|e
    ·subst e;exact(lt_irrefl (m1 q hq)).elim
    ·exact e
/-- The way round, step by step: whoever goes on from the first corner until he is back has just the corners. -/
def round (s:List (Int×Int)) (p:Int×Int):Nat→Int×Int→List (Int×Int)
 |0,_=>[]
 |n+1,a=>a::match s.foldl (step a) none with
  |some b=>if b=p then [] else round s p n b
  |none=>[]
end Go.Proofs.YtdidnnbpdcanlaaGreatDoor.Hull
namespace Go.Proofs.YtdidnnbpdcanlaaGreatDoor.EN
open Go.ChangeShapes Go.WideShapes Go.ChangeAt Go.RowKit
attribute [local go_sem] q0d
theorem q3F (w:World) (b:Nat):Calls Tryz.prog 45 #[.float .f64 b,.float .f64 b] w fun e w'=>e= .returned (.bool true)∧G w w':=by
 have htb:=fun w=>q1j b w
 go_enter Tryz.func45,Tryz.ntmps45
 go_wp2_with fail
 go_ret
 exact⟨rfl,G.refl _⟩
end Go.Proofs.YtdidnnbpdcanlaaGreatDoor.EN
