/- What is proved here: the float nearest to a ratio, its arithmetic (no program).
What is proved here: IEEE's nearest word of any number by any power of two is the float nearest to a ratio that it is (no program).
What is proved here: contracts of the reference's ratios: Float64, over this seat's translation.
What is proved here: contracts of the reference: Round to the nearest float, over this seat's translation.
What is proved here: contracts of the reference: Made, over this seat's translation.
What is proved here: contracts of the reference's ratios: SetFloat64, over this seat's translation.
What is proved here: sums and products of IEEE's data are those of their ratios, and what is written of them is the float nearest to the ratio (no program).
What is proved here: IEEE's sum, product and fused product of finite words, as the float nearest to the ratio (no program).
What is proved here: the float nearest to a ratio, as a number of 53 digits in units of the lowest place (no program).
What is proved here: IEEE's quotient and root, told by their digits (no program).
What is proved here: IEEE's sum, difference, product and fused product of finite words, in units of the lowest place (no program).
What is proved here: what float sums, products, quotients and roots lack is a float, and is told by the fused product or by two differences (no program).
What is proved here: contracts of package eft: the fused product, and float operations that have no answer, over this seat's translation.
What is proved here: contracts of the reference: ratios of floats in units of the lowest place, over this seat's translation.
What is proved here: the reference's fused product, over this seat's translation.
What is proved here: the reference's fused product for all words, and float operations that have no answer, over this seat's translation.
What is proved here: contracts of package eft: finite, holds, over this seat's translation.
What is proved here: contracts of package eft: holds, over this seat's translation.
What is proved here: contracts of package eft: Sum, over this seat's translation.
What is proved here: the arithmetic of the reference's small floats (no program). -/
import Derived.Test.YtljkfjjchkehaaaGreatDoorC26
import Derived.Test.YtljkfjjchkehaaaGreatDoorC21
import Derived.Test.YtljkfjjchkehaaaGreatDoorC13
import Derived.Test.YtljkfjjchkehaaaGreatDoorC11
import Derived.Test.YtljkfjjchkehaaaGreatDoorC2
import Derived.Test.YtljkfjjchkehaaaGreatDoorC15
import Derived.Test.YtljkfjjchkehaaaGreatDoorC20
namespace Go.Proofs.YtljkfjjchkehaaaGreatDoor
open Go.RowKit
open BN
theorem q2q (N D k:Nat) (hk:0<k):q0O (N*k) (D*k)=q0O N D:=by
 unfold q0O
 rw[Nat.mul_div_mul_right _ _ hk,Nat.mul_mod_mul_right]
 have e1:2*(N%D*k)=(2*(N%D))*k:=by rw[Nat.mul_assoc]
 rw[e1]
 congr 1
 have h1:D*k<2*(N%D)*k↔D<2*(N%D):=Nat.mul_lt_mul_right hk
 have h2:2*(N%D)*k=D*k↔2*(N%D)=D:=Nat.mul_left_inj (by omega)
 simp only[h1,h2]
theorem q4j {N D N' D':Nat} (hD:0<D) (hD':0<D') (h:N*D'=N'*D):q0O N D=q0O N' D':=by
 rw[← q2q N D D' hD',h,← q2q N' D' D hD,Nat.mul_comm D' D]
theorem q6u {N D T:Nat} (hD:0<D) (h:T*D≤N):T≤q0O N D:=by
 have:T≤N/D:=(Nat.le_div_iff_mul_le hD).2 h
 unfold q0O;omega
theorem q5J (x:Nat):q0O x 1=x:=by
 unfold q0O
 rw[Nat.div_one,Nat.mod_one,if_neg (by omega)];rfl
theorem q5R (mag d:Nat) (hd:1≤d):rnd mag d=q0O mag (2^d):=by
 unfold rnd q0O
 have e:2^d=2*2^(d-1):=by
  obtain⟨k,rfl⟩:∃ k,d=k+1:=⟨d-1,by omega⟩
  simp [Nat.pow_succ,Nat.mul_comm]
 congr 1
 generalize mag%2^d=r
 generalize mag/2^d=q
 rw[e]
 generalize 2^(d-1)=h
 by_cases c1:h<r
 ·rw[if_pos (Or.inl c1),if_pos (Or.inl (by omega))]
 ·by_cases c2:r=h∧q%2=1
  ·rw[if_pos (Or.inr c2),if_pos (Or.inr ⟨by omega,c2.2⟩)]
  ·rw[if_neg (by rintro(h|h);exact c1 h;exact c2 h),if_neg (by rintro(h|h);omega;exact c2 ⟨by omega,h.2⟩)]
/-- The power of two at or below A / B. -/
def expo (A B:Nat):Int:=if B*2^((blen A:Int)-blen B).toNat≤A*2^(-((blen A:Int)-blen B)).toNat then (blen A:Int)-blen B else (blen A:Int)-blen B-1
def q1u (A B:Nat):Int:=max (expo A B-52) (-1074)
/-- The float nearest to A / B (its place among the floats from 0 on). -/
def flV (A B:Nat):Nat:=min ((q1u A B+1074).toNat*2^52+q8C A B (q1u A B)) (2047*2^52)
/-- Powers below 0 away: K is great enough. -/
theorem q2I {X Y:Nat} {p:Int} (K:Nat) (h: -(K:Int)≤p):∃ c,X*2^K=X*2^(-p).toNat*2^c∧Y*2^((K:Int)+p).toNat=Y*2^p.toNat*2^c:=by
 refine⟨K-(-p).toNat,?_,?_⟩
 ·rw[Nat.mul_assoc,← Nat.pow_add,show (-p).toNat+(K-(-p).toNat)=K from by omega]
 ·rw[Nat.mul_assoc,← Nat.pow_add,show p.toNat+(K-(-p).toNat)=((K:Int)+p).toNat from by omega]
theorem q7R {X Y:Nat} {p:Int} (K:Nat) (h: -(K:Int)≤p):Y*2^p.toNat≤X*2^(-p).toNat↔Y*2^((K:Int)+p).toNat≤X*2^K:=by
 obtain⟨c,h1,h2⟩:=q2I (X:=X) (Y:=Y) K h
 rw[h1,h2]
 exact(Nat.mul_le_mul_right_iff (Nat.two_pow_pos c)).symm
theorem q7V {X Y:Nat} {p:Int} (K:Nat) (h: -(K:Int)≤p):X*2^(-p).toNat<Y*2^p.toNat↔X*2^K<Y*2^((K:Int)+p).toNat:=by
 obtain⟨c,h1,h2⟩:=q2I (X:=X) (Y:=Y) K h
 rw[h1,h2]
 exact(Nat.mul_lt_mul_right (Nat.two_pow_pos c)).symm
theorem q5m {X Y:Nat} {p:Int} (K:Nat) (h: -(K:Int)≤p):X*2^(-p).toNat=Y*2^p.toNat↔X*2^K=Y*2^((K:Int)+p).toNat:=by
 obtain⟨c,h1,h2⟩:=q2I (X:=X) (Y:=Y) K h
 rw[h1,h2]
 exact(Nat.mul_left_inj (Nat.ne_of_gt (Nat.two_pow_pos c))).symm
/-- 2 ^ expo is at or below, ... -/
theorem q6g {A B:Nat} (hA:A≠0) (hB:B≠0) (K:Nat) (hK: -(K:Int)≤expo A B):B*2^((K:Int)+expo A B).toNat≤A*2^K:=by
 rw[← q7R K hK]
 unfold expo
 split
 ·assumption
 ·obtain⟨a1,a2,a3⟩:=q2Z hA
  obtain⟨b1,b2,b3⟩:=q2Z hB
  generalize hd:(blen A:Int)-blen B-1=d
  calc B*2^d.toNat≤2^blen B*2^d.toNat:=Nat.mul_le_mul_right _ (by omega)
   _=2^(blen B+d.toNat):=by rw[Nat.pow_add]
   _≤2^(blen A-1+(-d).toNat):=Nat.pow_le_pow_right (by omega) (by omega)
   _=2^(blen A-1)*2^(-d).toNat:=by rw[Nat.pow_add]
   _≤A*2^(-d).toNat:=Nat.mul_le_mul_right _ a2
/-- ... and 2 ^ (expo + 1) above. -/
theorem q4B {A B:Nat} (hA:A≠0) (hB:B≠0) (K:Nat) (hK: -(K:Int)≤expo A B):A*2^K<B*2^((K:Int)+(expo A B+1)).toNat:=by
 rw[← q7V K (by omega)]
 unfold expo
 split
 ·obtain⟨a1,a2,a3⟩:=q2Z hA
  obtain⟨b1,b2,b3⟩:=q2Z hB
  generalize hd:(blen A:Int)-blen B+1=d
  calc A*2^(-d).toNat<2^blen A*2^(-d).toNat:=Nat.mul_lt_mul_of_pos_right a3 (Nat.two_pow_pos _)
   _=2^(blen A+(-d).toNat):=by rw[Nat.pow_add]
   _≤2^(blen B-1+d.toNat):=Nat.pow_le_pow_right (by omega) (by omega)
   _=2^(blen B-1)*2^d.toNat:=by rw[Nat.pow_add]
   _≤B*2^d.toNat:=Nat.mul_le_mul_right _ b2
 ·rename_i h
  rw[show (blen A:Int)-blen B-1+1=(blen A:Int)-blen B from by omega]
  exact Nat.lt_of_not_le h
theorem q49 {a b:Nat} (h:2^a<2^b):a<b:=(Nat.pow_lt_pow_iff_right (by omega:1<2)).1 h
theorem q9R {A B mag:Nat} {e:Int} (hA:A≠0) (hB:B≠0) (h0:mag≠0) (h:A*2^(-e).toNat=mag*B*2^e.toNat):expo A B=e+mag.log2:=by
 have l1:=Nat.log2_self_le h0
 have l2:=Nat.lt_log2_self (n:=mag)
 obtain⟨K,hK⟩:∃ K:Nat,K=e.natAbs+(expo A B).natAbs+1:=⟨_,rfl⟩
 have hE:=(q5m K (by omega)).1 h
 have h1:=q6g hA hB K (by omega)
 have h2:=q4B hA hB K (by omega)
 rw[hE] at h1 h2
 generalize expo A B=L at *
 have hB':0<B:=by omega
 have g1:B*2^((K:Int)+L).toNat<B*2^(mag.log2+1+((K:Int)+e).toNat):=by
  refine Nat.lt_of_le_of_lt h1 ?_
  rw[Nat.mul_comm mag B,Nat.mul_assoc,Nat.pow_add]
  exact Nat.mul_lt_mul_of_pos_left (Nat.mul_lt_mul_of_pos_right l2 (Nat.two_pow_pos _)) hB'
 have g2:B*2^(mag.log2+((K:Int)+e).toNat)<B*2^((K:Int)+(L+1)).toNat:=by
  refine Nat.lt_of_le_of_lt ?_ h2
  rw[Nat.mul_comm mag B,Nat.mul_assoc,Nat.pow_add]
  exact Nat.mul_le_mul_left _ (Nat.mul_le_mul_right _ l1)
 have q1:=q49 (Nat.lt_of_mul_lt_mul_left g1)
 have q2:=q49 (Nat.lt_of_mul_lt_mul_left g2)
 omega
/-- A / B in units of 2^p is mag * 2^e in units of 2^p. -/
theorem q7Y {A B mag:Nat} {e:Int} (p:Int) (hB:B≠0) (h:A*2^(-e).toNat=mag*B*2^e.toNat):q8C A B p=q0O (mag*2^(e-p).toNat) (2^(-(e-p)).toNat):=by
 unfold q8C upP loP
 refine q4j (Nat.mul_pos (by omega) (Nat.two_pow_pos _)) (Nat.two_pow_pos _) ?_
 obtain⟨K,hK⟩:∃ K:Nat,K=(-p).toNat+(-(e-p)).toNat+(-e).toNat:=⟨_,rfl⟩
 have hE:=(q5m K (by omega)).1 h
 have e1:A*2^(-p).toNat*2^(-(e-p)).toNat*2^(-e).toNat=A*2^K:=by
  rw[Nat.mul_assoc,Nat.mul_assoc,← Nat.pow_add,← Nat.pow_add];congr 2;omega
 have e2:mag*2^(e-p).toNat*(B*2^p.toNat)*2^(-e).toNat=mag*B*2^((K:Int)+e).toNat:=by
  rw[show mag*2^(e-p).toNat*(B*2^p.toNat)=mag*B*(2^(e-p).toNat*2^p.toNat) from by ac_rfl,← Nat.pow_add,Nat.mul_assoc,← Nat.pow_add]
  congr 2;omega
 exact Nat.eq_of_mul_eq_mul_right (Nat.two_pow_pos (-e).toNat) (by rw[e1,e2,hE])
theorem q5f (a:Nat):min ((a+1)*2^52+2^52) (2047*2^52)=min (a*2^52+2^53) (2047*2^52):=by omega
theorem q6V (s:Bool) (mag:Nat) (n:Int) (h0:mag≠0):Ieee.Toward.even.cut s (mag<<<n.toNat) (-n).toNat=q0O (mag*2^n.toNat) (2^(-n).toNat):=by
 by_cases hn:0≤n
 ·rw[show (-n).toNat=0 from by omega,FT.cut_zero,Nat.shiftLeft_eq,Nat.pow_zero,q5J]
 ·rw[show n.toNat=0 from by omega,Nat.shiftLeft_zero,q98 s mag _ h0 (by omega),q5R mag _ (by omega),Nat.pow_zero,Nat.mul_one]
theorem q65 {A B mag:Nat} {e:Int} (s:Bool) (hA:A≠0) (hB:B≠0) (h0:mag≠0) (h:A*2^(-e).toNat=mag*B*2^e.toNat):Ieee.double.nearest s mag e=FT.wrd s (flV A B):=by
 have hL:=q9R hA hB h0 h
 have hQ:=q7Y (q1u A B) hB h
 unfold flV
 rw[hQ]
 unfold q1u
 rw[hL]
 unfold Ieee.Format.nearest
 rw[if_neg h0,FT.leastPlace_eq,FT.infRung_eq,FT.binade_eq,FT.word_eq]
 congr 1
 show min ((max (e+(mag.log2:Int)-(52:Nat)) (-1074)- -1074).toNat*2^52+Ieee.Toward.even.cut s (mag<<<(e-max (e+(mag.log2:Int)-(52:Nat)) (-1074)).toNat) (max (e+(mag.log2:Int)-(52:Nat)) (-1074)-e).toNat) (2047*2^52)=_
 have hl:(max (e+(mag.log2:Int)-(52:Nat)) (-1074))=max (e+(mag.log2:Int)-52) (-1074):=rfl
 rw[hl]
 generalize max (e+(mag.log2:Int)-52) (-1074)=last at *
 have hc:=q6V s mag (e-last) h0
 rw[show (-(e-last)).toNat=(last-e).toNat from by omega] at hc
 rw[hc,show (last- -1074).toNat=(last+1074).toNat from by omega,show (-(e-last)).toNat=(last-e).toNat from by omega]
end Go.Proofs.YtljkfjjchkehaaaGreatDoor
namespace Go.Proofs.YtljkfjjchkehaaaGreatDoor
open Go.ChangeShapes Go.WideShapes Go.ChangeAt Go.RowKit
open BN
attribute [local go_sem] q0m q0C q0D
end Go.Proofs.YtljkfjjchkehaaaGreatDoor
namespace Go.Proofs.YtljkfjjchkehaaaGreatDoor
open Go.ChangeShapes Go.WideShapes Go.ChangeAt Go.RowKit
open BN
attribute [local go_sem] q0m q0C q0D
end Go.Proofs.YtljkfjjchkehaaaGreatDoor
namespace Go.Proofs.YtljkfjjchkehaaaGreatDoor
open Go.ChangeShapes Go.WideShapes Go.ChangeAt Go.RowKit
open BN
/-- A new Rat that nothing has written yet. -/
def RatZ (w:World) (p:Nat):Prop:=q5Y w p 0 false (.slice none 0 0)∧q5Y w p 2 false (.slice none 0 0)
theorem RatZ.new (w:World) (t:TypeId):RatZ (w.alloc (.cells #[.bool false,.slice none 0 0,.bool false,.slice none 0 0] t)) w.heap.size:=by
 refine⟨⟨?_,?_,World.frozen?_alloc_at _ _ _ _ rfl,World.frozen?_alloc_at _ _ _ _ rfl⟩,⟨?_,?_,World.frozen?_alloc_at _ _ _ _ rfl,World.frozen?_alloc_at _ _ _ _ rfl⟩⟩
 all_goals rw[World.cell?_alloc_at _ _ _ _ rfl];rfl
theorem RatZ.G {w w':World} {p:Nat} (h:RatZ w p) (hp:p<w.heap.size) (g:G w w'):RatZ w' p:=by
 obtain⟨⟨a1,a2,a3,a4⟩,⟨b1,b2,b3,b4⟩⟩:=h
 exact⟨⟨G.cell g hp a1,G.cell g hp a2,(Below.frozen g hp).trans a3,(Below.frozen g hp).trans a4⟩,⟨G.cell g hp b1,G.cell g hp b2,(Below.frozen g hp).trans b3,(Below.frozen g hp).trans b4⟩⟩
theorem RatZ.GX {w w':World} {p b:Nat} (h:RatZ w p) (hp:p<w.heap.size) (hne:p≠b) (g:GX b w w'):RatZ w' p:=by
 have hb:=g.block p hp (fun e=>hne (Option.some.inj e))
 obtain⟨⟨a1,a2,a3,a4⟩,⟨b1,b2,b3,b4⟩⟩:=h
 exact⟨⟨(World.cell?_of_block hb).trans a1,(World.cell?_of_block hb).trans a2,(World.frozen?_of_block hb).trans a3,(World.frozen?_of_block hb).trans a4⟩,⟨(World.cell?_of_block hb).trans b1,(World.cell?_of_block hb).trans b2,(World.frozen?_of_block hb).trans b3,(World.frozen?_of_block hb).trans b4⟩⟩
attribute [local go_sem] q0m q0C q0D
set_option maxRecDepth 10000 in
set_option maxHeartbeats 4000000 in
theorem q5H (w:World) (bz b mag DD k:Nat) (s:Bool) (S NN s1 s2:Int) (K:Nat) (hK:K≤1000) (qH:mag<2^53) (hS:S=if s then -(mag:Int) else mag)
  (L1:bits BinOp.and IntKind.u64 ((b:Int)/4503599627370496) 2047=0) (L2:bits BinOp.and IntKind.u64 (b:Int) 4503599627370495=(mag:Int)) (L4:((b:Int)/9223372036854775808==1)=s)
  (hk:(k:Int)=1074) (tu:NN=S) (qI:(DD:Int)=2^k)
  (hB:NN.natAbs<2^(32*K)∧DD<2^(32*K)∧0<DD) (hbz:bz<w.heap.size) (hz:RatIs w bz s1 s2):
  Calls Tryz.prog 66 #[.pointer (some ⟨bz,0,none⟩),.float .f64 b] w (NormTo w bz (Int.tdiv NN (Nat.gcd NN.natAbs DD:Nat)) (DD/Nat.gcd NN.natAbs DD)):=by
 have HB:Hid (NN.natAbs<2^(32*K)∧DD<2^(32*K)∧0<DD):=hB
 have HZ:Hid (RatIs w bz s1 s2):=hz
 have pg:Hid (mag<2^64):=by show mag<2^64;omega
 have vD:Hid (S.natAbs<2^(32*2)):=by show S.natAbs<2^(32*2);rw[hS];split<;>omega
 have jD:Hid (bz<w.heap.size):=hbz
 clear hB hz qH hbz
 have jv:Hid (NN=S):=tu
 have qJ:Hid ((DD:Int)=2^k):=qI
 have HKK:Hid ((k:Int)=1074):=hk
 have hk2:k≤10000:=by omega
 clear tu qI hk
 cases s
 ·have pq:Hid (S=(mag:Int)):=hS
  clear hS
  go_enter Tryz.func66,Tryz.ntmps66
  go_wp2_with fail
  have hn0:=NI.new (G.refl w) 38
  have iA:=(G.refl w).alloc (.cells #[.bool false,.slice none 0 0] 38)
  generalize w.heap.size=pn at hn0 ⊢
  generalize w.alloc (.cells #[.bool false,.slice none 0 0] 38)=wa at *
  have HL:Hid _:=q3k wa pn 0 mag 0 pg.out hn0.2.1 hn0.2.2
  have dm:Hid (NI w wa pn 0):=hn0
  clear hn0
  refine Calls.mono (P:=Tryz.prog) HL.out ?_
  intro e w2 hs
  obtain⟨rfl,hG2,jh,-,-⟩:=SetTo.step iA dm.out hs
  have ek:Hid (NI w w2 pn (mag:Int)):=jh
  clear hs jh HL dm iA
  have gT:Hid (NI w w2 pn S):=by rw[pq.out];exact ek
  have hG3:=hG2
  clear ek hG2
  go_wp2_with fail
  refine Calls.mono (P:=Tryz.prog) (q2a _ 1 (by omega)) ?_
  intro e w4 h
  obtain⟨pd,rfl,hg4,jS,eT,eU⟩:=h
  have hG4:=G.trans hG3 hg4
  have iD:Hid (NI w w4 pn S):=gT.out.G hg4
  have hsz:=hG3.size
  have HD4:Hid (NI w w4 pd 1):=⟨by omega,eT,eU⟩
  have hne:pn≠pd:=by have:=gT.out.2.1;omega
  clear hg4 jS eT eU hsz gT hG3
  go_wp2_with fail
  rw[← HKK.out]
  have HL:Hid _:=q3n w4 pd 0 pd 0 k 1 1 2 (by omega) (by omega) (by decide) HD4.out.2.1 HD4.out.2.1 HD4.out.2.2 HD4.out.2.2
  refine Calls.mono (P:=Tryz.prog) HL.out ?_
  intro e w5 hs
  obtain⟨rfl,gJ,iV,-,hkp⟩:=SetTo.step hG4 HD4.out hs
  have iW:Hid (NI w w5 pn NN):=by rw[jv.out];exact hkp pn S hne iD.out
  rw[Int.one_mul,← qJ.out] at iV
  have HD5:Hid (NI w w5 pd (DD:Int)):=iV
  clear hs iV HL hkp iD HD4 hG4
  have HF:Hid _:=q0N w5 bz pn 0 pd 0 s1 s2 NN DD K (by omega) HB.out.1 HB.out.2.1 HB.out.2.2 (G.lt gJ jD.out) iW.out.2.1 HD5.out.2.1 (HZ.out.G jD.out gJ) iW.out.2.2 HD5.out.2.2
  clear iW HD5 HB HZ jD
  go_wp2_with fail
  refine Calls.mono (P:=Tryz.prog) HF.out ?_
  intro e w6 hs
  obtain⟨rfl,k1,k2⟩:=NormTo.after gJ hs
  have jb:Hid _:=k2
  clear hs k2 HF
  go_wp2_with fail
  go_ret
  exact⟨rfl,k1,jb.out⟩
 ·have pq:Hid (S= -(mag:Int)):=hS
  clear hS
  go_enter Tryz.func66,Tryz.ntmps66
  go_wp2_with fail
  have hn0:=NI.new (G.refl w) 38
  have iA:=(G.refl w).alloc (.cells #[.bool false,.slice none 0 0] 38)
  generalize w.heap.size=pn at hn0 ⊢
  generalize w.alloc (.cells #[.bool false,.slice none 0 0] 38)=wa at *
  have HL:Hid _:=q3k wa pn 0 mag 0 pg.out hn0.2.1 hn0.2.2
  have dm:Hid (NI w wa pn 0):=hn0
  clear hn0
  refine Calls.mono (P:=Tryz.prog) HL.out ?_
  intro e w2 hs
  obtain⟨rfl,hG2,jh,-,-⟩:=SetTo.step iA dm.out hs
  have ek:Hid (NI w w2 pn (mag:Int)):=jh
  clear hs jh HL dm iA
  have HL:Hid _:=q6A w2 pn 0 pn 0 (mag:Int) (mag:Int) 2 (by omega) (by rw[Int.natAbs_natCast];exact pg.out) ek.out.2.1 ek.out.2.1 ek.out.2.2 ek.out.2.2
  go_wp2_with fail
  refine Calls.mono (P:=Tryz.prog) HL.out ?_
  intro e w3 hs
  obtain⟨rfl,hG3,jC,-,-⟩:=SetTo.step hG2 ek.out hs
  rw[← pq.out] at jC
  have gT:Hid (NI w w3 pn S):=jC
  clear hs jC HL ek hG2
  go_wp2_with fail
  refine Calls.mono (P:=Tryz.prog) (q2a _ 1 (by omega)) ?_
  intro e w4 h
  obtain⟨pd,rfl,hg4,jS,eT,eU⟩:=h
  have hG4:=G.trans hG3 hg4
  have iD:Hid (NI w w4 pn S):=gT.out.G hg4
  have hsz:=hG3.size
  have HD4:Hid (NI w w4 pd 1):=⟨by omega,eT,eU⟩
  have hne:pn≠pd:=by have:=gT.out.2.1;omega
  clear hg4 jS eT eU hsz gT hG3
  go_wp2_with fail
  rw[← HKK.out]
  have HL:Hid _:=q3n w4 pd 0 pd 0 k 1 1 2 (by omega) (by omega) (by decide) HD4.out.2.1 HD4.out.2.1 HD4.out.2.2 HD4.out.2.2
  refine Calls.mono (P:=Tryz.prog) HL.out ?_
  intro e w5 hs
  obtain⟨rfl,gJ,iV,-,hkp⟩:=SetTo.step hG4 HD4.out hs
  have iW:Hid (NI w w5 pn NN):=by rw[jv.out];exact hkp pn S hne iD.out
  rw[Int.one_mul,← qJ.out] at iV
  have HD5:Hid (NI w w5 pd (DD:Int)):=iV
  clear hs iV HL hkp iD HD4 hG4
  have HF:Hid _:=q0N w5 bz pn 0 pd 0 s1 s2 NN DD K (by omega) HB.out.1 HB.out.2.1 HB.out.2.2 (G.lt gJ jD.out) iW.out.2.1 HD5.out.2.1 (HZ.out.G jD.out gJ) iW.out.2.2 HD5.out.2.2
  clear iW HD5 HB HZ jD
  go_wp2_with fail
  refine Calls.mono (P:=Tryz.prog) HF.out ?_
  intro e w6 hs
  obtain⟨rfl,k1,k2⟩:=NormTo.after gJ hs
  have jb:Hid _:=k2
  clear hs k2 HF
  go_wp2_with fail
  go_ret
  exact⟨rfl,k1,jb.out⟩
set_option maxRecDepth 10000 in
set_option maxHeartbeats 4000000 in
theorem q87 (w:World) (bz b ex fr mag DD k:Nat) (s:Bool) (S NN s1 s2:Int) (K:Nat) (hK:K≤1000) (qH:mag<2^53) (hS:S=if s then -(mag:Int) else mag) (h1:ex<2047) (h2:1075≤ex)
  (L1:bits BinOp.and IntKind.u64 ((b:Int)/4503599627370496) 2047=(ex:Int)) (L2:bits BinOp.and IntKind.u64 (b:Int) 4503599627370495=(fr:Int)) (L3:bits BinOp.or IntKind.u64 (fr:Int) 4503599627370496=(mag:Int))
  (L4:((b:Int)/9223372036854775808==1)=s)
  (hk:(k:Int)=ex-1075) (tu:NN=S*2^k) (qI:(DD:Int)=1)
  (hB:NN.natAbs<2^(32*K)∧DD<2^(32*K)∧0<DD) (hbz:bz<w.heap.size) (hz:RatIs w bz s1 s2):
  Calls Tryz.prog 66 #[.pointer (some ⟨bz,0,none⟩),.float .f64 b] w (NormTo w bz (Int.tdiv NN (Nat.gcd NN.natAbs DD:Nat)) (DD/Nat.gcd NN.natAbs DD)):=by
 have HB:Hid (NN.natAbs<2^(32*K)∧DD<2^(32*K)∧0<DD):=hB
 have HZ:Hid (RatIs w bz s1 s2):=hz
 have pg:Hid (mag<2^64):=by show mag<2^64;omega
 have vD:Hid (S.natAbs<2^(32*2)):=by show S.natAbs<2^(32*2);rw[hS];split<;>omega
 have jD:Hid (bz<w.heap.size):=hbz
 clear hB hz qH hbz
 have jv:Hid (NN=S*2^k):=tu
 have qJ:Hid ((DD:Int)=1):=qI
 have t1:((ex:Int)==2047)=false:=by simp;omega
 have t2:((ex:Int)==0)=false:=by simp;omega
 have t3:decide ((1075:Int)≤ex)=true:=decide_eq_true (by omega)
 have HKK:Hid (IntKind.u64.wrap ((ex:Int)-1075)=(k:Int)):=by show IntKind.u64.wrap ((ex:Int)-1075)=(k:Int);rw[IntKind.wrap_u64];omega
 have TR:Hid (wrap64 ((ex:Int)-1075)=(k:Int)):=by show wrap64 ((ex:Int)-1075)=(k:Int);rw[IntWalk.wrap64_in _ (by omega)];omega
 have hkb:(ex:Int)-1075=(k:Int):=hk.symm
 have hk2:k≤10000:=by omega
 clear tu qI hk h1 h2
 cases s
 ·have pq:Hid (S=(mag:Int)):=hS
  clear hS
  go_enter Tryz.func66,Tryz.ntmps66
  go_wp2_with fail
  have hn0:=NI.new (G.refl w) 38
  have iA:=(G.refl w).alloc (.cells #[.bool false,.slice none 0 0] 38)
  generalize w.heap.size=pn at hn0 ⊢
  generalize w.alloc (.cells #[.bool false,.slice none 0 0] 38)=wa at *
  have HL:Hid _:=q3k wa pn 0 mag 0 pg.out hn0.2.1 hn0.2.2
  have dm:Hid (NI w wa pn 0):=hn0
  clear hn0
  refine Calls.mono (P:=Tryz.prog) HL.out ?_
  intro e w2 hs
  obtain⟨rfl,hG2,jh,-,-⟩:=SetTo.step iA dm.out hs
  have ek:Hid (NI w w2 pn (mag:Int)):=jh
  clear hs jh HL dm iA
  have gT:Hid (NI w w2 pn S):=by rw[pq.out];exact ek
  have hG3:=hG2
  clear ek hG2
  go_wp2_with fail
  refine Calls.mono (P:=Tryz.prog) (q2a _ 1 (by omega)) ?_
  intro e w4 h
  obtain⟨pd,rfl,hg4,jS,eT,eU⟩:=h
  have hG4:=G.trans hG3 hg4
  have iD:Hid (NI w w4 pn S):=gT.out.G hg4
  have hsz:=hG3.size
  have HD4:Hid (NI w w4 pd 1):=⟨by omega,eT,eU⟩
  have hne:pn≠pd:=by have:=gT.out.2.1;omega
  clear hg4 jS eT eU hsz gT hG3
  go_wp2_with fail
  have HL:Hid _:=q3n w4 pn 0 pn 0 k S S 2 (by omega) (by omega) vD.out iD.out.2.1 iD.out.2.1 iD.out.2.2 iD.out.2.2
  refine Calls.mono (P:=Tryz.prog) HL.out ?_
  intro e w5 hs
  obtain⟨rfl,gJ,iV,-,hkp⟩:=SetTo.step hG4 iD.out hs
  have HD5:Hid (NI w w5 pd (DD:Int)):=by rw[qJ.out];exact hkp pd 1 hne.symm HD4.out
  rw[← jv.out] at iV
  have iW:Hid (NI w w5 pn NN):=iV
  clear hs iV HL hkp iD HD4 hG4
  have HF:Hid _:=q0N w5 bz pn 0 pd 0 s1 s2 NN DD K (by omega) HB.out.1 HB.out.2.1 HB.out.2.2 (G.lt gJ jD.out) iW.out.2.1 HD5.out.2.1 (HZ.out.G jD.out gJ) iW.out.2.2 HD5.out.2.2
  clear iW HD5 HB HZ jD
  go_wp2_with fail
  refine Calls.mono (P:=Tryz.prog) HF.out ?_
  intro e w6 hs
  obtain⟨rfl,k1,k2⟩:=NormTo.after gJ hs
  have jb:Hid _:=k2
  clear hs k2 HF
  go_wp2_with fail
  go_ret
  exact⟨rfl,k1,jb.out⟩
 ·have pq:Hid (S= -(mag:Int)):=hS
  clear hS
  go_enter Tryz.func66,Tryz.ntmps66
  go_wp2_with fail
  have hn0:=NI.new (G.refl w) 38
  have iA:=(G.refl w).alloc (.cells #[.bool false,.slice none 0 0] 38)
  generalize w.heap.size=pn at hn0 ⊢
  generalize w.alloc (.cells #[.bool false,.slice none 0 0] 38)=wa at *
  have HL:Hid _:=q3k wa pn 0 mag 0 pg.out hn0.2.1 hn0.2.2
  have dm:Hid (NI w wa pn 0):=hn0
  clear hn0
  refine Calls.mono (P:=Tryz.prog) HL.out ?_
  intro e w2 hs
  obtain⟨rfl,hG2,jh,-,-⟩:=SetTo.step iA dm.out hs
  have ek:Hid (NI w w2 pn (mag:Int)):=jh
  clear hs jh HL dm iA
  have HL:Hid _:=q6A w2 pn 0 pn 0 (mag:Int) (mag:Int) 2 (by omega) (by rw[Int.natAbs_natCast];exact pg.out) ek.out.2.1 ek.out.2.1 ek.out.2.2 ek.out.2.2
  go_wp2_with fail
  refine Calls.mono (P:=Tryz.prog) HL.out ?_
  intro e w3 hs
  obtain⟨rfl,hG3,jC,-,-⟩:=SetTo.step hG2 ek.out hs
  rw[← pq.out] at jC
  have gT:Hid (NI w w3 pn S):=jC
  clear hs jC HL ek hG2
  go_wp2_with fail
  refine Calls.mono (P:=Tryz.prog) (q2a _ 1 (by omega)) ?_
  intro e w4 h
  obtain⟨pd,rfl,hg4,jS,eT,eU⟩:=h
  have hG4:=G.trans hG3 hg4
  have iD:Hid (NI w w4 pn S):=gT.out.G hg4
  have hsz:=hG3.size
  have HD4:Hid (NI w w4 pd 1):=⟨by omega,eT,eU⟩
  have hne:pn≠pd:=by have:=gT.out.2.1;omega
  clear hg4 jS eT eU hsz gT hG3
  go_wp2_with fail
  have HL:Hid _:=q3n w4 pn 0 pn 0 k S S 2 (by omega) (by omega) vD.out iD.out.2.1 iD.out.2.1 iD.out.2.2 iD.out.2.2
  refine Calls.mono (P:=Tryz.prog) HL.out ?_
  intro e w5 hs
  obtain⟨rfl,gJ,iV,-,hkp⟩:=SetTo.step hG4 iD.out hs
  have HD5:Hid (NI w w5 pd (DD:Int)):=by rw[qJ.out];exact hkp pd 1 hne.symm HD4.out
  rw[← jv.out] at iV
  have iW:Hid (NI w w5 pn NN):=iV
  clear hs iV HL hkp iD HD4 hG4
  have HF:Hid _:=q0N w5 bz pn 0 pd 0 s1 s2 NN DD K (by omega) HB.out.1 HB.out.2.1 HB.out.2.2 (G.lt gJ jD.out) iW.out.2.1 HD5.out.2.1 (HZ.out.G jD.out gJ) iW.out.2.2 HD5.out.2.2
  clear iW HD5 HB HZ jD
  go_wp2_with fail
  refine Calls.mono (P:=Tryz.prog) HF.out ?_
  intro e w6 hs
  obtain⟨rfl,k1,k2⟩:=NormTo.after gJ hs
  have jb:Hid _:=k2
  clear hs k2 HF
  go_wp2_with fail
  go_ret
  exact⟨rfl,k1,jb.out⟩
set_option maxRecDepth 10000 in
set_option maxHeartbeats 4000000 in
theorem q8s (w:World) (bz b ex fr mag DD k:Nat) (s:Bool) (S NN s1 s2:Int) (K:Nat) (hK:K≤1000) (qH:mag<2^53) (hS:S=if s then -(mag:Int) else mag) (h1:1≤ex) (h2:ex<1075)
  (L1:bits BinOp.and IntKind.u64 ((b:Int)/4503599627370496) 2047=(ex:Int)) (L2:bits BinOp.and IntKind.u64 (b:Int) 4503599627370495=(fr:Int)) (L3:bits BinOp.or IntKind.u64 (fr:Int) 4503599627370496=(mag:Int))
  (L4:((b:Int)/9223372036854775808==1)=s)
  (hk:(k:Int)=1075-ex) (tu:NN=S) (qI:(DD:Int)=2^k)
  (hB:NN.natAbs<2^(32*K)∧DD<2^(32*K)∧0<DD) (hbz:bz<w.heap.size) (hz:RatIs w bz s1 s2):
  Calls Tryz.prog 66 #[.pointer (some ⟨bz,0,none⟩),.float .f64 b] w (NormTo w bz (Int.tdiv NN (Nat.gcd NN.natAbs DD:Nat)) (DD/Nat.gcd NN.natAbs DD)):=by
 have HB:Hid (NN.natAbs<2^(32*K)∧DD<2^(32*K)∧0<DD):=hB
 have HZ:Hid (RatIs w bz s1 s2):=hz
 have pg:Hid (mag<2^64):=by show mag<2^64;omega
 have vD:Hid (S.natAbs<2^(32*2)):=by show S.natAbs<2^(32*2);rw[hS];split<;>omega
 have jD:Hid (bz<w.heap.size):=hbz
 clear hB hz qH hbz
 have jv:Hid (NN=S):=tu
 have qJ:Hid ((DD:Int)=2^k):=qI
 have t1:((ex:Int)==2047)=false:=by simp;omega
 have t2:((ex:Int)==0)=false:=by simp;omega
 have t3:decide ((1075:Int)≤ex)=false:=decide_eq_false (by omega)
 have hkb:(1075:Int)-ex=(k:Int):=hk.symm
 have hk2:k≤10000:=by omega
 clear tu qI hk h1 h2
 cases s
 ·have pq:Hid (S=(mag:Int)):=hS
  clear hS
  go_enter Tryz.func66,Tryz.ntmps66
  go_wp2_with fail
  have hn0:=NI.new (G.refl w) 38
  have iA:=(G.refl w).alloc (.cells #[.bool false,.slice none 0 0] 38)
  generalize w.heap.size=pn at hn0 ⊢
  generalize w.alloc (.cells #[.bool false,.slice none 0 0] 38)=wa at *
  have HL:Hid _:=q3k wa pn 0 mag 0 pg.out hn0.2.1 hn0.2.2
  have dm:Hid (NI w wa pn 0):=hn0
  clear hn0
  refine Calls.mono (P:=Tryz.prog) HL.out ?_
  intro e w2 hs
  obtain⟨rfl,hG2,jh,-,-⟩:=SetTo.step iA dm.out hs
  have ek:Hid (NI w w2 pn (mag:Int)):=jh
  clear hs jh HL dm iA
  have gT:Hid (NI w w2 pn S):=by rw[pq.out];exact ek
  have hG3:=hG2
  clear ek hG2
  go_wp2_with fail
  refine Calls.mono (P:=Tryz.prog) (q2a _ 1 (by omega)) ?_
  intro e w4 h
  obtain⟨pd,rfl,hg4,jS,eT,eU⟩:=h
  have hG4:=G.trans hG3 hg4
  have iD:Hid (NI w w4 pn S):=gT.out.G hg4
  have hsz:=hG3.size
  have HD4:Hid (NI w w4 pd 1):=⟨by omega,eT,eU⟩
  have hne:pn≠pd:=by have:=gT.out.2.1;omega
  clear hg4 jS eT eU hsz gT hG3
  go_wp2_with fail
  have HL:Hid _:=q3n w4 pd 0 pd 0 k 1 1 2 (by omega) (by omega) (by decide) HD4.out.2.1 HD4.out.2.1 HD4.out.2.2 HD4.out.2.2
  refine Calls.mono (P:=Tryz.prog) HL.out ?_
  intro e w5 hs
  obtain⟨rfl,gJ,iV,-,hkp⟩:=SetTo.step hG4 HD4.out hs
  have iW:Hid (NI w w5 pn NN):=by rw[jv.out];exact hkp pn S hne iD.out
  rw[Int.one_mul,← qJ.out] at iV
  have HD5:Hid (NI w w5 pd (DD:Int)):=iV
  clear hs iV HL hkp iD HD4 hG4
  have HF:Hid _:=q0N w5 bz pn 0 pd 0 s1 s2 NN DD K (by omega) HB.out.1 HB.out.2.1 HB.out.2.2 (G.lt gJ jD.out) iW.out.2.1 HD5.out.2.1 (HZ.out.G jD.out gJ) iW.out.2.2 HD5.out.2.2
  clear iW HD5 HB HZ jD
  go_wp2_with fail
  refine Calls.mono (P:=Tryz.prog) HF.out ?_
  intro e w6 hs
  obtain⟨rfl,k1,k2⟩:=NormTo.after gJ hs
  have jb:Hid _:=k2
  clear hs k2 HF
  go_wp2_with fail
  go_ret
  exact⟨rfl,k1,jb.out⟩
 ·have pq:Hid (S= -(mag:Int)):=hS
  clear hS
  go_enter Tryz.func66,Tryz.ntmps66
  go_wp2_with fail
  have hn0:=NI.new (G.refl w) 38
  have iA:=(G.refl w).alloc (.cells #[.bool false,.slice none 0 0] 38)
  generalize w.heap.size=pn at hn0 ⊢
  generalize w.alloc (.cells #[.bool false,.slice none 0 0] 38)=wa at *
  have HL:Hid _:=q3k wa pn 0 mag 0 pg.out hn0.2.1 hn0.2.2
  have dm:Hid (NI w wa pn 0):=hn0
  clear hn0
  refine Calls.mono (P:=Tryz.prog) HL.out ?_
  intro e w2 hs
  obtain⟨rfl,hG2,jh,-,-⟩:=SetTo.step iA dm.out hs
  have ek:Hid (NI w w2 pn (mag:Int)):=jh
  clear hs jh HL dm iA
  have HL:Hid _:=q6A w2 pn 0 pn 0 (mag:Int) (mag:Int) 2 (by omega) (by rw[Int.natAbs_natCast];exact pg.out) ek.out.2.1 ek.out.2.1 ek.out.2.2 ek.out.2.2
  go_wp2_with fail
  refine Calls.mono (P:=Tryz.prog) HL.out ?_
  intro e w3 hs
  obtain⟨rfl,hG3,jC,-,-⟩:=SetTo.step hG2 ek.out hs
  rw[← pq.out] at jC
  have gT:Hid (NI w w3 pn S):=jC
  clear hs jC HL ek hG2
  go_wp2_with fail
  refine Calls.mono (P:=Tryz.prog) (q2a _ 1 (by omega)) ?_
  intro e w4 h
  obtain⟨pd,rfl,hg4,jS,eT,eU⟩:=h
  have hG4:=G.trans hG3 hg4
  have iD:Hid (NI w w4 pn S):=gT.out.G hg4
  have hsz:=hG3.size
  have HD4:Hid (NI w w4 pd 1):=⟨by omega,eT,eU⟩
  have hne:pn≠pd:=by have:=gT.out.2.1;omega
  clear hg4 jS eT eU hsz gT hG3
  go_wp2_with fail
  have HL:Hid _:=q3n w4 pd 0 pd 0 k 1 1 2 (by omega) (by omega) (by decide) HD4.out.2.1 HD4.out.2.1 HD4.out.2.2 HD4.out.2.2
  refine Calls.mono (P:=Tryz.prog) HL.out ?_
  intro e w5 hs
  obtain⟨rfl,gJ,iV,-,hkp⟩:=SetTo.step hG4 HD4.out hs
  have iW:Hid (NI w w5 pn NN):=by rw[jv.out];exact hkp pn S hne iD.out
  rw[Int.one_mul,← qJ.out] at iV
  have HD5:Hid (NI w w5 pd (DD:Int)):=iV
  clear hs iV HL hkp iD HD4 hG4
  have HF:Hid _:=q0N w5 bz pn 0 pd 0 s1 s2 NN DD K (by omega) HB.out.1 HB.out.2.1 HB.out.2.2 (G.lt gJ jD.out) iW.out.2.1 HD5.out.2.1 (HZ.out.G jD.out gJ) iW.out.2.2 HD5.out.2.2
  clear iW HD5 HB HZ jD
  go_wp2_with fail
  refine Calls.mono (P:=Tryz.prog) HF.out ?_
  intro e w6 hs
  obtain⟨rfl,k1,k2⟩:=NormTo.after gJ hs
  have jb:Hid _:=k2
  clear hs k2 HF
  go_wp2_with fail
  go_ret
  exact⟨rfl,k1,jb.out⟩
/-- The upper and the lower part of a float, ahead of lowest terms. -/
def frS (s:Bool) (mag:Nat):Int:=if s then -(mag:Int) else mag
def frN (s:Bool) (mag ex:Nat):Int:=frS s mag*2^(max ex 1-1075)
def frD (ex:Nat):Nat:=2^(1075-max ex 1)
theorem q1Q (ex:Nat):0<frD ex:=Nat.two_pow_pos _
theorem q9h (s:Bool) (mag ex:Nat):(frN s mag ex).natAbs=mag*2^(max ex 1-1075):=by
 unfold frN frS
 rw[FT.ipow,Int.natAbs_mul,Int.natAbs_natCast]
 congr 1
 split<;>omega
theorem qbh (s:Bool) (mag ex K:Nat) (hm:mag<2^53) (hex:ex<2047) (hK:K=40):(frN s mag ex).natAbs<2^(32*K)∧frD ex<2^(32*K)∧0<frD ex:=by
 refine⟨?_,?_,q1Q ex⟩
 ·rw[q9h]
  calc mag*2^(max ex 1-1075)<2^53*2^(max ex 1-1075):=Nat.mul_lt_mul_of_pos_right hm (Nat.two_pow_pos _)
   _=2^(53+(max ex 1-1075)):=by rw[Nat.pow_add]
   _≤2^(32*K):=Nat.pow_le_pow_right (by omega) (by omega)
 ·unfold frD
  exact Nat.pow_lt_pow_right (by omega) (by omega)
theorem q9x (w:World) (bz b ex fr mag:Nat) (s1 s2:Int) (h0:b<2^64) (he:b/2^52%2^11=ex) (hf:b%2^52=fr) (hex:ex<2047) (hm:(if ex=0 then fr else 2^52+fr)=mag)
  (hbz:bz<w.heap.size) (hz:RatIs w bz s1 s2):
  Calls Tryz.prog 66 #[.pointer (some ⟨bz,0,none⟩),.float .f64 b] w
   (NormTo w bz (Int.tdiv (frN (FT.neg b) mag ex) (Nat.gcd (frN (FT.neg b) mag ex).natAbs (frD ex):Nat)) (frD ex/Nat.gcd (frN (FT.neg b) mag ex).natAbs (frD ex))):=by
 obtain⟨K,hK⟩:∃ K:Nat,K=40:=⟨_,rfl⟩
 have hfr:fr<2^52:=by omega
 have qH:mag<2^53:=by rw[← hm];split<;>omega
 have hB:=qbh (FT.neg b) mag ex K qH hex hK
 have hrf:=FT.rung_fields b
 rw[he,hf] at hrf
 have hbw:b=FT.wrd (FT.neg b) (ex*2^52+fr):=by
  rw[← hrf]
  rcases FT.neg_cases b h0 with ⟨a1,a2⟩|⟨a1,a2⟩<;>rw[a1]<;>exact a2
 have L1:=FT.exp_field (FT.neg b) ex fr (by omega) hfr
 rw[← hbw] at L1
 have L2:=FT.and_mask b 52 h0 (by omega)
 rw[hf,show (2:Int)^52-1=4503599627370495 from rfl] at L2
 have L4:((b:Int)/9223372036854775808==1)=FT.neg b:=by
  rcases FT.neg_cases b h0 with ⟨a1,a2⟩|⟨a1,a2⟩
  ·have:=FT.rung_lt b
   rw[a1];simp;omega
  ·have:=FT.rung_lt b
   rw[a1];simp;omega
 have hS:frS (FT.neg b) mag=if FT.neg b then -(mag:Int) else mag:=rfl
 by_cases hz0:ex=0
 ·rw[if_pos hz0] at hm
  rw[hz0] at L1
  rw[hm] at L2
  refine q5H w bz b mag (frD ex) (1075-max ex 1) _ _ _ s1 s2 K (by omega) qH hS L1 L2 L4 (by omega) ?_ (FT.ipow _).symm hB hbz hz
  unfold frN
  rw[show max ex 1-1075=0 from by omega,Int.pow_zero,Int.mul_one]
 ·rw[if_neg hz0] at hm
  have L3:=qaJ hfr (by omega:52≤63)
  rw[Nat.add_comm,hm,show (2:Int)^52=4503599627370496 from rfl] at L3
  by_cases hu:1075≤ex
  ·refine q87 w bz b ex fr mag (frD ex) (ex-1075) _ _ _ s1 s2 K (by omega) qH hS hex hu L1 L2 L3 L4 (by omega) ?_ ?_ hB hbz hz
   ·unfold frN;rw[show max ex 1=ex from by omega]
   ·unfold frD;rw[show 1075-max ex 1=0 from by omega];rfl
  ·refine q8s w bz b ex fr mag (frD ex) (1075-max ex 1) _ _ _ s1 s2 K (by omega) qH hS (by omega) (by omega) L1 L2 L3 L4 (by omega) ?_ (FT.ipow _).symm hB hbz hz
   unfold frN
   rw[show max ex 1-1075=0 from by omega,Int.pow_zero,Int.mul_one]
/-- The reference's ratio of a float. -/
theorem qad (w:World) (b ex fr mag:Nat) (h0:b<2^64) (he:b/2^52%2^11=ex) (hf:b%2^52=fr) (hex:ex<2047) (hm:(if ex=0 then fr else 2^52+fr)=mag):
  Calls Tryz.prog 30 #[.float .f64 b] w
   (RetR w (Int.tdiv (frN (FT.neg b) mag ex) (Nat.gcd (frN (FT.neg b) mag ex).natAbs (frD ex):Nat)) (frD ex/Nat.gcd (frN (FT.neg b) mag ex).natAbs (frD ex))):=by
 have HS:Hid (∀ w1 p,p<w1.heap.size→RatIs w1 p 0 0→_):=fun w1 p hp hr=>q9x w1 p b ex fr mag 0 0 h0 he hf hex hm hp hr
 generalize Int.tdiv (frN (FT.neg b) mag ex) (Nat.gcd (frN (FT.neg b) mag ex).natAbs (frD ex):Nat)=A at *
 generalize frD ex/Nat.gcd (frN (FT.neg b) mag ex).natAbs (frD ex)=B at *
 clear h0 he hf hex hm
 go_enter Tryz.func30,Tryz.ntmps30
 go_wp2_with fail
 have hr0:=q2t w 40
 have hga:=(G.refl w).alloc (.cells #[.bool false,.slice none 0 0,.bool false,.slice none 0 0] 40)
 have hzs:w.heap.size<(w.alloc (.cells #[.bool false,.slice none 0 0,.bool false,.slice none 0 0] 40)).heap.size:=by simp
 have hz0:w.heap.size≤w.heap.size:=Nat.le_refl _
 generalize w.alloc (.cells #[.bool false,.slice none 0 0,.bool false,.slice none 0 0] 40)=w3 at *
 refine Calls.mono (P:=Tryz.prog) (HS.out w3 _ hzs hr0) ?_
 intro e w4 hs
 obtain⟨p,rfl,k1,k2,k3,k4⟩:=NormTo.ret hga hz0 hzs hs
 have mX:Hid (RatIs w4 p A (B:Int)):=k4
 clear hs k4 HS
 go_wp2_with fail
 go_ret
 exact⟨p,rfl,k1,k2,k3,mX.out⟩
end Go.Proofs.YtljkfjjchkehaaaGreatDoor
namespace Go.Proofs.YtljkfjjchkehaaaGreatDoor
open Go.RowKit
open BN
def two (k:Nat):Int:=((2^k:Nat):Int)
theorem q2x (a b:Nat):two (a+b)=two a*two b:=by unfold two;rw[Nat.pow_add];push_cast;rfl
theorem q56 (k:Nat):0<two k:=by unfold two;have:=Nat.two_pow_pos k;omega
theorem q6c (k:Nat):two k≠0:=Int.ne_of_gt (q56 k)
/-- A / B is what a number of a sign, a size and a place is. -/
def IsR (s:Bool) (m:Nat) (p:Int) (A B:Int):Prop:=∀ K:Nat,-(K:Int)≤p→A*two K=frS s m*B*two ((K:Int)+p).toNat
theorem q8Z {s:Bool} {m:Nat} {p A B:Int} (K0:Nat) (h0: -(K0:Int)≤p) (h:A*two K0=frS s m*B*two ((K0:Int)+p).toNat):IsR s m p A B:=by
 intro K hK
 refine Int.eq_of_mul_eq_mul_right (q6c K0) ?_
 have e:((K0:Int)+p).toNat+K=((K:Int)+p).toNat+K0:=by omega
 calc A*two K*two K0=A*two K0*two K:=by ac_rfl
  _=frS s m*B*(two ((K0:Int)+p).toNat*two K):=by rw[h];ac_rfl
  _=frS s m*B*(two ((K:Int)+p).toNat*two K0):=by rw[← q2x,← q2x,e]
  _=frS s m*B*two ((K:Int)+p).toNat*two K0:=by ac_rfl
theorem q1y (s:Bool) (mag ex:Nat):IsR s mag ((max ex 1:Nat)-1075) (frN s mag ex) (frD ex:Nat):=by
 unfold frN frD
 obtain⟨c,hc⟩:∃ c:Nat,c=1075:=⟨_,rfl⟩
 rw[← hc,show ((max ex 1:Nat):Int)-1075=(max ex 1:Nat)-(c:Int) from by omega]
 clear hc
 generalize max ex 1=x
 refine q8Z (c-x) (by omega) ?_
 rw[show (((c-x:Nat):Int)+((x:Int)-c)).toNat=x-c from by omega]
 show frS s mag*2^(x-c)*two (c-x)=frS s mag*two (c-x)*two (x-c)
 rw[show (2:Int)^(x-c)=two (x-c) from FT.ipow _]
 ac_rfl
theorem q6y {s:Bool} {m:Nat} {p A B A' B':Int} (h:IsR s m p A B) (hB:B≠0) (hx:A'*B=A*B'):IsR s m p A' B':=by
 intro K hK
 have h1:=h K hK
 refine Int.eq_of_mul_eq_mul_right hB ?_
 calc A'*two K*B=A'*B*two K:=by ac_rfl
  _=A*two K*B':=by rw[hx];ac_rfl
  _=frS s m*B'*two ((K:Int)+p).toNat*B:=by rw[h1];ac_rfl
theorem q9p (s t:Bool) (m n:Nat):frS (s^^t) (m*n)=frS s m*frS t n:=by
 unfold frS
 cases s<;>cases t<;>simp [Int.mul_neg,Int.neg_mul]
theorem q9m {s t:Bool} {m n:Nat} {i j A B C D:Int} (h1:IsR s m i A B) (h2:IsR t n j C D):IsR (s^^t) (m*n) (i+j) (A*C) (B*D):=by
 have k1:=h1 i.natAbs (by omega)
 have k2:=h2 j.natAbs (by omega)
 refine q8Z (i.natAbs+j.natAbs) (by omega) ?_
 rw[show (((i.natAbs+j.natAbs:Nat):Int)+(i+j)).toNat=((i.natAbs:Int)+i).toNat+((j.natAbs:Int)+j).toNat from by omega,q2x,q2x,q9p]
 calc A*C*(two i.natAbs*two j.natAbs)=(A*two i.natAbs)*(C*two j.natAbs):=by ac_rfl
  _=frS s m*frS t n*(B*D)*(two ((i.natAbs:Int)+i).toNat*two ((j.natAbs:Int)+j).toNat):=by rw[k1,k2];ac_rfl
theorem q3g (s:Bool) (m k:Nat):Ieee.signed s m k=frS s m*two k:=by
 rw[FT.signed_eq]
 unfold frS two
 cases s
 ·simp
 ·simp [Int.neg_mul]
theorem q6R (x:Int):frS (decide (x<0)) x.natAbs=x:=by
 unfold frS
 by_cases hx:x<0
 ·rw[decide_eq_true hx,if_pos rfl];omega
 ·rw[decide_eq_false hx,if_neg (by simp)];omega
/-- The sum of two data, ahead of its sign. -/
def q30 (s t:Bool) (m n:Nat) (i j:Int):Int:=Ieee.signed s m (i-min i j).toNat+Ieee.signed t n (j-min i j).toNat
theorem q9M {s t:Bool} {m n:Nat} {i j A B C D:Int} (h1:IsR s m i A B) (h2:IsR t n j C D):
  IsR (decide (q30 s t m n i j<0)) (q30 s t m n i j).natAbs (min i j) (A*D+C*B) (B*D):=by
 intro K hK
 have k1:=h1 K (by omega)
 have k2:=h2 K (by omega)
 rw[q6R]
 unfold q30
 rw[q3g,q3g]
 have e1:((K:Int)+i).toNat=(i-min i j).toNat+((K:Int)+min i j).toNat:=by omega
 have e2:((K:Int)+j).toNat=(j-min i j).toNat+((K:Int)+min i j).toNat:=by omega
 rw[e1,q2x] at k1
 rw[e2,q2x] at k2
 calc (A*D+C*B)*two K=(A*two K)*D+(C*two K)*B:=by rw[Int.add_mul];ac_rfl
  _=(frS s m*two (i-min i j).toNat+frS t n*two (j-min i j).toNat)*(B*D)*two ((K:Int)+min i j).toNat:=by
    rw[k1,k2,Int.add_mul,Int.add_mul];ac_rfl
theorem q5d (s:Bool) (m:Nat):frS s m=0↔m=0:=by unfold frS;cases s<;>simp
theorem q2c {s:Bool} {m:Nat} {p A B:Int} (h:IsR s m p A B) (hB:B≠0):A=0↔m=0:=by
 have h1:=h p.natAbs (by omega)
 constructor
 ·intro ha
  rw[ha,Int.zero_mul] at h1
  rcases Int.mul_eq_zero.1 h1.symm with h2|h2
  ·rcases Int.mul_eq_zero.1 h2 with h3|h3
   ·exact(q5d s m).1 h3
   ·exact absurd h3 hB
  ·exact absurd h2 (q6c _)
 ·intro hm
  rw[(q5d s m).2 hm,Int.zero_mul,Int.zero_mul] at h1
  rcases Int.mul_eq_zero.1 h1 with h2|h2
  ·exact h2
  ·exact absurd h2 (q6c _)
/-- The sign of the ratio (its lower part above 0). -/
theorem q83 {s:Bool} {m:Nat} {p A:Int} {B:Nat} (h:IsR s m p A (B:Int)) (hB:B≠0) (hm:m≠0):s=decide (A<0):=by
 have h1:=h p.natAbs (by omega)
 have hA:A≠0:=fun e=>hm ((q2c h (by omega)).1 e)
 have t1:=q56 p.natAbs
 have t2:=q56 ((p.natAbs:Int)+p).toNat
 generalize two p.natAbs=a at *
 generalize two ((p.natAbs:Int)+p).toNat=c at *
 cases s
 ·have hp:0<frS false m*(B:Int)*c:=by
   unfold frS;rw[if_neg (by simp)]
   exact Int.mul_pos (Int.mul_pos (by omega) (by omega)) t2
  rw[← h1] at hp
  by_cases hx:A<0
  ·have:=Int.mul_neg_of_neg_of_pos hx t1;omega
  ·exact(decide_eq_false hx).symm
 ·have hp:0<(m:Int)*(B:Int)*c:=Int.mul_pos (Int.mul_pos (by omega) (by omega)) t2
  have hn:A*a<0:=by
   rw[h1];unfold frS;rw[if_pos rfl,Int.neg_mul,Int.neg_mul];omega
  by_cases hx:A<0
  ·exact(decide_eq_true hx).symm
  ·have:=Int.mul_nonneg (show 0≤A by omega) (Int.le_of_lt t1);omega
/-- What is written of a number is the float nearest to its ratio. -/
theorem q5w {s:Bool} {m:Nat} {p A:Int} {B:Nat} (h:IsR s m p A (B:Int)) (hB:B≠0) (hm:m≠0):Ieee.double.nearest s m p=FT.wrd (decide (A<0)) (flV A.natAbs B):=by
 have hs:=q83 h hB hm
 have hA:A≠0:=fun e=>hm ((q2c h (by omega)).1 e)
 rw[← hs]
 refine q65 s (by omega) hB hm ?_
 have h1:=h (-p).toNat (by omega)
 rw[show (((-p).toNat:Int)+p).toNat=p.toNat from by omega] at h1
 have h2:=congrArg Int.natAbs h1
 have ht:∀ k,(two k).natAbs=2^k:=fun k=>by unfold two;exact Int.natAbs_natCast _
 rw[Int.natAbs_mul,Int.natAbs_mul,Int.natAbs_mul,ht,ht,Int.natAbs_natCast] at h2
 have h3:(frS s m).natAbs=m:=by unfold frS;cases s<;>simp
 rw[h3] at h2
 exact h2
/-- The fields of a finite word. -/
structure Fin64 (b:Nat) (s:Bool) (mag ex:Nat):Prop where
 lt:b<2^64
 neg:FT.neg b=s
 exl:ex<2047
 exf:b/2^52%2^11=ex
 magf:(if ex=0 then b%2^52 else 2^52+b%2^52)=mag
theorem Fin64.of {b:Nat} (h0:b<2^64) (h:FT.rung b<FT.infR):∃ mag ex,Fin64 b (FT.neg b) mag ex:=by
 have hrf:=FT.rung_fields b
 unfold FT.infR at h
 exact⟨_,b/2^52%2^11,h0,rfl,by omega,rfl,rfl⟩
theorem Fin64.zero {b:Nat} {s:Bool} {mag ex:Nat} (h:Fin64 b s mag ex):mag=0↔FT.rung b=0:=by
 have hm:=h.magf
 have he:=h.exf
 have hrf:=FT.rung_fields b
 rw[he] at hrf
 rw[← hm]
 split<;>omega
theorem q1S {b:Nat} {s:Bool} {mag ex:Nat} (h:Fin64 b s mag ex):Ieee.double.read b= .number s mag ((max ex 1:Nat)-1075):=by
 obtain⟨h0,hs,hex,he,hm⟩:=h
 have hrf:=FT.rung_fields b
 obtain⟨fr,hf⟩:∃ fr,b%2^52=fr:=⟨_,rfl⟩
 rw[he,hf] at hrf
 rw[hf] at hm
 have hfr:fr<2^52:=by rw[← hf];exact Nat.mod_lt _ (by omega)
 have hbw:b=FT.wrd s (ex*2^52+fr):=by
  rw[← hrf,← hs]
  rcases FT.neg_cases b h0 with ⟨a1,a2⟩|⟨a1,a2⟩<;>rw[a1]<;>exact a2
 by_cases hz:ex=0
 ·rw[if_pos hz] at hm
  rw[hbw,hz,Nat.zero_mul,Nat.zero_add,FT.read_sub s fr hfr,hm]
  rfl
 ·rw[if_neg hz] at hm
  rw[hbw,FT.read_nor s ex fr (by omega) hex hfr,hm,show max ex 1=ex from by omega]
theorem qaH {x y:Nat} {s t:Bool} {m n e f:Nat} (hx:Fin64 x s m e) (hy:Fin64 y t n f) {A:Int} {B:Nat} (hB:B≠0) (hr:A*((frD e:Int)*frD f)=frN s m e*frN t n f*B):
  Ieee.double.mul x y=some (if A=0 then FT.wrd (s^^t) 0 else FT.wrd (decide (A<0)) (flV A.natAbs B)):=by
 unfold Ieee.Format.mul
 rw[q1S hx,q1S hy]
 have hE:(frD e:Int)≠0:=by have:=q1Q e;omega
 have hF:(frD f:Int)≠0:=by have:=q1Q f;omega
 have h:=q6y (q9m (q1y s m e) (q1y t n f)) (Int.mul_ne_zero hE hF) hr
 show some (Ieee.double.nearest (s^^t) (m*n) _)=_
 congr 1
 by_cases hA:A=0
 ·have hm:=(q2c h (by omega)).1 hA
  rw[if_pos hA,hm]
  unfold Ieee.Format.nearest
  rw[if_pos rfl,FT.word_eq]
 ·have hm:m*n≠0:=fun e=>hA ((q2c h (by omega)).2 e)
  rw[if_neg hA]
  exact q5w h hB hm
theorem q8J {s t:Bool} {m n:Nat} {i j a b:Int} {c d:Int} {A:Int} {B:Nat} (h1:IsR s m i a b) (h2:IsR t n j c d) (hb:b≠0) (hd:d≠0) (hB:B≠0) (hr:A*(b*d)=(a*d+c*b)*B):
  ((Ieee.Datum.number s m i).sum (.number t n j)).map Ieee.double.write=some (if A=0 then FT.wrd (s&&t) 0 else FT.wrd (decide (A<0)) (flV A.natAbs B)):=by
 have h:=q6y (q9M h1 h2) (Int.mul_ne_zero hb hd) hr
 have hz:=q2c h (by omega)
 have e:(Ieee.Datum.number s m i).sum (.number t n j)=some (.number (if q30 s t m n i j=0 then s&&t else decide (q30 s t m n i j<0)) (q30 s t m n i j).natAbs (min i j)):=rfl
 rw[e]
 show some (Ieee.double.nearest _ _ _)=_
 congr 1
 generalize q30 s t m n i j=T at *
 by_cases hA:A=0
 ·have hm:=hz.1 hA
  have hT:T=0:=by omega
  rw[if_pos hA,if_pos hT,hm]
  unfold Ieee.Format.nearest
  rw[if_pos rfl,FT.word_eq]
 ·have hm:T.natAbs≠0:=fun e=>hA (hz.2 e)
  rw[if_neg hA,if_neg (by omega)]
  exact q5w h hB hm
theorem qaS {x y:Nat} {s t:Bool} {m n e f:Nat} (hx:Fin64 x s m e) (hy:Fin64 y t n f) {A:Int} {B:Nat} (hB:B≠0) (hr:A*((frD e:Int)*frD f)=(frN s m e*frD f+frN t n f*frD e)*B):
  Ieee.double.add x y=some (if A=0 then FT.wrd (s&&t) 0 else FT.wrd (decide (A<0)) (flV A.natAbs B)):=by
 unfold Ieee.Format.add
 rw[q1S hx,q1S hy]
 have hE:(frD e:Int)≠0:=by have:=q1Q e;omega
 have hF:(frD f:Int)≠0:=by have:=q1Q f;omega
 exact q8J (q1y s m e) (q1y t n f) hE hF hB hr
end Go.Proofs.YtljkfjjchkehaaaGreatDoor
namespace Go.Proofs.YtljkfjjchkehaaaGreatDoor.EA
open Go.RowKit
open BN
theorem q3d {N D:Nat} (hD:0<D):2*N≤2*(q0O N D*D)+D∧2*(q0O N D*D)≤2*N+D:=by
 have hm:=Nat.div_add_mod N D
 have hl:=Nat.mod_lt N hD
 rw[Nat.mul_comm] at hm
 unfold q0O
 generalize N/D=q at *
 generalize N%D=r at *
 split
 ·rw[Nat.add_mul,Nat.one_mul];generalize q*D=X at *;omega
 ·rw[Nat.add_zero];generalize q*D=X at *;omega
/-- The place of a float among the floats from 0 on, and its number. -/
theorem v_made {N k:Nat} (hN:N≤2^53) (h:k=0∨2^52≤N):FT.v (k*2^52+N)=N*2^k:=by
 by_cases h1:N<2^52
 ·obtain rfl:k=0:=by omega
  rw[Nat.zero_mul,Nat.zero_add,FT.v_sub h1,Nat.pow_zero,Nat.mul_one]
 ·rw[FT.v_nor (by omega)]
  by_cases h2:N<2^53
  ·rw[show (k*2^52+N)%2^52=N-2^52 from by omega,show (k*2^52+N)/2^52-1=k from by omega,show 2^52+(N-2^52)=N from by omega]
  ·rw[show (k*2^52+N)%2^52=0 from by omega,show (k*2^52+N)/2^52-1=k+1 from by omega,show N=2^52*2 from by omega,Nat.add_zero,Nat.pow_succ 2 k,Nat.mul_comm (2^k) 2,Nat.mul_assoc]
/-- A ratio's nearest float, told by its digits. -/
theorem flV_told {A B:Nat} (hA:A≠0) (hB:B≠0) (u:Nat) (hu:u=1074):∃ N k:Nat,flV A B=min (k*2^52+N) FT.infR∧N≤2^53∧(k=0∨2^52≤N)∧
  2*(A*2^u)≤2*(N*2^k*B)+2^k*B∧2*(N*2^k*B)≤2*(A*2^u)+2^k*B∧(k=0∨2^52*2^k*B≤A*2^u)∧expo A B≤(k:Int)-u+52:=by
 have hl: -(u:Int)≤q1u A B:=by unfold q1u;omega
 obtain⟨k,hk⟩:∃ k:Nat,k=(q1u A B+1074).toNat:=⟨_,rfl⟩
 have hk2:((u:Int)+q1u A B).toNat=k:=by rw[hk];congr 1;omega
 have hp:=Nat.two_pow_pos k
 have O4:0<B*2^k:=Nat.mul_pos (by omega) hp
 have hQ:q8C A B (q1u A B)=q0O (A*2^u) (B*2^k):=by
  obtain⟨c,h1,h2⟩:=q2I (X:=A) (Y:=B) u hl
  rw[hk2] at h2
  rw[h1,h2,q2q _ _ _ (Nat.two_pow_pos c)]
  rfl
 have hlow:k=0∨2^52*2^k*B≤A*2^u:=by
  by_cases h0:k=0
  ·exact Or.inl h0
  ·refine Or.inr ?_
   have he:q1u A B=expo A B-52:=by unfold q1u at hk ⊢;omega
   have:=q6g hA hB u (by omega)
   rw[show ((u:Int)+expo A B).toNat=52+k from by omega,Nat.pow_add] at this
   rw[Nat.mul_comm];exact this
 have hup:A*2^u<2^53*(B*2^k):=by
  by_cases hx: -(u:Int)≤expo A B
  ·have:=q4B hA hB u hx
   refine Nat.lt_of_lt_of_le this ?_
   rw[show 2^53*(B*2^k)=B*(2^53*2^k) from by ac_rfl,← Nat.pow_add]
   refine Nat.mul_le_mul_left _ (Nat.pow_le_pow_right (by omega) ?_)
   unfold q1u at hk
   omega
  ·obtain⟨U,hU⟩:∃ U:Nat,-(U:Int)≤expo A B∧u≤U:=⟨(expo A B).natAbs+u,by omega,by omega⟩
   have:=q4B hA hB U hU.1
   have e1:2^U=2^u*2^(U-u):=by rw[← Nat.pow_add];congr 1;omega
   have hle:2^((U:Int)+(expo A B+1)).toNat≤2^(U-u):=Nat.pow_le_pow_right (by omega) (by omega)
   have h3:A*2^u*2^(U-u)<B*2^(U-u):=by
    rw[Nat.mul_assoc,← e1]
    exact Nat.lt_of_lt_of_le this (Nat.mul_le_mul_left _ hle)
   have h4:=Nat.lt_of_mul_lt_mul_right h3
   have h5:B*1≤B*2^k:=Nat.mul_le_mul_left _ hp
   omega
 obtain⟨N,hN⟩:∃ N,N=q0O (A*2^u) (B*2^k):=⟨_,rfl⟩
 obtain⟨r1,r2⟩:=q3d (N:=A*2^u) O4
 rw[← hN] at r1 r2
 refine⟨N,k,?_,?_,?_,?_,?_,hlow,?_⟩
 ·unfold flV
  rw[← hk,hQ,← hN]
  rfl
 ·rw[hN];exact q71 hup
 ·rcases hlow with h|h
  ·exact Or.inl h
  ·refine Or.inr ?_
   rw[hN]
   refine q6u O4 ?_
   rw[show 2^52*(B*2^k)=2^52*2^k*B from by ac_rfl]
   exact h
 ·rw[show N*2^k*B=N*(B*2^k) from by ac_rfl,Nat.mul_comm (2^k) B];exact r1
 ·rw[show N*2^k*B=N*(B*2^k) from by ac_rfl,Nat.mul_comm (2^k) B];exact r2
 ·unfold q1u at hk;omega
/-- The greatest float's number is below this. -/
def top:Nat:=FT.v FT.infR
theorem lt_top {r:Nat}:FT.v r<top↔r<FT.infR:=by
 unfold top
 constructor
 ·intro h
  by_cases hx:r<FT.infR
  ·exact hx
  ·have:=FT.v_le.2 (show FT.infR≤r by omega);omega
 ·exact FT.v_lt
/-- A float's number has at most 53 digits. -/
theorem v_rp (r:Nat):Rp (FT.v r):=by
 by_cases h:r<2^52
 ·rw[FT.v_sub h];exact rp_small (by omega)
 ·rw[FT.v_nor h];exact rp_of (by omega)
/-- A float's number in units of the lowest place. -/
def Z (b:Nat):Int:=if FT.neg b then -(FT.v (FT.rung b):Int) else (FT.v (FT.rung b):Int)
theorem Z_abs (b:Nat):(Z b).natAbs=FT.v (FT.rung b):=by unfold Z;split<;>omega
theorem q6I:FT.v 0=0:=FT.v_sub (by omega)
theorem q6a {r:Nat}:FT.v r=0↔r=0:=by
 constructor
 ·intro h;exact FT.v_inj (by rw[h,q6I])
 ·rintro rfl;exact q6I
theorem Z_wrd {s:Bool} {r:Nat} (h:r<2^63):Z (FT.wrd s r)=if s then -(FT.v r:Int) else FT.v r:=by
 unfold Z;rw[FT.wrd_neg s r h,FT.wrd_rung s r h]
theorem Z_zero {b:Nat}:Z b=0↔FT.rung b=0:=by
 have:=Z_abs b
 rw[← q6a]
 omega
theorem Z_rp (b:Nat):Rp (Z b).natAbs:=by rw[Z_abs];exact v_rp _
theorem Z_top {b:Nat}:(Z b).natAbs<top↔FT.rung b<FT.infR:=by rw[Z_abs];exact lt_top
theorem infR_lt:FT.infR<2^63:=by unfold FT.infR;omega
/-- The fields of a finite word, in units. -/
theorem qbe {b mag ex:Nat} {s:Bool} (h:Fin64 b s mag ex):FT.v (FT.rung b)=mag*2^(max ex 1-1):=by
 have hm:=h.magf
 have he:=h.exf
 have hrf:=FT.rung_fields b
 rw[he] at hrf
 have hf:b%2^52<2^52:=Nat.mod_lt _ (by omega)
 generalize b%2^52=f at *
 rw[hrf,← hm]
 by_cases h0:ex=0
 ·subst h0
  rw[Nat.zero_mul,Nat.zero_add,FT.v_sub hf,if_pos rfl]
  simp
 ·rw[if_neg h0,FT.v_nor' _ _ (by omega) hf,show max ex 1=ex from by omega]
theorem q5f {mag p U q D:Nat} (h:mag*p*U=mag*q*D) (s:Bool):(if s then -(mag:Int) else mag)*(p:Int)*(U:Int)=(if s then -((mag*q:Nat):Int) else ((mag*q:Nat):Int))*(D:Int):=by
 have BS:(mag:Int)*p*U=(mag:Int)*q*D:=by
  have:=congrArg (fun n:Nat=>(n:Int)) h
  push_cast at this
  exact this
 cases s
 ·simp only[Bool.false_eq_true,if_false]
  push_cast
  exact BS
 ·simp only[if_true]
  push_cast
  rw[Int.neg_mul,Int.neg_mul,Int.neg_mul,BS]
theorem fin_Z {b mag ex:Nat} {s:Bool} (h:Fin64 b s mag ex) (u:Nat) (hu:u=1074):frN s mag ex*((2^u:Nat):Int)=Z b*(frD ex:Nat):=by
 have hv:=qbe h
 have hs:=h.neg
 have key:mag*2^(max ex 1-1075)*2^u=mag*2^(max ex 1-1)*frD ex:=by
  unfold frD
  have e:max ex 1-1075+u=max ex 1-1+(1075-max ex 1):=by omega
  rw[Nat.mul_assoc,Nat.mul_assoc,← Nat.pow_add,← Nat.pow_add,e]
 have e2:(2:Int)^(max ex 1-1075)=((2^(max ex 1-1075):Nat):Int):=by push_cast;rfl
 unfold frN frS Z
 rw[hs,hv,e2]
 exact q5f key s
/-- r is the float nearest to z units. -/
def RnZ (z:Int) (r:Nat):Prop:=r<2^64∧FT.rung r≤FT.infR∧(FT.rung r<FT.infR→∃ v,IsRn z.natAbs v∧Z r=if z<0 then -(v:Int) else v)∧(Rp z.natAbs→z.natAbs<top→FT.rung r<FT.infR∧Z r=z)
theorem top_pos:0<top:=by
 unfold top
 have:=FT.v_lt (show 0<FT.infR by unfold FT.infR;omega)
 omega
/-- Fractions told in units. -/
theorem units2 {a b x y U e f:Int} (h1:a*U=x*e) (h2:b*U=y*f):(x+y)*(e*f)=(a*f+b*e)*U:=by
 have e1:(a*f+b*e)*U=a*U*f+b*U*e:=by rw[Int.add_mul];ac_rfl
 rw[e1,h1,h2,Int.add_mul];ac_rfl
theorem frN_not (s:Bool) (m e:Nat):frN (!s) m e= -frN s m e:=by
 unfold frN frS
 cases s<;>simp [Int.neg_mul]
/-- A finite word of so many units. -/
structure Is (b:Nat) (z:Int):Prop where
 lt:b<2^64
 fin:FT.rung b<FT.infR
 val:Z b=z
theorem RnZ.is {z:Int} {r:Nat} (h:RnZ z r) (h1:Rp z.natAbs) (h2:z.natAbs<top):Is r z:=⟨h.1,(h.2.2.2 h1 h2).1,(h.2.2.2 h1 h2).2⟩
theorem Is.rp {b:Nat} {z:Int} (h:Is b z):Rp z.natAbs:=by rw[← h.val];exact Z_rp b
theorem Is.top {b:Nat} {z:Int} (h:Is b z):z.natAbs<top:=by rw[← h.val];exact Z_top.2 h.fin
theorem IsRn.small {n v:Nat} (h:IsRn n v):n≤2*v∧v≤2*n:=by
 obtain⟨N,k,rfl,h1,h2,h3,h4⟩:=h
 rcases h4 with rfl|h4
 ·simp only[Nat.pow_zero,Nat.mul_one] at h2 h3 ⊢
  omega
 ·omega
/-- A finite word's number: so many units of its lowest digit. -/
structure Low (b:Nat) (m i:Nat):Prop where
 eq:(Z b).natAbs=m*2^i
 lt:m<2^53
end Go.Proofs.YtljkfjjchkehaaaGreatDoor.EA
namespace Go.Proofs.YtljkfjjchkehaaaGreatDoor
open Go.ChangeShapes Go.WideShapes Go.ChangeAt Go.RowKit
open BN
/-- The word that the tape gives where an operation has no answer: no number. -/
def q7S (a b:Nat) (w:World):Nat:=Question.cut (.nanBits .f64 a b) (w.tape w.drawn (.nanBits .f64 a b))
theorem q84 (a b:Nat) (w:World):q7S a b w<2^64:=by
 unfold q7S Question.cut
 simp only[]
 generalize w.tape w.drawn (.nanBits .f64 a b)=t
 have:t/2%(2^52-1)<2^52-1:=Nat.mod_lt _ (by omega)
 omega
theorem q8t (s m:Nat) (h:m<2^52-1):2047*2^52<(s*2^63+0x7ff0000000000000+1+m)%2^63:=by omega
theorem q6C (a b:Nat) (w:World):FT.nan (q7S a b w)=true:=
 decide_eq_true (q8t (w.tape w.drawn (.nanBits .f64 a b)%2) (w.tape w.drawn (.nanBits .f64 a b)/2%(2^52-1)) (Nat.mod_lt _ (by omega)))
end Go.Proofs.YtljkfjjchkehaaaGreatDoor
namespace Go.Proofs.YtljkfjjchkehaaaGreatDoor
open Go.ChangeShapes Go.WideShapes Go.ChangeAt Go.RowKit
open BN
open EA (Z)
theorem low2 {N:Int} {D g:Nat} (hD:0<D) (hg:g=Nat.gcd N.natAbs D):
  Int.tdiv N g*(D:Int)=N*((D/g:Nat):Int)∧0<D/g∧(Int.tdiv N g).natAbs≤N.natAbs∧D/g≤D:=by
 have hg0:0<g:=by rw[hg];exact Nat.gcd_pos_of_pos_right _ hD
 obtain⟨a,ha⟩:(g:Int)∣N:=Int.ofNat_dvd_left.2 (by rw[hg];exact Nat.gcd_dvd_left _ _)
 obtain⟨d,hd⟩:g∣D:=by rw[hg];exact Nat.gcd_dvd_right _ _
 have h1:Int.tdiv N g=a:=by rw[ha];exact Int.mul_tdiv_cancel_left _ (by omega)
 have h2:D/g=d:=by rw[hd,Nat.mul_div_cancel_left _ hg0]
 have hd0:d≠0:=by intro h;rw[h,Nat.mul_zero] at hd;omega
 refine⟨?_,by omega,?_,Nat.div_le_self _ _⟩
 ·rw[h1,h2,hd,ha];push_cast;ac_rfl
 ·rw[h1,ha,Int.natAbs_mul,Int.natAbs_natCast];exact Nat.le_mul_of_pos_left _ hg0
/-- A ratio that is z in units of 1 / 2^u. -/
structure Un (u:Nat) (A:Int) (B:Nat) (z:Int):Prop where
 pos:0<B
 eq:A*((2^u:Nat):Int)=z*(B:Int)
/-- Products and sums of ratios in lowest terms. -/
theorem Un.mul {u A B A2 B2:_} {x y:Int} (h1:Un u A B x) (h2:Un u A2 B2 y):
  0<B*B2/Nat.gcd (A*A2).natAbs (B*B2)∧(Int.tdiv (A*A2) (Nat.gcd (A*A2).natAbs (B*B2):Nat))*(((2^u:Nat):Int)*((2^u:Nat):Int))=x*y*((B*B2/Nat.gcd (A*A2).natAbs (B*B2):Nat):Int):=by
 have hB:0<B*B2:=Nat.mul_pos h1.pos h2.pos
 obtain⟨f1,f2,-,-⟩:=low2 (N:=A*A2) hB rfl
 refine⟨f2,?_⟩
 have e1:=h1.eq
 have e2:=h2.eq
 have SL:((B*B2:Nat):Int)≠0:=by omega
 refine Int.eq_of_mul_eq_mul_right SL ?_
 generalize Int.tdiv (A*A2) (Nat.gcd (A*A2).natAbs (B*B2):Nat)=P at *
 generalize B*B2/Nat.gcd (A*A2).natAbs (B*B2)=Q at *
 generalize ((2^u:Nat):Int)=U at *
 rw[show P*(U*U)*((B*B2:Nat):Int)=(P*((B*B2:Nat):Int))*(U*U) from by ac_rfl,f1,show A*A2*(Q:Int)*(U*U)=(A*U)*(A2*U)*Q from by ac_rfl,e1,e2]
 push_cast
 ac_rfl
/-- A float operation that has no answer: the tape gives a word that is no number. -/
theorem q3f {P:Program} (w:World) (op:BinOp) (t:TypeId) (x y:Nat) (h:floatBits op .f64 x y=none) (ho:op= .add∨op= .sub∨op= .mul∨op= .quo):
  (binOp op t (.float .f64 x) (.float .f64 y)).run P w= .ok (.float .f64 (q7S x y w)) w.drew:=by
 unfold floatBits at h
 rcases ho with rfl|rfl|rfl|rfl<;>simp only at h<;>simp only[binOp,Op.floatArith,h]<;>rfl
theorem q0R (b:Nat):(FT.nan b=true∧∃ f,Ieee.double.read b= .nan (FT.neg b) f)∨(FT.nan b=false∧FT.rung b=FT.infR∧Ieee.double.read b= .infinity (FT.neg b))∨
  (FT.nan b=false∧FT.rung b<FT.infR∧∃ m p,Ieee.double.read b= .number (FT.neg b) m p):=by
 rcases Nat.lt_trichotomy (FT.rung b) FT.infR with h|h|h
 ·obtain⟨m,p,hr,_⟩:=FT.read_number h
  exact Or.inr (Or.inr ⟨decide_eq_false (by omega),h,m,p,hr⟩)
 ·exact Or.inr (Or.inl ⟨decide_eq_false (by omega),h,FT.read_inf h⟩)
 ·exact Or.inl ⟨decide_eq_true h,_,FT.read_nan h⟩
theorem q2N (s:Bool):Ieee.double.write (.infinity s)=FT.wrd s FT.infR:=by
 show Ieee.double.word s _=_
 rw[FT.word_eq,FT.infRung_eq]
 rfl
/-- A product with an infinite factor. -/
theorem q3R {a b:Nat} (ha:FT.nan a=false) (hb:FT.nan b=false) (h:FT.rung a=FT.infR∨FT.rung b=FT.infR):
  (Ieee.double.read a).product (Ieee.double.read b)=none∨(Ieee.double.read a).product (Ieee.double.read b)=some (.infinity (FT.neg a^^FT.neg b)):=by
 rcases q0R a with ⟨ha2,_⟩|⟨-,-,ra⟩|⟨-,fa,m,p,ra⟩
 ·rw[ha2] at ha;cases ha
 ·rcases q0R b with ⟨hb2,_⟩|⟨-,-,rb⟩|⟨-,-,m2,p2,rb⟩
  ·rw[hb2] at hb;cases hb
  ·rw[ra,rb];exact Or.inr rfl
  ·rw[ra,rb]
   by_cases h0:m2=0
   ·left;simp [Ieee.Datum.product,h0]
   ·right;simp [Ieee.Datum.product,h0]
 ·rcases q0R b with ⟨hb2,_⟩|⟨-,-,rb⟩|⟨-,fb,m2,p2,rb⟩
  ·rw[hb2] at hb;cases hb
  ·rw[ra,rb]
   by_cases h0:m=0
   ·left;simp [Ieee.Datum.product,h0]
   ·right;simp [Ieee.Datum.product,h0,Bool.xor_comm]
  ·omega
end Go.Proofs.YtljkfjjchkehaaaGreatDoor
namespace Go.Proofs.YtljkfjjchkehaaaGreatDoor
open Go.ChangeShapes Go.WideShapes Go.ChangeAt Go.RowKit
open BN
open EA (Z Low)
end Go.Proofs.YtljkfjjchkehaaaGreatDoor
namespace Go.Proofs.YtljkfjjchkehaaaGreatDoor
open Go.ChangeShapes Go.WideShapes Go.ChangeAt Go.RowKit
open BN
open EA (Z Low Is RnZ)
def fin (x:Nat):Bool:=decide (FT.rung x<FT.infR)
/-- A float operation on any words: what it gives, and where it has no answer a word that is no number. -/
def Any (o:Option Nat) (r:Nat):Prop:=r<2^64∧(∀ q,o=some q→r=q)∧(o=none→FT.nan r=true)
theorem q0L (op:BinOp) (t:TypeId) (x y:Nat) (ho:op= .add∨op= .sub∨op= .mul∨op= .quo) (hlt:∀ q,floatBits op .f64 x y=some q→q<2^64) (w:World):
  ∃ r w',(binOp op t (.float .f64 x) (.float .f64 y)).run Tryz.prog w= .ok (.float .f64 r) w'∧G w w'∧Any (floatBits op .f64 x y) r:=by
 cases h:floatBits op .f64 x y with
 |none=>exact⟨_,_,q3f w op t x y h ho,(G.refl w).drew,q84 _ _ _,fun q hq=>(by cases hq),fun _=>q6C _ _ _⟩
 |some q=>exact⟨q,w,run_float_arith w op t .f64 x y q h,G.refl w,hlt q h,fun q' hq=>Option.some.inj hq,fun hn=>(by cases hn)⟩
end Go.Proofs.YtljkfjjchkehaaaGreatDoor
namespace Go.Proofs.YtljkfjjchkehaaaGreatDoor
open Go.RowKit
open BN
end Go.Proofs.YtljkfjjchkehaaaGreatDoor
