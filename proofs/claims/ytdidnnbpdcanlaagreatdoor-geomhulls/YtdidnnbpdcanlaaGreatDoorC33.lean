/- What is proved here: the float nearest to a ratio, its arithmetic (no program).
What is proved here: contracts of the reference: Made, over this seat's translation.
What is proved here: contracts of the reference's ratios: SetFloat64, over this seat's translation.
What is proved here: sums and products of IEEE's data are those of their ratios, and what is written of them is the float nearest to the ratio (no program).
What is proved here: IEEE's sum, product and fused product of finite words, as the float nearest to the ratio (no program).
What is proved here: the float nearest to a ratio, as a number of 53 digits in units of the lowest place (no program).
What is proved here: IEEE's sum, difference, product and fused product of finite words, in units of the lowest place (no program).
What is proved here: what float sums, products, quotients and roots lack is a float, and is told by the fused product or by two differences (no program).
What is proved here: contracts of the reference: ratios of floats in units of the lowest place, over this seat's translation.
What is proved here: contracts of package eft: Sum, over this seat's translation. -/
import Derived.Test.YtdidnnbpdcanlaaGreatDoorC32
import Derived.Test.YtdidnnbpdcanlaaGreatDoorC28
import Derived.OwnWalk
import Derived.Test.YtdidnnbpdcanlaaGreatDoorC9
import Derived.Test.YtdidnnbpdcanlaaGreatDoorC1
import Derived.Test.YtdidnnbpdcanlaaGreatDoorC1
import Derived.Test.YtdidnnbpdcanlaaGreatDoorC14
import Derived.Test.YtdidnnbpdcanlaaGreatDoorC2
import Derived.Test.YtdidnnbpdcanlaaGreatDoorC16
import Derived.Test.YtdidnnbpdcanlaaGreatDoorC18
namespace Go.Proofs.YtdidnnbpdcanlaaGreatDoor
open Go.RowKit
open BN
/-- The power of two at or below A / B. -/
def expo (A B:Nat):Int:=if B*2^((blen A:Int)-blen B).toNat≤A*2^(-((blen A:Int)-blen B)).toNat then (blen A:Int)-blen B else (blen A:Int)-blen B-1
def q4u (A B:Nat):Int:=max (expo A B-52) (-1074)
end Go.Proofs.YtdidnnbpdcanlaaGreatDoor
namespace Go.Proofs.YtdidnnbpdcanlaaGreatDoor
open Go.ChangeShapes Go.WideShapes Go.ChangeAt Go.RowKit
open BN
/-- A new Rat that nothing has written yet. -/
def RatZ (w:World) (p:Nat):Prop:=q6C w p 0 false (.slice none 0 0)∧q6C w p 2 false (.slice none 0 0)
theorem RatZ.new (w:World) (t:TypeId):RatZ (w.alloc (.cells #[.bool false,.slice none 0 0,.bool false,.slice none 0 0] t)) w.heap.size:=by
 refine⟨⟨?_,?_,World.frozen?_alloc_at _ _ _ _ rfl,World.frozen?_alloc_at _ _ _ _ rfl⟩,⟨?_,?_,World.frozen?_alloc_at _ _ _ _ rfl,World.frozen?_alloc_at _ _ _ _ rfl⟩⟩
 all_goals rw[World.cell?_alloc_at _ _ _ _ rfl];rfl
theorem RatZ.G {w w':World} {p:Nat} (h:RatZ w p) (hp:p<w.heap.size) (g:G w w'):RatZ w' p:=by
 obtain⟨⟨a1,a2,a3,a4⟩,⟨b1,b2,b3,b4⟩⟩:=h
 exact⟨⟨G.cell g hp a1,G.cell g hp a2,(Below.frozen g hp).trans a3,(Below.frozen g hp).trans a4⟩,⟨G.cell g hp b1,G.cell g hp b2,(Below.frozen g hp).trans b3,(Below.frozen g hp).trans b4⟩⟩
theorem RatZ.GX {w w':World} {p b:Nat} (h:RatZ w p) (hp:p<w.heap.size) (hne:p≠b) (g:GX b w w'):RatZ w' p:=by
 have hb:=g.block p hp (fun e=>hne (Option.some.inj e))
 obtain⟨⟨a1,a2,a3,a4⟩,⟨b1,b2,b3,b4⟩⟩:=h
 exact⟨⟨(World.cell?_of_block hb).trans a1,(World.cell?_of_block hb).trans a2,(World.frozen?_of_block hb).trans a3,(World.frozen?_of_block hb).trans a4⟩,⟨(World.cell?_of_block hb).trans b1,(World.cell?_of_block hb).trans b2,(World.frozen?_of_block hb).trans b3,(World.frozen?_of_block hb).trans b4⟩⟩
attribute [local go_sem] q0S q1j q1Y
set_option maxRecDepth 10000 in
set_option maxHeartbeats 4000000 in
theorem q6a (w:World) (bz b mag DD k:Nat) (s:Bool) (S NN s1 s2:Int) (K:Nat) (hK:K≤1000) (ZZ:mag<2^53) (hS:S=if s then -(mag:Int) else mag)
  (L1:bits BinOp.and IntKind.u64 ((b:Int)/4503599627370496) 2047=0) (L2:bits BinOp.and IntKind.u64 (b:Int) 4503599627370495=(mag:Int)) (L4:((b:Int)/9223372036854775808==1)=s)
  (hk:(k:Int)=1074) (xg:NN=S) (ZY:(DD:Int)=2^k)
  (hB:NN.natAbs<2^(32*K)∧DD<2^(32*K)∧0<DD) (hbz:bz<w.heap.size) (hz:RatIs w bz s1 s2):
  Calls Tryz.prog 74 #[.pointer (some ⟨bz,0,none⟩),.float .f64 b] w (NormTo w bz (Int.tdiv NN (Nat.gcd NN.natAbs DD:Nat)) (DD/Nat.gcd NN.natAbs DD)):=by
 have HB:Hid (NN.natAbs<2^(32*K)∧DD<2^(32*K)∧0<DD):=hB
 have HZ:Hid (RatIs w bz s1 s2):=hz
 have rT:Hid (mag<2^64):=by show mag<2^64;omega
 have yO:Hid (S.natAbs<2^(32*2)):=by show S.natAbs<2^(32*2);rw[hS];split<;>omega
 have l9:Hid (bz<w.heap.size):=hbz
 clear hB hz ZZ hbz
 have kW:Hid (NN=S):=xg
 have uf:Hid ((DD:Int)=2^k):=ZY
 have HKK:Hid ((k:Int)=1074):=hk
 have hk2:k≤10000:=by omega
 clear xg ZY hk
 cases s
 ·have rU:Hid (S=(mag:Int)):=hS
  clear hS
  go_enter Tryz.func74,Tryz.ntmps74
  go_wp2_with fail
  have hn0:=NI.new (G.refl w) 83
  have jk:=(G.refl w).alloc (.cells #[.bool false,.slice none 0 0] 83)
  generalize w.heap.size=pn at hn0 ⊢
  generalize w.alloc (.cells #[.bool false,.slice none 0 0] 83)=wa at *
  have HL:Hid _:=q3x wa pn 0 mag 0 rT.out hn0.2.1 hn0.2.2
  have dK:Hid (NI w wa pn 0):=hn0
  clear hn0
  refine Calls.mono (P:=Tryz.prog) HL.out ?_
  intro e w2 hs
  obtain⟨rfl,hG2,kN,-,-⟩:=SetTo.step jk dK.out hs
  have eH:Hid (NI w w2 pn (mag:Int)):=kN
  clear hs kN HL dK jk
  have iE:Hid (NI w w2 pn S):=by rw[rU.out];exact eH
  have hG3:=hG2
  clear eH hG2
  go_wp2_with fail
  refine Calls.mono (P:=Tryz.prog) (q3e _ 1 (by omega)) ?_
  intro e w4 h
  obtain⟨pd,rfl,hg4,lY,fO,fT⟩:=h
  have hG4:=G.trans hG3 hg4
  have jo:Hid (NI w w4 pn S):=iE.out.G hg4
  have hsz:=hG3.size
  have HD4:Hid (NI w w4 pd 1):=⟨by omega,fO,fT⟩
  have hne:pn≠pd:=by have:=iE.out.2.1;omega
  clear hg4 lY fO fT hsz iE hG3
  go_wp2_with fail
  rw[← HKK.out]
  have HL:Hid _:=q3B w4 pd 0 pd 0 k 1 1 2 (by omega) (by omega) (by decide) HD4.out.2.1 HD4.out.2.1 HD4.out.2.2 HD4.out.2.2
  refine Calls.mono (P:=Tryz.prog) HL.out ?_
  intro e w5 hs
  obtain⟨rfl,gK,jU,-,hkp⟩:=SetTo.step hG4 HD4.out hs
  have jV:Hid (NI w w5 pn NN):=by rw[kW.out];exact hkp pn S hne jo.out
  rw[Int.one_mul,← uf.out] at jU
  have HD5:Hid (NI w w5 pd (DD:Int)):=jU
  clear hs jU HL hkp jo HD4 hG4
  have HF:Hid _:=q0V w5 bz pn 0 pd 0 s1 s2 NN DD K (by omega) HB.out.1 HB.out.2.1 HB.out.2.2 (G.lt gK l9.out) jV.out.2.1 HD5.out.2.1 (HZ.out.G l9.out gK) jV.out.2.2 HD5.out.2.2
  clear jV HD5 HB HZ l9
  go_wp2_with fail
  refine Calls.mono (P:=Tryz.prog) HF.out ?_
  intro e w6 hs
  obtain⟨rfl,k1,k2⟩:=NormTo.after gK hs
  have kF:Hid _:=k2
  clear hs k2 HF
  go_wp2_with fail
  go_ret
  exact⟨rfl,k1,kF.out⟩
 ·have rU:Hid (S= -(mag:Int)):=hS
  clear hS
  go_enter Tryz.func74,Tryz.ntmps74
  go_wp2_with fail
  have hn0:=NI.new (G.refl w) 83
  have jk:=(G.refl w).alloc (.cells #[.bool false,.slice none 0 0] 83)
  generalize w.heap.size=pn at hn0 ⊢
  generalize w.alloc (.cells #[.bool false,.slice none 0 0] 83)=wa at *
  have HL:Hid _:=q3x wa pn 0 mag 0 rT.out hn0.2.1 hn0.2.2
  have dK:Hid (NI w wa pn 0):=hn0
  clear hn0
  refine Calls.mono (P:=Tryz.prog) HL.out ?_
  intro e w2 hs
  obtain⟨rfl,hG2,kN,-,-⟩:=SetTo.step jk dK.out hs
  have eH:Hid (NI w w2 pn (mag:Int)):=kN
  clear hs kN HL dK jk
  have HL:Hid _:=q73 w2 pn 0 pn 0 (mag:Int) (mag:Int) 2 (by omega) (by rw[Int.natAbs_natCast];exact rT.out) eH.out.2.1 eH.out.2.1 eH.out.2.2 eH.out.2.2
  go_wp2_with fail
  refine Calls.mono (P:=Tryz.prog) HL.out ?_
  intro e w3 hs
  obtain⟨rfl,hG3,l8,-,-⟩:=SetTo.step hG2 eH.out hs
  rw[← rU.out] at l8
  have iE:Hid (NI w w3 pn S):=l8
  clear hs l8 HL eH hG2
  go_wp2_with fail
  refine Calls.mono (P:=Tryz.prog) (q3e _ 1 (by omega)) ?_
  intro e w4 h
  obtain⟨pd,rfl,hg4,lY,fO,fT⟩:=h
  have hG4:=G.trans hG3 hg4
  have jo:Hid (NI w w4 pn S):=iE.out.G hg4
  have hsz:=hG3.size
  have HD4:Hid (NI w w4 pd 1):=⟨by omega,fO,fT⟩
  have hne:pn≠pd:=by have:=iE.out.2.1;omega
  clear hg4 lY fO fT hsz iE hG3
  go_wp2_with fail
  rw[← HKK.out]
  have HL:Hid _:=q3B w4 pd 0 pd 0 k 1 1 2 (by omega) (by omega) (by decide) HD4.out.2.1 HD4.out.2.1 HD4.out.2.2 HD4.out.2.2
  refine Calls.mono (P:=Tryz.prog) HL.out ?_
  intro e w5 hs
  obtain⟨rfl,gK,jU,-,hkp⟩:=SetTo.step hG4 HD4.out hs
  have jV:Hid (NI w w5 pn NN):=by rw[kW.out];exact hkp pn S hne jo.out
  rw[Int.one_mul,← uf.out] at jU
  have HD5:Hid (NI w w5 pd (DD:Int)):=jU
  clear hs jU HL hkp jo HD4 hG4
  have HF:Hid _:=q0V w5 bz pn 0 pd 0 s1 s2 NN DD K (by omega) HB.out.1 HB.out.2.1 HB.out.2.2 (G.lt gK l9.out) jV.out.2.1 HD5.out.2.1 (HZ.out.G l9.out gK) jV.out.2.2 HD5.out.2.2
  clear jV HD5 HB HZ l9
  go_wp2_with fail
  refine Calls.mono (P:=Tryz.prog) HF.out ?_
  intro e w6 hs
  obtain⟨rfl,k1,k2⟩:=NormTo.after gK hs
  have kF:Hid _:=k2
  clear hs k2 HF
  go_wp2_with fail
  go_ret
  exact⟨rfl,k1,kF.out⟩
set_option maxRecDepth 10000 in
set_option maxHeartbeats 4000000 in
theorem q8D (w:World) (bz b ex fr mag DD k:Nat) (s:Bool) (S NN s1 s2:Int) (K:Nat) (hK:K≤1000) (ZZ:mag<2^53) (hS:S=if s then -(mag:Int) else mag) (h1:ex<2047) (h2:1075≤ex)
  (L1:bits BinOp.and IntKind.u64 ((b:Int)/4503599627370496) 2047=(ex:Int)) (L2:bits BinOp.and IntKind.u64 (b:Int) 4503599627370495=(fr:Int)) (L3:bits BinOp.or IntKind.u64 (fr:Int) 4503599627370496=(mag:Int))
  (L4:((b:Int)/9223372036854775808==1)=s)
  (hk:(k:Int)=ex-1075) (xg:NN=S*2^k) (ZY:(DD:Int)=1)
  (hB:NN.natAbs<2^(32*K)∧DD<2^(32*K)∧0<DD) (hbz:bz<w.heap.size) (hz:RatIs w bz s1 s2):
  Calls Tryz.prog 74 #[.pointer (some ⟨bz,0,none⟩),.float .f64 b] w (NormTo w bz (Int.tdiv NN (Nat.gcd NN.natAbs DD:Nat)) (DD/Nat.gcd NN.natAbs DD)):=by
 have HB:Hid (NN.natAbs<2^(32*K)∧DD<2^(32*K)∧0<DD):=hB
 have HZ:Hid (RatIs w bz s1 s2):=hz
 have rT:Hid (mag<2^64):=by show mag<2^64;omega
 have yO:Hid (S.natAbs<2^(32*2)):=by show S.natAbs<2^(32*2);rw[hS];split<;>omega
 have l9:Hid (bz<w.heap.size):=hbz
 clear hB hz ZZ hbz
 have kW:Hid (NN=S*2^k):=xg
 have uf:Hid ((DD:Int)=1):=ZY
 have t1:((ex:Int)==2047)=false:=by simp;omega
 have t2:((ex:Int)==0)=false:=by simp;omega
 have t3:decide ((1075:Int)≤ex)=true:=decide_eq_true (by omega)
 have HKK:Hid (IntKind.u64.wrap ((ex:Int)-1075)=(k:Int)):=by show IntKind.u64.wrap ((ex:Int)-1075)=(k:Int);rw[IntKind.wrap_u64];omega
 have U9:Hid (wrap64 ((ex:Int)-1075)=(k:Int)):=by show wrap64 ((ex:Int)-1075)=(k:Int);rw[IntWalk.wrap64_in _ (by omega)];omega
 have hkb:(ex:Int)-1075=(k:Int):=hk.symm
 have hk2:k≤10000:=by omega
 clear xg ZY hk h1 h2
 cases s
 ·have rU:Hid (S=(mag:Int)):=hS
  clear hS
  go_enter Tryz.func74,Tryz.ntmps74
  go_wp2_with fail
  have hn0:=NI.new (G.refl w) 83
  have jk:=(G.refl w).alloc (.cells #[.bool false,.slice none 0 0] 83)
  generalize w.heap.size=pn at hn0 ⊢
  generalize w.alloc (.cells #[.bool false,.slice none 0 0] 83)=wa at *
  have HL:Hid _:=q3x wa pn 0 mag 0 rT.out hn0.2.1 hn0.2.2
  have dK:Hid (NI w wa pn 0):=hn0
  clear hn0
  refine Calls.mono (P:=Tryz.prog) HL.out ?_
  intro e w2 hs
  obtain⟨rfl,hG2,kN,-,-⟩:=SetTo.step jk dK.out hs
  have eH:Hid (NI w w2 pn (mag:Int)):=kN
  clear hs kN HL dK jk
  have iE:Hid (NI w w2 pn S):=by rw[rU.out];exact eH
  have hG3:=hG2
  clear eH hG2
  go_wp2_with fail
  refine Calls.mono (P:=Tryz.prog) (q3e _ 1 (by omega)) ?_
  intro e w4 h
  obtain⟨pd,rfl,hg4,lY,fO,fT⟩:=h
  have hG4:=G.trans hG3 hg4
  have jo:Hid (NI w w4 pn S):=iE.out.G hg4
  have hsz:=hG3.size
  have HD4:Hid (NI w w4 pd 1):=⟨by omega,fO,fT⟩
  have hne:pn≠pd:=by have:=iE.out.2.1;omega
  clear hg4 lY fO fT hsz iE hG3
  go_wp2_with fail
  have HL:Hid _:=q3B w4 pn 0 pn 0 k S S 2 (by omega) (by omega) yO.out jo.out.2.1 jo.out.2.1 jo.out.2.2 jo.out.2.2
  refine Calls.mono (P:=Tryz.prog) HL.out ?_
  intro e w5 hs
  obtain⟨rfl,gK,jU,-,hkp⟩:=SetTo.step hG4 jo.out hs
  have HD5:Hid (NI w w5 pd (DD:Int)):=by rw[uf.out];exact hkp pd 1 hne.symm HD4.out
  rw[← kW.out] at jU
  have jV:Hid (NI w w5 pn NN):=jU
  clear hs jU HL hkp jo HD4 hG4
  have HF:Hid _:=q0V w5 bz pn 0 pd 0 s1 s2 NN DD K (by omega) HB.out.1 HB.out.2.1 HB.out.2.2 (G.lt gK l9.out) jV.out.2.1 HD5.out.2.1 (HZ.out.G l9.out gK) jV.out.2.2 HD5.out.2.2
  clear jV HD5 HB HZ l9
  go_wp2_with fail
  refine Calls.mono (P:=Tryz.prog) HF.out ?_
  intro e w6 hs
  obtain⟨rfl,k1,k2⟩:=NormTo.after gK hs
  have kF:Hid _:=k2
  clear hs k2 HF
  go_wp2_with fail
  go_ret
  exact⟨rfl,k1,kF.out⟩
 ·have rU:Hid (S= -(mag:Int)):=hS
  clear hS
  go_enter Tryz.func74,Tryz.ntmps74
  go_wp2_with fail
  have hn0:=NI.new (G.refl w) 83
  have jk:=(G.refl w).alloc (.cells #[.bool false,.slice none 0 0] 83)
  generalize w.heap.size=pn at hn0 ⊢
  generalize w.alloc (.cells #[.bool false,.slice none 0 0] 83)=wa at *
  have HL:Hid _:=q3x wa pn 0 mag 0 rT.out hn0.2.1 hn0.2.2
  have dK:Hid (NI w wa pn 0):=hn0
  clear hn0
  refine Calls.mono (P:=Tryz.prog) HL.out ?_
  intro e w2 hs
  obtain⟨rfl,hG2,kN,-,-⟩:=SetTo.step jk dK.out hs
  have eH:Hid (NI w w2 pn (mag:Int)):=kN
  clear hs kN HL dK jk
  have HL:Hid _:=q73 w2 pn 0 pn 0 (mag:Int) (mag:Int) 2 (by omega) (by rw[Int.natAbs_natCast];exact rT.out) eH.out.2.1 eH.out.2.1 eH.out.2.2 eH.out.2.2
  go_wp2_with fail
  refine Calls.mono (P:=Tryz.prog) HL.out ?_
  intro e w3 hs
  obtain⟨rfl,hG3,l8,-,-⟩:=SetTo.step hG2 eH.out hs
  rw[← rU.out] at l8
  have iE:Hid (NI w w3 pn S):=l8
  clear hs l8 HL eH hG2
  go_wp2_with fail
  refine Calls.mono (P:=Tryz.prog) (q3e _ 1 (by omega)) ?_
  intro e w4 h
  obtain⟨pd,rfl,hg4,lY,fO,fT⟩:=h
  have hG4:=G.trans hG3 hg4
  have jo:Hid (NI w w4 pn S):=iE.out.G hg4
  have hsz:=hG3.size
  have HD4:Hid (NI w w4 pd 1):=⟨by omega,fO,fT⟩
  have hne:pn≠pd:=by have:=iE.out.2.1;omega
  clear hg4 lY fO fT hsz iE hG3
  go_wp2_with fail
  have HL:Hid _:=q3B w4 pn 0 pn 0 k S S 2 (by omega) (by omega) yO.out jo.out.2.1 jo.out.2.1 jo.out.2.2 jo.out.2.2
  refine Calls.mono (P:=Tryz.prog) HL.out ?_
  intro e w5 hs
  obtain⟨rfl,gK,jU,-,hkp⟩:=SetTo.step hG4 jo.out hs
  have HD5:Hid (NI w w5 pd (DD:Int)):=by rw[uf.out];exact hkp pd 1 hne.symm HD4.out
  rw[← kW.out] at jU
  have jV:Hid (NI w w5 pn NN):=jU
  clear hs jU HL hkp jo HD4 hG4
  have HF:Hid _:=q0V w5 bz pn 0 pd 0 s1 s2 NN DD K (by omega) HB.out.1 HB.out.2.1 HB.out.2.2 (G.lt gK l9.out) jV.out.2.1 HD5.out.2.1 (HZ.out.G l9.out gK) jV.out.2.2 HD5.out.2.2
  clear jV HD5 HB HZ l9
  go_wp2_with fail
  refine Calls.mono (P:=Tryz.prog) HF.out ?_
  intro e w6 hs
  obtain⟨rfl,k1,k2⟩:=NormTo.after gK hs
  have kF:Hid _:=k2
  clear hs k2 HF
  go_wp2_with fail
  go_ret
  exact⟨rfl,k1,kF.out⟩
set_option maxRecDepth 10000 in
set_option maxHeartbeats 4000000 in
theorem q9p (w:World) (bz b ex fr mag DD k:Nat) (s:Bool) (S NN s1 s2:Int) (K:Nat) (hK:K≤1000) (ZZ:mag<2^53) (hS:S=if s then -(mag:Int) else mag) (h1:1≤ex) (h2:ex<1075)
  (L1:bits BinOp.and IntKind.u64 ((b:Int)/4503599627370496) 2047=(ex:Int)) (L2:bits BinOp.and IntKind.u64 (b:Int) 4503599627370495=(fr:Int)) (L3:bits BinOp.or IntKind.u64 (fr:Int) 4503599627370496=(mag:Int))
  (L4:((b:Int)/9223372036854775808==1)=s)
  (hk:(k:Int)=1075-ex) (xg:NN=S) (ZY:(DD:Int)=2^k)
  (hB:NN.natAbs<2^(32*K)∧DD<2^(32*K)∧0<DD) (hbz:bz<w.heap.size) (hz:RatIs w bz s1 s2):
  Calls Tryz.prog 74 #[.pointer (some ⟨bz,0,none⟩),.float .f64 b] w (NormTo w bz (Int.tdiv NN (Nat.gcd NN.natAbs DD:Nat)) (DD/Nat.gcd NN.natAbs DD)):=by
 have HB:Hid (NN.natAbs<2^(32*K)∧DD<2^(32*K)∧0<DD):=hB
 have HZ:Hid (RatIs w bz s1 s2):=hz
 have rT:Hid (mag<2^64):=by show mag<2^64;omega
 have yO:Hid (S.natAbs<2^(32*2)):=by show S.natAbs<2^(32*2);rw[hS];split<;>omega
 have l9:Hid (bz<w.heap.size):=hbz
 clear hB hz ZZ hbz
 have kW:Hid (NN=S):=xg
 have uf:Hid ((DD:Int)=2^k):=ZY
 have t1:((ex:Int)==2047)=false:=by simp;omega
 have t2:((ex:Int)==0)=false:=by simp;omega
 have t3:decide ((1075:Int)≤ex)=false:=decide_eq_false (by omega)
 have hkb:(1075:Int)-ex=(k:Int):=hk.symm
 have hk2:k≤10000:=by omega
 clear xg ZY hk h1 h2
 cases s
 ·have rU:Hid (S=(mag:Int)):=hS
  clear hS
  go_enter Tryz.func74,Tryz.ntmps74
  go_wp2_with fail
  have hn0:=NI.new (G.refl w) 83
  have jk:=(G.refl w).alloc (.cells #[.bool false,.slice none 0 0] 83)
  generalize w.heap.size=pn at hn0 ⊢
  generalize w.alloc (.cells #[.bool false,.slice none 0 0] 83)=wa at *
  have HL:Hid _:=q3x wa pn 0 mag 0 rT.out hn0.2.1 hn0.2.2
  have dK:Hid (NI w wa pn 0):=hn0
  clear hn0
  refine Calls.mono (P:=Tryz.prog) HL.out ?_
  intro e w2 hs
  obtain⟨rfl,hG2,kN,-,-⟩:=SetTo.step jk dK.out hs
  have eH:Hid (NI w w2 pn (mag:Int)):=kN
  clear hs kN HL dK jk
  have iE:Hid (NI w w2 pn S):=by rw[rU.out];exact eH
  have hG3:=hG2
  clear eH hG2
  go_wp2_with fail
  refine Calls.mono (P:=Tryz.prog) (q3e _ 1 (by omega)) ?_
  intro e w4 h
  obtain⟨pd,rfl,hg4,lY,fO,fT⟩:=h
  have hG4:=G.trans hG3 hg4
  have jo:Hid (NI w w4 pn S):=iE.out.G hg4
  have hsz:=hG3.size
  have HD4:Hid (NI w w4 pd 1):=⟨by omega,fO,fT⟩
  have hne:pn≠pd:=by have:=iE.out.2.1;omega
  clear hg4 lY fO fT hsz iE hG3
  go_wp2_with fail
  have HL:Hid _:=q3B w4 pd 0 pd 0 k 1 1 2 (by omega) (by omega) (by decide) HD4.out.2.1 HD4.out.2.1 HD4.out.2.2 HD4.out.2.2
  refine Calls.mono (P:=Tryz.prog) HL.out ?_
  intro e w5 hs
  obtain⟨rfl,gK,jU,-,hkp⟩:=SetTo.step hG4 HD4.out hs
  have jV:Hid (NI w w5 pn NN):=by rw[kW.out];exact hkp pn S hne jo.out
  rw[Int.one_mul,← uf.out] at jU
  have HD5:Hid (NI w w5 pd (DD:Int)):=jU
  clear hs jU HL hkp jo HD4 hG4
  have HF:Hid _:=q0V w5 bz pn 0 pd 0 s1 s2 NN DD K (by omega) HB.out.1 HB.out.2.1 HB.out.2.2 (G.lt gK l9.out) jV.out.2.1 HD5.out.2.1 (HZ.out.G l9.out gK) jV.out.2.2 HD5.out.2.2
  clear jV HD5 HB HZ l9
  go_wp2_with fail
  refine Calls.mono (P:=Tryz.prog) HF.out ?_
  intro e w6 hs
  obtain⟨rfl,k1,k2⟩:=NormTo.after gK hs
  have kF:Hid _:=k2
  clear hs k2 HF
  go_wp2_with fail
  go_ret
  exact⟨rfl,k1,kF.out⟩
 ·have rU:Hid (S= -(mag:Int)):=hS
  clear hS
  go_enter Tryz.func74,Tryz.ntmps74
  go_wp2_with fail
  have hn0:=NI.new (G.refl w) 83
  have jk:=(G.refl w).alloc (.cells #[.bool false,.slice none 0 0] 83)
  generalize w.heap.size=pn at hn0 ⊢
  generalize w.alloc (.cells #[.bool false,.slice none 0 0] 83)=wa at *
  have HL:Hid _:=q3x wa pn 0 mag 0 rT.out hn0.2.1 hn0.2.2
  have dK:Hid (NI w wa pn 0):=hn0
  clear hn0
  refine Calls.mono (P:=Tryz.prog) HL.out ?_
  intro e w2 hs
  obtain⟨rfl,hG2,kN,-,-⟩:=SetTo.step jk dK.out hs
  have eH:Hid (NI w w2 pn (mag:Int)):=kN
  clear hs kN HL dK jk
  have HL:Hid _:=q73 w2 pn 0 pn 0 (mag:Int) (mag:Int) 2 (by omega) (by rw[Int.natAbs_natCast];exact rT.out) eH.out.2.1 eH.out.2.1 eH.out.2.2 eH.out.2.2
  go_wp2_with fail
  refine Calls.mono (P:=Tryz.prog) HL.out ?_
  intro e w3 hs
  obtain⟨rfl,hG3,l8,-,-⟩:=SetTo.step hG2 eH.out hs
  rw[← rU.out] at l8
  have iE:Hid (NI w w3 pn S):=l8
  clear hs l8 HL eH hG2
  go_wp2_with fail
  refine Calls.mono (P:=Tryz.prog) (q3e _ 1 (by omega)) ?_
  intro e w4 h
  obtain⟨pd,rfl,hg4,lY,fO,fT⟩:=h
  have hG4:=G.trans hG3 hg4
  have jo:Hid (NI w w4 pn S):=iE.out.G hg4
  have hsz:=hG3.size
  have HD4:Hid (NI w w4 pd 1):=⟨by omega,fO,fT⟩
  have hne:pn≠pd:=by have:=iE.out.2.1;omega
  clear hg4 lY fO fT hsz iE hG3
  go_wp2_with fail
  have HL:Hid _:=q3B w4 pd 0 pd 0 k 1 1 2 (by omega) (by omega) (by decide) HD4.out.2.1 HD4.out.2.1 HD4.out.2.2 HD4.out.2.2
  refine Calls.mono (P:=Tryz.prog) HL.out ?_
  intro e w5 hs
  obtain⟨rfl,gK,jU,-,hkp⟩:=SetTo.step hG4 HD4.out hs
  have jV:Hid (NI w w5 pn NN):=by rw[kW.out];exact hkp pn S hne jo.out
  rw[Int.one_mul,← uf.out] at jU
  have HD5:Hid (NI w w5 pd (DD:Int)):=jU
  clear hs jU HL hkp jo HD4 hG4
  have HF:Hid _:=q0V w5 bz pn 0 pd 0 s1 s2 NN DD K (by omega) HB.out.1 HB.out.2.1 HB.out.2.2 (G.lt gK l9.out) jV.out.2.1 HD5.out.2.1 (HZ.out.G l9.out gK) jV.out.2.2 HD5.out.2.2
  clear jV HD5 HB HZ l9
  go_wp2_with fail
  refine Calls.mono (P:=Tryz.prog) HF.out ?_
  intro e w6 hs
  obtain⟨rfl,k1,k2⟩:=NormTo.after gK hs
  have kF:Hid _:=k2
  clear hs k2 HF
  go_wp2_with fail
  go_ret
  exact⟨rfl,k1,kF.out⟩
/-- The upper and the lower part of a float, ahead of lowest terms. -/
def frS (s:Bool) (mag:Nat):Int:=if s then -(mag:Int) else mag
def frN (s:Bool) (mag ex:Nat):Int:=frS s mag*2^(max ex 1-1075)
def frD (ex:Nat):Nat:=2^(1075-max ex 1)
theorem q7s (ex:Nat):0<frD ex:=Nat.two_pow_pos _
theorem q9V (s:Bool) (mag ex:Nat):(frN s mag ex).natAbs=mag*2^(max ex 1-1075):=by
 unfold frN frS
 rw[FT.ipow,Int.natAbs_mul,Int.natAbs_natCast]
 congr 1
 split<;>omega
theorem qck (s:Bool) (mag ex K:Nat) (hm:mag<2^53) (hex:ex<2047) (hK:K=40):(frN s mag ex).natAbs<2^(32*K)∧frD ex<2^(32*K)∧0<frD ex:=by
 refine⟨?_,?_,q7s ex⟩
 ·rw[q9V]
  calc mag*2^(max ex 1-1075)<2^53*2^(max ex 1-1075):=Nat.mul_lt_mul_of_pos_right hm (Nat.two_pow_pos _)
   _=2^(53+(max ex 1-1075)):=by rw[Nat.pow_add]
   _≤2^(32*K):=Nat.pow_le_pow_right (by omega) (by omega)
 ·unfold frD
  exact Nat.pow_lt_pow_right (by omega) (by omega)
theorem qay (w:World) (bz b ex fr mag:Nat) (s1 s2:Int) (h0:b<2^64) (he:b/2^52%2^11=ex) (hf:b%2^52=fr) (hex:ex<2047) (hm:(if ex=0 then fr else 2^52+fr)=mag)
  (hbz:bz<w.heap.size) (hz:RatIs w bz s1 s2):
  Calls Tryz.prog 74 #[.pointer (some ⟨bz,0,none⟩),.float .f64 b] w
   (NormTo w bz (Int.tdiv (frN (FT.neg b) mag ex) (Nat.gcd (frN (FT.neg b) mag ex).natAbs (frD ex):Nat)) (frD ex/Nat.gcd (frN (FT.neg b) mag ex).natAbs (frD ex))):=by
 obtain⟨K,hK⟩:∃ K:Nat,K=40:=⟨_,rfl⟩
 have hfr:fr<2^52:=by omega
 have ZZ:mag<2^53:=by rw[← hm];split<;>omega
 have hB:=qck (FT.neg b) mag ex K ZZ hex hK
 have hrf:=FT.rung_fields b
 rw[he,hf] at hrf
 have hbw:b=FT.wrd (FT.neg b) (ex*2^52+fr):=by
  rw[← hrf]
  rcases FT.neg_cases b h0 with ⟨a1,a2⟩|⟨a1,a2⟩<;>rw[a1]<;>exact a2
 have L1:=FT.exp_field (FT.neg b) ex fr (by omega) hfr
 rw[← hbw] at L1
 have L2:=FT.and_mask b 52 h0 (by omega)
 rw[hf,show (2:Int)^52-1=4503599627370495 from rfl] at L2
 have L4:((b:Int)/9223372036854775808==1)=FT.neg b:=by
  rcases FT.neg_cases b h0 with ⟨a1,a2⟩|⟨a1,a2⟩
  ·have:=FT.rung_lt b
   rw[a1];simp;omega
  ·have:=FT.rung_lt b
   rw[a1];simp;omega
 have hS:frS (FT.neg b) mag=if FT.neg b then -(mag:Int) else mag:=rfl
 by_cases hz0:ex=0
 ·rw[if_pos hz0] at hm
  rw[hz0] at L1
  rw[hm] at L2
  refine q6a w bz b mag (frD ex) (1075-max ex 1) _ _ _ s1 s2 K (by omega) ZZ hS L1 L2 L4 (by omega) ?_ (FT.ipow _).symm hB hbz hz
  unfold frN
  rw[show max ex 1-1075=0 from by omega,Int.pow_zero,Int.mul_one]
 ·rw[if_neg hz0] at hm
  have L3:=qbO hfr (by omega:52≤63)
  rw[Nat.add_comm,hm,show (2:Int)^52=4503599627370496 from rfl] at L3
  by_cases hu:1075≤ex
  ·refine q8D w bz b ex fr mag (frD ex) (ex-1075) _ _ _ s1 s2 K (by omega) ZZ hS hex hu L1 L2 L3 L4 (by omega) ?_ ?_ hB hbz hz
   ·unfold frN;rw[show max ex 1=ex from by omega]
   ·unfold frD;rw[show 1075-max ex 1=0 from by omega];rfl
  ·refine q9p w bz b ex fr mag (frD ex) (1075-max ex 1) _ _ _ s1 s2 K (by omega) ZZ hS (by omega) (by omega) L1 L2 L3 L4 (by omega) ?_ (FT.ipow _).symm hB hbz hz
   unfold frN
   rw[show max ex 1-1075=0 from by omega,Int.pow_zero,Int.mul_one]
/-- The reference's ratio of a float. -/
theorem qbs (w:World) (b ex fr mag:Nat) (h0:b<2^64) (he:b/2^52%2^11=ex) (hf:b%2^52=fr) (hex:ex<2047) (hm:(if ex=0 then fr else 2^52+fr)=mag):
  Calls Tryz.prog 33 #[.float .f64 b] w
   (RetR w (Int.tdiv (frN (FT.neg b) mag ex) (Nat.gcd (frN (FT.neg b) mag ex).natAbs (frD ex):Nat)) (frD ex/Nat.gcd (frN (FT.neg b) mag ex).natAbs (frD ex))):=by
 have HS:Hid (∀ w1 p,p<w1.heap.size→RatIs w1 p 0 0→_):=fun w1 p hp hr=>qay w1 p b ex fr mag 0 0 h0 he hf hex hm hp hr
 generalize Int.tdiv (frN (FT.neg b) mag ex) (Nat.gcd (frN (FT.neg b) mag ex).natAbs (frD ex):Nat)=A at *
 generalize frD ex/Nat.gcd (frN (FT.neg b) mag ex).natAbs (frD ex)=B at *
 clear h0 he hf hex hm
 go_enter Tryz.func33,Tryz.ntmps33
 go_wp2_with fail
 have hr0:=q3N w 85
 have hga:=(G.refl w).alloc (.cells #[.bool false,.slice none 0 0,.bool false,.slice none 0 0] 85)
 have hzs:w.heap.size<(w.alloc (.cells #[.bool false,.slice none 0 0,.bool false,.slice none 0 0] 85)).heap.size:=by simp
 have hz0:w.heap.size≤w.heap.size:=Nat.le_refl _
 generalize w.alloc (.cells #[.bool false,.slice none 0 0,.bool false,.slice none 0 0] 85)=w3 at *
 refine Calls.mono (P:=Tryz.prog) (HS.out w3 _ hzs hr0) ?_
 intro e w4 hs
 obtain⟨p,rfl,k1,k2,k3,k4⟩:=NormTo.ret hga hz0 hzs hs
 have uZ:Hid (RatIs w4 p A (B:Int)):=k4
 clear hs k4 HS
 go_wp2_with fail
 go_ret
 exact⟨p,rfl,k1,k2,k3,uZ.out⟩
end Go.Proofs.YtdidnnbpdcanlaaGreatDoor
namespace Go.Proofs.YtdidnnbpdcanlaaGreatDoor
open Go.RowKit
open BN
def two (k:Nat):Int:=((2^k:Nat):Int)
/-- The fields of a finite word. -/
structure Fin64 (b:Nat) (s:Bool) (mag ex:Nat):Prop where
 lt:b<2^64
 neg:FT.neg b=s
 exl:ex<2047
 exf:b/2^52%2^11=ex
 magf:(if ex=0 then b%2^52 else 2^52+b%2^52)=mag
theorem Fin64.of {b:Nat} (h0:b<2^64) (h:FT.rung b<FT.infR):∃ mag ex,Fin64 b (FT.neg b) mag ex:=by
 have hrf:=FT.rung_fields b
 unfold FT.infR at h
 exact⟨_,b/2^52%2^11,h0,rfl,by omega,rfl,rfl⟩
theorem Fin64.zero {b:Nat} {s:Bool} {mag ex:Nat} (h:Fin64 b s mag ex):mag=0↔FT.rung b=0:=by
 have hm:=h.magf
 have he:=h.exf
 have hrf:=FT.rung_fields b
 rw[he] at hrf
 rw[← hm]
 split<;>omega
end Go.Proofs.YtdidnnbpdcanlaaGreatDoor
namespace Go.Proofs.YtdidnnbpdcanlaaGreatDoor.EA
open Go.RowKit
open BN
/-- The greatest float's number is below this. -/
def top:Nat:=FT.v FT.infR
theorem q6Q {r:Nat}:FT.v r<top↔r<FT.infR:=by
 unfold top
 constructor
 ·intro h
  by_cases hx:r<FT.infR
  ·exact hx
  ·have:=FT.v_le.2 (show FT.infR≤r by omega);omega
 ·exact FT.v_lt
/-- A float's number has at most 53 digits. -/
theorem v_rp (r:Nat):Rp (FT.v r):=by
 by_cases h:r<2^52
 ·rw[FT.v_sub h];exact q8y (by omega)
 ·rw[FT.v_nor h];exact qas (by omega)
/-- A float's number in units of the lowest place. -/
def Z (b:Nat):Int:=if FT.neg b then -(FT.v (FT.rung b):Int) else (FT.v (FT.rung b):Int)
theorem Z_abs (b:Nat):(Z b).natAbs=FT.v (FT.rung b):=by unfold Z;split<;>omega
theorem Z_rp (b:Nat):Rp (Z b).natAbs:=by rw[Z_abs];exact v_rp _
theorem Z_top {b:Nat}:(Z b).natAbs<top↔FT.rung b<FT.infR:=by rw[Z_abs];exact q6Q
/-- r is the float nearest to z units. -/
def RnZ (z:Int) (r:Nat):Prop:=r<2^64∧FT.rung r≤FT.infR∧(FT.rung r<FT.infR→∃ v,IsRn z.natAbs v∧Z r=if z<0 then -(v:Int) else v)∧(Rp z.natAbs→z.natAbs<top→FT.rung r<FT.infR∧Z r=z)
/-- A finite word of so many units. -/
structure Is (b:Nat) (z:Int):Prop where
 lt:b<2^64
 fin:FT.rung b<FT.infR
 val:Z b=z
theorem RnZ.is {z:Int} {r:Nat} (h:RnZ z r) (h1:Rp z.natAbs) (h2:z.natAbs<top):Is r z:=⟨h.1,(h.2.2.2 h1 h2).1,(h.2.2.2 h1 h2).2⟩
theorem Is.rp {b:Nat} {z:Int} (h:Is b z):Rp z.natAbs:=by rw[← h.val];exact Z_rp b
theorem Is.top {b:Nat} {z:Int} (h:Is b z):z.natAbs<top:=by rw[← h.val];exact Z_top.2 h.fin
theorem IsRn.small {n v:Nat} (h:IsRn n v):n≤2*v∧v≤2*n:=by
 obtain⟨N,k,rfl,h1,h2,h3,h4⟩:=h
 rcases h4 with rfl|h4
 ·simp only[Nat.pow_zero,Nat.mul_one] at h2 h3 ⊢
  omega
 ·omega
/-- A finite word's number: so many units of its lowest digit. -/
structure Low (b:Nat) (m i:Nat):Prop where
 eq:(Z b).natAbs=m*2^i
 lt:m<2^53
end Go.Proofs.YtdidnnbpdcanlaaGreatDoor.EA
namespace Go.Proofs.YtdidnnbpdcanlaaGreatDoor
open Go.ChangeShapes Go.WideShapes Go.ChangeAt Go.RowKit
open BN
open EA (Z)
theorem low2 {N:Int} {D g:Nat} (hD:0<D) (hg:g=Nat.gcd N.natAbs D):
  Int.tdiv N g*(D:Int)=N*((D/g:Nat):Int)∧0<D/g∧(Int.tdiv N g).natAbs≤N.natAbs∧D/g≤D:=by
 have hg0:0<g:=by rw[hg];exact Nat.gcd_pos_of_pos_right _ hD
 obtain⟨a,ha⟩:(g:Int)∣N:=Int.ofNat_dvd_left.2 (by rw[hg];exact Nat.gcd_dvd_left _ _)
 obtain⟨d,hd⟩:g∣D:=by rw[hg];exact Nat.gcd_dvd_right _ _
 have h1:Int.tdiv N g=a:=by rw[ha];exact Int.mul_tdiv_cancel_left _ (by omega)
 have h2:D/g=d:=by rw[hd,Nat.mul_div_cancel_left _ hg0]
 have hd0:d≠0:=by intro h;rw[h,Nat.mul_zero] at hd;omega
 refine⟨?_,by omega,?_,Nat.div_le_self _ _⟩
 ·rw[h1,h2,hd,ha];push_cast;ac_rfl
 ·rw[h1,ha,Int.natAbs_mul,Int.natAbs_natCast];exact Nat.le_mul_of_pos_left _ hg0
/-- A ratio that is z in units of 1 / 2^u. -/
structure Un (u:Nat) (A:Int) (B:Nat) (z:Int):Prop where
 pos:0<B
 eq:A*((2^u:Nat):Int)=z*(B:Int)
/-- Products and sums of ratios in lowest terms. -/
theorem Un.mul {u A B A2 B2:_} {x y:Int} (h1:Un u A B x) (h2:Un u A2 B2 y):
  0<B*B2/Nat.gcd (A*A2).natAbs (B*B2)∧(Int.tdiv (A*A2) (Nat.gcd (A*A2).natAbs (B*B2):Nat))*(((2^u:Nat):Int)*((2^u:Nat):Int))=x*y*((B*B2/Nat.gcd (A*A2).natAbs (B*B2):Nat):Int):=by
 have hB:0<B*B2:=Nat.mul_pos h1.pos h2.pos
 obtain⟨f1,f2,-,-⟩:=low2 (N:=A*A2) hB rfl
 refine⟨f2,?_⟩
 have e1:=h1.eq
 have e2:=h2.eq
 have Tv:((B*B2:Nat):Int)≠0:=by omega
 refine Int.eq_of_mul_eq_mul_right Tv ?_
 generalize Int.tdiv (A*A2) (Nat.gcd (A*A2).natAbs (B*B2):Nat)=P at *
 generalize B*B2/Nat.gcd (A*A2).natAbs (B*B2)=Q at *
 generalize ((2^u:Nat):Int)=U at *
 rw[show P*(U*U)*((B*B2:Nat):Int)=(P*((B*B2:Nat):Int))*(U*U) from by ac_rfl,f1,show A*A2*(Q:Int)*(U*U)=(A*U)*(A2*U)*Q from by ac_rfl,e1,e2]
 push_cast
 ac_rfl
end Go.Proofs.YtdidnnbpdcanlaaGreatDoor
namespace Go.Proofs.YtdidnnbpdcanlaaGreatDoor
open Go.ChangeShapes Go.WideShapes Go.ChangeAt Go.RowKit
open BN
open EA (Z Low Is RnZ)
def fin (x:Nat):Bool:=decide (FT.rung x<FT.infR)
/-- A float operation on any words: what it gives, and where it has no answer a word that is no number. -/
def Any (o:Option Nat) (r:Nat):Prop:=r<2^64∧(∀ q,o=some q→r=q)∧(o=none→FT.nan r=true)
end Go.Proofs.YtdidnnbpdcanlaaGreatDoor
