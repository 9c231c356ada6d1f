/- What is proved here: contracts of package exact: a fraction's front, over this seat's translation. -/
import Derived.Test.YtljkfjjchkehaaaGreatDoorP31
import Derived.Test.YtljkfjjchkehaaaGreatDoorP10
namespace Go.Proofs.YtljkfjjchkehaaaGreatDoor.EN
open Go.ChangeShapes Go.WideShapes Go.ChangeAt Go.RowKit
theorem q2r (w:World) (va:Value) (a K:Nat) (n:Int) (hK:K≤500000) (hn1: -1000000≤n) (hn2:n≤1000000) (ha:Num w va a) (ha2:a<2^(64*K)):
  Calls Tryz.prog 200 #[va,.int .i64 n] w (q0e w (a*2^n.toNat)):=by
 have HL:Hid _:=q27 w va a n.toNat K hK (by omega) ha ha2
 have HM:Hid (max n 0=((n.toNat:Nat):Int)):=by show max n 0=_;omega
 generalize n.toNat=k at *
 generalize a*2^k=z at *
 clear ha ha2
 go_enter Tryz.func200,Tryz.ntmps200
 go_wp2_with fail
 rw[HM.out]
 refine Calls.mono (P:=Tryz.prog) HL.out ?_
 intro e w1 hs
 obtain⟨v,rfl,g1,hv⟩:=hs
 go_wp2_with fail
 go_ret
 exact⟨_,rfl,g1,hv⟩
theorem q7O (w:World) (Q:Nat) (e P:Int) (tails:Bool) (kR:Q≠0) (hQ:Q<2^63) (he1: -10000000≤e) (he2:e≤10000000) (hP:P=max (e+blen Q-53) (-1074)) (hf:971<P):
  Calls Tryz.prog 197 #[.agg #[.int .u64 (Q:Int),.int .i64 e,.bool tails]] w fun r w'=>r= .returned (.tuple #[.int .u64 9007199254740991,.int .i64 971,.int .i64 3])∧G w w':=by
 have HB:Hid (∀ w1,_):=fun w1=>q4c Q w1 (by omega)
 have hL:Lib.bitLen Q=blen Q:=by rw[q0V kR (by omega)];unfold blen;rw[if_neg kR]
 have JS:blen Q≤63:=by
  have:=(Nat.log2_lt kR).2 hQ
  unfold blen;rw[if_neg kR];omega
 rw[hL] at HB
 generalize blen Q=L at *
 have hmx:max (e+(L:Int)-53) (-1074)=P:=hP.symm
 have hw1:IntKind.i64.wrap (e+(L:Int))=e+(L:Int):=by rw[IntKind.wrap_i64];omega
 have hw2:IntKind.i64.wrap (e+(L:Int)-53)=e+(L:Int)-53:=by rw[IntKind.wrap_i64];omega
 have hd:decide (971<P)=true:=decide_eq_true hf
 have zA:(Q:Int)<18446744073709551616:=by omega
 clear kR hQ hL hP hf
 go_enter Tryz.func197,Tryz.ntmps197
 go_wp2_with fail
 obtain⟨w0,aD,g0,hz0,R0⟩:=q0l w [.int .u64 (Q:Int),.int .i64 e,.bool tails] 239
 rw[aD]
 clear aD
 refine q09 9 0 #[true,true,true,true,true,true,true,true,true] [.is (.pointer (some ⟨w.heap.size,1,none⟩)),.is (.int .i64 e),.is (.pointer (some ⟨w.heap.size,0,none⟩)),.is (.int .u64 Q),.is (.int .i64 L),.is (.int .i64 (e+L)),.is (.int .i64 (e+L-53)),.is (.int .i64 P),.is (.int .i64 P)] [some 8,some 9,some 10,some 11,some 12,some 13,some 14,some 15,some 3] (by kernel_rfl) (by kernel_rfl) rfl (by kernel_rfl) (by repeat (first|exact trivial|refine⟨fun _ _ _ g h=>by first|exact h.G g|exact fun w3 g3=>h w3 (G.trans g g3),?_⟩)) (by kernel_rfl) (by kernel_rfl) ?_
 refine Letters.is ?_
 refine Letters.is ?_
 refine Letters.is ?_
 refine Letters.is ?_
 refine Letters.is ?_
 refine Letters.is ?_
 refine Letters.is ?_
 refine Letters.is ?_
 refine Letters.is ?_
 refine Letters.nil ?_
 intro A hA
 simp only[q19,Act.put,List.setIfInBounds_toArray,List.set_cons_zero,List.set_cons_succ] at hA
 subst hA
 refine⟨?_,?_⟩
 ·skip
  refine Eaches.cons rfl ?jh (Eaches.cons rfl ?jH (Eaches.cons rfl ?jI (Eaches.cons rfl ?jS (Eaches.cons rfl ?l7 (Eaches.cons rfl ?l8 (Eaches.cons rfl ?o5 (Eaches.cons rfl ?pO (Eaches.cons rfl ?o6 (Eaches.nil)))))))))
  case jh|jI|l8|o5|pO|o6=>
   intro W hW hD K hK
   clear hD
   go_simp
   exact hK.out _ _ ⟨_,rfl,G.refl _,rfl⟩
  case jH|jS=>
   intro W hW hD K hK
   clear hD
   have hR0:=Rec.f3 (Rec.G R0.out hW)
   have ji:=hR0.1
   have jk:=hR0.2.1
   have sG:=hR0.2.2.1
   clear hR0
   go_simp
   exact hK.out _ _ ⟨_,rfl,G.refl _,rfl⟩
  ·intro W hW hD K hK
   clear hD
   go_simp
   go_wp2_with (go_at_call 205;refine Calls.mono (P:=Tryz.prog) (HB.out W) ?_;intro e w9 hs;obtain⟨rfl,g9⟩:=hs)
   exact hK.out _ _ ⟨_,rfl,g9,rfl⟩
 intro w1 g1 hH
 clear hH
 refine wpAny_done (by kernel_rfl) ?_ _
 have cB:=G.trans g0 g1
 have S0:Hid (Rec _ _ _):=Rec.G R0.out (g1)
 clear R0 g0 g1 HB
 go_wp2_with fail
 go_ret3
 exact⟨rfl,cB⟩
theorem q7X (w:World) (Q:Nat) (e P:Int) (tails:Bool) (kR:Q≠0) (hQ:Q<2^63) (he1: -10000000≤e) (he2:e≤10000000) (hP:P=max (e+blen Q-53) (-1074)) (hf:P≤971) (hn:63<P-e):
  Calls Tryz.prog 197 #[.agg #[.int .u64 (Q:Int),.int .i64 e,.bool tails]] w fun r w'=>r= .returned (.tuple #[.int .u64 0,.int .i64 P,.int .i64 1])∧G w w':=by
 have HB:Hid (∀ w1,_):=fun w1=>q4c Q w1 (by omega)
 have hL:Lib.bitLen Q=blen Q:=by rw[q0V kR (by omega)];unfold blen;rw[if_neg kR]
 have JS:blen Q≤63:=by
  have:=(Nat.log2_lt kR).2 hQ
  unfold blen;rw[if_neg kR];omega
 rw[hL] at HB
 generalize blen Q=L at *
 have hmx:max (e+(L:Int)-53) (-1074)=P:=hP.symm
 have hw1:IntKind.i64.wrap (e+(L:Int))=e+(L:Int):=by rw[IntKind.wrap_i64];omega
 have hw2:IntKind.i64.wrap (e+(L:Int)-53)=e+(L:Int)-53:=by rw[IntKind.wrap_i64];omega
 have hd:decide (971<P)=false:=decide_eq_false (by omega)
 have hd2:decide (63<P-e)=true:=decide_eq_true hn
 have hP1: -1074≤P:=by omega
 have zA:(Q:Int)<18446744073709551616:=by omega
 clear kR hQ hL hP hn
 go_enter Tryz.func197,Tryz.ntmps197
 go_wp2_with fail
 obtain⟨w0,aD,g0,hz0,R0⟩:=q0l w [.int .u64 (Q:Int),.int .i64 e,.bool tails] 239
 rw[aD]
 clear aD
 refine q09 9 0 #[true,true,true,true,true,true,true,true,true] [.is (.pointer (some ⟨w.heap.size,1,none⟩)),.is (.int .i64 e),.is (.pointer (some ⟨w.heap.size,0,none⟩)),.is (.int .u64 Q),.is (.int .i64 L),.is (.int .i64 (e+L)),.is (.int .i64 (e+L-53)),.is (.int .i64 P),.is (.int .i64 P)] [some 8,some 9,some 10,some 11,some 12,some 13,some 14,some 15,some 3] (by kernel_rfl) (by kernel_rfl) rfl (by kernel_rfl) (by repeat (first|exact trivial|refine⟨fun _ _ _ g h=>by first|exact h.G g|exact fun w3 g3=>h w3 (G.trans g g3),?_⟩)) (by kernel_rfl) (by kernel_rfl) ?_
 refine Letters.is ?_
 refine Letters.is ?_
 refine Letters.is ?_
 refine Letters.is ?_
 refine Letters.is ?_
 refine Letters.is ?_
 refine Letters.is ?_
 refine Letters.is ?_
 refine Letters.is ?_
 refine Letters.nil ?_
 intro A hA
 simp only[q19,Act.put,List.setIfInBounds_toArray,List.set_cons_zero,List.set_cons_succ] at hA
 subst hA
 refine⟨?_,?_⟩
 ·skip
  refine Eaches.cons rfl ?kS (Eaches.cons rfl ?lN (Eaches.cons rfl ?lh (Eaches.cons rfl ?lQ (Eaches.cons rfl ?nz (Eaches.cons rfl ?lS (Eaches.cons rfl ?tN (Eaches.cons rfl ?uU (Eaches.cons rfl ?xI (Eaches.nil)))))))))
  case kS|lh|lS|tN|uU|xI=>
   intro W hW hD K hK
   clear hD
   go_simp
   exact hK.out _ _ ⟨_,rfl,G.refl _,rfl⟩
  case lN|lQ=>
   intro W hW hD K hK
   clear hD
   have hR0:=Rec.f3 (Rec.G R0.out hW)
   have ji:=hR0.1
   have jk:=hR0.2.1
   have sG:=hR0.2.2.1
   clear hR0
   go_simp
   exact hK.out _ _ ⟨_,rfl,G.refl _,rfl⟩
  ·intro W hW hD K hK
   clear hD
   go_simp
   go_wp2_with (go_at_call 205;refine Calls.mono (P:=Tryz.prog) (HB.out W) ?_;intro e w9 hs;obtain⟨rfl,g9⟩:=hs)
   exact hK.out _ _ ⟨_,rfl,g9,rfl⟩
 intro w1 g1 hH
 clear hH
 refine wpAny_done (by kernel_rfl) ?_ _
 have cB:=G.trans g0 g1
 have S0:Hid (Rec _ _ _):=Rec.G R0.out (g1)
 clear R0 g0 g1 HB
 have fO:=Rec.f3 (Rec.G S0.out (G.refl _))
 have qA:=fO.1
 have qB:=fO.2.1
 have qC:=fO.2.2.1
 have qD:=fO.2.2.2.1
 have qE:=fO.2.2.2.2.1
 have qF:=fO.2.2.2.2.2
 clear fO
 go_wp2_with fail
 go_ret3
 exact⟨rfl,cB⟩
/-- What is left: b of 2 m steps, and whether there are tails. -/
def lv (b m:Nat) (tails:Bool):Nat:=if b=0∧tails=false then 0 else if b<m then 1 else if b=m∧tails=false then 2 else 3
set_option maxRecDepth 100000 in
set_option maxHeartbeats 1000000 in
theorem q6u (w:World) (Q k:Nat) (e P:Int) (tails:Bool) (kR:Q≠0) (hQ:Q<2^63) (he1: -10000000≤e) (he2:e≤10000000) (hP:P=max (e+blen Q-53) (-1074)) (hf:P≤971) (hn:P-e=(k:Int)+1) (hk:k≤62):
  Calls Tryz.prog 197 #[.agg #[.int .u64 (Q:Int),.int .i64 e,.bool tails]] w fun r w'=>r= .returned (.tuple #[.int .u64 (Q/2^(k+1):Nat),.int .i64 P,.int .i64 ((lv (Q%2^(k+1)) (2^k) tails:Nat):Int)])∧G w w':=by
 have HB:Hid (∀ w1,_):=fun w1=>q4c Q w1 (by omega)
 have hL:Lib.bitLen Q=blen Q:=by rw[q0V kR (by omega)];unfold blen;rw[if_neg kR]
 have JS:blen Q≤63:=by
  have:=(Nat.log2_lt kR).2 hQ
  unfold blen;rw[if_neg kR];omega
 rw[hL] at HB
 generalize blen Q=L at *
 have hmx:max (e+(L:Int)-53) (-1074)=P:=hP.symm
 have hw1:IntKind.i64.wrap (e+(L:Int))=e+(L:Int):=by rw[IntKind.wrap_i64];omega
 have hw2:IntKind.i64.wrap (e+(L:Int)-53)=e+(L:Int)-53:=by rw[IntKind.wrap_i64];omega
 have hd:decide (971<P)=false:=decide_eq_false (by omega)
 have hd2:decide ((63:Int)<(k:Int)+1)=false:=decide_eq_false (by omega)
 have hP1: -1074≤P:=by omega
 have zA:(Q:Int)<18446744073709551616:=by omega
 have hw3:IntKind.i64.wrap (P-e)=(k:Int)+1:=by rw[IntKind.wrap_i64];omega
 have hw4:IntKind.i64.wrap ((k:Int)+1)=(k:Int)+1:=by rw[IntKind.wrap_i64];omega
 have nS:IntKind.i64.wrap (k:Int)=k:=by rw[IntKind.wrap_i64];omega
 obtain⟨p,hp⟩:∃ p,p=2^(k+1):=⟨_,rfl⟩
 obtain⟨m,hm⟩:∃ m,m=2^k:=⟨_,rfl⟩
 obtain⟨b,hb⟩:∃ b,b=Q%p:=⟨_,rfl⟩
 have hpm:p=2*m:=by rw[hp,hm,Nat.pow_succ];omega
 have hm1:1≤m:=by rw[hm];exact Nat.two_pow_pos k
 have hm2:m≤2^62:=by rw[hm];exact q0Y hk
 have FB:bits BinOp.and IntKind.u64 (Q:Int) ((p:Int)-1)=(b:Int):=by
  rw[show ((p:Int)-1)=((p-1:Nat):Int) from by omega,u64_and_nat Q (p-1) (by omega) (by omega),hp,Nat.and_two_pow_sub_one_eq_mod,hb,hp]
 have hpi:(2:Int)^(k+1)=(p:Int):=by rw[hp];push_cast;rfl
 have CL:(2:Int)^k=(m:Int):=by rw[hm];push_cast;rfl
 have hp2:(p:Int)≤9223372036854775808:=by omega
 have Gy:(m:Int)≤9223372036854775808:=by omega
 have hp3:(2:Int)≤p:=by omega
 have Sa:(1:Int)≤m:=by omega
 have Gs:IntKind.u64.wrap (p:Int)=p:=by rw[IntKind.wrap_u64];omega
 have hw7:IntKind.u64.wrap ((p:Int)-1)=(p:Int)-1:=by rw[IntKind.wrap_u64];omega
 have hw8:IntKind.u64.wrap (m:Int)=m:=by rw[IntKind.wrap_u64];omega
 rw[← hp,← hm,← hb]
 obtain⟨q,hq⟩:∃ q,q=Q/p:=⟨_,rfl⟩
 rw[← hq]
 have TA:(Q:Int)/(p:Int)=(q:Int):=by rw[hq];push_cast;rfl
 have Sb:(q:Int)≤(Q:Int):=by have:=Nat.div_le_self Q p;omega
 have xc:Hid (1≤m):=hm1
 clear kR hQ hL hP hp hm hb hpm hm1 hm2 hq
 go_enter Tryz.func197,Tryz.ntmps197
 go_wp2_with fail
 obtain⟨w0,aD,g0,hz0,R0⟩:=q0l w [.int .u64 (Q:Int),.int .i64 e,.bool tails] 239
 rw[aD]
 clear aD
 refine q09 9 0 #[true,true,true,true,true,true,true,true,true] [.is (.pointer (some ⟨w.heap.size,1,none⟩)),.is (.int .i64 e),.is (.pointer (some ⟨w.heap.size,0,none⟩)),.is (.int .u64 Q),.is (.int .i64 L),.is (.int .i64 (e+L)),.is (.int .i64 (e+L-53)),.is (.int .i64 P),.is (.int .i64 P)] [some 8,some 9,some 10,some 11,some 12,some 13,some 14,some 15,some 3] (by kernel_rfl) (by kernel_rfl) rfl (by kernel_rfl) (by repeat (first|exact trivial|refine⟨fun _ _ _ g h=>by first|exact h.G g|exact fun w3 g3=>h w3 (G.trans g g3),?_⟩)) (by kernel_rfl) (by kernel_rfl) ?_
 refine Letters.is ?_
 refine Letters.is ?_
 refine Letters.is ?_
 refine Letters.is ?_
 refine Letters.is ?_
 refine Letters.is ?_
 refine Letters.is ?_
 refine Letters.is ?_
 refine Letters.is ?_
 refine Letters.nil ?_
 intro A hA
 simp only[q19,Act.put,List.setIfInBounds_toArray,List.set_cons_zero,List.set_cons_succ] at hA
 subst hA
 refine⟨?_,?_⟩
 ·skip
  refine Eaches.cons rfl ?lT (Eaches.cons rfl ?nA (Eaches.cons rfl ?nC (Eaches.cons rfl ?og (Eaches.cons rfl ?oh (Eaches.cons rfl ?om (Eaches.cons rfl ?qJ (Eaches.cons rfl ?tO (Eaches.cons rfl ?xJ (Eaches.nil)))))))))
  case lT|nC|om|qJ|tO|xJ=>
   intro W hW hD K hK
   clear hD
   go_simp
   exact hK.out _ _ ⟨_,rfl,G.refl _,rfl⟩
  case nA|og=>
   intro W hW hD K hK
   clear hD
   have hR0:=Rec.f3 (Rec.G R0.out hW)
   have ji:=hR0.1
   have jk:=hR0.2.1
   have sG:=hR0.2.2.1
   clear hR0
   go_simp
   exact hK.out _ _ ⟨_,rfl,G.refl _,rfl⟩
  ·intro W hW hD K hK
   clear hD
   go_simp
   go_wp2_with (go_at_call 205;refine Calls.mono (P:=Tryz.prog) (HB.out W) ?_;intro e w9 hs;obtain⟨rfl,g9⟩:=hs)
   exact hK.out _ _ ⟨_,rfl,g9,rfl⟩
 intro w1 g1 hH
 clear hH
 refine wpAny_done (by kernel_rfl) ?_ _
 have cB:=G.trans g0 g1
 have S0:Hid (Rec _ _ _):=Rec.G R0.out (g1)
 clear R0 g0 g1 HB
 have fO:=Rec.f3 (Rec.G S0.out (G.refl _))
 have qA:=fO.1
 have qB:=fO.2.1
 have qC:=fO.2.2.1
 have qD:=fO.2.2.2.1
 have qE:=fO.2.2.2.2.1
 have qF:=fO.2.2.2.2.2
 clear fO
 go_wp2_with fail
 refine q09 11 0 #[true,true,true,true,true,true,true,true,true,true,true] [.is (.pointer (some ⟨w.heap.size,0,none⟩)),.is (.int .u64 Q),.is (.int .i64 (k+1)),.is (.int .u64 p),.is (.int .u64 (p-1)),.is (.int .u64 b),.is (.int .i64 (k+1)),.is (.int .i64 k),.is (.int .u64 m),.is (.int .u64 b),.is (.int .u64 m)] [some 25,some 26,some 27,some 28,some 29,some 30,some 31,some 32,some 33,some 6,some 7] (by kernel_rfl) (by kernel_rfl) rfl (by kernel_rfl) (by repeat (first|exact trivial|refine⟨fun _ _ _ g h=>by first|exact h.G g|exact fun w3 g3=>h w3 (G.trans g g3),?_⟩)) (by kernel_rfl) (by kernel_rfl) ?_
 refine Letters.is ?_
 refine Letters.is ?_
 refine Letters.is ?_
 refine Letters.is ?_
 refine Letters.is ?_
 refine Letters.is ?_
 refine Letters.is ?_
 refine Letters.is ?_
 refine Letters.is ?_
 refine Letters.is ?_
 refine Letters.is ?_
 refine Letters.nil ?_
 intro A hA
 simp only[q19,Act.put,List.setIfInBounds_toArray,List.set_cons_zero,List.set_cons_succ] at hA
 subst hA
 refine⟨?_,?_⟩
 ·skip
  refine Eaches.cons rfl ?uV (Eaches.cons rfl ?uW (Eaches.cons rfl ?uX (Eaches.cons rfl ?xK (Eaches.cons rfl ?uY (Eaches.cons rfl ?uZ (Eaches.cons rfl ?zM (Eaches.cons rfl ?zN (Eaches.cons rfl ?Dg (Eaches.cons rfl ?Mj (Eaches.cons rfl ?FC (Eaches.nil)))))))))))
  case uV|uX|xK|uY|uZ|zM|zN|Dg|Mj|FC=>
   intro W hW hD K hK
   clear hD
   go_simp
   exact hK.out _ _ ⟨_,rfl,G.refl _,rfl⟩
  case uW=>
   intro W hW hD K hK
   clear hD
   have hS0:=Rec.f3 (Rec.G S0.out hW)
   have sH:=hS0.1
   have sI:=hS0.2.1
   have za:=hS0.2.2.1
   clear hS0
   go_simp
   exact hK.out _ _ ⟨_,rfl,G.refl _,rfl⟩
 intro w2 g2 hH
 clear hH
 refine wpAny_done (by kernel_rfl) ?_ _
 have dJ:=G.trans cB g2
 have U0:Hid (Rec _ _ _):=Rec.G S0.out (g2)
 clear S0 FB hw1 hw2 hw3 Gs hw7 hw8 hmx CL hp2 Gy hp3 Sa cB g2
 cases tails
 ·by_cases c0:b=0
  ·have t0:((b:Int)==0)=true:=by rw[c0];rfl
   have HE:Hid (lv b m false=0):=by show lv b m false=0;unfold lv;simp [c0]
   clear c0
   have aN:=Rec.f3 (Rec.G U0.out (G.refl _))
   have fA:=aN.1
   have fB:=aN.2.1
   have fC:=aN.2.2.1
   have eU:=aN.2.2.2.1
   have eX:=aN.2.2.2.2.1
   have eY:=aN.2.2.2.2.2
   clear aN
   repeat (first|go_values|go_skip|go_guarded|go_step|go_upon)
   go_ret3
   exact⟨by rw[HE.out];rfl,dJ⟩
  ·have t0:((b:Int)==0)=false:=by simp;exact c0
   by_cases c1:b<m
   ·have t1:decide (b<m)=true:=decide_eq_true c1
    have HE:Hid (lv b m false=1):=by show lv b m false=1;unfold lv;simp [c0,c1]
    clear c0 c1
    have aN:=Rec.f3 (Rec.G U0.out (G.refl _))
    have fA:=aN.1
    have fB:=aN.2.1
    have fC:=aN.2.2.1
    have eU:=aN.2.2.2.1
    have eX:=aN.2.2.2.2.1
    have eY:=aN.2.2.2.2.2
    clear aN
    repeat (first|go_values|go_skip|go_guarded|go_step|go_upon)
    go_ret3
    exact⟨by rw[HE.out];rfl,dJ⟩
   ·have t1:decide (b<m)=false:=decide_eq_false c1
    by_cases c2:b=m
    ·have t2:((b:Int)==(m:Int))=true:=by rw[c2];simp
     have HE:Hid (lv b m false=2):=by show lv b m false=2;unfold lv;rw[if_neg (by rintro⟨h,-⟩;exact c0 h),if_neg c1,if_pos ⟨c2,rfl⟩]
     clear c0 c1 c2
     have aN:=Rec.f3 (Rec.G U0.out (G.refl _))
     have fA:=aN.1
     have fB:=aN.2.1
     have fC:=aN.2.2.1
     have eU:=aN.2.2.2.1
     have eX:=aN.2.2.2.2.1
     have eY:=aN.2.2.2.2.2
     clear aN
     repeat (first|go_values|go_skip|go_guarded|go_step|go_upon)
     go_ret3
     exact⟨by rw[HE.out];rfl,dJ⟩
    ·have t2:((b:Int)==(m:Int))=false:=by simp;omega
     have HE:Hid (lv b m false=3):=by show lv b m false=3;unfold lv;simp [c0,c1,c2]
     clear c0 c1 c2
     have aN:=Rec.f3 (Rec.G U0.out (G.refl _))
     have fA:=aN.1
     have fB:=aN.2.1
     have fC:=aN.2.2.1
     have eU:=aN.2.2.2.1
     have eX:=aN.2.2.2.2.1
     have eY:=aN.2.2.2.2.2
     clear aN
     repeat (first|go_values|go_skip|go_guarded|go_step|go_upon)
     go_ret3
     exact⟨by rw[HE.out];rfl,dJ⟩
 ·by_cases c1:b<m
  ·have t1:decide (b<m)=true:=decide_eq_true c1
   have HE:Hid (lv b m true=1):=by show lv b m true=1;unfold lv;simp [c1]
   by_cases c0:b=0
   ·have t0:((b:Int)==0)=true:=by rw[c0];rfl
    clear c0 c1
    have aN:=Rec.f3 (Rec.G U0.out (G.refl _))
    have fA:=aN.1
    have fB:=aN.2.1
    have fC:=aN.2.2.1
    have eU:=aN.2.2.2.1
    have eX:=aN.2.2.2.2.1
    have eY:=aN.2.2.2.2.2
    clear aN
    repeat (first|go_values|go_skip|go_guarded|go_step|go_upon)
    go_ret3
    exact⟨by rw[HE.out];rfl,dJ⟩
   ·have t0:((b:Int)==0)=false:=by simp;exact c0
    clear c0 c1
    have aN:=Rec.f3 (Rec.G U0.out (G.refl _))
    have fA:=aN.1
    have fB:=aN.2.1
    have fC:=aN.2.2.1
    have eU:=aN.2.2.2.1
    have eX:=aN.2.2.2.2.1
    have eY:=aN.2.2.2.2.2
    clear aN
    repeat (first|go_values|go_skip|go_guarded|go_step|go_upon)
    go_ret3
    exact⟨by rw[HE.out];rfl,dJ⟩
  ·have t1:decide (b<m)=false:=decide_eq_false c1
   have HE:Hid (lv b m true=3):=by show lv b m true=3;unfold lv;simp [c1]
   have t0:((b:Int)==0)=false:=by have:=xc.out;simp;omega
   by_cases c2:b=m
   ·have t2:((b:Int)==(m:Int))=true:=by rw[c2];simp
    clear c1 c2
    have aN:=Rec.f3 (Rec.G U0.out (G.refl _))
    have fA:=aN.1
    have fB:=aN.2.1
    have fC:=aN.2.2.1
    have eU:=aN.2.2.2.1
    have eX:=aN.2.2.2.2.1
    have eY:=aN.2.2.2.2.2
    clear aN
    repeat (first|go_values|go_skip|go_guarded|go_step|go_upon)
    go_ret3
    exact⟨by rw[HE.out];rfl,dJ⟩
   ·have t2:((b:Int)==(m:Int))=false:=by simp;omega
    clear c1 c2
    have aN:=Rec.f3 (Rec.G U0.out (G.refl _))
    have fA:=aN.1
    have fB:=aN.2.1
    have fC:=aN.2.2.1
    have eU:=aN.2.2.2.1
    have eX:=aN.2.2.2.2.1
    have eY:=aN.2.2.2.2.2
    clear aN
    repeat (first|go_values|go_skip|go_guarded|go_step|go_upon)
    go_ret3
    exact⟨by rw[HE.out];rfl,dJ⟩
end Go.Proofs.YtljkfjjchkehaaaGreatDoor.EN
