/- What is proved here: contracts of package exact: a fraction's front, over this seat's translation. -/
import Derived.Test.YtemmkninoiclfaaGreatDoorC28
import Derived.Test.YtemmkninoiclfaaGreatDoorC9
namespace Go.Proofs.YtemmkninoiclfaaGreatDoor.EN
open Go.ChangeShapes Go.WideShapes Go.ChangeAt Go.RowKit
theorem q1U (w:World) (va:Value) (a K:Nat) (n:Int) (hK:K≤500000) (hn1: -1000000≤n) (hn2:n≤1000000) (ha:Num w va a) (ha2:a<2^(64*K)):
  Calls Tryz.prog 136 #[va,.int .i64 n] w (q0e w (a*2^n.toNat)):=by
 have HL:Hid _:=q25 w va a n.toNat K hK (by omega) ha ha2
 have HM:Hid (max n 0=((n.toNat:Nat):Int)):=by show max n 0=_;omega
 generalize n.toNat=k at *
 generalize a*2^k=z at *
 clear ha ha2
 go_enter Tryz.func136,Tryz.ntmps136
 go_wp2_with fail
 rw[HM.out]
 refine Calls.mono (P:=Tryz.prog) HL.out ?_
 intro e w1 hs
 obtain⟨v,rfl,g1,hv⟩:=hs
 go_wp2_with fail
 go_ret
 exact⟨_,rfl,g1,hv⟩
theorem q51 (w:World) (Q:Nat) (e P:Int) (tails:Bool) (iO:Q≠0) (hQ:Q<2^63) (he1: -10000000≤e) (he2:e≤10000000) (hP:P=max (e+blen Q-53) (-1074)) (hf:971<P):
  Calls Tryz.prog 133 #[.agg #[.int .u64 (Q:Int),.int .i64 e,.bool tails]] w fun r w'=>r= .returned (.tuple #[.int .u64 9007199254740991,.int .i64 971,.int .i64 3])∧G w w':=by
 have HB:Hid (∀ w1,_):=fun w1=>q4o Q w1 (by omega)
 have hL:Lib.bitLen Q=blen Q:=by rw[q18 iO (by omega)];unfold blen;rw[if_neg iO]
 have GJ:blen Q≤63:=by
  have:=(Nat.log2_lt iO).2 hQ
  unfold blen;rw[if_neg iO];omega
 rw[hL] at HB
 generalize blen Q=L at *
 have hmx:max (e+(L:Int)-53) (-1074)=P:=hP.symm
 have hw1:IntKind.i64.wrap (e+(L:Int))=e+(L:Int):=by rw[IntKind.wrap_i64];omega
 have hw2:IntKind.i64.wrap (e+(L:Int)-53)=e+(L:Int)-53:=by rw[IntKind.wrap_i64];omega
 have hd:decide (971<P)=true:=decide_eq_true hf
 have yR:(Q:Int)<18446744073709551616:=by omega
 clear iO hQ hL hP hf
 go_enter Tryz.func133,Tryz.ntmps133
 go_wp2_with fail
 obtain⟨w0,aN,g0,hz0,R0⟩:=q0x w [.int .u64 (Q:Int),.int .i64 e,.bool tails] 146
 rw[aN]
 clear aN
 refine q08 9 0 #[true,true,true,true,true,true,true,true,true] [.is (.pointer (some ⟨w.heap.size,1,none⟩)),.is (.int .i64 e),.is (.pointer (some ⟨w.heap.size,0,none⟩)),.is (.int .u64 Q),.is (.int .i64 L),.is (.int .i64 (e+L)),.is (.int .i64 (e+L-53)),.is (.int .i64 P),.is (.int .i64 P)] [some 8,some 9,some 10,some 11,some 12,some 13,some 14,some 15,some 3] (by kernel_rfl) (by kernel_rfl) rfl (by kernel_rfl) (by repeat (first|exact trivial|refine⟨fun _ _ _ g h=>by first|exact h.G g|exact fun w3 g3=>h w3 (G.trans g g3),?_⟩)) (by kernel_rfl) (by kernel_rfl) ?_
 refine Letters.is ?_
 refine Letters.is ?_
 refine Letters.is ?_
 refine Letters.is ?_
 refine Letters.is ?_
 refine Letters.is ?_
 refine Letters.is ?_
 refine Letters.is ?_
 refine Letters.is ?_
 refine Letters.nil ?_
 intro A hA
 simp only[q0V,Act.put,List.setIfInBounds_toArray,List.set_cons_zero,List.set_cons_succ] at hA
 subst hA
 refine⟨?_,?_⟩
 ·skip
  refine Eaches.cons rfl ?il (Eaches.cons rfl ?iI (Eaches.cons rfl ?iq (Eaches.cons rfl ?iJ (Eaches.cons rfl ?jS (Eaches.cons rfl ?jT (Eaches.cons rfl ?kQ (Eaches.cons rfl ?lK (Eaches.cons rfl ?kR (Eaches.nil)))))))))
  case il|iq|jT|kQ|lK|kR=>
   intro W hW hD K hK
   clear hD
   go_simp
   exact hK.out _ _ ⟨_,rfl,G.refl _,rfl⟩
  case iI|iJ=>
   intro W hW hD K hK
   clear hD
   have hR0:=Rec.f3 (Rec.G R0.out hW)
   have jL:=hR0.1
   have jM:=hR0.2.1
   have qQ:=hR0.2.2.1
   clear hR0
   go_simp
   exact hK.out _ _ ⟨_,rfl,G.refl _,rfl⟩
  ·intro W hW hD K hK
   clear hD
   go_simp
   go_wp2_with (go_at_call 196;refine Calls.mono (P:=Tryz.prog) (HB.out W) ?_;intro e w9 hs;obtain⟨rfl,g9⟩:=hs)
   exact hK.out _ _ ⟨_,rfl,g9,rfl⟩
 intro w1 g1 hH
 clear hH
 refine wpAny_done (by kernel_rfl) ?_ _
 have jb:=G.trans g0 g1
 have S0:Hid (Rec _ _ _):=Rec.G R0.out (g1)
 clear R0 g0 g1 HB
 go_wp2_with fail
 go_ret3
 exact⟨rfl,jb⟩
theorem q4K (w:World) (Q:Nat) (e P:Int) (tails:Bool) (iO:Q≠0) (hQ:Q<2^63) (he1: -10000000≤e) (he2:e≤10000000) (hP:P=max (e+blen Q-53) (-1074)) (hf:P≤971) (hn:63<P-e):
  Calls Tryz.prog 133 #[.agg #[.int .u64 (Q:Int),.int .i64 e,.bool tails]] w fun r w'=>r= .returned (.tuple #[.int .u64 0,.int .i64 P,.int .i64 1])∧G w w':=by
 have HB:Hid (∀ w1,_):=fun w1=>q4o Q w1 (by omega)
 have hL:Lib.bitLen Q=blen Q:=by rw[q18 iO (by omega)];unfold blen;rw[if_neg iO]
 have GJ:blen Q≤63:=by
  have:=(Nat.log2_lt iO).2 hQ
  unfold blen;rw[if_neg iO];omega
 rw[hL] at HB
 generalize blen Q=L at *
 have hmx:max (e+(L:Int)-53) (-1074)=P:=hP.symm
 have hw1:IntKind.i64.wrap (e+(L:Int))=e+(L:Int):=by rw[IntKind.wrap_i64];omega
 have hw2:IntKind.i64.wrap (e+(L:Int)-53)=e+(L:Int)-53:=by rw[IntKind.wrap_i64];omega
 have hd:decide (971<P)=false:=decide_eq_false (by omega)
 have hd2:decide (63<P-e)=true:=decide_eq_true hn
 have hP1: -1074≤P:=by omega
 have yR:(Q:Int)<18446744073709551616:=by omega
 clear iO hQ hL hP hn
 go_enter Tryz.func133,Tryz.ntmps133
 go_wp2_with fail
 obtain⟨w0,aN,g0,hz0,R0⟩:=q0x w [.int .u64 (Q:Int),.int .i64 e,.bool tails] 146
 rw[aN]
 clear aN
 refine q08 9 0 #[true,true,true,true,true,true,true,true,true] [.is (.pointer (some ⟨w.heap.size,1,none⟩)),.is (.int .i64 e),.is (.pointer (some ⟨w.heap.size,0,none⟩)),.is (.int .u64 Q),.is (.int .i64 L),.is (.int .i64 (e+L)),.is (.int .i64 (e+L-53)),.is (.int .i64 P),.is (.int .i64 P)] [some 8,some 9,some 10,some 11,some 12,some 13,some 14,some 15,some 3] (by kernel_rfl) (by kernel_rfl) rfl (by kernel_rfl) (by repeat (first|exact trivial|refine⟨fun _ _ _ g h=>by first|exact h.G g|exact fun w3 g3=>h w3 (G.trans g g3),?_⟩)) (by kernel_rfl) (by kernel_rfl) ?_
 refine Letters.is ?_
 refine Letters.is ?_
 refine Letters.is ?_
 refine Letters.is ?_
 refine Letters.is ?_
 refine Letters.is ?_
 refine Letters.is ?_
 refine Letters.is ?_
 refine Letters.is ?_
 refine Letters.nil ?_
 intro A hA
 simp only[q0V,Act.put,List.setIfInBounds_toArray,List.set_cons_zero,List.set_cons_succ] at hA
 subst hA
 refine⟨?_,?_⟩
 ·skip
  refine Eaches.cons rfl ?kS (Eaches.cons rfl ?nk (Eaches.cons rfl ?kT (Eaches.cons rfl ?lL (Eaches.cons rfl ?ou (Eaches.cons rfl ?nu (Eaches.cons rfl ?rP (Eaches.cons rfl ?uM (Eaches.cons rfl ?xk (Eaches.nil)))))))))
  case kS|kT|nu|rP|uM|xk=>
   intro W hW hD K hK
   clear hD
   go_simp
   exact hK.out _ _ ⟨_,rfl,G.refl _,rfl⟩
  case nk|lL=>
   intro W hW hD K hK
   clear hD
   have hR0:=Rec.f3 (Rec.G R0.out hW)
   have jL:=hR0.1
   have jM:=hR0.2.1
   have qQ:=hR0.2.2.1
   clear hR0
   go_simp
   exact hK.out _ _ ⟨_,rfl,G.refl _,rfl⟩
  ·intro W hW hD K hK
   clear hD
   go_simp
   go_wp2_with (go_at_call 196;refine Calls.mono (P:=Tryz.prog) (HB.out W) ?_;intro e w9 hs;obtain⟨rfl,g9⟩:=hs)
   exact hK.out _ _ ⟨_,rfl,g9,rfl⟩
 intro w1 g1 hH
 clear hH
 refine wpAny_done (by kernel_rfl) ?_ _
 have jb:=G.trans g0 g1
 have S0:Hid (Rec _ _ _):=Rec.G R0.out (g1)
 clear R0 g0 g1 HB
 have cu:=Rec.f3 (Rec.G S0.out (G.refl _))
 have mV:=cu.1
 have mW:=cu.2.1
 have mX:=cu.2.2.1
 have mY:=cu.2.2.2.1
 have mZ:=cu.2.2.2.2.1
 have ng:=cu.2.2.2.2.2
 clear cu
 go_wp2_with fail
 go_ret3
 exact⟨rfl,jb⟩
/-- What is left: b of 2 m steps, and whether there are tails. -/
def lv (b m:Nat) (tails:Bool):Nat:=if b=0∧tails=false then 0 else if b<m then 1 else if b=m∧tails=false then 2 else 3
set_option maxRecDepth 100000 in
set_option maxHeartbeats 1000000 in
theorem q3R (w:World) (Q k:Nat) (e P:Int) (tails:Bool) (iO:Q≠0) (hQ:Q<2^63) (he1: -10000000≤e) (he2:e≤10000000) (hP:P=max (e+blen Q-53) (-1074)) (hf:P≤971) (hn:P-e=(k:Int)+1) (hk:k≤62):
  Calls Tryz.prog 133 #[.agg #[.int .u64 (Q:Int),.int .i64 e,.bool tails]] w fun r w'=>r= .returned (.tuple #[.int .u64 (Q/2^(k+1):Nat),.int .i64 P,.int .i64 ((lv (Q%2^(k+1)) (2^k) tails:Nat):Int)])∧G w w':=by
 have HB:Hid (∀ w1,_):=fun w1=>q4o Q w1 (by omega)
 have hL:Lib.bitLen Q=blen Q:=by rw[q18 iO (by omega)];unfold blen;rw[if_neg iO]
 have GJ:blen Q≤63:=by
  have:=(Nat.log2_lt iO).2 hQ
  unfold blen;rw[if_neg iO];omega
 rw[hL] at HB
 generalize blen Q=L at *
 have hmx:max (e+(L:Int)-53) (-1074)=P:=hP.symm
 have hw1:IntKind.i64.wrap (e+(L:Int))=e+(L:Int):=by rw[IntKind.wrap_i64];omega
 have hw2:IntKind.i64.wrap (e+(L:Int)-53)=e+(L:Int)-53:=by rw[IntKind.wrap_i64];omega
 have hd:decide (971<P)=false:=decide_eq_false (by omega)
 have hd2:decide ((63:Int)<(k:Int)+1)=false:=decide_eq_false (by omega)
 have hP1: -1074≤P:=by omega
 have yR:(Q:Int)<18446744073709551616:=by omega
 have hw3:IntKind.i64.wrap (P-e)=(k:Int)+1:=by rw[IntKind.wrap_i64];omega
 have hw4:IntKind.i64.wrap ((k:Int)+1)=(k:Int)+1:=by rw[IntKind.wrap_i64];omega
 have o9:IntKind.i64.wrap (k:Int)=k:=by rw[IntKind.wrap_i64];omega
 obtain⟨p,hp⟩:∃ p,p=2^(k+1):=⟨_,rfl⟩
 obtain⟨m,hm⟩:∃ m,m=2^k:=⟨_,rfl⟩
 obtain⟨b,hb⟩:∃ b,b=Q%p:=⟨_,rfl⟩
 have hpm:p=2*m:=by rw[hp,hm,Nat.pow_succ];omega
 have hm1:1≤m:=by rw[hm];exact Nat.two_pow_pos k
 have hm2:m≤2^62:=by rw[hm];exact q0P hk
 have FY:bits BinOp.and IntKind.u64 (Q:Int) ((p:Int)-1)=(b:Int):=by
  rw[show ((p:Int)-1)=((p-1:Nat):Int) from by omega,u64_and_nat Q (p-1) (by omega) (by omega),hp,Nat.and_two_pow_sub_one_eq_mod,hb,hp]
 have hpi:(2:Int)^(k+1)=(p:Int):=by rw[hp];push_cast;rfl
 have Cc:(2:Int)^k=(m:Int):=by rw[hm];push_cast;rfl
 have hp2:(p:Int)≤9223372036854775808:=by omega
 have C9:(m:Int)≤9223372036854775808:=by omega
 have hp3:(2:Int)≤p:=by omega
 have sU:(1:Int)≤m:=by omega
 have Hw:IntKind.u64.wrap (p:Int)=p:=by rw[IntKind.wrap_u64];omega
 have hw7:IntKind.u64.wrap ((p:Int)-1)=(p:Int)-1:=by rw[IntKind.wrap_u64];omega
 have hw8:IntKind.u64.wrap (m:Int)=m:=by rw[IntKind.wrap_u64];omega
 rw[← hp,← hm,← hb]
 obtain⟨q,hq⟩:∃ q,q=Q/p:=⟨_,rfl⟩
 rw[← hq]
 have UU:(Q:Int)/(p:Int)=(q:Int):=by rw[hq];push_cast;rfl
 have U5:(q:Int)≤(Q:Int):=by have:=Nat.div_le_self Q p;omega
 have wu:Hid (1≤m):=hm1
 clear iO hQ hL hP hp hm hb hpm hm1 hm2 hq
 go_enter Tryz.func133,Tryz.ntmps133
 go_wp2_with fail
 obtain⟨w0,aN,g0,hz0,R0⟩:=q0x w [.int .u64 (Q:Int),.int .i64 e,.bool tails] 146
 rw[aN]
 clear aN
 refine q08 9 0 #[true,true,true,true,true,true,true,true,true] [.is (.pointer (some ⟨w.heap.size,1,none⟩)),.is (.int .i64 e),.is (.pointer (some ⟨w.heap.size,0,none⟩)),.is (.int .u64 Q),.is (.int .i64 L),.is (.int .i64 (e+L)),.is (.int .i64 (e+L-53)),.is (.int .i64 P),.is (.int .i64 P)] [some 8,some 9,some 10,some 11,some 12,some 13,some 14,some 15,some 3] (by kernel_rfl) (by kernel_rfl) rfl (by kernel_rfl) (by repeat (first|exact trivial|refine⟨fun _ _ _ g h=>by first|exact h.G g|exact fun w3 g3=>h w3 (G.trans g g3),?_⟩)) (by kernel_rfl) (by kernel_rfl) ?_
 refine Letters.is ?_
 refine Letters.is ?_
 refine Letters.is ?_
 refine Letters.is ?_
 refine Letters.is ?_
 refine Letters.is ?_
 refine Letters.is ?_
 refine Letters.is ?_
 refine Letters.is ?_
 refine Letters.nil ?_
 intro A hA
 simp only[q0V,Act.put,List.setIfInBounds_toArray,List.set_cons_zero,List.set_cons_succ] at hA
 subst hA
 refine⟨?_,?_⟩
 ·skip
  refine Eaches.cons rfl ?kU (Eaches.cons rfl ?lM (Eaches.cons rfl ?kV (Eaches.cons rfl ?lN (Eaches.cons rfl ?ny (Eaches.cons rfl ?nz (Eaches.cons rfl ?nA (Eaches.cons rfl ?ow (Eaches.cons rfl ?rQ (Eaches.nil)))))))))
  case kU|kV|nz|nA|ow|rQ=>
   intro W hW hD K hK
   clear hD
   go_simp
   exact hK.out _ _ ⟨_,rfl,G.refl _,rfl⟩
  case lM|lN=>
   intro W hW hD K hK
   clear hD
   have hR0:=Rec.f3 (Rec.G R0.out hW)
   have jL:=hR0.1
   have jM:=hR0.2.1
   have qQ:=hR0.2.2.1
   clear hR0
   go_simp
   exact hK.out _ _ ⟨_,rfl,G.refl _,rfl⟩
  ·intro W hW hD K hK
   clear hD
   go_simp
   go_wp2_with (go_at_call 196;refine Calls.mono (P:=Tryz.prog) (HB.out W) ?_;intro e w9 hs;obtain⟨rfl,g9⟩:=hs)
   exact hK.out _ _ ⟨_,rfl,g9,rfl⟩
 intro w1 g1 hH
 clear hH
 refine wpAny_done (by kernel_rfl) ?_ _
 have jb:=G.trans g0 g1
 have S0:Hid (Rec _ _ _):=Rec.G R0.out (g1)
 clear R0 g0 g1 HB
 have cu:=Rec.f3 (Rec.G S0.out (G.refl _))
 have mV:=cu.1
 have mW:=cu.2.1
 have mX:=cu.2.2.1
 have mY:=cu.2.2.2.1
 have mZ:=cu.2.2.2.2.1
 have ng:=cu.2.2.2.2.2
 clear cu
 go_wp2_with fail
 refine q08 11 0 #[true,true,true,true,true,true,true,true,true,true,true] [.is (.pointer (some ⟨w.heap.size,0,none⟩)),.is (.int .u64 Q),.is (.int .i64 (k+1)),.is (.int .u64 p),.is (.int .u64 (p-1)),.is (.int .u64 b),.is (.int .i64 (k+1)),.is (.int .i64 k),.is (.int .u64 m),.is (.int .u64 b),.is (.int .u64 m)] [some 25,some 26,some 27,some 28,some 29,some 30,some 31,some 32,some 33,some 6,some 7] (by kernel_rfl) (by kernel_rfl) rfl (by kernel_rfl) (by repeat (first|exact trivial|refine⟨fun _ _ _ g h=>by first|exact h.G g|exact fun w3 g3=>h w3 (G.trans g g3),?_⟩)) (by kernel_rfl) (by kernel_rfl) ?_
 refine Letters.is ?_
 refine Letters.is ?_
 refine Letters.is ?_
 refine Letters.is ?_
 refine Letters.is ?_
 refine Letters.is ?_
 refine Letters.is ?_
 refine Letters.is ?_
 refine Letters.is ?_
 refine Letters.is ?_
 refine Letters.is ?_
 refine Letters.nil ?_
 intro A hA
 simp only[q0V,Act.put,List.setIfInBounds_toArray,List.set_cons_zero,List.set_cons_succ] at hA
 subst hA
 refine⟨?_,?_⟩
 ·skip
  refine Eaches.cons rfl ?uN (Eaches.cons rfl ?uO (Eaches.cons rfl ?uP (Eaches.cons rfl ?xm (Eaches.cons rfl ?uQ (Eaches.cons rfl ?uR (Eaches.cons rfl ?Ay (Eaches.cons rfl ?Az (Eaches.cons rfl ?Er (Eaches.cons rfl ?M3 (Eaches.cons rfl ?FZ (Eaches.nil)))))))))))
  case uN|uP|xm|uQ|uR|Ay|Az|Er|M3|FZ=>
   intro W hW hD K hK
   clear hD
   go_simp
   exact hK.out _ _ ⟨_,rfl,G.refl _,rfl⟩
  case uO=>
   intro W hW hD K hK
   clear hD
   have hS0:=Rec.f3 (Rec.G S0.out hW)
   have qR:=hS0.1
   have qU:=hS0.2.1
   have yK:=hS0.2.2.1
   clear hS0
   go_simp
   exact hK.out _ _ ⟨_,rfl,G.refl _,rfl⟩
 intro w2 g2 hH
 clear hH
 refine wpAny_done (by kernel_rfl) ?_ _
 have jy:=G.trans jb g2
 have U0:Hid (Rec _ _ _):=Rec.G S0.out (g2)
 clear S0 FY hw1 hw2 hw3 Hw hw7 hw8 hmx Cc hp2 C9 hp3 sU jb g2
 cases tails
 ·by_cases c0:b=0
  ·have t0:((b:Int)==0)=true:=by rw[c0];rfl
   have HE:Hid (lv b m false=0):=by show lv b m false=0;unfold lv;simp [c0]
   clear c0
   have aF:=Rec.f3 (Rec.G U0.out (G.refl _))
   have dR:=aF.1
   have dS:=aF.2.1
   have dU:=aF.2.2.1
   have dG:=aF.2.2.2.1
   have dH:=aF.2.2.2.2.1
   have dI:=aF.2.2.2.2.2
   clear aF
   repeat (first|go_values|go_skip|go_guarded|go_step|go_upon)
   go_ret3
   exact⟨by rw[HE.out];rfl,jy⟩
  ·have t0:((b:Int)==0)=false:=by simp;exact c0
   by_cases c1:b<m
   ·have t1:decide (b<m)=true:=decide_eq_true c1
    have HE:Hid (lv b m false=1):=by show lv b m false=1;unfold lv;simp [c0,c1]
    clear c0 c1
    have aF:=Rec.f3 (Rec.G U0.out (G.refl _))
    have dR:=aF.1
    have dS:=aF.2.1
    have dU:=aF.2.2.1
    have dG:=aF.2.2.2.1
    have dH:=aF.2.2.2.2.1
    have dI:=aF.2.2.2.2.2
    clear aF
    repeat (first|go_values|go_skip|go_guarded|go_step|go_upon)
    go_ret3
    exact⟨by rw[HE.out];rfl,jy⟩
   ·have t1:decide (b<m)=false:=decide_eq_false c1
    by_cases c2:b=m
    ·have t2:((b:Int)==(m:Int))=true:=by rw[c2];simp
     have HE:Hid (lv b m false=2):=by show lv b m false=2;unfold lv;rw[if_neg (by rintro⟨h,-⟩;exact c0 h),if_neg c1,if_pos ⟨c2,rfl⟩]
     clear c0 c1 c2
     have aF:=Rec.f3 (Rec.G U0.out (G.refl _))
     have dR:=aF.1
     have dS:=aF.2.1
     have dU:=aF.2.2.1
     have dG:=aF.2.2.2.1
     have dH:=aF.2.2.2.2.1
     have dI:=aF.2.2.2.2.2
     clear aF
     repeat (first|go_values|go_skip|go_guarded|go_step|go_upon)
     go_ret3
     exact⟨by rw[HE.out];rfl,jy⟩
    ·have t2:((b:Int)==(m:Int))=false:=by simp;omega
     have HE:Hid (lv b m false=3):=by show lv b m false=3;unfold lv;simp [c0,c1,c2]
     clear c0 c1 c2
     have aF:=Rec.f3 (Rec.G U0.out (G.refl _))
     have dR:=aF.1
     have dS:=aF.2.1
     have dU:=aF.2.2.1
     have dG:=aF.2.2.2.1
     have dH:=aF.2.2.2.2.1
     have dI:=aF.2.2.2.2.2
     clear aF
     repeat (first|go_values|go_skip|go_guarded|go_step|go_upon)
     go_ret3
     exact⟨by rw[HE.out];rfl,jy⟩
 ·by_cases c1:b<m
  ·have t1:decide (b<m)=true:=decide_eq_true c1
   have HE:Hid (lv b m true=1):=by show lv b m true=1;unfold lv;simp [c1]
   by_cases c0:b=0
   ·have t0:((b:Int)==0)=true:=by rw[c0];rfl
    clear c0 c1
    have aF:=Rec.f3 (Rec.G U0.out (G.refl _))
    have dR:=aF.1
    have dS:=aF.2.1
    have dU:=aF.2.2.1
    have dG:=aF.2.2.2.1
    have dH:=aF.2.2.2.2.1
    have dI:=aF.2.2.2.2.2
    clear aF
    repeat (first|go_values|go_skip|go_guarded|go_step|go_upon)
    go_ret3
    exact⟨by rw[HE.out];rfl,jy⟩
   ·have t0:((b:Int)==0)=false:=by simp;exact c0
    clear c0 c1
    have aF:=Rec.f3 (Rec.G U0.out (G.refl _))
    have dR:=aF.1
    have dS:=aF.2.1
    have dU:=aF.2.2.1
    have dG:=aF.2.2.2.1
    have dH:=aF.2.2.2.2.1
    have dI:=aF.2.2.2.2.2
    clear aF
    repeat (first|go_values|go_skip|go_guarded|go_step|go_upon)
    go_ret3
    exact⟨by rw[HE.out];rfl,jy⟩
  ·have t1:decide (b<m)=false:=decide_eq_false c1
   have HE:Hid (lv b m true=3):=by show lv b m true=3;unfold lv;simp [c1]
   have t0:((b:Int)==0)=false:=by have:=wu.out;simp;omega
   by_cases c2:b=m
   ·have t2:((b:Int)==(m:Int))=true:=by rw[c2];simp
    clear c1 c2
    have aF:=Rec.f3 (Rec.G U0.out (G.refl _))
    have dR:=aF.1
    have dS:=aF.2.1
    have dU:=aF.2.2.1
    have dG:=aF.2.2.2.1
    have dH:=aF.2.2.2.2.1
    have dI:=aF.2.2.2.2.2
    clear aF
    repeat (first|go_values|go_skip|go_guarded|go_step|go_upon)
    go_ret3
    exact⟨by rw[HE.out];rfl,jy⟩
   ·have t2:((b:Int)==(m:Int))=false:=by simp;omega
    clear c1 c2
    have aF:=Rec.f3 (Rec.G U0.out (G.refl _))
    have dR:=aF.1
    have dS:=aF.2.1
    have dU:=aF.2.2.1
    have dG:=aF.2.2.2.1
    have dH:=aF.2.2.2.2.1
    have dI:=aF.2.2.2.2.2
    clear aF
    repeat (first|go_values|go_skip|go_guarded|go_step|go_upon)
    go_ret3
    exact⟨by rw[HE.out];rfl,jy⟩
end Go.Proofs.YtemmkninoiclfaaGreatDoor.EN
