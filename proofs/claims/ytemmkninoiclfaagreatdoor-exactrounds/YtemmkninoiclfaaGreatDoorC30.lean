/- What is proved here: contracts of package exact: a fraction's front, over this seat's translation. -/
import Derived.Test.YtemmkninoiclfaaGreatDoorC28
import Derived.Test.YtemmkninoiclfaaGreatDoorC9
namespace Go.Proofs.YtemmkninoiclfaaGreatDoor.EN
open Go.ChangeShapes Go.WideShapes Go.ChangeAt Go.RowKit
theorem q1R (w:World) (va:Value) (a K:Nat) (n:Int) (hK:K≤500000) (hn1: -1000000≤n) (hn2:n≤1000000) (ha:Num w va a) (ha2:a<2^(64*K)):
  Calls Tryz.prog 136 #[va,.int .i64 n] w (q0e w (a*2^n.toNat)):=by
 have HL:Hid _:=q20 w va a n.toNat K hK (by omega) ha ha2
 have HM:Hid (max n 0=((n.toNat:Nat):Int)):=by show max n 0=_;omega
 generalize n.toNat=k at *
 generalize a*2^k=z at *
 clear ha ha2
 go_enter Tryz.func136,Tryz.ntmps136
 go_wp2_with fail
 rw[HM.out]
 refine Calls.mono (P:=Tryz.prog) HL.out ?_
 intro e w1 hs
 obtain⟨v,rfl,g1,hv⟩:=hs
 go_wp2_with fail
 go_ret
 exact⟨_,rfl,g1,hv⟩
theorem q50 (w:World) (Q:Nat) (e P:Int) (tails:Bool) (ik:Q≠0) (hQ:Q<2^63) (he1: -10000000≤e) (he2:e≤10000000) (hP:P=max (e+blen Q-53) (-1074)) (hf:971<P):
  Calls Tryz.prog 133 #[.agg #[.int .u64 (Q:Int),.int .i64 e,.bool tails]] w fun r w'=>r= .returned (.tuple #[.int .u64 9007199254740991,.int .i64 971,.int .i64 3])∧G w w':=by
 have HB:Hid (∀ w1,_):=fun w1=>q4m Q w1 (by omega)
 have hL:Lib.bitLen Q=blen Q:=by rw[q18 ik (by omega)];unfold blen;rw[if_neg ik]
 have FW:blen Q≤63:=by
  have:=(Nat.log2_lt ik).2 hQ
  unfold blen;rw[if_neg ik];omega
 rw[hL] at HB
 generalize blen Q=L at *
 have hmx:max (e+(L:Int)-53) (-1074)=P:=hP.symm
 have hw1:IntKind.i64.wrap (e+(L:Int))=e+(L:Int):=by rw[IntKind.wrap_i64];omega
 have hw2:IntKind.i64.wrap (e+(L:Int)-53)=e+(L:Int)-53:=by rw[IntKind.wrap_i64];omega
 have hd:decide (971<P)=true:=decide_eq_true hf
 have xz:(Q:Int)<18446744073709551616:=by omega
 clear ik hQ hL hP hf
 go_enter Tryz.func133,Tryz.ntmps133
 go_wp2_with fail
 obtain⟨w0,aM,g0,hz0,R0⟩:=q0x w [.int .u64 (Q:Int),.int .i64 e,.bool tails] 146
 rw[aM]
 clear aM
 refine q08 9 0 #[true,true,true,true,true,true,true,true,true] [.is (.pointer (some ⟨w.heap.size,1,none⟩)),.is (.int .i64 e),.is (.pointer (some ⟨w.heap.size,0,none⟩)),.is (.int .u64 Q),.is (.int .i64 L),.is (.int .i64 (e+L)),.is (.int .i64 (e+L-53)),.is (.int .i64 P),.is (.int .i64 P)] [some 8,some 9,some 10,some 11,some 12,some 13,some 14,some 15,some 3] (by kernel_rfl) (by kernel_rfl) rfl (by kernel_rfl) (by repeat (first|exact trivial|refine⟨fun _ _ _ g h=>by first|exact h.G g|exact fun w3 g3=>h w3 (G.trans g g3),?_⟩)) (by kernel_rfl) (by kernel_rfl) ?_
 refine Letters.is ?_
 refine Letters.is ?_
 refine Letters.is ?_
 refine Letters.is ?_
 refine Letters.is ?_
 refine Letters.is ?_
 refine Letters.is ?_
 refine Letters.is ?_
 refine Letters.is ?_
 refine Letters.nil ?_
 intro A hA
 simp only[q0V,Act.put,List.setIfInBounds_toArray,List.set_cons_zero,List.set_cons_succ] at hA
 subst hA
 refine⟨?_,?_⟩
 ·skip
  refine Eaches.cons rfl ?gH (Eaches.cons rfl ?gW (Eaches.cons rfl ?gI (Eaches.cons rfl ?gX (Eaches.cons rfl ?jq (Eaches.cons rfl ?jr (Eaches.cons rfl ?jL (Eaches.cons rfl ?kJ (Eaches.cons rfl ?jM (Eaches.nil)))))))))
  case gH|gI|jr|jL|kJ|jM=>
   intro W hW hD K hK
   clear hD
   go_simp
   exact hK.out _ _ ⟨_,rfl,G.refl _,rfl⟩
  case gW|gX=>
   intro W hW hD K hK
   clear hD
   have hR0:=Rec.f3 (Rec.G R0.out hW)
   have jg:=hR0.1
   have jh:=hR0.2.1
   have pF:=hR0.2.2.1
   clear hR0
   go_simp
   exact hK.out _ _ ⟨_,rfl,G.refl _,rfl⟩
  ·intro W hW hD K hK
   clear hD
   go_simp
   go_wp2_with (go_at_call 196;refine Calls.mono (P:=Tryz.prog) (HB.out W) ?_;intro e w9 hs;obtain⟨rfl,g9⟩:=hs)
   exact hK.out _ _ ⟨_,rfl,g9,rfl⟩
 intro w1 g1 hH
 clear hH
 refine wpAny_done (by kernel_rfl) ?_ _
 have iF:=G.trans g0 g1
 have S0:Hid (Rec _ _ _):=Rec.G R0.out (g1)
 clear R0 g0 g1 HB
 go_wp2_with fail
 go_ret3
 exact⟨rfl,iF⟩
theorem q4I (w:World) (Q:Nat) (e P:Int) (tails:Bool) (ik:Q≠0) (hQ:Q<2^63) (he1: -10000000≤e) (he2:e≤10000000) (hP:P=max (e+blen Q-53) (-1074)) (hf:P≤971) (hn:63<P-e):
  Calls Tryz.prog 133 #[.agg #[.int .u64 (Q:Int),.int .i64 e,.bool tails]] w fun r w'=>r= .returned (.tuple #[.int .u64 0,.int .i64 P,.int .i64 1])∧G w w':=by
 have HB:Hid (∀ w1,_):=fun w1=>q4m Q w1 (by omega)
 have hL:Lib.bitLen Q=blen Q:=by rw[q18 ik (by omega)];unfold blen;rw[if_neg ik]
 have FW:blen Q≤63:=by
  have:=(Nat.log2_lt ik).2 hQ
  unfold blen;rw[if_neg ik];omega
 rw[hL] at HB
 generalize blen Q=L at *
 have hmx:max (e+(L:Int)-53) (-1074)=P:=hP.symm
 have hw1:IntKind.i64.wrap (e+(L:Int))=e+(L:Int):=by rw[IntKind.wrap_i64];omega
 have hw2:IntKind.i64.wrap (e+(L:Int)-53)=e+(L:Int)-53:=by rw[IntKind.wrap_i64];omega
 have hd:decide (971<P)=false:=decide_eq_false (by omega)
 have hd2:decide (63<P-e)=true:=decide_eq_true hn
 have hP1: -1074≤P:=by omega
 have xz:(Q:Int)<18446744073709551616:=by omega
 clear ik hQ hL hP hn
 go_enter Tryz.func133,Tryz.ntmps133
 go_wp2_with fail
 obtain⟨w0,aM,g0,hz0,R0⟩:=q0x w [.int .u64 (Q:Int),.int .i64 e,.bool tails] 146
 rw[aM]
 clear aM
 refine q08 9 0 #[true,true,true,true,true,true,true,true,true] [.is (.pointer (some ⟨w.heap.size,1,none⟩)),.is (.int .i64 e),.is (.pointer (some ⟨w.heap.size,0,none⟩)),.is (.int .u64 Q),.is (.int .i64 L),.is (.int .i64 (e+L)),.is (.int .i64 (e+L-53)),.is (.int .i64 P),.is (.int .i64 P)] [some 8,some 9,some 10,some 11,some 12,some 13,some 14,some 15,some 3] (by kernel_rfl) (by kernel_rfl) rfl (by kernel_rfl) (by repeat (first|exact trivial|refine⟨fun _ _ _ g h=>by first|exact h.G g|exact fun w3 g3=>h w3 (G.trans g g3),?_⟩)) (by kernel_rfl) (by kernel_rfl) ?_
 refine Letters.is ?_
 refine Letters.is ?_
 refine Letters.is ?_
 refine Letters.is ?_
 refine Letters.is ?_
 refine Letters.is ?_
 refine Letters.is ?_
 refine Letters.is ?_
 refine Letters.is ?_
 refine Letters.nil ?_
 intro A hA
 simp only[q0V,Act.put,List.setIfInBounds_toArray,List.set_cons_zero,List.set_cons_succ] at hA
 subst hA
 refine⟨?_,?_⟩
 ·skip
  refine Eaches.cons rfl ?jN (Eaches.cons rfl ?lM (Eaches.cons rfl ?jO (Eaches.cons rfl ?kK (Eaches.cons rfl ?mW (Eaches.cons rfl ?lN (Eaches.cons rfl ?qp (Eaches.cons rfl ?sS (Eaches.cons rfl ?vU (Eaches.nil)))))))))
  case jN|jO|lN|qp|sS|vU=>
   intro W hW hD K hK
   clear hD
   go_simp
   exact hK.out _ _ ⟨_,rfl,G.refl _,rfl⟩
  case lM|kK=>
   intro W hW hD K hK
   clear hD
   have hR0:=Rec.f3 (Rec.G R0.out hW)
   have jg:=hR0.1
   have jh:=hR0.2.1
   have pF:=hR0.2.2.1
   clear hR0
   go_simp
   exact hK.out _ _ ⟨_,rfl,G.refl _,rfl⟩
  ·intro W hW hD K hK
   clear hD
   go_simp
   go_wp2_with (go_at_call 196;refine Calls.mono (P:=Tryz.prog) (HB.out W) ?_;intro e w9 hs;obtain⟨rfl,g9⟩:=hs)
   exact hK.out _ _ ⟨_,rfl,g9,rfl⟩
 intro w1 g1 hH
 clear hH
 refine wpAny_done (by kernel_rfl) ?_ _
 have iF:=G.trans g0 g1
 have S0:Hid (Rec _ _ _):=Rec.G R0.out (g1)
 clear R0 g0 g1 HB
 have bL:=Rec.f3 (Rec.G S0.out (G.refl _))
 have lG:=bL.1
 have lH:=bL.2.1
 have lI:=bL.2.2.1
 have lJ:=bL.2.2.2.1
 have lK:=bL.2.2.2.2.1
 have lL:=bL.2.2.2.2.2
 clear bL
 go_wp2_with fail
 go_ret3
 exact⟨rfl,iF⟩
/-- What is left: b of 2 m steps, and whether there are tails. -/
def lv (b m:Nat) (tails:Bool):Nat:=if b=0∧tails=false then 0 else if b<m then 1 else if b=m∧tails=false then 2 else 3
set_option maxRecDepth 100000 in
set_option maxHeartbeats 1000000 in
theorem q3O (w:World) (Q k:Nat) (e P:Int) (tails:Bool) (ik:Q≠0) (hQ:Q<2^63) (he1: -10000000≤e) (he2:e≤10000000) (hP:P=max (e+blen Q-53) (-1074)) (hf:P≤971) (hn:P-e=(k:Int)+1) (hk:k≤62):
  Calls Tryz.prog 133 #[.agg #[.int .u64 (Q:Int),.int .i64 e,.bool tails]] w fun r w'=>r= .returned (.tuple #[.int .u64 (Q/2^(k+1):Nat),.int .i64 P,.int .i64 ((lv (Q%2^(k+1)) (2^k) tails:Nat):Int)])∧G w w':=by
 have HB:Hid (∀ w1,_):=fun w1=>q4m Q w1 (by omega)
 have hL:Lib.bitLen Q=blen Q:=by rw[q18 ik (by omega)];unfold blen;rw[if_neg ik]
 have FW:blen Q≤63:=by
  have:=(Nat.log2_lt ik).2 hQ
  unfold blen;rw[if_neg ik];omega
 rw[hL] at HB
 generalize blen Q=L at *
 have hmx:max (e+(L:Int)-53) (-1074)=P:=hP.symm
 have hw1:IntKind.i64.wrap (e+(L:Int))=e+(L:Int):=by rw[IntKind.wrap_i64];omega
 have hw2:IntKind.i64.wrap (e+(L:Int)-53)=e+(L:Int)-53:=by rw[IntKind.wrap_i64];omega
 have hd:decide (971<P)=false:=decide_eq_false (by omega)
 have hd2:decide ((63:Int)<(k:Int)+1)=false:=decide_eq_false (by omega)
 have hP1: -1074≤P:=by omega
 have xz:(Q:Int)<18446744073709551616:=by omega
 have hw3:IntKind.i64.wrap (P-e)=(k:Int)+1:=by rw[IntKind.wrap_i64];omega
 have hw4:IntKind.i64.wrap ((k:Int)+1)=(k:Int)+1:=by rw[IntKind.wrap_i64];omega
 have mP:IntKind.i64.wrap (k:Int)=k:=by rw[IntKind.wrap_i64];omega
 obtain⟨p,hp⟩:∃ p,p=2^(k+1):=⟨_,rfl⟩
 obtain⟨m,hm⟩:∃ m,m=2^k:=⟨_,rfl⟩
 obtain⟨b,hb⟩:∃ b,b=Q%p:=⟨_,rfl⟩
 have hpm:p=2*m:=by rw[hp,hm,Nat.pow_succ];omega
 have hm1:1≤m:=by rw[hm];exact Nat.two_pow_pos k
 have hm2:m≤2^62:=by rw[hm];exact q0P hk
 have F8:bits BinOp.and IntKind.u64 (Q:Int) ((p:Int)-1)=(b:Int):=by
  rw[show ((p:Int)-1)=((p-1:Nat):Int) from by omega,u64_and_nat Q (p-1) (by omega) (by omega),hp,Nat.and_two_pow_sub_one_eq_mod,hb,hp]
 have hpi:(2:Int)^(k+1)=(p:Int):=by rw[hp];push_cast;rfl
 have Bb:(2:Int)^k=(m:Int):=by rw[hm];push_cast;rfl
 have hp2:(p:Int)≤9223372036854775808:=by omega
 have AV:(m:Int)≤9223372036854775808:=by omega
 have hp3:(2:Int)≤p:=by omega
 have qX:(1:Int)≤m:=by omega
 have Gv:IntKind.u64.wrap (p:Int)=p:=by rw[IntKind.wrap_u64];omega
 have hw7:IntKind.u64.wrap ((p:Int)-1)=(p:Int)-1:=by rw[IntKind.wrap_u64];omega
 have hw8:IntKind.u64.wrap (m:Int)=m:=by rw[IntKind.wrap_u64];omega
 rw[← hp,← hm,← hb]
 obtain⟨q,hq⟩:∃ q,q=Q/p:=⟨_,rfl⟩
 rw[← hq]
 have Uy:(Q:Int)/(p:Int)=(q:Int):=by rw[hq];push_cast;rfl
 have TG:(q:Int)≤(Q:Int):=by have:=Nat.div_le_self Q p;omega
 have uQ:Hid (1≤m):=hm1
 clear ik hQ hL hP hp hm hb hpm hm1 hm2 hq
 go_enter Tryz.func133,Tryz.ntmps133
 go_wp2_with fail
 obtain⟨w0,aM,g0,hz0,R0⟩:=q0x w [.int .u64 (Q:Int),.int .i64 e,.bool tails] 146
 rw[aM]
 clear aM
 refine q08 9 0 #[true,true,true,true,true,true,true,true,true] [.is (.pointer (some ⟨w.heap.size,1,none⟩)),.is (.int .i64 e),.is (.pointer (some ⟨w.heap.size,0,none⟩)),.is (.int .u64 Q),.is (.int .i64 L),.is (.int .i64 (e+L)),.is (.int .i64 (e+L-53)),.is (.int .i64 P),.is (.int .i64 P)] [some 8,some 9,some 10,some 11,some 12,some 13,some 14,some 15,some 3] (by kernel_rfl) (by kernel_rfl) rfl (by kernel_rfl) (by repeat (first|exact trivial|refine⟨fun _ _ _ g h=>by first|exact h.G g|exact fun w3 g3=>h w3 (G.trans g g3),?_⟩)) (by kernel_rfl) (by kernel_rfl) ?_
 refine Letters.is ?_
 refine Letters.is ?_
 refine Letters.is ?_
 refine Letters.is ?_
 refine Letters.is ?_
 refine Letters.is ?_
 refine Letters.is ?_
 refine Letters.is ?_
 refine Letters.is ?_
 refine Letters.nil ?_
 intro A hA
 simp only[q0V,Act.put,List.setIfInBounds_toArray,List.set_cons_zero,List.set_cons_succ] at hA
 subst hA
 refine⟨?_,?_⟩
 ·skip
  refine Eaches.cons rfl ?jP (Eaches.cons rfl ?kL (Eaches.cons rfl ?jQ (Eaches.cons rfl ?kM (Eaches.cons rfl ?lQ (Eaches.cons rfl ?lS (Eaches.cons rfl ?lT (Eaches.cons rfl ?mX (Eaches.cons rfl ?qw (Eaches.nil)))))))))
  case jP|jQ|lS|lT|mX|qw=>
   intro W hW hD K hK
   clear hD
   go_simp
   exact hK.out _ _ ⟨_,rfl,G.refl _,rfl⟩
  case kL|kM=>
   intro W hW hD K hK
   clear hD
   have hR0:=Rec.f3 (Rec.G R0.out hW)
   have jg:=hR0.1
   have jh:=hR0.2.1
   have pF:=hR0.2.2.1
   clear hR0
   go_simp
   exact hK.out _ _ ⟨_,rfl,G.refl _,rfl⟩
  ·intro W hW hD K hK
   clear hD
   go_simp
   go_wp2_with (go_at_call 196;refine Calls.mono (P:=Tryz.prog) (HB.out W) ?_;intro e w9 hs;obtain⟨rfl,g9⟩:=hs)
   exact hK.out _ _ ⟨_,rfl,g9,rfl⟩
 intro w1 g1 hH
 clear hH
 refine wpAny_done (by kernel_rfl) ?_ _
 have iF:=G.trans g0 g1
 have S0:Hid (Rec _ _ _):=Rec.G R0.out (g1)
 clear R0 g0 g1 HB
 have bL:=Rec.f3 (Rec.G S0.out (G.refl _))
 have lG:=bL.1
 have lH:=bL.2.1
 have lI:=bL.2.2.1
 have lJ:=bL.2.2.2.1
 have lK:=bL.2.2.2.2.1
 have lL:=bL.2.2.2.2.2
 clear bL
 go_wp2_with fail
 refine q08 11 0 #[true,true,true,true,true,true,true,true,true,true,true] [.is (.pointer (some ⟨w.heap.size,0,none⟩)),.is (.int .u64 Q),.is (.int .i64 (k+1)),.is (.int .u64 p),.is (.int .u64 (p-1)),.is (.int .u64 b),.is (.int .i64 (k+1)),.is (.int .i64 k),.is (.int .u64 m),.is (.int .u64 b),.is (.int .u64 m)] [some 25,some 26,some 27,some 28,some 29,some 30,some 31,some 32,some 33,some 6,some 7] (by kernel_rfl) (by kernel_rfl) rfl (by kernel_rfl) (by repeat (first|exact trivial|refine⟨fun _ _ _ g h=>by first|exact h.G g|exact fun w3 g3=>h w3 (G.trans g g3),?_⟩)) (by kernel_rfl) (by kernel_rfl) ?_
 refine Letters.is ?_
 refine Letters.is ?_
 refine Letters.is ?_
 refine Letters.is ?_
 refine Letters.is ?_
 refine Letters.is ?_
 refine Letters.is ?_
 refine Letters.is ?_
 refine Letters.is ?_
 refine Letters.is ?_
 refine Letters.is ?_
 refine Letters.nil ?_
 intro A hA
 simp only[q0V,Act.put,List.setIfInBounds_toArray,List.set_cons_zero,List.set_cons_succ] at hA
 subst hA
 refine⟨?_,?_⟩
 ·skip
  refine Eaches.cons rfl ?sU (Eaches.cons rfl ?sV (Eaches.cons rfl ?sW (Eaches.cons rfl ?vV (Eaches.cons rfl ?sZ (Eaches.cons rfl ?tq (Eaches.cons rfl ?zA (Eaches.cons rfl ?zB (Eaches.cons rfl ?Dx (Eaches.cons rfl ?Ld (Eaches.cons rfl ?F9 (Eaches.nil)))))))))))
  case sU|sW|vV|sZ|tq|zA|zB|Dx|Ld|F9=>
   intro W hW hD K hK
   clear hD
   go_simp
   exact hK.out _ _ ⟨_,rfl,G.refl _,rfl⟩
  case sV=>
   intro W hW hD K hK
   clear hD
   have hS0:=Rec.f3 (Rec.G S0.out hW)
   have pG:=hS0.1
   have pI:=hS0.2.1
   have xg:=hS0.2.2.1
   clear hS0
   go_simp
   exact hK.out _ _ ⟨_,rfl,G.refl _,rfl⟩
 intro w2 g2 hH
 clear hH
 refine wpAny_done (by kernel_rfl) ?_ _
 have iV:=G.trans iF g2
 have U0:Hid (Rec _ _ _):=Rec.G S0.out (g2)
 clear S0 F8 hw1 hw2 hw3 Gv hw7 hw8 hmx Bb hp2 AV hp3 qX iF g2
 cases tails
 ·by_cases c0:b=0
  ·have t0:((b:Int)==0)=true:=by rw[c0];rfl
   have HE:Hid (lv b m false=0):=by show lv b m false=0;unfold lv;simp [c0]
   clear c0
   have aD:=Rec.f3 (Rec.G U0.out (G.refl _))
   have dD:=aD.1
   have dE:=aD.2.1
   have dF:=aD.2.2.1
   have cK:=aD.2.2.2.1
   have cO:=aD.2.2.2.2.1
   have cZ:=aD.2.2.2.2.2
   clear aD
   repeat (first|go_values|go_skip|go_guarded|go_step|go_upon)
   go_ret3
   exact⟨by rw[HE.out];rfl,iV⟩
  ·have t0:((b:Int)==0)=false:=by simp;exact c0
   by_cases c1:b<m
   ·have t1:decide (b<m)=true:=decide_eq_true c1
    have HE:Hid (lv b m false=1):=by show lv b m false=1;unfold lv;simp [c0,c1]
    clear c0 c1
    have aD:=Rec.f3 (Rec.G U0.out (G.refl _))
    have dD:=aD.1
    have dE:=aD.2.1
    have dF:=aD.2.2.1
    have cK:=aD.2.2.2.1
    have cO:=aD.2.2.2.2.1
    have cZ:=aD.2.2.2.2.2
    clear aD
    repeat (first|go_values|go_skip|go_guarded|go_step|go_upon)
    go_ret3
    exact⟨by rw[HE.out];rfl,iV⟩
   ·have t1:decide (b<m)=false:=decide_eq_false c1
    by_cases c2:b=m
    ·have t2:((b:Int)==(m:Int))=true:=by rw[c2];simp
     have HE:Hid (lv b m false=2):=by show lv b m false=2;unfold lv;rw[if_neg (by rintro⟨h,-⟩;exact c0 h),if_neg c1,if_pos ⟨c2,rfl⟩]
     clear c0 c1 c2
     have aD:=Rec.f3 (Rec.G U0.out (G.refl _))
     have dD:=aD.1
     have dE:=aD.2.1
     have dF:=aD.2.2.1
     have cK:=aD.2.2.2.1
     have cO:=aD.2.2.2.2.1
     have cZ:=aD.2.2.2.2.2
     clear aD
     repeat (first|go_values|go_skip|go_guarded|go_step|go_upon)
     go_ret3
     exact⟨by rw[HE.out];rfl,iV⟩
    ·have t2:((b:Int)==(m:Int))=false:=by simp;omega
     have HE:Hid (lv b m false=3):=by show lv b m false=3;unfold lv;simp [c0,c1,c2]
     clear c0 c1 c2
     have aD:=Rec.f3 (Rec.G U0.out (G.refl _))
     have dD:=aD.1
     have dE:=aD.2.1
     have dF:=aD.2.2.1
     have cK:=aD.2.2.2.1
     have cO:=aD.2.2.2.2.1
     have cZ:=aD.2.2.2.2.2
     clear aD
     repeat (first|go_values|go_skip|go_guarded|go_step|go_upon)
     go_ret3
     exact⟨by rw[HE.out];rfl,iV⟩
 ·by_cases c1:b<m
  ·have t1:decide (b<m)=true:=decide_eq_true c1
   have HE:Hid (lv b m true=1):=by show lv b m true=1;unfold lv;simp [c1]
   by_cases c0:b=0
   ·have t0:((b:Int)==0)=true:=by rw[c0];rfl
    clear c0 c1
    have aD:=Rec.f3 (Rec.G U0.out (G.refl _))
    have dD:=aD.1
    have dE:=aD.2.1
    have dF:=aD.2.2.1
    have cK:=aD.2.2.2.1
    have cO:=aD.2.2.2.2.1
    have cZ:=aD.2.2.2.2.2
    clear aD
    repeat (first|go_values|go_skip|go_guarded|go_step|go_upon)
    go_ret3
    exact⟨by rw[HE.out];rfl,iV⟩
   ·have t0:((b:Int)==0)=false:=by simp;exact c0
    clear c0 c1
    have aD:=Rec.f3 (Rec.G U0.out (G.refl _))
    have dD:=aD.1
    have dE:=aD.2.1
    have dF:=aD.2.2.1
    have cK:=aD.2.2.2.1
    have cO:=aD.2.2.2.2.1
    have cZ:=aD.2.2.2.2.2
    clear aD
    repeat (first|go_values|go_skip|go_guarded|go_step|go_upon)
    go_ret3
    exact⟨by rw[HE.out];rfl,iV⟩
  ·have t1:decide (b<m)=false:=decide_eq_false c1
   have HE:Hid (lv b m true=3):=by show lv b m true=3;unfold lv;simp [c1]
   have t0:((b:Int)==0)=false:=by have:=uQ.out;simp;omega
   by_cases c2:b=m
   ·have t2:((b:Int)==(m:Int))=true:=by rw[c2];simp
    clear c1 c2
    have aD:=Rec.f3 (Rec.G U0.out (G.refl _))
    have dD:=aD.1
    have dE:=aD.2.1
    have dF:=aD.2.2.1
    have cK:=aD.2.2.2.1
    have cO:=aD.2.2.2.2.1
    have cZ:=aD.2.2.2.2.2
    clear aD
    repeat (first|go_values|go_skip|go_guarded|go_step|go_upon)
    go_ret3
    exact⟨by rw[HE.out];rfl,iV⟩
   ·have t2:((b:Int)==(m:Int))=false:=by simp;omega
    clear c1 c2
    have aD:=Rec.f3 (Rec.G U0.out (G.refl _))
    have dD:=aD.1
    have dE:=aD.2.1
    have dF:=aD.2.2.1
    have cK:=aD.2.2.2.1
    have cO:=aD.2.2.2.2.1
    have cZ:=aD.2.2.2.2.2
    clear aD
    repeat (first|go_values|go_skip|go_guarded|go_step|go_upon)
    go_ret3
    exact⟨by rw[HE.out];rfl,iV⟩
end Go.Proofs.YtemmkninoiclfaaGreatDoor.EN
