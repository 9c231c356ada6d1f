/- What is proved here: contracts of package exact: a fraction's front, over this seat's translation.
What is proved here: contracts of package exact: texts of small numbers, over this seat's translation. -/
import Derived.Test.YtbfjihniphldaaaGreatDoorC14
import Derived.Test.YtbfjihniphldaaaGreatDoorC20
import Derived.Test.YtbfjihniphldaaaGreatDoorC11
import Derived.Test.YtbfjihniphldaaaGreatDoorC13
import Derived.Handy
namespace Go.Proofs.YtbfjihniphldaaaGreatDoor.EN
open Go.ChangeShapes Go.WideShapes Go.ChangeAt Go.RowKit
theorem q1S (w:World) (va:Value) (a K:Nat) (n:Int) (hK:K≤500000) (hn1: -1000000≤n) (hn2:n≤1000000) (ha:Num w va a) (ha2:a<2^(64*K)):
  Calls Tryz.prog 136 #[va,.int .i64 n] w (q0e w (a*2^n.toNat)):=by
 have HL:Hid _:=q21 w va a n.toNat K hK (by omega) ha ha2;have HM:Hid (max n 0=((n.toNat:Nat):Int)):=by show max n 0=_;omega
 generalize n.toNat=k at *;generalize a*2^k=z at *;clear ha ha2;go_enter Tryz.func136,Tryz.ntmps136;go_wp2_with fail;rw[HM.out];refine q00 HL.out ?_;intro e w1 hs;obtain⟨v,rfl,g1,hv⟩:=hs;go_wp2_with fail;go_ret;exact⟨_,rfl,g1,hv⟩
theorem q52 (w:World) (Q:Nat) (e P:Int) (tails:Bool) (gY:Q≠0) (hQ:Q<2^63) (he1: -10000000≤e) (he2:e≤10000000) (hP:P=max (e+blen Q-53) (-1074)) (hf:971<P):
  Calls Tryz.prog 134 #[.agg #[.int .u64 (Q:Int),.int .i64 e,.bool tails]] w fun r w'=>r= .returned (.tuple #[.int .u64 9007199254740991,.int .i64 971,.int .i64 3])∧G w w':=by
 have HB:Hid (∀ w1,_):=fun w1=>q4n Q w1 (by omega);have hL:Lib.bitLen Q=blen Q:=by rw[q19 gY (by omega)];unfold blen;rw[if_neg gY]
 have FK:blen Q≤63:=by
  have:=(Nat.log2_lt gY).2 hQ;unfold blen;rw[if_neg gY];omega
 rw[hL] at HB;generalize blen Q=L at *;have hmx:max (e+(L:Int)-53) (-1074)=P:=hP.symm;have hw1:IntKind.i64.wrap (e+(L:Int))=e+(L:Int):=by rw[IntKind.wrap_i64];omega
 have hw2:IntKind.i64.wrap (e+(L:Int)-53)=e+(L:Int)-53:=by rw[IntKind.wrap_i64];omega
 have hd:decide (971<P)=true:=decide_eq_true hf;have wX:(Q:Int)<18446744073709551616:=by omega
 clear gY hQ hL hP hf;go_enter Tryz.func134,Tryz.ntmps134;go_wp2_with fail;obtain⟨w0,aK,g0,hz0,R0⟩:=q0y w [.int .u64 (Q:Int),.int .i64 e,.bool tails] 146;rw[aK];clear aK;refine q09 9 0 #[true,true,true,true,true,true,true,true,true] [.is (.pointer (some ⟨w.heap.size,1,none⟩)),.is (.int .i64 e),.is (.pointer (some ⟨w.heap.size,0,none⟩)),.is (.int .u64 Q),.is (.int .i64 L),.is (.int .i64 (e+L)),.is (.int .i64 (e+L-53)),.is (.int .i64 P),.is (.int .i64 P)] [some 8,some 9,some 10,some 11,some 12,some 13,some 14,some 15,some 3] (by kernel_rfl) (by kernel_rfl) rfl (by kernel_rfl) (by repeat (first|exact trivial|refine⟨fun _ _ _ g h=>by first|exact h.G g|exact fun w3 g3=>h w3 (G.trans g g3),?_⟩)) (by kernel_rfl) (by kernel_rfl) ?_;refine Letters.is ?_;refine Letters.is ?_;refine Letters.is ?_;refine Letters.is ?_;refine Letters.is ?_;refine Letters.is ?_;refine Letters.is ?_;refine Letters.is ?_;refine Letters.is ?_;refine Letters.nil ?_;intro A hA;simp only[q0W,Act.put,List.setIfInBounds_toArray,List.set_cons_zero,List.set_cons_succ] at hA;subst hA;refine⟨?_,?_⟩
 ·skip
  refine Eaches.cons rfl ?gy (Eaches.cons rfl ?gQ (Eaches.cons rfl ?gz (Eaches.cons rfl ?gT (Eaches.cons rfl ?jh (Eaches.cons rfl ?ji (Eaches.cons rfl ?jE (Eaches.cons rfl ?kC (Eaches.cons rfl ?jF (Eaches.nil)))))))))
  case gy|gz|ji|jE|kC|jF=>
   intro W hW hD K hK;clear hD;go_simp;exact hK.out _ _ ⟨_,rfl,G.refl _,rfl⟩
  case gQ|gT=>
   intro W hW hD K hK;clear hD;have hR0:=Rec.f3 (Rec.G R0.out hW);have ja:=hR0.1;have jb:=hR0.2.1;have oO:=hR0.2.2.1;clear hR0;go_simp;exact hK.out _ _ ⟨_,rfl,G.refl _,rfl⟩
  ·intro W hW hD K hK;clear hD;go_simp;go_wp2_with (go_at_call 186;refine q00 (HB.out W) ?_;intro e w9 hs;obtain⟨rfl,g9⟩:=hs);exact hK.out _ _ ⟨_,rfl,g9,rfl⟩
 intro w1 g1 hH;clear hH;refine wpAny_done (by kernel_rfl) ?_ _;have gP:=G.trans g0 g1;have S0:Hid (Rec _ _ _):=Rec.G R0.out (g1);clear R0 g0 g1 HB;go_wp2_with fail
 go_ret3
 exact⟨rfl,gP⟩
theorem q4K (w:World) (Q:Nat) (e P:Int) (tails:Bool) (gY:Q≠0) (hQ:Q<2^63) (he1: -10000000≤e) (he2:e≤10000000) (hP:P=max (e+blen Q-53) (-1074)) (hf:P≤971) (hn:63<P-e):
  Calls Tryz.prog 134 #[.agg #[.int .u64 (Q:Int),.int .i64 e,.bool tails]] w fun r w'=>r= .returned (.tuple #[.int .u64 0,.int .i64 P,.int .i64 1])∧G w w':=by
 have HB:Hid (∀ w1,_):=fun w1=>q4n Q w1 (by omega);have hL:Lib.bitLen Q=blen Q:=by rw[q19 gY (by omega)];unfold blen;rw[if_neg gY]
 have FK:blen Q≤63:=by
  have:=(Nat.log2_lt gY).2 hQ;unfold blen;rw[if_neg gY];omega
 rw[hL] at HB;generalize blen Q=L at *;have hmx:max (e+(L:Int)-53) (-1074)=P:=hP.symm;have hw1:IntKind.i64.wrap (e+(L:Int))=e+(L:Int):=by rw[IntKind.wrap_i64];omega
 have hw2:IntKind.i64.wrap (e+(L:Int)-53)=e+(L:Int)-53:=by rw[IntKind.wrap_i64];omega
 have hd:decide (971<P)=false:=decide_eq_false (by omega);have hd2:decide (63<P-e)=true:=decide_eq_true hn;have hP1: -1074≤P:=by omega
 have wX:(Q:Int)<18446744073709551616:=by omega
 clear gY hQ hL hP hn;go_enter Tryz.func134,Tryz.ntmps134;go_wp2_with fail;obtain⟨w0,aK,g0,hz0,R0⟩:=q0y w [.int .u64 (Q:Int),.int .i64 e,.bool tails] 146;rw[aK];clear aK;refine q09 9 0 #[true,true,true,true,true,true,true,true,true] [.is (.pointer (some ⟨w.heap.size,1,none⟩)),.is (.int .i64 e),.is (.pointer (some ⟨w.heap.size,0,none⟩)),.is (.int .u64 Q),.is (.int .i64 L),.is (.int .i64 (e+L)),.is (.int .i64 (e+L-53)),.is (.int .i64 P),.is (.int .i64 P)] [some 8,some 9,some 10,some 11,some 12,some 13,some 14,some 15,some 3] (by kernel_rfl) (by kernel_rfl) rfl (by kernel_rfl) (by repeat (first|exact trivial|refine⟨fun _ _ _ g h=>by first|exact h.G g|exact fun w3 g3=>h w3 (G.trans g g3),?_⟩)) (by kernel_rfl) (by kernel_rfl) ?_;refine Letters.is ?_;refine Letters.is ?_;refine Letters.is ?_;refine Letters.is ?_;refine Letters.is ?_;refine Letters.is ?_;refine Letters.is ?_;refine Letters.is ?_;refine Letters.is ?_;refine Letters.nil ?_;intro A hA;simp only[q0W,Act.put,List.setIfInBounds_toArray,List.set_cons_zero,List.set_cons_succ] at hA;subst hA;refine⟨?_,?_⟩
 ·skip
  refine Eaches.cons rfl ?jG (Eaches.cons rfl ?lF (Eaches.cons rfl ?jH (Eaches.cons rfl ?kD (Eaches.cons rfl ?mM (Eaches.cons rfl ?lG (Eaches.cons rfl ?pW (Eaches.cons rfl ?sF (Eaches.cons rfl ?vI (Eaches.nil)))))))))
  case jG|jH|lG|pW|sF|vI=>
   intro W hW hD K hK;clear hD;go_simp;exact hK.out _ _ ⟨_,rfl,G.refl _,rfl⟩
  case lF|kD=>
   intro W hW hD K hK;clear hD;have hR0:=Rec.f3 (Rec.G R0.out hW);have ja:=hR0.1;have jb:=hR0.2.1;have oO:=hR0.2.2.1;clear hR0;go_simp;exact hK.out _ _ ⟨_,rfl,G.refl _,rfl⟩
  ·intro W hW hD K hK;clear hD;go_simp;go_wp2_with (go_at_call 186;refine q00 (HB.out W) ?_;intro e w9 hs;obtain⟨rfl,g9⟩:=hs);exact hK.out _ _ ⟨_,rfl,g9,rfl⟩
 intro w1 g1 hH;clear hH;refine wpAny_done (by kernel_rfl) ?_ _;have gP:=G.trans g0 g1;have S0:Hid (Rec _ _ _):=Rec.G R0.out (g1);clear R0 g0 g1 HB;obtain⟨lh,ll,lq,lu,lC,lD⟩:=Rec.f3 (Rec.G S0.out (G.refl _));go_wp2_with fail
 go_ret3
 exact⟨rfl,gP⟩
/-- What is left: b of 2 m steps, and whether there are tails. -/
def lv (b m:Nat) (tails:Bool):Nat:=if b=0∧tails=false then 0 else if b<m then 1 else if b=m∧tails=false then 2 else 3
set_option maxRecDepth 100000 in
set_option maxHeartbeats 1000000 in
theorem q3Q (w:World) (Q k:Nat) (e P:Int) (tails:Bool) (gY:Q≠0) (hQ:Q<2^63) (he1: -10000000≤e) (he2:e≤10000000) (hP:P=max (e+blen Q-53) (-1074)) (hf:P≤971) (hn:P-e=(k:Int)+1) (hk:k≤62):
  Calls Tryz.prog 134 #[.agg #[.int .u64 (Q:Int),.int .i64 e,.bool tails]] w fun r w'=>r= .returned (.tuple #[.int .u64 (Q/2^(k+1):Nat),.int .i64 P,.int .i64 ((lv (Q%2^(k+1)) (2^k) tails:Nat):Int)])∧G w w':=by
 have HB:Hid (∀ w1,_):=fun w1=>q4n Q w1 (by omega);have hL:Lib.bitLen Q=blen Q:=by rw[q19 gY (by omega)];unfold blen;rw[if_neg gY]
 have FK:blen Q≤63:=by
  have:=(Nat.log2_lt gY).2 hQ;unfold blen;rw[if_neg gY];omega
 rw[hL] at HB;generalize blen Q=L at *;have hmx:max (e+(L:Int)-53) (-1074)=P:=hP.symm;have hw1:IntKind.i64.wrap (e+(L:Int))=e+(L:Int):=by rw[IntKind.wrap_i64];omega
 have hw2:IntKind.i64.wrap (e+(L:Int)-53)=e+(L:Int)-53:=by rw[IntKind.wrap_i64];omega
 have hd:decide (971<P)=false:=decide_eq_false (by omega);have hd2:decide ((63:Int)<(k:Int)+1)=false:=decide_eq_false (by omega);have hP1: -1074≤P:=by omega
 have wX:(Q:Int)<18446744073709551616:=by omega
 have hw3:IntKind.i64.wrap (P-e)=(k:Int)+1:=by rw[IntKind.wrap_i64];omega
 have hw4:IntKind.i64.wrap ((k:Int)+1)=(k:Int)+1:=by rw[IntKind.wrap_i64];omega
 have mG:IntKind.i64.wrap (k:Int)=k:=by rw[IntKind.wrap_i64];omega
 obtain⟨p,hp⟩:∃ p,p=2^(k+1):=⟨_,rfl⟩;obtain⟨m,hm⟩:∃ m,m=2^k:=⟨_,rfl⟩;obtain⟨b,hb⟩:∃ b,b=Q%p:=⟨_,rfl⟩;have hpm:p=2*m:=by rw[hp,hm,Nat.pow_succ];omega
 have hm1:1≤m:=by rw[hm];exact Nat.two_pow_pos k
 have hm2:m≤2^62:=by rw[hm];exact q0Q hk
 have ET:bits BinOp.and IntKind.u64 (Q:Int) ((p:Int)-1)=(b:Int):=by
  rw[show ((p:Int)-1)=((p-1:Nat):Int) from by omega,u64_and_nat Q (p-1) (by omega) (by omega),hp,Nat.and_two_pow_sub_one_eq_mod,hb,hp]
 have hpi:(2:Int)^(k+1)=(p:Int):=by rw[hp];push_cast;rfl
 have AL:(2:Int)^k=(m:Int):=by rw[hm];push_cast;rfl
 have hp2:(p:Int)≤9223372036854775808:=by omega
 have Ay:(m:Int)≤9223372036854775808:=by omega
 have hp3:(2:Int)≤p:=by omega
 have qL:(1:Int)≤m:=by omega
 have Gm:IntKind.u64.wrap (p:Int)=p:=by rw[IntKind.wrap_u64];omega
 have hw7:IntKind.u64.wrap ((p:Int)-1)=(p:Int)-1:=by rw[IntKind.wrap_u64];omega
 have hw8:IntKind.u64.wrap (m:Int)=m:=by rw[IntKind.wrap_u64];omega
 rw[← hp,← hm,← hb];obtain⟨q,hq⟩:∃ q,q=Q/p:=⟨_,rfl⟩;rw[← hq];have Uu:(Q:Int)/(p:Int)=(q:Int):=by rw[hq];push_cast;rfl
 have TC:(q:Int)≤(Q:Int):=by have:=Nat.div_le_self Q p;omega
 have uE:Hid (1≤m):=hm1;clear gY hQ hL hP hp hm hb hpm hm1 hm2 hq;go_enter Tryz.func134,Tryz.ntmps134;go_wp2_with fail;obtain⟨w0,aK,g0,hz0,R0⟩:=q0y w [.int .u64 (Q:Int),.int .i64 e,.bool tails] 146;rw[aK];clear aK;refine q09 9 0 #[true,true,true,true,true,true,true,true,true] [.is (.pointer (some ⟨w.heap.size,1,none⟩)),.is (.int .i64 e),.is (.pointer (some ⟨w.heap.size,0,none⟩)),.is (.int .u64 Q),.is (.int .i64 L),.is (.int .i64 (e+L)),.is (.int .i64 (e+L-53)),.is (.int .i64 P),.is (.int .i64 P)] [some 8,some 9,some 10,some 11,some 12,some 13,some 14,some 15,some 3] (by kernel_rfl) (by kernel_rfl) rfl (by kernel_rfl) (by repeat (first|exact trivial|refine⟨fun _ _ _ g h=>by first|exact h.G g|exact fun w3 g3=>h w3 (G.trans g g3),?_⟩)) (by kernel_rfl) (by kernel_rfl) ?_;refine Letters.is ?_;refine Letters.is ?_;refine Letters.is ?_;refine Letters.is ?_;refine Letters.is ?_;refine Letters.is ?_;refine Letters.is ?_;refine Letters.is ?_;refine Letters.is ?_;refine Letters.nil ?_;intro A hA;simp only[q0W,Act.put,List.setIfInBounds_toArray,List.set_cons_zero,List.set_cons_succ] at hA;subst hA;refine⟨?_,?_⟩
 ·skip
  refine Eaches.cons rfl ?jI (Eaches.cons rfl ?kE (Eaches.cons rfl ?jJ (Eaches.cons rfl ?kF (Eaches.cons rfl ?lH (Eaches.cons rfl ?lI (Eaches.cons rfl ?lJ (Eaches.cons rfl ?mO (Eaches.cons rfl ?pX (Eaches.nil)))))))))
  case jI|jJ|lI|lJ|mO|pX=>
   intro W hW hD K hK;clear hD;go_simp;exact hK.out _ _ ⟨_,rfl,G.refl _,rfl⟩
  case kE|kF=>
   intro W hW hD K hK;clear hD;have hR0:=Rec.f3 (Rec.G R0.out hW);have ja:=hR0.1;have jb:=hR0.2.1;have oO:=hR0.2.2.1;clear hR0;go_simp;exact hK.out _ _ ⟨_,rfl,G.refl _,rfl⟩
  ·intro W hW hD K hK;clear hD;go_simp;go_wp2_with (go_at_call 186;refine q00 (HB.out W) ?_;intro e w9 hs;obtain⟨rfl,g9⟩:=hs);exact hK.out _ _ ⟨_,rfl,g9,rfl⟩
 intro w1 g1 hH;clear hH;refine wpAny_done (by kernel_rfl) ?_ _;have gP:=G.trans g0 g1;have S0:Hid (Rec _ _ _):=Rec.G R0.out (g1);clear R0 g0 g1 HB;obtain⟨lh,ll,lq,lu,lC,lD⟩:=Rec.f3 (Rec.G S0.out (G.refl _));go_wp2_with fail;refine q09 11 0 #[true,true,true,true,true,true,true,true,true,true,true] [.is (.pointer (some ⟨w.heap.size,0,none⟩)),.is (.int .u64 Q),.is (.int .i64 (k+1)),.is (.int .u64 p),.is (.int .u64 (p-1)),.is (.int .u64 b),.is (.int .i64 (k+1)),.is (.int .i64 k),.is (.int .u64 m),.is (.int .u64 b),.is (.int .u64 m)] [some 25,some 26,some 27,some 28,some 29,some 30,some 31,some 32,some 33,some 6,some 7] (by kernel_rfl) (by kernel_rfl) rfl (by kernel_rfl) (by repeat (first|exact trivial|refine⟨fun _ _ _ g h=>by first|exact h.G g|exact fun w3 g3=>h w3 (G.trans g g3),?_⟩)) (by kernel_rfl) (by kernel_rfl) ?_;refine Letters.is ?_;refine Letters.is ?_;refine Letters.is ?_;refine Letters.is ?_;refine Letters.is ?_;refine Letters.is ?_;refine Letters.is ?_;refine Letters.is ?_;refine Letters.is ?_;refine Letters.is ?_;refine Letters.is ?_;refine Letters.nil ?_;intro A hA;simp only[q0W,Act.put,List.setIfInBounds_toArray,List.set_cons_zero,List.set_cons_succ] at hA;subst hA;refine⟨?_,?_⟩
 ·skip
  refine Eaches.cons rfl ?sG (Eaches.cons rfl ?sH (Eaches.cons rfl ?sI (Eaches.cons rfl ?vJ (Eaches.cons rfl ?sJ (Eaches.cons rfl ?sK (Eaches.cons rfl ?zl (Eaches.cons rfl ?zm (Eaches.cons rfl ?Dk (Eaches.cons rfl ?La (Eaches.cons rfl ?EU (Eaches.nil)))))))))))
  case sG|sI|vJ|sJ|sK|zl|zm|Dk|La|EU=>
   intro W hW hD K hK;clear hD;go_simp;exact hK.out _ _ ⟨_,rfl,G.refl _,rfl⟩
  case sH=>
   intro W hW hD K hK;clear hD;have hS0:=Rec.f3 (Rec.G S0.out hW);have oP:=hS0.1;have oQ:=hS0.2.1;have wP:=hS0.2.2.1;clear hS0;go_simp;exact hK.out _ _ ⟨_,rfl,G.refl _,rfl⟩
 intro w2 g2 hH;clear hH;refine wpAny_done (by kernel_rfl) ?_ _;have iH:=G.trans gP g2;have U0:Hid (Rec _ _ _):=Rec.G S0.out (g2);clear S0 ET hw1 hw2 hw3 Gm hw7 hw8 hmx AL hp2 Ay hp3 qL gP g2;cases tails
 ·by_cases c0:b=0
  ·have t0:((b:Int)==0)=true:=by rw[c0];rfl
   have HE:Hid (lv b m false=0):=by show lv b m false=0;unfold lv;simp [c0]
   clear c0;obtain⟨dz,dA,dB,bY,bZ,cu⟩:=Rec.f3 (Rec.G U0.out (G.refl _))
   repeat (first|go_values|go_skip|go_guarded|go_step|go_upon)
   go_ret3
   exact⟨by rw[HE.out];rfl,iH⟩
  ·have t0:((b:Int)==0)=false:=by simp;exact c0
   by_cases c1:b<m
   ·have t1:decide (b<m)=true:=decide_eq_true c1;have HE:Hid (lv b m false=1):=by show lv b m false=1;unfold lv;simp [c0,c1]
    clear c0 c1;obtain⟨dz,dA,dB,bY,bZ,cu⟩:=Rec.f3 (Rec.G U0.out (G.refl _))
    repeat (first|go_values|go_skip|go_guarded|go_step|go_upon)
    go_ret3
    exact⟨by rw[HE.out];rfl,iH⟩
   ·have t1:decide (b<m)=false:=decide_eq_false c1;by_cases c2:b=m
    ·have t2:((b:Int)==(m:Int))=true:=by rw[c2];simp
     have HE:Hid (lv b m false=2):=by show lv b m false=2;unfold lv;rw[if_neg (by rintro⟨h,-⟩;exact c0 h),if_neg c1,if_pos ⟨c2,rfl⟩]
     clear c0 c1 c2;obtain⟨dz,dA,dB,bY,bZ,cu⟩:=Rec.f3 (Rec.G U0.out (G.refl _))
     repeat (first|go_values|go_skip|go_guarded|go_step|go_upon)
     go_ret3
     exact⟨by rw[HE.out];rfl,iH⟩
    ·have t2:((b:Int)==(m:Int))=false:=by simp;omega
     have HE:Hid (lv b m false=3):=by show lv b m false=3;unfold lv;simp [c0,c1,c2]
     clear c0 c1 c2;obtain⟨dz,dA,dB,bY,bZ,cu⟩:=Rec.f3 (Rec.G U0.out (G.refl _))
     repeat (first|go_values|go_skip|go_guarded|go_step|go_upon)
     go_ret3
     exact⟨by rw[HE.out];rfl,iH⟩
 ·by_cases c1:b<m
  ·have t1:decide (b<m)=true:=decide_eq_true c1;have HE:Hid (lv b m true=1):=by show lv b m true=1;unfold lv;simp [c1]
   by_cases c0:b=0
   ·have t0:((b:Int)==0)=true:=by rw[c0];rfl
    clear c0 c1;obtain⟨dz,dA,dB,bY,bZ,cu⟩:=Rec.f3 (Rec.G U0.out (G.refl _))
    repeat (first|go_values|go_skip|go_guarded|go_step|go_upon)
    go_ret3
    exact⟨by rw[HE.out];rfl,iH⟩
   ·have t0:((b:Int)==0)=false:=by simp;exact c0
    clear c0 c1;obtain⟨dz,dA,dB,bY,bZ,cu⟩:=Rec.f3 (Rec.G U0.out (G.refl _))
    repeat (first|go_values|go_skip|go_guarded|go_step|go_upon)
    go_ret3
    exact⟨by rw[HE.out];rfl,iH⟩
  ·have t1:decide (b<m)=false:=decide_eq_false c1;have HE:Hid (lv b m true=3):=by show lv b m true=3;unfold lv;simp [c1]
   have t0:((b:Int)==0)=false:=by have:=uE.out;simp;omega
   by_cases c2:b=m
   ·have t2:((b:Int)==(m:Int))=true:=by rw[c2];simp
    clear c1 c2;obtain⟨dz,dA,dB,bY,bZ,cu⟩:=Rec.f3 (Rec.G U0.out (G.refl _))
    repeat (first|go_values|go_skip|go_guarded|go_step|go_upon)
    go_ret3
    exact⟨by rw[HE.out];rfl,iH⟩
   ·have t2:((b:Int)==(m:Int))=false:=by simp;omega
    clear c1 c2;obtain⟨dz,dA,dB,bY,bZ,cu⟩:=Rec.f3 (Rec.G U0.out (G.refl _))
    repeat (first|go_values|go_skip|go_guarded|go_step|go_upon)
    go_ret3
    exact⟨by rw[HE.out];rfl,iH⟩
theorem qcs (w:World) (n:Nat) (hn:n<100):Calls Tryz.prog 163 #[.int .u64 (n:Int),.int .i64 10] w fun e w'=>e= .returned (.string ⟨(Lib.decDigits n).toArray⟩)∧G w w':=by
 have HS:Hid (∀ w1,Calls Tryz.prog 233 #[.int .i64 (n:Int)] w1 fun e w'=>e= .returned (.string ⟨(Lib.decDigits n).toArray⟩)∧w'=w1):=fun w1=>Tryz.internal_strconv_small n hn w1;have hd:decide ((n:Int)<100)=true:=decide_eq_true (by omega);have hd2:decide (n<100)=true:=decide_eq_true hn;have hni:(n:Int)<100:=by omega
 have HF:Hid (∀ w1,Calls Tryz.prog 213 #[.int .u64 (n:Int),.int .i64 10] w1 fun e w'=>e= .returned (.string ⟨(Lib.decDigits n).toArray⟩)∧G w1 w'):=by
  intro w1;go_enter Tryz.func213,Tryz.ntmps213;go_wp2_with fail;refine q00 (HS.out _) ?_;rintro e w2 ⟨rfl,rfl⟩;go_wp2_with fail;go_ret;exact⟨rfl,G.refl _⟩
 clear hd hd2 hn hni;go_enter Tryz.func163,Tryz.ntmps163;go_wp2_with fail;refine q00 (HF.out _) ?_;rintro e w2 ⟨rfl,g⟩;go_wp2_with fail;go_ret;exact⟨rfl,g⟩
theorem q9r (w:World) (va:Value) (n:Nat) (hn0:0<n) (hn:n<100) (ha:Num w va n):
  Calls Tryz.prog 104 #[va] w fun e w'=>e= .returned (.string ⟨(Lib.decDigits n).toArray⟩)∧G w w':=by
 have HD:Hid _:=q1E w va n 10000000000000000000 1 (by omega) ha (by omega) (by omega) (by omega);rw[Nat.div_eq_of_lt (by omega),Nat.mod_eq_of_lt (by omega)] at HD;have HF:Hid (∀ w1,_):=fun w1=>qcs w1 n hn;have hsl:(⟨(Lib.decDigits n).toArray⟩:ByteArray).size≤1000:=by
  show (Lib.decDigits n).toArray.size≤1000;rw[List.size_toArray,Lib.decDigits];split
  ·simp
  ·rw[Lib.decDigits,dif_pos (by omega)];simp
 rcases q0S ha with ⟨h,-⟩|⟨-,-,nb,no,nc,rfl,-,-,-⟩|⟨h,-⟩
 ·omega
 ·clear ha hn0 hn;go_enter Tryz.func104,Tryz.ntmps104;go_wp2_with fail;refine wp_loop_rounds 2 ?_;rw[rounds_succ];go_wp2_with fail;refine q00 HD.out ?_;intro e w1 hs;obtain⟨v,rfl,g1,hv⟩:=hs;rcases q0S hv with ⟨-,pa,pc,rfl⟩|⟨h,-⟩|⟨h,-⟩
  ·go_wp2_with fail;refine q00 (HF.out _) ?_;rintro e w2 ⟨rfl,g2⟩;go_wp2_with fail;generalize hS:Value.string ⟨(Lib.decDigits n).toArray⟩=S at *;generalize (Question.appendCap 1 0 9).cut (w2.tape w2.drawn (Question.appendCap 1 0 9))=cap at *;generalize Builtin.zeroCells #[Value.string ⟨#[]⟩] (cap-1)=zc at *;have hc0:(#[S]++zc)[0]? =some S:=by rw[Array.getElem?_append_left (by simp)];rfl
   have hc:((w2.alloc (.cells #[S] 9)).alloc (.cells (#[S]++zc) 9)).drew.cell? ⟨w2.heap.size+1,0,none⟩=some S:=by simp [go_sem,hc0]
   have g3:G w ((w2.alloc (.cells #[S] 9)).alloc (.cells (#[S]++zc) 9)).drew:=((((G.trans g1 g2)).alloc _).alloc _).drew;have hz3:w2.heap.size+1<((w2.alloc (.cells #[S] 9)).alloc (.cells (#[S]++zc) 9)).drew.heap.size:=by simp
   generalize ((w2.alloc (.cells #[S] 9)).alloc (.cells (#[S]++zc) 9)).drew=w3 at *;generalize w2.heap.size+1=pb at *;have hw2:(Value.slice (some ⟨w2.heap.size,0,none⟩) 1 1)=Value.slice (some ⟨w2.heap.size,0,none⟩) 1 1:=rfl;clear hw2 HF HD hv g1 g2 hc0;have hbd:(w3.alloc (.cells #[.pointer none,.slice none 0 0] 176)).heap[w3.heap.size]? =some (.cells #[.pointer none,.slice none 0 0] 176 (0,0)):=by simp only[World.alloc];exact Array.getElem?_push_size
   have OA:Hid _:=qay (w3.alloc (.cells #[.pointer none,.slice none 0 0] 176)) w3.heap.size ⟨(Lib.decDigits n).toArray⟩ hbd hsl;have uA:Hid (G w3 (w3.alloc (.cells #[.pointer none,.slice none 0 0] 176))):=(G.refl w3).alloc _;clear hbd hsl;subst hS;rw[rounds_succ];go_wp2_with fail;refine q00 OA.out ?_;intro e w4 hs;obtain⟨⟨v4,rfl⟩,hib,hbel⟩:=hs;have xg:Hid (Lib.IsBuilderF 176 5 w3.heap.size w3.heap.size (Lib.byteCells (Lib.decDigits n)) w4):=hib;have hG4:G w3 w4:=Below.trans uA.out hbel;have HST:Hid _:=qaJ w4 w3.heap.size (Lib.decDigits n) xg.out hG4.size;clear OA uA hib hbel xg;go_wp2_with fail;refine wp_loop_rounds 1 ?_;rw[rounds_succ];go_wp2_with fail;refine q00 HST.out ?_;rintro e w5 ⟨rfl,hb5⟩;have bV:G w3 w5:=Below.trans hG4 hb5;go_wp2_with fail;go_ret;exact⟨rfl,G.trans g3 bV⟩
  ·omega
  ·omega
 ·omega
end Go.Proofs.YtbfjihniphldaaaGreatDoor.EN
