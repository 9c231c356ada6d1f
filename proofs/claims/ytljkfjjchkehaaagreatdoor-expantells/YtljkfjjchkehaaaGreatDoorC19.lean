/- What is proved here: contracts of package exact: sums and products of whole numbers, over this seat's translation.
What is proved here: contracts of package exact: fractions are made, over this seat's translation.
What is proved here: contracts of package exact: products of fractions, over this seat's translation.
What is proved here: contracts of package exact: sign, opposite, quotient of fractions, over this seat's translation.
What is proved here: contracts of package exact: comparison, powers of two, sums of fractions, over this seat's translation.
What is proved here: contracts of package exact: sums of fractions, over this seat's translation.
What is proved here: contracts of package exact: Add, Sub, Floor, Square, over this seat's translation. -/
import Derived.Test.YtljkfjjchkehaaaGreatDoorC18
namespace Go.Proofs.YtljkfjjchkehaaaGreatDoor.EN
open Go.ChangeShapes Go.WideShapes Go.ChangeAt Go.RowKit
theorem q30 (w:World) (v u:Value) (s:Bool) (n m K:Nat) (hK:K≤400000) (h:WholeS w v s n) (hu:Num w u m) (hn:n<2^(64*K)) (hm:m<2^(64*K)):
  Calls Tryz.prog 102 #[v,u] w (q0u w (sgn s n*m)):=by
 obtain⟨a,k,c,rfl,hv⟩:=h
 have HT:Hid (∀ w1,G w w1→_):=fun w1 g=>q2e w1 (.slice a k c) u n m K (by omega) (hv.G g) (hu.G g) hn hm
 have HS:Hid (∀ w1 v,Num w1 v (n*m)→Calls Tryz.prog 101 #[.bool s,v] w1 (q0u w1 (sgn s n*m))):=fun w1 v hv=>by
  have h:=q17 w1 v s _ hv
  rw[show sgn s (n*m)=sgn s n*m from by unfold sgn;cases s<;>simp [Int.neg_mul]] at h
  exact h
 generalize n*m=q at *
 generalize sgn s n*m=y at *
 clear hv hu hn hm
 go_enter Tryz.func102,Tryz.ntmps102
 go_wp2_with fail
 obtain⟨w0,aB,g0,hz0,R0,R1⟩:=q1S w [.bool s,.slice a k c] [.bool false,.slice none 0 0] 95 95
 rw[aB]
 clear aB
 refine q0d 7 1 #[true,true,true,true,true,true,true,false] [.is (.pointer (some ⟨w.heap.size,0,none⟩)),.is (.bool s),.is (.pointer (some ⟨w.heap.size,1,none⟩)),.is (.slice a k c),.is (u),.any (fun v w'=>Num w' v (q)),.any (fun v w'=>WholeIs w' v (y))] [some 5,some 6,some 7,some 8,some 9,some 10,some 11] (by kernel_rfl) (by kernel_rfl) rfl (by kernel_rfl) (by repeat (first|exact trivial|refine⟨fun _ _ _ g h=>by first|exact h.G g|exact fun w3 g3=>h w3 (G.trans g g3),?_⟩)) (by kernel_rfl) (by kernel_rfl) ?_
 refine Letters.is ?_
 refine Letters.is ?_
 refine Letters.is ?_
 refine Letters.is ?_
 refine Letters.is ?_
 refine Letters.any fun v5=> ?_
 refine Letters.any fun v6=> ?_
 refine Letters.nil ?_
 intro A hA
 simp only[q1l,Act.put,List.setIfInBounds_toArray,List.set_cons_zero,List.set_cons_succ] at hA
 subst hA
 refine⟨?_,?_⟩
 ·skip
  refine Eaches.cons rfl ?jr (Eaches.cons rfl ?jT (Eaches.cons rfl ?jv (Eaches.cons rfl ?kE (Eaches.cons rfl ?mU (Eaches.cons rfl ?mh (Eaches.cons rfl ?l9 (Eaches.nil)))))))
  case jr|jv|mU=>
   intro W hW hD K hK
   clear hD
   go_simp
   exact hK.out _ _ ⟨_,rfl,G.refl _,rfl⟩
  case jT|kE=>
   intro W hW hD K hK
   clear hD
   have hR0:=Rec.f2 (Rec.G R0.out hW)
   have jV:=hR0.1
   have jW:=hR0.2.1
   clear hR0
   go_simp
   exact hK.out _ _ ⟨_,rfl,G.refl _,rfl⟩
  ·intro W hW hD K hK
   clear hD
   go_simp
   go_wp2_with (go_at_call 99;refine Calls.mono (P:=Tryz.prog) (HT.out W (G.trans g0 hW)) ?_;intro e w9 hs;obtain⟨u9,rfl,g9,aQ⟩:=hs)
   exact hK.out _ _ ⟨_,rfl,g9,aQ⟩
  ·intro W hW hD K hK
   have h5:=Deps.get (v:=v5) 5 hD rfl rfl (by kernel_rfl)
   clear hD
   go_simp
   go_wp2_with (go_at_call 101;refine Calls.mono (P:=Tryz.prog) (HS.out W v5 h5) ?_;intro e w9 hs;obtain⟨u9,rfl,g9,aQ⟩:=hs)
   exact hK.out _ _ ⟨_,rfl,g9,aQ⟩
 intro w1 g1 hH
 have h6:=Helds.get (v:=v6) 6 hH rfl rfl
 clear hH
 clear HT HS
 obtain⟨a9,k9,c9,rfl,dZ⟩:=h6
 have jq:Hid (Num w1 (.slice a9 k9 c9) (y).natAbs):=dZ
 obtain⟨t9,dC⟩:∃ t,t=decide ((y)<0):=⟨_,rfl⟩
 rw[← dC]
 have jS:Hid (t9=decide ((y)<0)):=dC
 clear dZ dC
 have hS:=Rec.f2 (Rec.G R1.out (g1))
 have dE:=hS.1
 have dF:=hS.2.1
 have dG:=hS.2.2.1
 have dH:=hS.2.2.2
 clear hS
 refine wpAny_ready (rs:=[7]) (by kernel_rfl) (by simp) ?_
 refine AllReady.cons rfl (fun K hK=> ?_) AllReady.nil
 go_simp
 refine hK _ _ ?_
 clear hK K dE dF dG dH
 refine wpAny_done (by kernel_rfl) ?_ _
 have dA:Num _ _ _:=q1A (u1:= .bool t9) (u2:= .slice a9 k9 c9) jq.out (Rec.G R1.out (g1)) trivial trivial
 go_wp2_with fail
 have hT:Hid (Rec (World.setCell (World.setCell w1 ⟨w.heap.size+1,0,none⟩ (.bool t9)) ⟨w.heap.size+1,1,none⟩ (.slice a9 k9 c9)) (w.heap.size+1) [.bool t9,.slice a9 k9 c9]):=Rec.set2 (Rec.G R1.out (g1))
 have g9:=Rec.g2 (b:=w.heap.size+1) (u:= .bool t9) (v:= .slice a9 k9 c9) (G.trans g0 g1) (by omega)
 generalize (World.setCell (World.setCell w1 ⟨w.heap.size+1,0,none⟩ (.bool t9)) ⟨w.heap.size+1,1,none⟩ (.slice a9 k9 c9))=w9 at *
 have hF:=Rec.f2 (Rec.G hT.out ((G.refl _)))
 have bg:=hF.1
 have bn:=hF.2.1
 have bC:=hF.2.2.1
 have bD:=hF.2.2.2
 clear hF
 refine bodyPost_ret (v:= .agg #[.bool t9,.slice a9 k9 c9]) (by simp [results,Tryz.results102,go_sem, *]) rfl ?_
 exact⟨_,rfl,g9,a9,k9,c9,by rw[← jS.out],dA⟩
theorem q80 (w:World) (v u:Value) (s t:Bool) (n m K:Nat) (hK:K≤400000) (h:WholeS w v s n) (hu:WholeS w u t m) (hn:n<2^(64*K)) (hm:m<2^(64*K)):
  Calls Tryz.prog 109 #[v,u] w (q0u w (sgn s n+sgn t m)):=by
 obtain⟨a,k,c,rfl,hv⟩:=h
 obtain⟨a',k',c',rfl,hu⟩:=hu
 by_cases hst:s=t
 ·have HT:Hid (∀ w1,G w w1→_):=fun w1 g=>qbN w1 (.slice a k c) (.slice a' k' c') n m K (by omega) (hv.G g) (hu.G g) hn hm
  have HS:Hid (∀ w1 v,Num w1 v (n+m)→Calls Tryz.prog 101 #[.bool s,v] w1 (q0u w1 (sgn s n+sgn t m))):=fun w1 v hv=>by
   have h:=q17 w1 v s _ hv
   rw[show sgn s (n+m)=sgn s n+sgn t m from by rw[← hst];unfold sgn;cases s<;>simp;omega] at h
   exact h
  have hte:(s==t)=true:=by rw[hst];simp
  generalize n+m=q at *
  generalize sgn s n+sgn t m=y at *
  clear hv hu hn hm hst
  go_enter Tryz.func109,Tryz.ntmps109
  go_wp2_with fail
  obtain⟨w0,aB,g0,hz0,R0,R1,R2⟩:=q1o w [.bool s,.slice a k c] [.bool t,.slice a' k' c'] [.bool false,.slice none 0 0] 95 95 95
  rw[aB]
  clear aB
  have hr0:=Rec.f2 R0.out
  have hr1:=Rec.f2 R1.out
  have hq0:=hr0.1
  have hq1:=hr0.2.1
  have hq2:=hr1.1
  have hq3:=hr1.2.1
  clear hr0 hr1
  go_wp2_with fail
  clear hq0 hq1 hq2 hq3
  refine q0d 8 1 #[true,true,true,true,true,true,true,true,false] [.is (.pointer (some ⟨w.heap.size,0,none⟩)),.is (.bool s),.is (.pointer (some ⟨w.heap.size,1,none⟩)),.is (.slice a k c),.is (.pointer (some ⟨w.heap.size+1,1,none⟩)),.is (.slice a' k' c'),.any (fun v w'=>Num w' v (q)),.any (fun v w'=>WholeIs w' v (y))] [some 11,some 12,some 13,some 14,some 15,some 16,some 17,some 18] (by kernel_rfl) (by kernel_rfl) rfl (by kernel_rfl) (by repeat (first|exact trivial|refine⟨fun _ _ _ g h=>by first|exact h.G g|exact fun w3 g3=>h w3 (G.trans g g3),?_⟩)) (by kernel_rfl) (by kernel_rfl) ?_
  refine Letters.is ?_
  refine Letters.is ?_
  refine Letters.is ?_
  refine Letters.is ?_
  refine Letters.is ?_
  refine Letters.is ?_
  refine Letters.any fun v6=> ?_
  refine Letters.any fun v7=> ?_
  refine Letters.nil ?_
  intro A hA
  simp only[q1l,Act.put,List.setIfInBounds_toArray,List.set_cons_zero,List.set_cons_succ] at hA
  subst hA
  refine⟨?_,?_⟩
  ·skip
   refine Eaches.cons rfl ?mV (Eaches.cons rfl ?qE (Eaches.cons rfl ?mW (Eaches.cons rfl ?oG (Eaches.cons rfl ?sP (Eaches.cons rfl ?qF (Eaches.cons rfl ?sQ (Eaches.cons rfl ?uB (Eaches.nil))))))))
   case mV|mW|sP=>
    intro W hW hD K hK
    clear hD
    go_simp
    exact hK.out _ _ ⟨_,rfl,G.refl _,rfl⟩
   case qE|oG|qF=>
    intro W hW hD K hK
    clear hD
    have hR0:=Rec.f2 (Rec.G R0.out hW)
    have jV:=hR0.1
    have jW:=hR0.2.1
    clear hR0
    have oh:=Rec.f2 (Rec.G R1.out hW)
    have uz:=oh.1
    have uA:=oh.2.1
    clear oh
    go_simp
    exact hK.out _ _ ⟨_,rfl,G.refl _,rfl⟩
   ·intro W hW hD K hK
    clear hD
    go_simp
    go_wp2_with (go_at_call 149;refine Calls.mono (P:=Tryz.prog) (HT.out W (G.trans g0 hW)) ?_;intro e w9 hs;obtain⟨u9,rfl,g9,aQ⟩:=hs)
    exact hK.out _ _ ⟨_,rfl,g9,aQ⟩
   ·intro W hW hD K hK
    have h6:=Deps.get (v:=v6) 6 hD rfl rfl (by kernel_rfl)
    clear hD
    go_simp
    go_wp2_with (go_at_call 101;refine Calls.mono (P:=Tryz.prog) (HS.out W v6 h6) ?_;intro e w9 hs;obtain⟨u9,rfl,g9,aQ⟩:=hs)
    exact hK.out _ _ ⟨_,rfl,g9,aQ⟩
  intro w1 g1 hH
  have h7:=Helds.get (v:=v7) 7 hH rfl rfl
  clear hH
  clear HT HS
  obtain⟨a9,k9,c9,rfl,dZ⟩:=h7
  have jq:Hid (Num w1 (.slice a9 k9 c9) (y).natAbs):=dZ
  obtain⟨t9,dC⟩:∃ t,t=decide ((y)<0):=⟨_,rfl⟩
  rw[← dC]
  have jS:Hid (t9=decide ((y)<0)):=dC
  clear dZ dC
  have hS:=Rec.f2 (Rec.G R2.out (g1))
  have dE:=hS.1
  have dF:=hS.2.1
  have dG:=hS.2.2.1
  have dH:=hS.2.2.2
  clear hS
  refine wpAny_ready (rs:=[8]) (by kernel_rfl) (by simp) ?_
  refine AllReady.cons rfl (fun K hK=> ?_) AllReady.nil
  go_simp
  refine hK _ _ ?_
  clear hK K dE dF dG dH
  refine wpAny_done (by kernel_rfl) ?_ _
  have dA:Num _ _ _:=q1A (u1:= .bool t9) (u2:= .slice a9 k9 c9) jq.out (Rec.G R2.out (g1)) trivial trivial
  go_wp2_with fail
  have hT:Hid (Rec (World.setCell (World.setCell w1 ⟨w.heap.size+2,0,none⟩ (.bool t9)) ⟨w.heap.size+2,1,none⟩ (.slice a9 k9 c9)) (w.heap.size+2) [.bool t9,.slice a9 k9 c9]):=Rec.set2 (Rec.G R2.out (g1))
  have g9:=Rec.g2 (b:=w.heap.size+2) (u:= .bool t9) (v:= .slice a9 k9 c9) (G.trans g0 g1) (by omega)
  generalize (World.setCell (World.setCell w1 ⟨w.heap.size+2,0,none⟩ (.bool t9)) ⟨w.heap.size+2,1,none⟩ (.slice a9 k9 c9))=w9 at *
  have hF:=Rec.f2 (Rec.G hT.out ((G.refl _)))
  have bg:=hF.1
  have bn:=hF.2.1
  have bC:=hF.2.2.1
  have bD:=hF.2.2.2
  clear hF
  refine bodyPost_ret (v:= .agg #[.bool t9,.slice a9 k9 c9]) (by simp [results,Tryz.results109,go_sem, *]) rfl ?_
  exact⟨_,rfl,g9,a9,k9,c9,by rw[← jS.out],dA⟩
 ·have hte:(s==t)=false:=by simp [hst]
  have HC:Hid (∀ w1,G w w1→_):=fun w1 g=>q2V w1 (.slice a k c) (.slice a' k' c') n m K (by omega) (hv.G g) (hu.G g) hn hm
  by_cases hlt:n<m
  ·have HT:Hid (∀ w1,G w w1→_):=fun w1 g=>q4f w1 (.slice a' k' c') (.slice a k c) m n K (by omega) (hu.G g) (hv.G g) hm (Nat.le_of_lt hlt)
   have HS:Hid (∀ w1 v,Num w1 v (m-n)→Calls Tryz.prog 101 #[.bool t,v] w1 (q0u w1 (sgn s n+sgn t m))):=fun w1 v hv=>by
    have h:=q17 w1 v t _ hv
    rw[show sgn t (m-n)=sgn s n+sgn t m from by unfold sgn;cases s<;>cases t<;>simp at hst ⊢ <;>omega] at h
    exact h
   rw[show cmpV n m= -1 from by unfold cmpV;rw[if_pos hlt]] at HC
   generalize m-n=q at *
   generalize sgn s n+sgn t m=y at *
   clear hv hu hn hm hst hlt
   go_enter Tryz.func109,Tryz.ntmps109
   go_wp2_with fail
   obtain⟨w0,aB,g0,hz0,R0,R1,R2⟩:=q1o w [.bool s,.slice a k c] [.bool t,.slice a' k' c'] [.bool false,.slice none 0 0] 95 95 95
   rw[aB]
   clear aB
   have hr0:=Rec.f2 R0.out
   have hr1:=Rec.f2 R1.out
   have hq0:=hr0.1
   have hq1:=hr0.2.1
   have hq2:=hr1.1
   have hq3:=hr1.2.1
   clear hr0 hr1
   go_wp2_with fail
   refine Calls.mono (P:=Tryz.prog) (HC.out w0 g0) ?_
   rintro e w3 ⟨rfl,g3⟩
   clear hq0 hq1 hq2 hq3
   have S0:Hid _:=Rec.G R0.out g3
   have S1:Hid _:=Rec.G R1.out g3
   go_wp2_with fail
   refine q0d 8 1 #[true,true,true,true,true,true,true,true,false] [.is (.pointer (some ⟨w.heap.size+1,0,none⟩)),.is (.bool t),.is (.pointer (some ⟨w.heap.size+1,1,none⟩)),.is (.slice a' k' c'),.is (.pointer (some ⟨w.heap.size,1,none⟩)),.is (.slice a k c),.any (fun v w'=>Num w' v (q)),.any (fun v w'=>WholeIs w' v (y))] [some 26,some 27,some 28,some 29,some 30,some 31,some 32,some 33] (by kernel_rfl) (by kernel_rfl) rfl (by kernel_rfl) (by repeat (first|exact trivial|refine⟨fun _ _ _ g h=>by first|exact h.G g|exact fun w3 g3=>h w3 (G.trans g g3),?_⟩)) (by kernel_rfl) (by kernel_rfl) ?_
   refine Letters.is ?_
   refine Letters.is ?_
   refine Letters.is ?_
   refine Letters.is ?_
   refine Letters.is ?_
   refine Letters.is ?_
   refine Letters.any fun v6=> ?_
   refine Letters.any fun v7=> ?_
   refine Letters.nil ?_
   intro A hA
   simp only[q1l,Act.put,List.setIfInBounds_toArray,List.set_cons_zero,List.set_cons_succ] at hA
   subst hA
   refine⟨?_,?_⟩
   ·skip
    refine Eaches.cons rfl ?mX (Eaches.cons rfl ?oH (Eaches.cons rfl ?mY (Eaches.cons rfl ?oI (Eaches.cons rfl ?qG (Eaches.cons rfl ?qH (Eaches.cons rfl ?qI (Eaches.cons rfl ?sS (Eaches.nil))))))))
    case mX|mY|qG=>
     intro W hW hD K hK
     clear hD
     go_simp
     exact hK.out _ _ ⟨_,rfl,G.refl _,rfl⟩
    case oH|oI|qH=>
     intro W hW hD K hK
     clear hD
     have hS0:=Rec.f2 (Rec.G S0.out hW)
     have rQ:=hS0.1
     have rR:=hS0.2.1
     clear hS0
     have hS1:=Rec.f2 (Rec.G S1.out hW)
     have rT:=hS1.1
     have rU:=hS1.2.1
     clear hS1
     go_simp
     exact hK.out _ _ ⟨_,rfl,G.refl _,rfl⟩
    ·intro W hW hD K hK
     clear hD
     go_simp
     go_wp2_with (go_at_call 151;refine Calls.mono (P:=Tryz.prog) (HT.out W (G.trans g0 (G.trans g3 hW))) ?_;intro e w9 hs;obtain⟨u9,rfl,g9,aQ⟩:=hs)
     exact hK.out _ _ ⟨_,rfl,g9,aQ⟩
    ·intro W hW hD K hK
     have h6:=Deps.get (v:=v6) 6 hD rfl rfl (by kernel_rfl)
     clear hD
     go_simp
     go_wp2_with (go_at_call 101;refine Calls.mono (P:=Tryz.prog) (HS.out W v6 h6) ?_;intro e w9 hs;obtain⟨u9,rfl,g9,aQ⟩:=hs)
     exact hK.out _ _ ⟨_,rfl,g9,aQ⟩
   intro w1 g1 hH
   have h7:=Helds.get (v:=v7) 7 hH rfl rfl
   clear hH
   clear HT HS
   obtain⟨a9,k9,c9,rfl,dZ⟩:=h7
   have jq:Hid (Num w1 (.slice a9 k9 c9) (y).natAbs):=dZ
   obtain⟨t9,dC⟩:∃ t,t=decide ((y)<0):=⟨_,rfl⟩
   rw[← dC]
   have jS:Hid (t9=decide ((y)<0)):=dC
   clear dZ dC
   have hS:=Rec.f2 (Rec.G R2.out (G.trans g3 g1))
   have dE:=hS.1
   have dF:=hS.2.1
   have dG:=hS.2.2.1
   have dH:=hS.2.2.2
   clear hS
   refine wpAny_ready (rs:=[8]) (by kernel_rfl) (by simp) ?_
   refine AllReady.cons rfl (fun K hK=> ?_) AllReady.nil
   go_simp
   refine hK _ _ ?_
   clear hK K dE dF dG dH
   refine wpAny_done (by kernel_rfl) ?_ _
   have dA:Num _ _ _:=q1A (u1:= .bool t9) (u2:= .slice a9 k9 c9) jq.out (Rec.G R2.out (G.trans g3 g1)) trivial trivial
   go_wp2_with fail
   have hT:Hid (Rec (World.setCell (World.setCell w1 ⟨w.heap.size+2,0,none⟩ (.bool t9)) ⟨w.heap.size+2,1,none⟩ (.slice a9 k9 c9)) (w.heap.size+2) [.bool t9,.slice a9 k9 c9]):=Rec.set2 (Rec.G R2.out (G.trans g3 g1))
   have g9:=Rec.g2 (b:=w.heap.size+2) (u:= .bool t9) (v:= .slice a9 k9 c9) (G.trans g0 (G.trans g3 g1)) (by omega)
   generalize (World.setCell (World.setCell w1 ⟨w.heap.size+2,0,none⟩ (.bool t9)) ⟨w.heap.size+2,1,none⟩ (.slice a9 k9 c9))=w9 at *
   have hF:=Rec.f2 (Rec.G hT.out ((G.refl _)))
   have bg:=hF.1
   have bn:=hF.2.1
   have bC:=hF.2.2.1
   have bD:=hF.2.2.2
   clear hF
   refine bodyPost_ret (v:= .agg #[.bool t9,.slice a9 k9 c9]) (by simp [results,Tryz.results109,go_sem, *]) rfl ?_
   exact⟨_,rfl,g9,a9,k9,c9,by rw[← jS.out],dA⟩
  ·have HT:Hid (∀ w1,G w w1→_):=fun w1 g=>q4f w1 (.slice a k c) (.slice a' k' c') n m K (by omega) (hv.G g) (hu.G g) hn (Nat.le_of_not_lt hlt)
   have HS:Hid (∀ w1 v,Num w1 v (n-m)→Calls Tryz.prog 101 #[.bool s,v] w1 (q0u w1 (sgn s n+sgn t m))):=fun w1 v hv=>by
    have h:=q17 w1 v s _ hv
    rw[show sgn s (n-m)=sgn s n+sgn t m from by unfold sgn;cases s<;>cases t<;>simp at hst ⊢ <;>omega] at h
    exact h
   have hcv:decide (cmpV n m<0)=false:=by unfold cmpV;rw[if_neg hlt];split<;>rfl
   generalize cmpV n m=cv at *
   generalize n-m=q at *
   generalize sgn s n+sgn t m=y at *
   clear hv hu hn hm hst hlt
   go_enter Tryz.func109,Tryz.ntmps109
   go_wp2_with fail
   obtain⟨w0,aB,g0,hz0,R0,R1,R2⟩:=q1o w [.bool s,.slice a k c] [.bool t,.slice a' k' c'] [.bool false,.slice none 0 0] 95 95 95
   rw[aB]
   clear aB
   have hr0:=Rec.f2 R0.out
   have hr1:=Rec.f2 R1.out
   have hq0:=hr0.1
   have hq1:=hr0.2.1
   have hq2:=hr1.1
   have hq3:=hr1.2.1
   clear hr0 hr1
   go_wp2_with fail
   refine Calls.mono (P:=Tryz.prog) (HC.out w0 g0) ?_
   rintro e w3 ⟨rfl,g3⟩
   clear hq0 hq1 hq2 hq3
   have S0:Hid _:=Rec.G R0.out g3
   have S1:Hid _:=Rec.G R1.out g3
   go_wp2_with fail
   refine q0d 8 1 #[true,true,true,true,true,true,true,true,false] [.is (.pointer (some ⟨w.heap.size,0,none⟩)),.is (.bool s),.is (.pointer (some ⟨w.heap.size,1,none⟩)),.is (.slice a k c),.is (.pointer (some ⟨w.heap.size+1,1,none⟩)),.is (.slice a' k' c'),.any (fun v w'=>Num w' v (q)),.any (fun v w'=>WholeIs w' v (y))] [some 34,some 35,some 36,some 37,some 38,some 39,some 40,some 41] (by kernel_rfl) (by kernel_rfl) rfl (by kernel_rfl) (by repeat (first|exact trivial|refine⟨fun _ _ _ g h=>by first|exact h.G g|exact fun w3 g3=>h w3 (G.trans g g3),?_⟩)) (by kernel_rfl) (by kernel_rfl) ?_
   refine Letters.is ?_
   refine Letters.is ?_
   refine Letters.is ?_
   refine Letters.is ?_
   refine Letters.is ?_
   refine Letters.is ?_
   refine Letters.any fun v6=> ?_
   refine Letters.any fun v7=> ?_
   refine Letters.nil ?_
   intro A hA
   simp only[q1l,Act.put,List.setIfInBounds_toArray,List.set_cons_zero,List.set_cons_succ] at hA
   subst hA
   refine⟨?_,?_⟩
   ·skip
    refine Eaches.cons rfl ?uC (Eaches.cons rfl ?uD (Eaches.cons rfl ?uE (Eaches.cons rfl ?xh (Eaches.cons rfl ?uF (Eaches.cons rfl ?uG (Eaches.cons rfl ?Af (Eaches.cons rfl ?Ag (Eaches.nil))))))))
    case uC|uE|uF=>
     intro W hW hD K hK
     clear hD
     go_simp
     exact hK.out _ _ ⟨_,rfl,G.refl _,rfl⟩
    case uD|xh|uG=>
     intro W hW hD K hK
     clear hD
     have hS0:=Rec.f2 (Rec.G S0.out hW)
     have rQ:=hS0.1
     have rR:=hS0.2.1
     clear hS0
     have hS1:=Rec.f2 (Rec.G S1.out hW)
     have rT:=hS1.1
     have rU:=hS1.2.1
     clear hS1
     go_simp
     exact hK.out _ _ ⟨_,rfl,G.refl _,rfl⟩
    ·intro W hW hD K hK
     clear hD
     go_simp
     go_wp2_with (go_at_call 151;refine Calls.mono (P:=Tryz.prog) (HT.out W (G.trans g0 (G.trans g3 hW))) ?_;intro e w9 hs;obtain⟨u9,rfl,g9,aQ⟩:=hs)
     exact hK.out _ _ ⟨_,rfl,g9,aQ⟩
    ·intro W hW hD K hK
     have h6:=Deps.get (v:=v6) 6 hD rfl rfl (by kernel_rfl)
     clear hD
     go_simp
     go_wp2_with (go_at_call 101;refine Calls.mono (P:=Tryz.prog) (HS.out W v6 h6) ?_;intro e w9 hs;obtain⟨u9,rfl,g9,aQ⟩:=hs)
     exact hK.out _ _ ⟨_,rfl,g9,aQ⟩
   intro w1 g1 hH
   have h7:=Helds.get (v:=v7) 7 hH rfl rfl
   clear hH
   clear HT HS
   obtain⟨a9,k9,c9,rfl,dZ⟩:=h7
   have jq:Hid (Num w1 (.slice a9 k9 c9) (y).natAbs):=dZ
   obtain⟨t9,dC⟩:∃ t,t=decide ((y)<0):=⟨_,rfl⟩
   rw[← dC]
   have jS:Hid (t9=decide ((y)<0)):=dC
   clear dZ dC
   have hS:=Rec.f2 (Rec.G R2.out (G.trans g3 g1))
   have dE:=hS.1
   have dF:=hS.2.1
   have dG:=hS.2.2.1
   have dH:=hS.2.2.2
   clear hS
   refine wpAny_ready (rs:=[8]) (by kernel_rfl) (by simp) ?_
   refine AllReady.cons rfl (fun K hK=> ?_) AllReady.nil
   go_simp
   refine hK _ _ ?_
   clear hK K dE dF dG dH
   refine wpAny_done (by kernel_rfl) ?_ _
   have dA:Num _ _ _:=q1A (u1:= .bool t9) (u2:= .slice a9 k9 c9) jq.out (Rec.G R2.out (G.trans g3 g1)) trivial trivial
   go_wp2_with fail
   have hT:Hid (Rec (World.setCell (World.setCell w1 ⟨w.heap.size+2,0,none⟩ (.bool t9)) ⟨w.heap.size+2,1,none⟩ (.slice a9 k9 c9)) (w.heap.size+2) [.bool t9,.slice a9 k9 c9]):=Rec.set2 (Rec.G R2.out (G.trans g3 g1))
   have g9:=Rec.g2 (b:=w.heap.size+2) (u:= .bool t9) (v:= .slice a9 k9 c9) (G.trans g0 (G.trans g3 g1)) (by omega)
   generalize (World.setCell (World.setCell w1 ⟨w.heap.size+2,0,none⟩ (.bool t9)) ⟨w.heap.size+2,1,none⟩ (.slice a9 k9 c9))=w9 at *
   have hF:=Rec.f2 (Rec.G hT.out ((G.refl _)))
   have bg:=hF.1
   have bn:=hF.2.1
   have bC:=hF.2.2.1
   have bD:=hF.2.2.2
   clear hF
   refine bodyPost_ret (v:= .agg #[.bool t9,.slice a9 k9 c9]) (by simp [results,Tryz.results109,go_sem, *]) rfl ?_
   exact⟨_,rfl,g9,a9,k9,c9,by rw[← jS.out],dA⟩
/-- What is kept below the bar: nothing for 1. -/
def q1R (d:Nat):Nat:=if d=1 then 0 else d
/-- v is the fraction q. -/
def QIs (w:World) (v:Value) (q:Rat):Prop:=∃ a k c a' k' c',v= .agg #[.bool (decide (q.num<0)),.slice a k c,.slice a' k' c']∧Num w (.slice a k c) q.num.natAbs∧Num w (.slice a' k' c') (q1R q.den)
theorem QIs.G {w w':World} {v:Value} {q:Rat} (h:QIs w v q) (g:G w w'):QIs w' v q:=by
 obtain⟨a,k,c,a',k',c',e,h2,h3⟩:=h
 exact⟨a,k,c,a',k',c',e,h2.G g,h3.G g⟩
/-- A call hands back the fraction q. -/
def RetQ (w:World) (q:Rat) (e:Ending) (w':World):Prop:=∃ v,e= .returned v∧G w w'∧QIs w' v q
/-- Lowest terms are told by the number alone. -/
theorem rat_low {q:Rat} {z:Int} {d:Nat} (hd:0<d) (hc:Nat.gcd z.natAbs d=1) (h:z*q.den=q.num*d):q.num=z∧q.den=d:=by
 have e:(Rat.mk' z d (by omega) hc)=q:=by
  rw[Rat.mk_eq_divInt,← Rat.num_divInt_den q,Rat.divInt_eq_divInt_iff (by omega) (by have:=q.den_pos;omega)]
  exact h
 rw[← e]
 exact⟨rfl,rfl⟩
theorem mk_cross {q:Rat} {n:Int} {d:Nat} (hd:0<d) (h:q=mkRat n d):n*q.den=q.num*d:=by
 have h2:mkRat n d=mkRat q.num q.den:=by rw[Rat.mkRat_self];exact h.symm
 exact(Rat.mkRat_eq_iff (by omega) q.den_nz).1 h2
theorem q1c (w:World) (a:Option Addr) (c:Nat):Num w (.slice a 0 c) 0:=⟨[],⟨q1m,Or.inl ⟨rfl,_,_,rfl⟩⟩,q1a,rfl⟩
theorem q4R (w:World):QIs w (.agg #[.bool false,.slice none 0 0,.slice none 0 0]) 0:=⟨none,0,0,none,0,0,rfl,q1c _ _ _,q1c _ _ _⟩
theorem qbE {w:World} {t:Bool} {a a':Option Addr} {k c k' c':Nat} {q:Rat} (h:QIs w (.agg #[.bool t,.slice a k c,.slice a' k' c']) q):Num w (.slice a k c) q.num.natAbs:=by
 obtain⟨_,_,_,_,_,_,e,h1,h2⟩:=h
 simp only[Value.agg.injEq,Array.mk.injEq,List.cons.injEq,Value.slice.injEq,and_true,Value.bool.injEq] at e
 obtain⟨-,⟨rfl,rfl,rfl⟩,rfl,rfl,rfl⟩:=e
 exact h1
theorem qby {w:World} {t:Bool} {a a':Option Addr} {k c k' c':Nat} {q:Rat} (h:QIs w (.agg #[.bool t,.slice a k c,.slice a' k' c']) q):Num w (.slice a' k' c') (q1R q.den):=by
 obtain⟨_,_,_,_,_,_,e,h1,h2⟩:=h
 simp only[Value.agg.injEq,Array.mk.injEq,List.cons.injEq,Value.slice.injEq,and_true,Value.bool.injEq] at e
 obtain⟨-,⟨rfl,rfl,rfl⟩,rfl,rfl,rfl⟩:=e
 exact h2
theorem q5T (w:World) (v u:Value) (s t:Bool) (n m K:Nat) (hK:K≤400000) (h:WholeS w v s n) (hu:WholeS w u t m) (hn:n<2^(64*K)) (hm:m<2^(64*K)):
  Calls Tryz.prog 103 #[v,u] w (q0u w (sgn s n-sgn t m)):=by
 obtain⟨a,k,c,rfl,hv⟩:=h
 obtain⟨a',k',c',rfl,hu⟩:=hu
 have HP:Hid (∀ w1,G w w1→Calls Tryz.prog 109 #[.agg #[.bool s,.slice a k c],.agg #[.bool (!t),.slice a' k' c']] w1 (q0u w1 (sgn s n-sgn t m))):=fun w1 g=>by
  have h:=q80 w1 (.agg #[.bool s,.slice a k c]) (.agg #[.bool (!t),.slice a' k' c']) s (!t) n m K hK ⟨a,k,c,rfl,hv.G g⟩ ⟨a',k',c',rfl,hu.G g⟩ hn hm
  rw[show sgn s n+sgn (!t) m=sgn s n-sgn t m from by unfold sgn;cases s<;>cases t<;>simp <;>omega] at h
  exact h
 generalize sgn s n-sgn t m=y at *
 clear hv hu hn hm
 go_enter Tryz.func103,Tryz.ntmps103
 go_wp2_with fail
 obtain⟨w0,aB,g0,hz0,R0,R1,R2⟩:=q1o w [.bool s,.slice a k c] [.bool t,.slice a' k' c'] [.bool false,.slice none 0 0] 95 95 95
 rw[aB]
 clear aB
 refine Calls.mono (P:=Tryz.prog) (HP.out w0 g0) ?_
 intro e w1 hs
 obtain⟨v,rfl,g1,h4⟩:=hs
 clear HP
 obtain⟨a9,k9,c9,rfl,dZ⟩:=h4
 have jq:Hid (Num w1 (.slice a9 k9 c9) (y).natAbs):=dZ
 obtain⟨t9,dC⟩:∃ t,t=decide ((y)<0):=⟨_,rfl⟩
 rw[← dC]
 have jS:Hid (t9=decide ((y)<0)):=dC
 clear dZ dC
 have hS:=Rec.f2 (Rec.G R2.out ((g1)))
 have dE:=hS.1
 have dF:=hS.2.1
 have dG:=hS.2.2.1
 have dH:=hS.2.2.2
 clear hS
 have dA:Num _ _ _:=q1A (u1:= .bool t9) (u2:= .slice a9 k9 c9) jq.out (Rec.G R2.out (g1)) trivial trivial
 go_wp2_with fail
 have hT:Hid (Rec (World.setCell (World.setCell w1 ⟨w.heap.size+2,0,none⟩ (.bool t9)) ⟨w.heap.size+2,1,none⟩ (.slice a9 k9 c9)) (w.heap.size+2) [.bool t9,.slice a9 k9 c9]):=Rec.set2 (Rec.G R2.out (g1))
 have g9:=Rec.g2 (b:=w.heap.size+2) (u:= .bool t9) (v:= .slice a9 k9 c9) (G.trans g0 g1) (by omega)
 generalize (World.setCell (World.setCell w1 ⟨w.heap.size+2,0,none⟩ (.bool t9)) ⟨w.heap.size+2,1,none⟩ (.slice a9 k9 c9))=w9 at *
 have hF:=Rec.f2 (Rec.G hT.out ((G.refl _)))
 have bg:=hF.1
 have bn:=hF.2.1
 have bC:=hF.2.2.1
 have bD:=hF.2.2.2
 clear hF
 refine bodyPost_ret (v:= .agg #[.bool t9,.slice a9 k9 c9]) (by simp [results,Tryz.results103,go_sem, *]) rfl ?_
 exact⟨_,rfl,g9,a9,k9,c9,by rw[← jS.out],dA⟩
theorem q7Q (w:World) (z:Int) (h1: -9223372036854775808≤z) (h2:z<9223372036854775808):
  Calls Tryz.prog 173 #[.int .i64 z] w (q0u w z):=by
 by_cases h0:z<0
 ·obtain⟨n,rfl⟩:∃ n:Nat,z= -(n:Int):=⟨z.natAbs,by omega⟩
  have hn:n<18446744073709551616:=by omega
  have HW:Hid (∀ w1,_):=fun w1=>q4A w1 n hn
  have HS:Hid (∀ w1 v,Num w1 v n→Calls Tryz.prog 101 #[.bool true,v] w1 (q0u w1 (-(n:Int)))):=fun w1 v hv=>q17 w1 v true n hv
  have hd:decide (-(n:Int)<0)=true:=by simp;omega
  have hn1:(1:Int)≤n:=by omega
  have hn2:(n:Int)≤9223372036854775808:=by omega
  have hu:IntKind.u64.wrap (-(n:Int))=18446744073709551616-n:=by rw[IntKind.wrap_u64];omega
  have hu2:IntKind.u64.wrap (-(18446744073709551616-(n:Int)))=n:=by rw[IntKind.wrap_u64];omega
  generalize (-(n:Int))=z at *
  clear h0 h1 h2 hn
  go_enter Tryz.func173,Tryz.ntmps173
  go_wp2_with fail
  obtain⟨w0,aB,g0,hz0,R0⟩:=q0e w [.bool false,.slice none 0 0] 95
  rw[aB]
  clear aB
  refine Calls.mono (P:=Tryz.prog) (HW.out w0) ?_
  intro e w1 hs
  obtain⟨v,rfl,g1,h4⟩:=hs
  go_wp2_with fail
  refine Calls.mono (P:=Tryz.prog) (HS.out w1 v h4) ?_
  intro e w2 hs
  obtain⟨u,rfl,g2,h5⟩:=hs
  clear HW HS h4 hd hu hu2
  obtain⟨a9,k9,c9,rfl,dZ⟩:=h5
  have jq:Hid (Num w2 (.slice a9 k9 c9) (z).natAbs):=dZ
  obtain⟨t9,dC⟩:∃ t,t=decide ((z)<0):=⟨_,rfl⟩
  rw[← dC]
  have jS:Hid (t9=decide ((z)<0)):=dC
  clear dZ dC
  have hS:=Rec.f2 (Rec.G R0.out ((G.trans g1 g2)))
  have dE:=hS.1
  have dF:=hS.2.1
  have dG:=hS.2.2.1
  have dH:=hS.2.2.2
  clear hS
  have dA:Num _ _ _:=q1A (u1:= .bool t9) (u2:= .slice a9 k9 c9) jq.out (Rec.G R0.out (G.trans g1 g2)) trivial trivial
  go_wp2_with fail
  have hT:Hid (Rec (World.setCell (World.setCell w2 ⟨w.heap.size,0,none⟩ (.bool t9)) ⟨w.heap.size,1,none⟩ (.slice a9 k9 c9)) (w.heap.size) [.bool t9,.slice a9 k9 c9]):=Rec.set2 (Rec.G R0.out (G.trans g1 g2))
  have g9:=Rec.g2 (b:=w.heap.size) (u:= .bool t9) (v:= .slice a9 k9 c9) (G.trans g0 (G.trans g1 g2)) (by omega)
  generalize (World.setCell (World.setCell w2 ⟨w.heap.size,0,none⟩ (.bool t9)) ⟨w.heap.size,1,none⟩ (.slice a9 k9 c9))=w9 at *
  have hF:=Rec.f2 (Rec.G hT.out ((G.refl _)))
  have bg:=hF.1
  have bn:=hF.2.1
  have bC:=hF.2.2.1
  have bD:=hF.2.2.2
  clear hF
  refine bodyPost_ret (v:= .agg #[.bool t9,.slice a9 k9 c9]) (by simp [results,Tryz.results173,go_sem, *]) rfl ?_
  exact⟨_,rfl,g9,a9,k9,c9,by rw[← jS.out],dA⟩
 ·obtain⟨n,rfl⟩:∃ n:Nat,z=(n:Int):=⟨z.natAbs,by omega⟩
  have hn:n<18446744073709551616:=by omega
  have HW:Hid (∀ w1,_):=fun w1=>q4A w1 n hn
  have HS:Hid (∀ w1 v,Num w1 v n→Calls Tryz.prog 101 #[.bool false,v] w1 (q0u w1 (n:Int))):=fun w1 v hv=>q17 w1 v false n hv
  have hn1:(0:Int)≤n:=by omega
  have hn2:(n:Int)≤9223372036854775807:=by omega
  have hd:decide ((n:Int)<0)=false:=by simp
  clear h0 h1 h2 hn
  go_enter Tryz.func173,Tryz.ntmps173
  go_wp2_with fail
  obtain⟨w0,aB,g0,hz0,R0⟩:=q0e w [.bool false,.slice none 0 0] 95
  rw[aB]
  clear aB
  refine Calls.mono (P:=Tryz.prog) (HW.out w0) ?_
  intro e w1 hs
  obtain⟨v,rfl,g1,h4⟩:=hs
  go_wp2_with fail
  refine Calls.mono (P:=Tryz.prog) (HS.out w1 v h4) ?_
  intro e w2 hs
  obtain⟨u,rfl,g2,h5⟩:=hs
  clear HW HS h4 hd
  obtain⟨a9,k9,c9,rfl,dZ⟩:=h5
  have jq:Hid (Num w2 (.slice a9 k9 c9) ((n:Int)).natAbs):=dZ
  obtain⟨t9,dC⟩:∃ t,t=decide (((n:Int))<0):=⟨_,rfl⟩
  rw[← dC]
  have jS:Hid (t9=decide (((n:Int))<0)):=dC
  clear dZ dC
  have hS:=Rec.f2 (Rec.G R0.out ((G.trans g1 g2)))
  have dE:=hS.1
  have dF:=hS.2.1
  have dG:=hS.2.2.1
  have dH:=hS.2.2.2
  clear hS
  have dA:Num _ _ _:=q1A (u1:= .bool t9) (u2:= .slice a9 k9 c9) jq.out (Rec.G R0.out (G.trans g1 g2)) trivial trivial
  go_wp2_with fail
  have hT:Hid (Rec (World.setCell (World.setCell w2 ⟨w.heap.size,0,none⟩ (.bool t9)) ⟨w.heap.size,1,none⟩ (.slice a9 k9 c9)) (w.heap.size) [.bool t9,.slice a9 k9 c9]):=Rec.set2 (Rec.G R0.out (G.trans g1 g2))
  have g9:=Rec.g2 (b:=w.heap.size) (u:= .bool t9) (v:= .slice a9 k9 c9) (G.trans g0 (G.trans g1 g2)) (by omega)
  generalize (World.setCell (World.setCell w2 ⟨w.heap.size,0,none⟩ (.bool t9)) ⟨w.heap.size,1,none⟩ (.slice a9 k9 c9))=w9 at *
  have hF:=Rec.f2 (Rec.G hT.out ((G.refl _)))
  have bg:=hF.1
  have bn:=hF.2.1
  have bC:=hF.2.2.1
  have bD:=hF.2.2.2
  clear hF
  refine bodyPost_ret (v:= .agg #[.bool t9,.slice a9 k9 c9]) (by simp [results,Tryz.results173,go_sem, *]) rfl ?_
  exact⟨_,rfl,g9,a9,k9,c9,by rw[← jS.out],dA⟩
theorem q1G (w:World) (t l:Value) (z:Int) (d K:Nat) (q:Rat) (ht:WholeIs w t z) (hl:Num w l d) (hd0:0<d) (hd:d<2^(64*K)) (hc:z≠0→Nat.gcd z.natAbs d=1) (hq0:q=mkRat z d):
  Calls Tryz.prog 100 #[t,l] w (RetQ w q):=by
 have hq:=mk_cross hd0 hq0
 clear hq0
 have HS:Hid (∀ w1,G w w1→_):=fun w1 g=>q5M w1 t z (ht.G g)
 obtain⟨a,k,c,rfl,hm⟩:=ht
 by_cases h0:z=0
 ·subst h0
  have hq0:q=0:=by
   have h1:q.num*(d:Int)=0:=by rw[← hq];simp
   have h2:q.num=0:=by rcases Int.mul_eq_zero.1 h1 with h|h;exact h;omega
   exact Rat.num_eq_zero.1 h2
  rw[hq0]
  rw[show decide ((0:Int)<0)=false from rfl] at *
  clear hl hd0 hd hc hm hq hq0
  go_enter Tryz.func100,Tryz.ntmps100
  go_wp2_with fail
  obtain⟨w0,aB,g0,hz0,R0,R1⟩:=q1S w [.bool false,.slice a k c] [.bool false,.slice none 0 0,.slice none 0 0] 95 97
  rw[aB]
  clear aB
  refine Calls.mono (P:=Tryz.prog) (HS.out w0 g0) ?_
  rintro e w1 ⟨rfl,g1⟩
  clear HS
  have hS:=Rec.f3 (Rec.G R1.out ((g1)))
  have dE:=hS.1
  have dF:=hS.2.1
  have dG:=hS.2.2.1
  have dH:=hS.2.2.2.1
  have iL:=hS.2.2.2.2.1
  have iM:=hS.2.2.2.2.2
  clear hS
  go_wp2_with fail
  have hT:Hid (Rec (World.setCell (World.setCell (World.setCell w1 ⟨w.heap.size+1,0,none⟩ (.bool false)) ⟨w.heap.size+1,1,none⟩ (.slice none 0 0)) ⟨w.heap.size+1,2,none⟩ (.slice none 0 0)) (w.heap.size+1) [.bool false,.slice none 0 0,.slice none 0 0]):=Rec.set3 (Rec.G R1.out (g1))
  have g9:=Rec.g3 (b:=w.heap.size+1) (u:= .bool false) (v:= .slice none 0 0) (x:= .slice none 0 0) (G.trans g0 g1) (by omega)
  generalize (World.setCell (World.setCell (World.setCell w1 ⟨w.heap.size+1,0,none⟩ (.bool false)) ⟨w.heap.size+1,1,none⟩ (.slice none 0 0)) ⟨w.heap.size+1,2,none⟩ (.slice none 0 0))=w9 at *
  have hF:=Rec.f3 (Rec.G hT.out ((G.refl _)))
  have bg:=hF.1
  have bn:=hF.2.1
  have bC:=hF.2.2.1
  have bD:=hF.2.2.2.1
  have jm:=hF.2.2.2.2.1
  have jo:=hF.2.2.2.2.2
  clear hF
  refine bodyPost_ret (v:= .agg #[.bool false,.slice none 0 0,.slice none 0 0]) (by simp [results,Tryz.results100,go_sem, *]) rfl ?_
  exact⟨_,rfl,g9,q4R w9⟩
 ·obtain⟨rfl,rfl⟩:=rat_low hd0 (hc h0) hq
  have HO:Hid (∀ w1,G w w1→_):=fun w1 g=>qbX w1 l q.den K (hl.G g) hd
  have hsg:(q.num.sign==0)=false:=by
   rcases Int.lt_trichotomy q.num 0 with h|h|h
   ·rw[Int.sign_eq_neg_one_of_neg h];rfl
   ·exact absurd h h0
   ·rw[Int.sign_eq_one_of_pos h];rfl
  obtain⟨a',k',c',rfl,-⟩:=q1Z hl
  have HL:Hid (Num w (.slice a' k' c') q.den):=hl
  obtain⟨t,AA⟩:∃ t,t=decide (q.num<0):=⟨_,rfl⟩
  rw[← AA] at HS ⊢
  have HT:Hid (t=decide (q.num<0)):=AA
  have HM:Hid (Num w (.slice a k c) q.num.natAbs):=hm
  generalize q.num.sign=sg at *
  clear hd0 hd hc hl AA hm hq
  by_cases h1:q.den=1
  ·rw[decide_eq_true h1] at HO
   go_enter Tryz.func100,Tryz.ntmps100
   go_wp2_with fail
   obtain⟨w0,aB,g0,hz0,R0,R1⟩:=q1S w [.bool t,.slice a k c] [.bool false,.slice none 0 0,.slice none 0 0] 95 97
   rw[aB]
   clear aB
   refine Calls.mono (P:=Tryz.prog) (HS.out w0 g0) ?_
   rintro e w1 ⟨rfl,g1⟩
   go_wp2_with fail
   refine Calls.mono (P:=Tryz.prog) (HO.out w1 (G.trans g0 g1)) ?_
   rintro e w2 ⟨rfl,g2⟩
   have hr0:=Rec.f2 (Rec.G R0.out (G.trans g1 g2))
   have hq0:=hr0.1
   have hq1:=hr0.2.1
   have h5:QIs w2 (.agg #[.bool (decide (q.num<0)),.slice a k c,.slice none 0 0]) q:=⟨a,k,c,none,0,0,rfl,HM.out.G (G.trans g0 (G.trans g1 g2)),by unfold q1R;rw[if_pos h1];exact q1c _ _ _⟩
   clear hr0 HS HO h0 h1 hsg
   have AB:Hid (Num w2 (.slice a k c) (q).num.natAbs):=qbE h5
   have J4:Hid (Num w2 (.slice none 0 0) (q1R (q).den)):=qby h5
   clear h5
   have hS:=Rec.f3 (Rec.G R1.out ((G.trans g1 g2)))
   have dE:=hS.1
   have dF:=hS.2.1
   have dG:=hS.2.2.1
   have dH:=hS.2.2.2.1
   have iL:=hS.2.2.2.2.1
   have iM:=hS.2.2.2.2.2
   clear hS
   have gu:Num _ _ _:=q0n (u1:= .bool t) (u2:= .slice a k c) (u3:= .slice none 0 0) AB.out (Rec.G R1.out (G.trans g1 g2)) trivial trivial trivial
   have dA:Num _ _ _:=q0n (u1:= .bool t) (u2:= .slice a k c) (u3:= .slice none 0 0) J4.out (Rec.G R1.out (G.trans g1 g2)) trivial trivial trivial
   go_wp2_with fail
   have hT:Hid (Rec (World.setCell (World.setCell (World.setCell w2 ⟨w.heap.size+1,0,none⟩ (.bool t)) ⟨w.heap.size+1,1,none⟩ (.slice a k c)) ⟨w.heap.size+1,2,none⟩ (.slice none 0 0)) (w.heap.size+1) [.bool t,.slice a k c,.slice none 0 0]):=Rec.set3 (Rec.G R1.out (G.trans g1 g2))
   have g9:=Rec.g3 (b:=w.heap.size+1) (u:= .bool t) (v:= .slice a k c) (x:= .slice none 0 0) (G.trans g0 (G.trans g1 g2)) (by omega)
   generalize (World.setCell (World.setCell (World.setCell w2 ⟨w.heap.size+1,0,none⟩ (.bool t)) ⟨w.heap.size+1,1,none⟩ (.slice a k c)) ⟨w.heap.size+1,2,none⟩ (.slice none 0 0))=w9 at *
   have hF:=Rec.f3 (Rec.G hT.out ((G.refl _)))
   have bg:=hF.1
   have bn:=hF.2.1
   have bC:=hF.2.2.1
   have bD:=hF.2.2.2.1
   have jm:=hF.2.2.2.2.1
   have jo:=hF.2.2.2.2.2
   clear hF
   refine bodyPost_ret (v:= .agg #[.bool t,.slice a k c,.slice none 0 0]) (by simp [results,Tryz.results100,go_sem, *]) rfl ?_
   exact⟨_,rfl,g9,a,k,c,none,0,0,by rw[← HT.out],gu,dA⟩
  ·rw[decide_eq_false h1] at HO
   go_enter Tryz.func100,Tryz.ntmps100
   go_wp2_with fail
   obtain⟨w0,aB,g0,hz0,R0,R1⟩:=q1S w [.bool t,.slice a k c] [.bool false,.slice none 0 0,.slice none 0 0] 95 97
   rw[aB]
   clear aB
   refine Calls.mono (P:=Tryz.prog) (HS.out w0 g0) ?_
   rintro e w1 ⟨rfl,g1⟩
   go_wp2_with fail
   refine Calls.mono (P:=Tryz.prog) (HO.out w1 (G.trans g0 g1)) ?_
   rintro e w2 ⟨rfl,g2⟩
   have hr0:=Rec.f2 (Rec.G R0.out (G.trans g1 g2))
   have hq0:=hr0.1
   have hq1:=hr0.2.1
   have h5:QIs w2 (.agg #[.bool (decide (q.num<0)),.slice a k c,.slice a' k' c']) q:=⟨a,k,c,a',k',c',rfl,HM.out.G (G.trans g0 (G.trans g1 g2)),by unfold q1R;rw[if_neg h1];exact HL.out.G (G.trans g0 (G.trans g1 g2))⟩
   clear hr0 HS HO h0 h1 hsg
   have AB:Hid (Num w2 (.slice a k c) (q).num.natAbs):=qbE h5
   have J4:Hid (Num w2 (.slice a' k' c') (q1R (q).den)):=qby h5
   clear h5
   have hS:=Rec.f3 (Rec.G R1.out ((G.trans g1 g2)))
   have dE:=hS.1
   have dF:=hS.2.1
   have dG:=hS.2.2.1
   have dH:=hS.2.2.2.1
   have iL:=hS.2.2.2.2.1
   have iM:=hS.2.2.2.2.2
   clear hS
   have gu:Num _ _ _:=q0n (u1:= .bool t) (u2:= .slice a k c) (u3:= .slice a' k' c') AB.out (Rec.G R1.out (G.trans g1 g2)) trivial trivial trivial
   have dA:Num _ _ _:=q0n (u1:= .bool t) (u2:= .slice a k c) (u3:= .slice a' k' c') J4.out (Rec.G R1.out (G.trans g1 g2)) trivial trivial trivial
   go_wp2_with fail
   have hT:Hid (Rec (World.setCell (World.setCell (World.setCell w2 ⟨w.heap.size+1,0,none⟩ (.bool t)) ⟨w.heap.size+1,1,none⟩ (.slice a k c)) ⟨w.heap.size+1,2,none⟩ (.slice a' k' c')) (w.heap.size+1) [.bool t,.slice a k c,.slice a' k' c']):=Rec.set3 (Rec.G R1.out (G.trans g1 g2))
   have g9:=Rec.g3 (b:=w.heap.size+1) (u:= .bool t) (v:= .slice a k c) (x:= .slice a' k' c') (G.trans g0 (G.trans g1 g2)) (by omega)
   generalize (World.setCell (World.setCell (World.setCell w2 ⟨w.heap.size+1,0,none⟩ (.bool t)) ⟨w.heap.size+1,1,none⟩ (.slice a k c)) ⟨w.heap.size+1,2,none⟩ (.slice a' k' c'))=w9 at *
   have hF:=Rec.f3 (Rec.G hT.out ((G.refl _)))
   have bg:=hF.1
   have bn:=hF.2.1
   have bC:=hF.2.2.1
   have bD:=hF.2.2.2.1
   have jm:=hF.2.2.2.2.1
   have jo:=hF.2.2.2.2.2
   clear hF
   refine bodyPost_ret (v:= .agg #[.bool t,.slice a k c,.slice a' k' c']) (by simp [results,Tryz.results100,go_sem, *]) rfl ?_
   exact⟨_,rfl,g9,a,k,c,a',k',c',by rw[← HT.out],gu,dA⟩
/-- How great a fraction's parts are. -/
def QB (q:Rat) (K:Nat):Prop:=q.num.natAbs<2^(64*K)∧q.den<2^(64*K)
theorem QB.mono {q:Rat} {K L:Nat} (h:QB q K) (hl:K≤L):QB q L:=
 ⟨Nat.lt_of_lt_of_le h.1 (Nat.pow_le_pow_right (by omega) (by omega)),Nat.lt_of_lt_of_le h.2 (Nat.pow_le_pow_right (by omega) (by omega))⟩
theorem q1d {a b K L:Nat} (ha:a<2^(64*K)) (hb:b<2^(64*L)):a*b<2^(64*(K+L)):=by
 rw[show 64*(K+L)=64*K+64*L from by omega,Nat.pow_add]
 exact Nat.mul_lt_mul'' ha hb
theorem q3Y {a b:Nat} (h:0<b):Nat.gcd (a/Nat.gcd a b) (b/Nat.gcd a b)=1:=Nat.gcd_div_gcd_div_gcd_of_pos_right h
theorem q2M {a b c d:Nat} (h:Nat.gcd a b=1) (hc:c∣a) (hd:d∣b):Nat.gcd c d=1:=
 Nat.eq_one_of_dvd_one (h▸Nat.dvd_gcd (Nat.dvd_trans (Nat.gcd_dvd_left c d) hc) (Nat.dvd_trans (Nat.gcd_dvd_right c d) hd))
theorem q8t {a c e b:Nat} (h1:Nat.gcd a e=1) (h2:Nat.gcd a b=1) (h3:Nat.gcd c e=1) (h4:Nat.gcd c b=1):Nat.gcd (a*c) (e*b)=1:=
 Nat.Coprime.mul_left (Nat.Coprime.mul_right h1 h2) (Nat.Coprime.mul_right h3 h4)
/-- What a product comes to, in lowest terms. -/
theorem qaD (x y:Rat):Nat.gcd (x.num.natAbs/Nat.gcd x.num.natAbs y.den*(y.num.natAbs/Nat.gcd y.num.natAbs x.den)) (x.den/Nat.gcd y.num.natAbs x.den*(y.den/Nat.gcd x.num.natAbs y.den))=1:=by
 have hx:=x.reduced
 have hy:=y.reduced
 have hxd:=x.den_pos
 have qD:=y.den_pos
 refine q8t ?_ (q3Y qD) (q3Y hxd) ?_
 ·exact q2M hx (Nat.div_dvd_of_dvd (Nat.gcd_dvd_left _ _)) (Nat.div_dvd_of_dvd (Nat.gcd_dvd_right _ _))
 ·exact q2M hy (Nat.div_dvd_of_dvd (Nat.gcd_dvd_left _ _)) (Nat.div_dvd_of_dvd (Nat.gcd_dvd_right _ _))
theorem q9Z (s t:Bool) (n m:Nat):sgn (s != t) (n*m)=sgn s n*sgn t m:=by
 unfold sgn
 cases s<;>cases t<;>simp [Int.neg_mul,Int.mul_neg]
theorem q9Y (x y:Rat):x*y=mkRat (sgn (decide (x.num<0) != decide (y.num<0)) (x.num.natAbs/Nat.gcd x.num.natAbs y.den*(y.num.natAbs/Nat.gcd y.num.natAbs x.den))) (x.den/Nat.gcd y.num.natAbs x.den*(y.den/Nat.gcd x.num.natAbs y.den)):=by
 have hxd:=x.den_pos
 have qD:=y.den_pos
 rw[Rat.mul_def']
 obtain⟨a,ha⟩:=Nat.gcd_dvd_left x.num.natAbs y.den
 obtain⟨b,hb⟩:=Nat.gcd_dvd_right x.num.natAbs y.den
 obtain⟨c,hc⟩:=Nat.gcd_dvd_left y.num.natAbs x.den
 obtain⟨e,he⟩:=Nat.gcd_dvd_right y.num.natAbs x.den
 have hg:0<Nat.gcd x.num.natAbs y.den:=Nat.gcd_pos_of_pos_right _ qD
 have hh:0<Nat.gcd y.num.natAbs x.den:=Nat.gcd_pos_of_pos_right _ hxd
 generalize Nat.gcd x.num.natAbs y.den=g at *
 generalize Nat.gcd y.num.natAbs x.den=h at *
 have e1:x.num.natAbs/g=a:=by rw[ha];exact Nat.mul_div_cancel_left _ hg
 have e2:y.den/g=b:=by rw[hb];exact Nat.mul_div_cancel_left _ hg
 have e3:y.num.natAbs/h=c:=by rw[hc];exact Nat.mul_div_cancel_left _ hh
 have e4:x.den/h=e:=by rw[he];exact Nat.mul_div_cancel_left _ hh
 rw[e1,e2,e3,e4]
 have hb0:b≠0:=by rintro rfl;omega
 have he0:e≠0:=by rintro rfl;omega
 rw[Rat.mkRat_eq_iff (Nat.mul_ne_zero (by omega) (by omega)) (Nat.mul_ne_zero he0 hb0)]
 have hx:x.num=sgn (decide (x.num<0)) (g*a):=by rw[← ha];exact(q15 _).symm
 have hy:y.num=sgn (decide (y.num<0)) (h*c):=by rw[← hc];exact(q15 _).symm
 generalize decide (x.num<0)=s at *
 generalize decide (y.num<0)=t at *
 rw[hx,hy,hb,he,← q9Z]
 clear ha hb hc he hg hh e1 e2 e3 e4 hx hy hb0 he0 hxd qD
 have e5:∀ (r:Bool) (p q k l:Nat),p*k=q*l→sgn r p*(k:Int)=sgn r q*(l:Int):=by
  intro r p q k l hpq
  have h1:(p:Int)*k=(q:Int)*l:=by rw[← Int.natCast_mul,hpq,Int.natCast_mul]
  unfold sgn
  cases r
  ·exact h1
  ·simp only[if_true,Int.neg_mul,h1]
 exact e5 _ _ _ _ _ (by ac_rfl)
theorem qbT {w:World} {b:Nat} {e:TypeId} (hb:b=w.heap.size):Num (w.alloc (.cells #[.int .u64 1] e)) (.slice (some ⟨b,0,none⟩) 1 1) 1:=by
 subst hb;exact q1P (d:=1) (by decide) (by decide)
theorem q4M (w:World) (v:Value) (q:Rat) (h:QIs w v q):
  Calls Tryz.prog 97 #[v] w (q0h w q.den):=by
 obtain⟨a,k,c,a',k',c',rfl,h1,h2⟩:=h
 obtain⟨a2,k2,c2,e,hk1,-,hk⟩:=q1Z h2
 injection e with e1 e2 e3
 subst e1;subst e2;subst e3
 have hd:=q.den_pos
 obtain⟨t,ht⟩:∃ t,t=decide (q.num<0):=⟨_,rfl⟩
 rw[← ht]
 clear ht
 by_cases h0:q.den=1
 ·have hk0:k'=0:=hk1.2 (by unfold q1R;rw[if_pos h0])
  subst hk0
  rw[h0]
  go_enter Tryz.func97,Tryz.ntmps97
  go_wp2_with fail
  go_ret
  exact⟨_,rfl,((G.refl _).alloc _).alloc _,qbT (by simp)⟩
 ·have hl:q1R q.den=q.den:=by unfold q1R;rw[if_neg h0]
  rw[hl] at h2 hk
  have hk2:((k':Int)==0)=false:=by rw[hk];simp;omega
  have H2:Hid (Num w (.slice a' k' c') q.den):=h2
  clear hk hk1 h0 hl h1 hd h2
  go_enter Tryz.func97,Tryz.ntmps97
  go_wp2_with fail
  go_ret
  exact⟨_,rfl,(G.refl _).alloc _,H2.out.G ((G.refl _).alloc _)⟩
set_option maxHeartbeats 1000000 in
theorem q9p (w:World) (v u:Value) (x y:Rat) (K:Nat) (hK:K≤100000) (hK1:1≤K) (hT:Tab w) (hx:QIs w v x) (hy:QIs w u y) (bx:QB x K) (jU:QB y K):
  Calls Tryz.prog 56 #[v,u] w (RetQ w (x*y)):=by
 have pO:Hid (∀ w1,G w w1→_):=fun w1 g=>q4M w1 v x (hx.G g)
 have pQ:Hid (∀ w1,G w w1→_):=fun w1 g=>q4M w1 u y (hy.G g)
 have hlow:=qaD x y
 have hval:=q9Y x y
 obtain⟨a,k,c,a',k',c',rfl,hx1,hx2⟩:=hx
 obtain⟨b,j,e,b',j',e',rfl,hy1,hy2⟩:=hy
 obtain⟨bx1,Dq⟩:=bx
 obtain⟨H8,Dr⟩:=jU
 have hxd:=x.den_pos
 have qD:=y.den_pos
 obtain⟨g,hg⟩:∃ g,g=Nat.gcd x.num.natAbs y.den:=⟨_,rfl⟩
 obtain⟨h,hh⟩:∃ h,h=Nat.gcd y.num.natAbs x.den:=⟨_,rfl⟩
 have hg0:0<g:=by rw[hg];exact Nat.gcd_pos_of_pos_right _ qD
 have hh0:0<h:=by rw[hh];exact Nat.gcd_pos_of_pos_right _ hxd
 have hgb:g<2^(64*K):=Nat.lt_of_le_of_lt (by rw[hg];exact Nat.gcd_le_right _ qD) Dr
 have IZ:h<2^(64*K):=Nat.lt_of_le_of_lt (by rw[hh];exact Nat.gcd_le_right _ hxd) Dq
 have mg:Hid (∀ w1 v1,G w w1→Num w1 v1 y.den→Calls Tryz.prog 96 #[.slice a k c,v1] w1 (q0h w1 g)):=fun w1 v1 g1 h1=>by
  rw[hg];exact q1X w1 _ v1 _ _ K (by omega) hK1 (hT.G g1) (hx1.G g1) h1 bx1 Dr
 have jk:Hid (∀ w1 v1,G w w1→Num w1 v1 x.den→Calls Tryz.prog 96 #[.slice b j e,v1] w1 (q0h w1 h)):=fun w1 v1 g1 h1=>by
  rw[hh];exact q1X w1 _ v1 _ _ K (by omega) hK1 (hT.G g1) (hy1.G g1) h1 H8 Dq
 rw[← hg,← hh] at hlow hval
 have rO:Hid (∀ w1 v1,G w w1→Num w1 v1 g→_):=fun w1 v1 g1 h1=>q2P w1 (.slice a k c) v1 _ g K (by omega) hK1 (hx1.G g1) h1 bx1 hgb hg0
 have iK:Hid (∀ w1 v1,G w w1→Num w1 v1 h→_):=fun w1 v1 g1 h1=>q2P w1 (.slice b j e) v1 _ h K (by omega) hK1 (hy1.G g1) h1 H8 IZ hh0
 have yS:Hid (∀ w1 v1 v2,Num w1 v1 x.den→Num w1 v2 h→_):=fun w1 v1 v2 h1 h2=>q2P w1 v1 v2 _ h K (by omega) hK1 h1 h2 Dq IZ hh0
 have rP:Hid (∀ w1 v1 v2,Num w1 v1 y.den→Num w1 v2 g→_):=fun w1 v1 v2 h1 h2=>q2P w1 v1 v2 _ g K (by omega) hK1 h1 h2 Dr hgb hg0
 have q1:x.num.natAbs/g<2^(64*K):=Nat.lt_of_le_of_lt (Nat.div_le_self _ _) bx1
 have q2:y.num.natAbs/h<2^(64*K):=Nat.lt_of_le_of_lt (Nat.div_le_self _ _) H8
 have q3:x.den/h<2^(64*K):=Nat.lt_of_le_of_lt (Nat.div_le_self _ _) Dq
 have q4:y.den/g<2^(64*K):=Nat.lt_of_le_of_lt (Nat.div_le_self _ _) Dr
 have q5:0<x.den/h:=Nat.div_pos (by rw[hh];exact Nat.gcd_le_right _ hxd) hh0
 have q6:0<y.den/g:=Nat.div_pos (by rw[hg];exact Nat.gcd_le_right _ qD) hg0
 clear hg hh hg0 hh0 hgb IZ bx1 Dq H8 Dr hxd qD hx2 hy2 hx1 hy1 hT
 obtain⟨s,hs⟩:∃ s,s=decide (x.num<0):=⟨_,rfl⟩
 obtain⟨t,ht⟩:∃ t,t=decide (y.num<0):=⟨_,rfl⟩
 rw[← hs,← ht] at hval
 rw[← hs] at pO
 rw[← ht] at pQ
 rw[← hs,← ht]
 clear hs ht
 generalize x.num.natAbs/g=A at *
 generalize y.num.natAbs/h=B at *
 generalize x.den/h=C at *
 generalize y.den/g=D at *
 have HT1:Hid (∀ w1 v1 v2,Num w1 v1 A→Num w1 v2 B→_):=fun w1 v1 v2 h1 h2=>q2e w1 v1 v2 A B K (by omega) h1 h2 q1 q2
 have HT2:Hid (∀ w1 v1 v2,Num w1 v1 C→Num w1 v2 D→_):=fun w1 v1 v2 h1 h2=>q2e w1 v1 v2 C D K (by omega) h1 h2 q3 q4
 have HS:Hid (∀ w1 v1,Num w1 v1 (A*B)→_):=fun w1 v1 h1=>q17 w1 v1 (s != t) (A*B) h1
 have HF:Hid (∀ w1 v1 v2,WholeIs w1 v1 (sgn (s != t) (A*B))→Num w1 v2 (C*D)→Calls Tryz.prog 100 #[v1,v2] w1 (RetQ w1 (x*y))):=fun w1 v1 v2 h1 h2=>
  q1G w1 v1 v2 _ (C*D) (K+K) (x*y) h1 h2 (Nat.mul_pos q5 q6) (q1d q3 q4) (fun _=>by rw[q2d];exact hlow) hval
 clear q1 q2 q3 q4 q5 q6 hlow hval
 generalize A*B=N at *
 generalize C*D=M at *
 generalize sgn (s != t) N=z at *
 obtain⟨p,hp⟩:∃ p,p=x.den:=⟨_,rfl⟩
 obtain⟨r,hr⟩:∃ r,r=y.den:=⟨_,rfl⟩
 rw[← hp] at pO jk yS
 rw[← hr] at pQ mg rP
 clear hp hr
 generalize x*y=q at *
 go_enter Tryz.func56,Tryz.ntmps56
 go_wp2_with fail
 obtain⟨w0,aB,g0,hz0,R0,R1,R2⟩:=q1o w [.bool s,.slice a k c,.slice a' k' c'] [.bool t,.slice b j e,.slice b' j' e'] [.bool false,.slice none 0 0,.slice none 0 0] 97 97 97
 rw[aB]
 clear aB
 refine q0d 14 0 #[true,true,true,true,true,true,true,true,true,true,true,true,true,true] [.is (.pointer (some ⟨w.heap.size,0,none⟩)),.is (.pointer (some ⟨w.heap.size,1,none⟩)),.is (.slice a k c),.is (.agg #[.bool t,.slice b j e,.slice b' j' e']),.any (fun v w'=>Num w' v (r)),.any (fun v w'=>Num w' v (g)),.is (.pointer (some ⟨w.heap.size+1,0,none⟩)),.is (.pointer (some ⟨w.heap.size+1,1,none⟩)),.is (.slice b j e),.is (.agg #[.bool s,.slice a k c,.slice a' k' c']),.any (fun v w'=>Num w' v (p)),.any (fun v w'=>Num w' v (h)),.any (fun v w'=>Num w' v (g)),.any (fun v w'=>Num w' v (h))] [some 9,some 10,some 11,some 12,some 13,some 14,some 15,some 16,some 17,some 18,some 19,some 20,some 5,some 6] (by kernel_rfl) (by kernel_rfl) rfl (by kernel_rfl) (by repeat (first|exact trivial|refine⟨fun _ _ _ g h=>by first|exact h.G g|exact fun w3 g3=>h w3 (G.trans g g3),?_⟩)) (by kernel_rfl) (by kernel_rfl) ?_
 refine Letters.is ?_
 refine Letters.is ?_
 refine Letters.is ?_
 refine Letters.is ?_
 refine Letters.any fun v4=> ?_
 refine Letters.any fun v5=> ?_
 refine Letters.is ?_
 refine Letters.is ?_
 refine Letters.is ?_
 refine Letters.is ?_
 refine Letters.any fun v10=> ?_
 refine Letters.any fun v11=> ?_
 refine Letters.any fun v12=> ?_
 refine Letters.any fun v13=> ?_
 refine Letters.nil ?_
 intro A hA
 simp only[q1l,Act.put,List.setIfInBounds_toArray,List.set_cons_zero,List.set_cons_succ] at hA
 subst hA
 refine⟨?_,?_⟩
 ·skip
  refine Eaches.cons rfl ?jr (Eaches.cons rfl ?jT (Eaches.cons rfl ?jv (Eaches.cons rfl ?kE (Eaches.cons rfl ?mU (Eaches.cons rfl ?mh (Eaches.cons rfl ?l9 (Eaches.cons rfl ?mi (Eaches.cons rfl ?mo (Eaches.cons rfl ?qB (Eaches.cons rfl ?oC (Eaches.cons rfl ?rM (Eaches.cons rfl ?oD (Eaches.cons rfl ?yN (Eaches.nil))))))))))))))
  case jr|jT|l9|mi=>
   intro W hW hD K hK
   clear hD
   go_simp
   exact hK.out _ _ ⟨_,rfl,G.refl _,rfl⟩
  case jv|kE|mo|qB=>
   intro W hW hD K hK
   clear hD
   have hR0:=Rec.f3 (Rec.G R0.out hW)
   have jV:=hR0.1
   have jW:=hR0.2.1
   have oF:=hR0.2.2.1
   clear hR0
   have oh:=Rec.f3 (Rec.G R1.out hW)
   have uz:=oh.1
   have uA:=oh.2.1
   have yT:=oh.2.2.1
   clear oh
   go_simp
   exact hK.out _ _ ⟨_,rfl,G.refl _,rfl⟩
  ·intro W hW hD K hK
   clear hD
   go_simp
   go_wp2_with (go_at_call 97;refine Calls.mono (P:=Tryz.prog) (pQ.out W (G.trans g0 hW)) ?_;intro e w9 hs;obtain⟨u9,rfl,g9,aQ⟩:=hs)
   exact hK.out _ _ ⟨_,rfl,g9,aQ⟩
  ·intro W hW hD K hK
   have h4:=Deps.get (v:=v4) 4 hD rfl rfl (by kernel_rfl)
   clear hD
   go_simp
   go_wp2_with (go_at_call 96;refine Calls.mono (P:=Tryz.prog) (mg.out W v4 (G.trans g0 hW) h4) ?_;intro e w9 hs;obtain⟨u9,rfl,g9,aQ⟩:=hs)
   exact hK.out _ _ ⟨_,rfl,g9,aQ⟩
  ·intro W hW hD K hK
   clear hD
   go_simp
   go_wp2_with (go_at_call 97;refine Calls.mono (P:=Tryz.prog) (pO.out W (G.trans g0 hW)) ?_;intro e w9 hs;obtain⟨u9,rfl,g9,aQ⟩:=hs)
   exact hK.out _ _ ⟨_,rfl,g9,aQ⟩
  ·intro W hW hD K hK
   have h10:=Deps.get (v:=v10) 10 hD rfl rfl (by kernel_rfl)
   clear hD
   go_simp
   go_wp2_with (go_at_call 96;refine Calls.mono (P:=Tryz.prog) (jk.out W v10 (G.trans g0 hW) h10) ?_;intro e w9 hs;obtain⟨u9,rfl,g9,aQ⟩:=hs)
   exact hK.out _ _ ⟨_,rfl,g9,aQ⟩
  ·intro W hW hD K hK
   have h5:=Deps.get (v:=v5) 5 hD rfl rfl (by kernel_rfl)
   clear hD
   go_simp
   exact hK.out _ _ ⟨_,rfl,G.refl _,h5⟩
  ·intro W hW hD K hK
   have h11:=Deps.get (v:=v11) 11 hD rfl rfl (by kernel_rfl)
   clear hD
   go_simp
   exact hK.out _ _ ⟨_,rfl,G.refl _,h11⟩
 intro w1 g1 hH
 have h12:=Helds.get (v:=v12) 12 hH rfl rfl
 have NY:=Helds.get (v:=v13) 13 hH rfl rfl
 clear hH
 refine wpAny_done (by kernel_rfl) ?_ _
 have J2:Hid (Num w1 v12 g):=h12
 have J3:Hid (Num w1 v13 h):=NY
 clear h12 NY mg jk
 have bU:=G.trans g0 g1
 have S0:Hid _:=Rec.G R0.out g1
 have S1:Hid _:=Rec.G R1.out g1
 have S2:Hid _:=Rec.G R2.out g1
 clear R0 R1 R2 g0 g1
 go_wp2_with fail
 refine q0d 12 0 #[true,true,true,true,true,true,true,true,true,true,true,true] [.is (.pointer (some ⟨w.heap.size,0,none⟩)),.is (.pointer (some ⟨w.heap.size,1,none⟩)),.is (.slice a k c),.is (v12),.any (fun v w'=>Num w' v (A)),.is (.pointer (some ⟨w.heap.size+1,0,none⟩)),.is (.pointer (some ⟨w.heap.size+1,1,none⟩)),.is (.slice b j e),.is (v13),.any (fun v w'=>Num w' v (B)),.any (fun v w'=>Num w' v (N)),.any (fun v w'=>Num w' v (N))] [some 21,some 22,some 23,some 24,some 25,some 26,some 27,some 28,some 29,some 30,some 31,some 7] (by kernel_rfl) (by kernel_rfl) rfl (by kernel_rfl) (by repeat (first|exact trivial|refine⟨fun _ _ _ g h=>by first|exact h.G g|exact fun w3 g3=>h w3 (G.trans g g3),?_⟩)) (by kernel_rfl) (by kernel_rfl) ?_
 refine Letters.is ?_
 refine Letters.is ?_
 refine Letters.is ?_
 refine Letters.is ?_
 refine Letters.any fun v4=> ?_
 refine Letters.is ?_
 refine Letters.is ?_
 refine Letters.is ?_
 refine Letters.is ?_
 refine Letters.any fun v9=> ?_
 refine Letters.any fun v10=> ?_
 refine Letters.any fun v11=> ?_
 refine Letters.nil ?_
 intro A hA
 simp only[q1l,Act.put,List.setIfInBounds_toArray,List.set_cons_zero,List.set_cons_succ] at hA
 subst hA
 refine⟨?_,?_⟩
 ·skip
  refine Eaches.cons rfl ?mV (Eaches.cons rfl ?qE (Eaches.cons rfl ?mW (Eaches.cons rfl ?oG (Eaches.cons rfl ?sP (Eaches.cons rfl ?qF (Eaches.cons rfl ?sQ (Eaches.cons rfl ?uB (Eaches.cons rfl ?xe (Eaches.cons rfl ?IW (Eaches.cons rfl ?NZ (Eaches.cons rfl ?O0 (Eaches.nil))))))))))))
  case mV|qE|oG|qF|sQ|xe=>
   intro W hW hD K hK
   clear hD
   go_simp
   exact hK.out _ _ ⟨_,rfl,G.refl _,rfl⟩
  case mW|uB=>
   intro W hW hD K hK
   clear hD
   have hS0:=Rec.f3 (Rec.G S0.out hW)
   have rQ:=hS0.1
   have rR:=hS0.2.1
   have yU:=hS0.2.2.1
   clear hS0
   have hS1:=Rec.f3 (Rec.G S1.out hW)
   have rT:=hS1.1
   have rU:=hS1.2.1
   have yV:=hS1.2.2.1
   clear hS1
   go_simp
   exact hK.out _ _ ⟨_,rfl,G.refl _,rfl⟩
  ·intro W hW hD K hK
   clear hD
   go_simp
   go_wp2_with (go_at_call 98;refine Calls.mono (P:=Tryz.prog) (rO.out W v12 (G.trans bU hW) (Num.G J2.out hW)) ?_;intro e w9 hs;obtain⟨u9,rfl,g9,aQ⟩:=hs)
   exact hK.out _ _ ⟨_,rfl,g9,aQ⟩
  ·intro W hW hD K hK
   clear hD
   go_simp
   go_wp2_with (go_at_call 98;refine Calls.mono (P:=Tryz.prog) (iK.out W v13 (G.trans bU hW) (Num.G J3.out hW)) ?_;intro e w9 hs;obtain⟨u9,rfl,g9,aQ⟩:=hs)
   exact hK.out _ _ ⟨_,rfl,g9,aQ⟩
  ·intro W hW hD K hK
   have h4:=Deps.get (v:=v4) 4 hD rfl rfl (by kernel_rfl)
   have h9:=Deps.get (v:=v9) 9 hD rfl rfl (by kernel_rfl)
   clear hD
   go_simp
   go_wp2_with (go_at_call 99;refine Calls.mono (P:=Tryz.prog) (HT1.out W v4 v9 h4 h9) ?_;intro e w9 hs;obtain⟨u9,rfl,g9,aQ⟩:=hs)
   exact hK.out _ _ ⟨_,rfl,g9,aQ⟩
  ·intro W hW hD K hK
   have h10:=Deps.get (v:=v10) 10 hD rfl rfl (by kernel_rfl)
   clear hD
   go_simp
   exact hK.out _ _ ⟨_,rfl,G.refl _,h10⟩
 intro w2 g2 hH
 have h11:=Helds.get (v:=v11) 11 hH rfl rfl
 clear hH
 refine wpAny_done (by kernel_rfl) ?_ _
 have O1:Hid (Num w2 v11 N):=h11
 have Dt:Hid (Num w2 v12 g):=J2.out.G g2
 have Du:Hid (Num w2 v13 h):=J3.out.G g2
 have iJ:=G.trans bU g2
 have T0:Hid _:=Rec.G S0.out g2
 have T1:Hid _:=Rec.G S1.out g2
 have T2:Hid _:=Rec.G S2.out g2
 clear h11 J2 J3 rO iK HT1 S0 S1 S2 bU g2
 go_wp2_with fail
 refine q0d 10 0 #[true,true,true,true,true,true,true,true,true,true] [.is (.agg #[.bool s,.slice a k c,.slice a' k' c']),.any (fun v w'=>Num w' v (p)),.is (v13),.any (fun v w'=>Num w' v (C)),.is (.agg #[.bool t,.slice b j e,.slice b' j' e']),.any (fun v w'=>Num w' v (r)),.is (v12),.any (fun v w'=>Num w' v (D)),.any (fun v w'=>Num w' v (M)),.any (fun v w'=>Num w' v (M))] [some 32,some 33,some 34,some 35,some 36,some 37,some 38,some 39,some 40,some 8] (by kernel_rfl) (by kernel_rfl) rfl (by kernel_rfl) (by repeat (first|exact trivial|refine⟨fun _ _ _ g h=>by first|exact h.G g|exact fun w3 g3=>h w3 (G.trans g g3),?_⟩)) (by kernel_rfl) (by kernel_rfl) ?_
 refine Letters.is ?_
 refine Letters.any fun v1=> ?_
 refine Letters.is ?_
 refine Letters.any fun v3=> ?_
 refine Letters.is ?_
 refine Letters.any fun v5=> ?_
 refine Letters.is ?_
 refine Letters.any fun v7=> ?_
 refine Letters.any fun v8=> ?_
 refine Letters.any fun v9=> ?_
 refine Letters.nil ?_
 intro A hA
 simp only[q1l,Act.put,List.setIfInBounds_toArray,List.set_cons_zero,List.set_cons_succ] at hA
 subst hA
 refine⟨?_,?_⟩
 ·skip
  refine Eaches.cons rfl ?mX (Eaches.cons rfl ?oH (Eaches.cons rfl ?mY (Eaches.cons rfl ?oI (Eaches.cons rfl ?qG (Eaches.cons rfl ?qH (Eaches.cons rfl ?qI (Eaches.cons rfl ?sS (Eaches.cons rfl ?xg (Eaches.cons rfl ?IX (Eaches.nil))))))))))
  case mY|qI=>
   intro W hW hD K hK
   clear hD
   go_simp
   exact hK.out _ _ ⟨_,rfl,G.refl _,rfl⟩
  case mX|qG=>
   intro W hW hD K hK
   clear hD
   have hT0:=Rec.f3 (Rec.G T0.out hW)
   have yO:=hT0.1
   have yP:=hT0.2.1
   have yQ:=hT0.2.2.1
   clear hT0
   have hT1:=Rec.f3 (Rec.G T1.out hW)
   have Dk:=hT1.1
   have Dl:=hT1.2.1
   have Dm:=hT1.2.2.1
   clear hT1
   go_simp
   exact hK.out _ _ ⟨_,rfl,G.refl _,rfl⟩
  ·intro W hW hD K hK
   clear hD
   go_simp
   go_wp2_with (go_at_call 97;refine Calls.mono (P:=Tryz.prog) (pO.out W (G.trans iJ hW)) ?_;intro e w9 hs;obtain⟨u9,rfl,g9,aQ⟩:=hs)
   exact hK.out _ _ ⟨_,rfl,g9,aQ⟩
  ·intro W hW hD K hK
   have h1:=Deps.get (v:=v1) 1 hD rfl rfl (by kernel_rfl)
   clear hD
   go_simp
   go_wp2_with (go_at_call 98;refine Calls.mono (P:=Tryz.prog) (yS.out W v1 v13 h1 (Num.G Du.out hW)) ?_;intro e w9 hs;obtain⟨u9,rfl,g9,aQ⟩:=hs)
   exact hK.out _ _ ⟨_,rfl,g9,aQ⟩
  ·intro W hW hD K hK
   clear hD
   go_simp
   go_wp2_with (go_at_call 97;refine Calls.mono (P:=Tryz.prog) (pQ.out W (G.trans iJ hW)) ?_;intro e w9 hs;obtain⟨u9,rfl,g9,aQ⟩:=hs)
   exact hK.out _ _ ⟨_,rfl,g9,aQ⟩
  ·intro W hW hD K hK
   have h5:=Deps.get (v:=v5) 5 hD rfl rfl (by kernel_rfl)
   clear hD
   go_simp
   go_wp2_with (go_at_call 98;refine Calls.mono (P:=Tryz.prog) (rP.out W v5 v12 h5 (Num.G Dt.out hW)) ?_;intro e w9 hs;obtain⟨u9,rfl,g9,aQ⟩:=hs)
   exact hK.out _ _ ⟨_,rfl,g9,aQ⟩
  ·intro W hW hD K hK
   have h3:=Deps.get (v:=v3) 3 hD rfl rfl (by kernel_rfl)
   have h7:=Deps.get (v:=v7) 7 hD rfl rfl (by kernel_rfl)
   clear hD
   go_simp
   go_wp2_with (go_at_call 99;refine Calls.mono (P:=Tryz.prog) (HT2.out W v3 v7 h3 h7) ?_;intro e w9 hs;obtain⟨u9,rfl,g9,aQ⟩:=hs)
   exact hK.out _ _ ⟨_,rfl,g9,aQ⟩
  ·intro W hW hD K hK
   have h8:=Deps.get (v:=v8) 8 hD rfl rfl (by kernel_rfl)
   clear hD
   go_simp
   exact hK.out _ _ ⟨_,rfl,G.refl _,h8⟩
 intro w3 g3 hH
 have h9:=Helds.get (v:=v9) 9 hH rfl rfl
 clear hH
 refine wpAny_done (by kernel_rfl) ?_ _
 have H9:Hid (Num w3 v9 M):=h9
 have Dv:Hid (Num w3 v11 N):=O1.out.G g3
 have kR:=G.trans iJ g3
 have U0:Hid _:=Rec.G T0.out g3
 have U1:Hid _:=Rec.G T1.out g3
 have U2:Hid _:=Rec.G T2.out g3
 clear h9 O1 Dt Du yS rP HT2 T0 T1 T2 iJ g3 pO pQ
 have qK:Hid _:=HS.out w3 v11 Dv.out
 have aH:=Rec.f3 (Rec.G U0.out (G.refl _))
 have dS:=aH.1
 have dU:=aH.2.1
 have dV:=aH.2.2.1
 have dM:=aH.2.2.2.1
 have dN:=aH.2.2.2.2.1
 have dO:=aH.2.2.2.2.2
 clear aH
 have qL:=Rec.f3 (Rec.G U1.out (G.refl _))
 have Ar:=qL.1
 have Au:=qL.2.1
 have Av:=qL.2.2.1
 have Aw:=qL.2.2.2.1
 have Ay:=qL.2.2.2.2.1
 have Az:=qL.2.2.2.2.2
 clear qL
 go_wp2_with fail
 refine Calls.mono (P:=Tryz.prog) qK.out ?_
 intro e4 w4 hs
 obtain⟨v20,rfl,g4,h20⟩:=hs
 have Dw:Hid _:=HF.out w4 v20 v9 h20 (H9.out.G g4)
 clear HS qK HF h20 H9 Dv
 go_wp2_with fail
 refine Calls.mono (P:=Tryz.prog) Dw.out ?_
 intro e4 w5 hs
 obtain⟨v21,rfl,g5,h21⟩:=hs
 clear Dw
 clear dS dU dV dM dN dO Ar Au Av Aw Ay Az
 obtain⟨a8,k8,c8,a9,k9,c9,rfl,kK,dZ⟩:=h21
 have og:Hid (Num w5 (.slice a8 k8 c8) (q).num.natAbs):=kK
 have jq:Hid (Num w5 (.slice a9 k9 c9) (q1R (q).den)):=dZ
 obtain⟨t9,dC⟩:∃ t,t=decide ((q).num<0):=⟨_,rfl⟩
 rw[← dC]
 have jS:Hid (t9=decide ((q).num<0)):=dC
 clear kK dZ dC
 have hS:=Rec.f3 (Rec.G U2.out ((G.trans g4 g5)))
 have dE:=hS.1
 have dF:=hS.2.1
 have dG:=hS.2.2.1
 have dH:=hS.2.2.2.1
 have iL:=hS.2.2.2.2.1
 have iM:=hS.2.2.2.2.2
 clear hS
 have gu:Num _ _ _:=q0n (u1:= .bool t9) (u2:= .slice a8 k8 c8) (u3:= .slice a9 k9 c9) og.out (Rec.G U2.out (G.trans g4 g5)) trivial trivial trivial
 have dA:Num _ _ _:=q0n (u1:= .bool t9) (u2:= .slice a8 k8 c8) (u3:= .slice a9 k9 c9) jq.out (Rec.G U2.out (G.trans g4 g5)) trivial trivial trivial
 go_wp2_with fail
 have hT:Hid (Rec (World.setCell (World.setCell (World.setCell w5 ⟨w.heap.size+2,0,none⟩ (.bool t9)) ⟨w.heap.size+2,1,none⟩ (.slice a8 k8 c8)) ⟨w.heap.size+2,2,none⟩ (.slice a9 k9 c9)) (w.heap.size+2) [.bool t9,.slice a8 k8 c8,.slice a9 k9 c9]):=Rec.set3 (Rec.G U2.out (G.trans g4 g5))
 have g9:=Rec.g3 (b:=w.heap.size+2) (u:= .bool t9) (v:= .slice a8 k8 c8) (x:= .slice a9 k9 c9) (G.trans kR (G.trans g4 g5)) (by omega)
 generalize (World.setCell (World.setCell (World.setCell w5 ⟨w.heap.size+2,0,none⟩ (.bool t9)) ⟨w.heap.size+2,1,none⟩ (.slice a8 k8 c8)) ⟨w.heap.size+2,2,none⟩ (.slice a9 k9 c9))=w9 at *
 have hF:=Rec.f3 (Rec.G hT.out ((G.refl _)))
 have bg:=hF.1
 have bn:=hF.2.1
 have bC:=hF.2.2.1
 have bD:=hF.2.2.2.1
 have jm:=hF.2.2.2.2.1
 have jo:=hF.2.2.2.2.2
 clear hF
 refine bodyPost_ret (v:= .agg #[.bool t9,.slice a8 k8 c8,.slice a9 k9 c9]) (by simp [results,Tryz.results56,go_sem, *]) rfl ?_
 exact⟨_,rfl,g9,a8,k8,c8,a9,k9,c9,by rw[← jS.out],gu,dA⟩
/-- A call hands back a fraction and no error, or an error. -/
def q2W (w:World) (q:Rat) (c:Int) (e:Ending) (w':World):Prop:=∃ v,e= .returned (.tuple #[v,.int .i64 c])∧G w w'∧QIs w' v q
theorem QIs.set3 {w:World} {v:Value} {q:Rat} {b:Nat} {x y z u1 u2 u3:Value} (h:QIs w v q) (r:Rec w b [x,y,z]) (hx:q2b x) (hy:q2b y) (hz:q2b z):QIs (((w.setCell ⟨b,0,none⟩ u1).setCell ⟨b,1,none⟩ u2).setCell ⟨b,2,none⟩ u3) v q:=by
 obtain⟨a,k,c,a',k',c',e,h1,h2⟩:=h
 exact⟨a,k,c,a',k',c',e,q0n h1 r hx hy hz,q0n h2 r hx hy hz⟩
theorem QIs.top {w:World} {a:Option Addr} {k c:Nat} {q:Rat} {t:Bool} (h:Num w (.slice a k c) q.num.natAbs) (ht:t=decide (q.num<0)):WholeIs w (.agg #[.bool t,.slice a k c]) q.num:=⟨a,k,c,by rw[ht],h⟩
theorem q3b (w:World) (v:Value) (q:Rat) (h:QIs w v q):
  Calls Tryz.prog 81 #[v] w fun e w'=>e= .returned (.int .i64 q.num.sign)∧G w w':=by
 obtain⟨a,k,c,a',k',c',rfl,h1,h2⟩:=h
 obtain⟨t,ht⟩:∃ t,t=decide (q.num<0):=⟨_,rfl⟩
 have HS:Hid (∀ w1,G w w1→_):=fun w1 g=>q5M w1 (.agg #[.bool t,.slice a k c]) q.num (QIs.top (h1.G g) ht)
 rw[← ht]
 generalize q.num.sign=z at *
 clear ht h1 h2
 go_enter Tryz.func81,Tryz.ntmps81
 go_wp2_with fail
 obtain⟨w0,aB,g0,hz0,R0⟩:=q0e w [.bool t,.slice a k c,.slice a' k' c'] 97
 rw[aB]
 clear aB
 refine Calls.mono (P:=Tryz.prog) (HS.out w0 g0) ?_
 rintro e w1 ⟨rfl,g1⟩
 go_wp2_with fail
 go_ret
 exact⟨rfl,G.trans g0 g1⟩
theorem q4C (z:Int):((z:Int):Rat)=mkRat z 1:=(Rat.mk_eq_mkRat z 1 (by decide) (by simp)).symm▸rfl
/-- What is 1 over a fraction. -/
theorem q4r {y:Rat} (h:y≠0):y⁻¹ =mkRat (sgn (decide (y.num<0)) y.den) y.num.natAbs∧Nat.gcd y.den y.num.natAbs=1∧0<y.num.natAbs:=by
 have hn:y.num≠0:=fun e=>h (Rat.num_eq_zero.1 e)
 refine⟨?_,by rw[Nat.gcd_comm];exact y.reduced,by omega⟩
 rw[Rat.inv_def]
 rw[← Rat.divInt_ofNat,Rat.divInt_eq_divInt_iff hn (by omega)]
 unfold sgn
 by_cases h0:y.num<0
 ·simp only[h0,decide_true,if_true]
  rw[show ((y.num.natAbs:Nat):Int)= -y.num from by omega,Int.mul_neg,Int.neg_mul]
 ·simp only[h0,decide_false,Bool.false_eq_true,if_false]
  rw[show ((y.num.natAbs:Nat):Int)=y.num from by omega]
theorem q7U {y:Rat} {K:Nat} (h:y≠0) (hb:QB y K):QB y⁻¹ K:=by
 obtain⟨h1,h2,h3⟩:=q4r h
 have h4:=mk_cross h3 h1
 obtain⟨e1,e2⟩:=rat_low h3 (by rw[q2d];exact h2) h4
 unfold QB
 rw[e1,e2,q2d]
 exact⟨hb.2,hb.1⟩
theorem q18 {q:Rat}:(q.num.sign==0)=decide (q=0):=by
 rw[Bool.eq_iff_iff]
 simp [Int.sign_eq_zero_iff_zero,Rat.num_eq_zero]
set_option maxHeartbeats 1000000 in
theorem qbJ (w:World) (v u:Value) (x y:Rat) (K:Nat) (hK:K≤100000) (hK1:1≤K) (hT:Tab w) (hx:QIs w v x) (hy:QIs w u y) (bx:QB x K) (jU:QB y K):
  Calls Tryz.prog 64 #[v,u] w (q2W w (if y=0 then 0 else x/y) (if y=0 then 5 else 0)):=by
 have jJ:Hid (∀ w1,G w w1→_):=fun w1 g=>q3b w1 u y (hy.G g)
 have HB:Hid (∀ w1,G w w1→_):=fun w1 g=>q4M w1 u y (hy.G g)
 have HX:Hid (QIs w v x):=hx
 obtain⟨a,k,c,a',k',c',rfl,hx1,hx2⟩:=hx
 obtain⟨b,j,e,b',j',e',rfl,hy1,hy2⟩:=hy
 by_cases h0:y=0
 ·rw[if_pos h0,if_pos h0]
  have hz:(y.num.sign==0)=true:=by rw[q18,h0];rfl
  generalize y.num.sign=z at *
  obtain⟨s,hs⟩:∃ s,s=decide (x.num<0):=⟨_,rfl⟩
  obtain⟨t,ht⟩:∃ t,t=decide (y.num<0):=⟨_,rfl⟩
  rw[← ht] at jJ
  rw[← hs,← ht]
  clear hs ht hx1 hx2 hy1 hy2 bx jU h0 HB HX hT
  go_enter Tryz.func64,Tryz.ntmps64
  go_wp2_with fail
  obtain⟨w0,aB,g0,hz0,R0,R1,R2⟩:=q1o w [.bool s,.slice a k c,.slice a' k' c'] [.bool t,.slice b j e,.slice b' j' e'] [.bool false,.slice none 0 0,.slice none 0 0] 97 97 97
  rw[aB]
  clear aB
  refine Calls.mono (P:=Tryz.prog) (jJ.out w0 g0) ?_
  rintro e w1 ⟨rfl,g1⟩
  clear jJ
  have hS:=Rec.f3 (Rec.G R2.out ((g1)))
  have dE:=hS.1
  have dF:=hS.2.1
  have dG:=hS.2.2.1
  have dH:=hS.2.2.2.1
  have iL:=hS.2.2.2.2.1
  have iM:=hS.2.2.2.2.2
  clear hS
  go_wp2_with fail
  have hT:Hid (Rec (World.setCell (World.setCell (World.setCell w1 ⟨w.heap.size+2,0,none⟩ (.bool false)) ⟨w.heap.size+2,1,none⟩ (.slice none 0 0)) ⟨w.heap.size+2,2,none⟩ (.slice none 0 0)) (w.heap.size+2) [.bool false,.slice none 0 0,.slice none 0 0]):=Rec.set3 (Rec.G R2.out (g1))
  have g9:=Rec.g3 (b:=w.heap.size+2) (u:= .bool false) (v:= .slice none 0 0) (x:= .slice none 0 0) (G.trans g0 g1) (by omega)
  generalize (World.setCell (World.setCell (World.setCell w1 ⟨w.heap.size+2,0,none⟩ (.bool false)) ⟨w.heap.size+2,1,none⟩ (.slice none 0 0)) ⟨w.heap.size+2,2,none⟩ (.slice none 0 0))=w9 at *
  have hF:=Rec.f3 (Rec.G hT.out ((G.refl _)))
  have bg:=hF.1
  have bn:=hF.2.1
  have bC:=hF.2.2.1
  have bD:=hF.2.2.2.1
  have jm:=hF.2.2.2.2.1
  have jo:=hF.2.2.2.2.2
  clear hF
  refine bodyPost_ret (v:= .tuple #[.agg #[.bool false,.slice none 0 0,.slice none 0 0],.int .i64 5]) (by simp [results,Tryz.results64,go_sem, *]) rfl ?_
  exact⟨_,rfl,g9,q4R w9⟩
 ·rw[if_neg h0,if_neg h0]
  obtain⟨i1,i2,i3⟩:=q4r h0
  have ib:=q7U h0 jU
  have hz:(y.num.sign==0)=false:=by rw[q18,decide_eq_false h0]
  have hbn:=jU.1
  obtain⟨s,hs⟩:∃ s,s=decide (x.num<0):=⟨_,rfl⟩
  obtain⟨t,ht⟩:∃ t,t=decide (y.num<0):=⟨_,rfl⟩
  have HS:Hid (∀ w1 v1,Num w1 v1 y.den→_):=fun w1 v1 h1=>q17 w1 v1 t y.den h1
  have HF:Hid (∀ w1 v1,G w w1→WholeIs w1 v1 (sgn t y.den)→_):=fun w1 v1 g h1=>q1G w1 v1 (.slice b j e) _ y.num.natAbs K y⁻¹ h1 (hy1.G g) i3 hbn (fun _=>by rw[q2d];exact i2) (by rw[ht];exact i1)
  have HM:Hid (∀ w1 v1,G w w1→QIs w1 v1 y⁻¹ →Calls Tryz.prog 56 #[.agg #[.bool s,.slice a k c,.slice a' k' c'],v1] w1 (RetQ w1 (x/y))):=fun w1 v1 g h1=>by
   rw[Rat.div_def]
   have hX:=HX.out
   rw[← hs] at hX
   exact q9p w1 _ v1 x y⁻¹ K hK hK1 (hT.G g) (hX.G g) h1 bx ib
  rw[← ht] at jJ HB
  rw[← hs,← ht]
  generalize y.num.sign=z at *
  obtain⟨d,hd⟩:∃ d,d=y.den:=⟨_,rfl⟩
  rw[← hd] at HB HS HF
  generalize sgn t d=yt at *
  generalize y.num.natAbs=yn at *
  obtain⟨yi,hyi⟩:∃ yi,yi=y⁻¹ :=⟨_,rfl⟩
  rw[← hyi] at HF HM
  generalize x/y=q at *
  clear hd hs ht hyi i1 i2 i3 ib hbn hx1 hx2 hy1 hy2 bx jU h0 HX hT
  go_enter Tryz.func64,Tryz.ntmps64
  go_wp2_with fail
  obtain⟨w0,aB,g0,hz0,R0,R1,R2⟩:=q1o w [.bool s,.slice a k c,.slice a' k' c'] [.bool t,.slice b j e,.slice b' j' e'] [.bool false,.slice none 0 0,.slice none 0 0] 97 97 97
  rw[aB]
  clear aB
  refine Calls.mono (P:=Tryz.prog) (jJ.out w0 g0) ?_
  rintro e w1 ⟨rfl,g1⟩
  clear jJ
  have bU:=G.trans g0 g1
  have S0:Hid (Rec _ _ _):=Rec.G R0.out (g1)
  have S1:Hid (Rec _ _ _):=Rec.G R1.out (g1)
  have S2:Hid (Rec _ _ _):=Rec.G R2.out (g1)
  clear R0 R1 R2 g0 g1
  go_wp2_with fail
  refine q0d 11 1 #[true,true,true,true,true,true,true,true,true,true,true,false] [.is (.pointer (some ⟨w.heap.size+1,0,none⟩)),.is (.pointer (some ⟨w.heap.size+1,0,none⟩)),.is (.bool t),.is (.agg #[.bool t,.slice b j e,.slice b' j' e']),.any (fun v w'=>Num w' v (d)),.any (fun v w'=>WholeIs w' v (yt)),.is (.pointer (some ⟨w.heap.size+1,0,none⟩)),.is (.pointer (some ⟨w.heap.size+1,1,none⟩)),.is (.slice b j e),.any (fun v w'=>QIs w' v (yi)),.any (fun v w'=>NewRec w1 w' v ([.bool false,.slice none 0 0,.slice none 0 0]))] [some 11,some 12,some 13,some 14,some 15,some 16,some 17,some 18,some 19,some 20,some 6] (by kernel_rfl) (by kernel_rfl) rfl (by kernel_rfl) (by repeat (first|exact trivial|refine⟨fun _ _ _ g h=>by first|exact h.G g|exact fun w3 g3=>h w3 (G.trans g g3),?_⟩)) (by kernel_rfl) (by kernel_rfl) ?_
  refine Letters.is ?_
  refine Letters.is ?_
  refine Letters.is ?_
  refine Letters.is ?_
  refine Letters.any fun v4=> ?_
  refine Letters.any fun v5=> ?_
  refine Letters.is ?_
  refine Letters.is ?_
  refine Letters.is ?_
  refine Letters.any fun v9=> ?_
  refine Letters.any fun v10=> ?_
  refine Letters.nil ?_
  intro A hA
  simp only[q1l,Act.put,List.setIfInBounds_toArray,List.set_cons_zero,List.set_cons_succ] at hA
  subst hA
  refine⟨?_,?_⟩
  ·skip
   refine Eaches.cons rfl ?jr (Eaches.cons rfl ?jT (Eaches.cons rfl ?jv (Eaches.cons rfl ?kE (Eaches.cons rfl ?mU (Eaches.cons rfl ?mh (Eaches.cons rfl ?l9 (Eaches.cons rfl ?mi (Eaches.cons rfl ?mo (Eaches.cons rfl ?qB (Eaches.cons rfl ?oC (Eaches.nil)))))))))))
   case jr|jT|l9|mi=>
    intro W hW hD K hK
    clear hD
    go_simp
    exact hK.out _ _ ⟨_,rfl,G.refl _,rfl⟩
   case jv|kE|mo=>
    intro W hW hD K hK
    clear hD
    have hS1:=Rec.f3 (Rec.G S1.out hW)
    have rT:=hS1.1
    have rU:=hS1.2.1
    have yV:=hS1.2.2.1
    clear hS1
    go_simp
    exact hK.out _ _ ⟨_,rfl,G.refl _,rfl⟩
   ·intro W hW hD K hK
    clear hD
    go_simp
    go_wp2_with (go_at_call 97;refine Calls.mono (P:=Tryz.prog) (HB.out W (G.trans bU hW)) ?_;intro e w9 hs;obtain⟨u9,rfl,g9,aQ⟩:=hs)
    exact hK.out _ _ ⟨_,rfl,g9,aQ⟩
   ·intro W hW hD K hK
    have h4:=Deps.get (v:=v4) 4 hD rfl rfl (by kernel_rfl)
    clear hD
    go_simp
    go_wp2_with (go_at_call 101;refine Calls.mono (P:=Tryz.prog) (HS.out W v4 h4) ?_;intro e w9 hs;obtain⟨u9,rfl,g9,aQ⟩:=hs)
    exact hK.out _ _ ⟨_,rfl,g9,aQ⟩
   ·intro W hW hD K hK
    have h5:=Deps.get (v:=v5) 5 hD rfl rfl (by kernel_rfl)
    clear hD
    go_simp
    go_wp2_with (go_at_call 100;refine Calls.mono (P:=Tryz.prog) (HF.out W v5 (G.trans bU hW) h5) ?_;intro e w9 hs;obtain⟨u9,rfl,g9,aQ⟩:=hs)
    exact hK.out _ _ ⟨_,rfl,g9,aQ⟩
   ·intro W hW hD K hK
    clear hD
    go_simp
    exact hK.out _ _ ⟨_,rfl,(G.refl _).alloc _,_,rfl,hW.size,Rec.new3 _ _ _ _ _⟩
  intro w2 g2 hH
  have h9:=Helds.get (v:=v9) 9 hH rfl rfl
  have h10:=Helds.get (v:=v10) 10 hH rfl rfl
  clear hH
  clear HS HF HB
  obtain⟨nb,rfl,hnb,fK⟩:=h10
  have N0:Hid (Rec w2 nb [.bool false,.slice none 0 0,.slice none 0 0]):=fK
  obtain⟨a8,k8,c8,a9,k9,c9,rfl,kK,dZ⟩:=h9
  obtain⟨t9,dC⟩:∃ t,t=decide (yi.num<0):=⟨_,rfl⟩
  have hQ:QIs w2 (.agg #[.bool t9,.slice a8 k8 c8,.slice a9 k9 c9]) yi:=⟨a8,k8,c8,a9,k9,c9,by rw[dC],kK,dZ⟩
  have HQ:Hid _:=hQ.set3 (u1:= .bool t9) (u2:= .slice a8 k8 c8) (u3:= .slice a9 k9 c9) N0.out trivial trivial trivial
  rw[← dC]
  clear kK dZ dC fK hQ
  have hS:=Rec.f3 (Rec.G N0.out ((G.refl _)))
  have dE:=hS.1
  have dF:=hS.2.1
  have dG:=hS.2.2.1
  have dH:=hS.2.2.2.1
  have iL:=hS.2.2.2.2.1
  have iM:=hS.2.2.2.2.2
  clear hS
  refine wpAny_ready (rs:=[11]) (by kernel_rfl) (by simp) ?_
  refine AllReady.cons rfl (fun K hK=> ?_) AllReady.nil
  go_simp
  refine hK _ _ ?_
  clear hK K dE dF dG dH iL iM
  refine wpAny_done (by kernel_rfl) ?_ _
  have N1:Hid (Rec _ nb [.bool t9,.slice a8 k8 c8,.slice a9 k9 c9]):=Rec.set3 N0.out
  have g3:=Rec.g3 (b:=nb) (u:= .bool t9) (v:= .slice a8 k8 c8) (x:= .slice a9 k9 c9) g2 hnb
  generalize (((w2.setCell ⟨nb,0,none⟩ (.bool t9)).setCell ⟨nb,1,none⟩ (.slice a8 k8 c8)).setCell ⟨nb,2,none⟩ (.slice a9 k9 c9))=w3 at *
  have kR:=G.trans bU g3
  have T0:Hid (Rec _ _ _):=Rec.G S0.out (g3)
  have T2:Hid (Rec _ _ _):=Rec.G S2.out (g3)
  have NW:Hid _:=HM.out w3 _ kR HQ.out
  clear HM HQ S0 S1 S2 N0 g2 hnb bU g3
  have qJ:=Rec.f3 (Rec.G T0.out (G.refl _))
  have Ai:=qJ.1
  have Aj:=qJ.2.1
  have Ak:=qJ.2.2.1
  have Al:=qJ.2.2.2.1
  have Am:=qJ.2.2.2.2.1
  have Ao:=qJ.2.2.2.2.2
  clear qJ
  have dW:=Rec.f3 (Rec.G N1.out (G.refl _))
  have jw:=dW.1
  have jy:=dW.2.1
  have jA:=dW.2.2.1
  have jB:=dW.2.2.2.1
  have Ap:=dW.2.2.2.2.1
  have Aq:=dW.2.2.2.2.2
  clear dW
  go_wp2_with fail
  refine Calls.mono (P:=Tryz.prog) NW.out ?_
  intro e4 w4 hs
  obtain⟨v21,rfl,g4,h21⟩:=hs
  clear NW Ai Aj Ak Al Am Ao jw jy jA jB Ap Aq
  obtain⟨a8,k8,c8,a9,k9,c9,rfl,kK,dZ⟩:=h21
  have og:Hid (Num w4 (.slice a8 k8 c8) (q).num.natAbs):=kK
  have jq:Hid (Num w4 (.slice a9 k9 c9) (q1R (q).den)):=dZ
  obtain⟨t9,dC⟩:∃ t,t=decide ((q).num<0):=⟨_,rfl⟩
  rw[← dC]
  have jS:Hid (t9=decide ((q).num<0)):=dC
  clear kK dZ dC
  have hS:=Rec.f3 (Rec.G T2.out ((g4)))
  have dE:=hS.1
  have dF:=hS.2.1
  have dG:=hS.2.2.1
  have dH:=hS.2.2.2.1
  have iL:=hS.2.2.2.2.1
  have iM:=hS.2.2.2.2.2
  clear hS
  have gu:Num _ _ _:=q0n (u1:= .bool t9) (u2:= .slice a8 k8 c8) (u3:= .slice a9 k9 c9) og.out (Rec.G T2.out (g4)) trivial trivial trivial
  have dA:Num _ _ _:=q0n (u1:= .bool t9) (u2:= .slice a8 k8 c8) (u3:= .slice a9 k9 c9) jq.out (Rec.G T2.out (g4)) trivial trivial trivial
  go_wp2_with fail
  have hT:Hid (Rec (World.setCell (World.setCell (World.setCell w4 ⟨w.heap.size+2,0,none⟩ (.bool t9)) ⟨w.heap.size+2,1,none⟩ (.slice a8 k8 c8)) ⟨w.heap.size+2,2,none⟩ (.slice a9 k9 c9)) (w.heap.size+2) [.bool t9,.slice a8 k8 c8,.slice a9 k9 c9]):=Rec.set3 (Rec.G T2.out (g4))
  have g9:=Rec.g3 (b:=w.heap.size+2) (u:= .bool t9) (v:= .slice a8 k8 c8) (x:= .slice a9 k9 c9) (G.trans kR g4) (by omega)
  generalize (World.setCell (World.setCell (World.setCell w4 ⟨w.heap.size+2,0,none⟩ (.bool t9)) ⟨w.heap.size+2,1,none⟩ (.slice a8 k8 c8)) ⟨w.heap.size+2,2,none⟩ (.slice a9 k9 c9))=w9 at *
  have hF:=Rec.f3 (Rec.G hT.out ((G.refl _)))
  have bg:=hF.1
  have bn:=hF.2.1
  have bC:=hF.2.2.1
  have bD:=hF.2.2.2.1
  have jm:=hF.2.2.2.2.1
  have jo:=hF.2.2.2.2.2
  clear hF
  refine bodyPost_ret (v:= .tuple #[.agg #[.bool t9,.slice a8 k8 c8,.slice a9 k9 c9],.int .i64 0]) (by simp [results,Tryz.results64,go_sem, *]) rfl ?_
  exact⟨_,rfl,g9,a8,k8,c8,a9,k9,c9,by rw[← jS.out],gu,dA⟩
theorem QIs.top' {w:World} {a:Option Addr} {k c:Nat} {z:Int} {t:Bool} (h:Num w (.slice a k c) z.natAbs) (ht:t=decide (z<0)):WholeIs w (.agg #[.bool t,.slice a k c]) z:=⟨a,k,c,by rw[ht],h⟩
theorem q4N (t:Bool) (n k:Nat):sgn t (n*k)=sgn t n*(k:Int):=by unfold sgn;cases t<;>simp [Int.neg_mul]
set_option maxHeartbeats 1000000 in
theorem qaX (w:World) (v u:Value) (x y:Rat) (K:Nat) (hK:K≤100000) (hx:QIs w v x) (hy:QIs w u y) (bx:QB x K) (jU:QB y K):
  Calls Tryz.prog 57 #[v,u] w fun e w'=>e= .returned (.int .i64 (x.num*y.den-y.num*x.den).sign)∧G w w':=by
 have pO:Hid (∀ w1,G w w1→_):=fun w1 g=>q4M w1 v x (hx.G g)
 have pQ:Hid (∀ w1,G w w1→_):=fun w1 g=>q4M w1 u y (hy.G g)
 obtain⟨a,k,c,a',k',c',rfl,hx1,hx2⟩:=hx
 obtain⟨b,j,e,b',j',e',rfl,hy1,hy2⟩:=hy
 obtain⟨s,hs⟩:∃ s,s=decide (x.num<0):=⟨_,rfl⟩
 obtain⟨t,ht⟩:∃ t,t=decide (y.num<0):=⟨_,rfl⟩
 have hsx:sgn s x.num.natAbs=x.num:=by rw[hs];exact q15 _
 have hsy:sgn t y.num.natAbs=y.num:=by rw[ht];exact q15 _
 have HT1:Hid (∀ w1 v1,G w w1→Num w1 v1 y.den→Calls Tryz.prog 102 #[.agg #[.bool s,.slice a k c],v1] w1 (q0u w1 (x.num*y.den))):=fun w1 v1 g h=>by
  have h:=q30 w1 (.agg #[.bool s,.slice a k c]) v1 s _ _ K (by omega) ⟨a,k,c,rfl,hx1.G g⟩ h bx.1 jU.2
  rw[hsx] at h;exact h
 have HT2:Hid (∀ w1 v1,G w w1→Num w1 v1 x.den→Calls Tryz.prog 102 #[.agg #[.bool t,.slice b j e],v1] w1 (q0u w1 (y.num*x.den))):=fun w1 v1 g h=>by
  have h:=q30 w1 (.agg #[.bool t,.slice b j e]) v1 t _ _ K (by omega) ⟨b,j,e,rfl,hy1.G g⟩ h jU.1 bx.2
  rw[hsy] at h;exact h
 have q1:(x.num*y.den).natAbs<2^(64*(K+K)):=by rw[Int.natAbs_mul];exact q1d bx.1 jU.2
 have q2:(y.num*x.den).natAbs<2^(64*(K+K)):=by rw[Int.natAbs_mul];exact q1d jU.1 bx.2
 rw[← hs] at pO
 rw[← ht] at pQ
 rw[← hs,← ht]
 obtain⟨p,hp⟩:∃ p,p=x.den:=⟨_,rfl⟩
 obtain⟨r,hr⟩:∃ r,r=y.den:=⟨_,rfl⟩
 rw[← hp] at pO HT2 q2 ⊢
 rw[← hr] at pQ HT1 q1 ⊢
 generalize x.num*(r:Int)=A at *
 generalize y.num*(p:Int)=B at *
 have HM:Hid (∀ w1 v1 v2,WholeIs w1 v1 A→WholeIs w1 v2 B→Calls Tryz.prog 103 #[v1,v2] w1 (q0u w1 (A-B))):=fun w1 v1 v2 h1 h2=>by
  have h:=q5T w1 v1 v2 _ _ _ _ (K+K) (by omega) h1 h2 q1 q2
  rw[q15,q15] at h;exact h
 have HS:Hid (∀ w1 v1,WholeIs w1 v1 (A-B)→_):=fun w1 v1 h=>q5M w1 v1 (A-B) h
 generalize A-B=z at *
 generalize z.sign=sz at *
 clear hp hr q1 q2 hsx hsy hs ht bx jU hx1 hx2 hy1 hy2
 go_enter Tryz.func57,Tryz.ntmps57
 go_wp2_with fail
 obtain⟨w0,aB,g0,hz0,R0,R1⟩:=q1S w [.bool s,.slice a k c,.slice a' k' c'] [.bool t,.slice b j e,.slice b' j' e'] 97 97
 rw[aB]
 clear aB
 refine q0d 13 0 #[true,true,true,true,true,true,true,true,true,true,true,true,true] [.is (.pointer (some ⟨w.heap.size,0,none⟩)),.is (.agg #[.bool s,.slice a k c]),.is (.agg #[.bool t,.slice b j e,.slice b' j' e']),.any (fun v w'=>Num w' v (r)),.any (fun v w'=>WholeIs w' v (A)),.is (.pointer (some ⟨w.heap.size+1,0,none⟩)),.is (.agg #[.bool t,.slice b j e]),.is (.agg #[.bool s,.slice a k c,.slice a' k' c']),.any (fun v w'=>Num w' v (p)),.any (fun v w'=>WholeIs w' v (B)),.any (fun v w'=>WholeIs w' v (z)),.is (.int .i64 sz),.is (.int .i64 sz)] [some 5,some 6,some 7,some 8,some 9,some 10,some 11,some 12,some 13,some 14,some 15,some 16,some 4] (by kernel_rfl) (by kernel_rfl) rfl (by kernel_rfl) (by repeat (first|exact trivial|refine⟨fun _ _ _ g h=>by first|exact h.G g|exact fun w3 g3=>h w3 (G.trans g g3),?_⟩)) (by kernel_rfl) (by kernel_rfl) ?_
 refine Letters.is ?_
 refine Letters.is ?_
 refine Letters.is ?_
 refine Letters.any fun v3=> ?_
 refine Letters.any fun v4=> ?_
 refine Letters.is ?_
 refine Letters.is ?_
 refine Letters.is ?_
 refine Letters.any fun v8=> ?_
 refine Letters.any fun v9=> ?_
 refine Letters.any fun v10=> ?_
 refine Letters.is ?_
 refine Letters.is ?_
 refine Letters.nil ?_
 intro A hA
 simp only[q1l,Act.put,List.setIfInBounds_toArray,List.set_cons_zero,List.set_cons_succ] at hA
 subst hA
 refine⟨?_,?_⟩
 ·skip
  refine Eaches.cons rfl ?jr (Eaches.cons rfl ?jT (Eaches.cons rfl ?jv (Eaches.cons rfl ?kE (Eaches.cons rfl ?mU (Eaches.cons rfl ?mh (Eaches.cons rfl ?l9 (Eaches.cons rfl ?mi (Eaches.cons rfl ?mo (Eaches.cons rfl ?qB (Eaches.cons rfl ?oC (Eaches.cons rfl ?rM (Eaches.cons rfl ?oD (Eaches.nil)))))))))))))
  case jr|mh|oD=>
   intro W hW hD K hK
   clear hD
   go_simp
   exact hK.out _ _ ⟨_,rfl,G.refl _,rfl⟩
  case jT|jv|l9|mi=>
   intro W hW hD K hK
   clear hD
   have hR0:=Rec.f3 (Rec.G R0.out hW)
   have jV:=hR0.1
   have jW:=hR0.2.1
   have oF:=hR0.2.2.1
   clear hR0
   have oh:=Rec.f3 (Rec.G R1.out hW)
   have uz:=oh.1
   have uA:=oh.2.1
   have yT:=oh.2.2.1
   clear oh
   go_simp
   exact hK.out _ _ ⟨_,rfl,G.refl _,rfl⟩
  ·intro W hW hD K hK
   clear hD
   go_simp
   go_wp2_with (go_at_call 97;refine Calls.mono (P:=Tryz.prog) (pQ.out W (G.trans g0 hW)) ?_;intro e w9 hs;obtain⟨u9,rfl,g9,aQ⟩:=hs)
   exact hK.out _ _ ⟨_,rfl,g9,aQ⟩
  ·intro W hW hD K hK
   have h3:=Deps.get (v:=v3) 3 hD rfl rfl (by kernel_rfl)
   clear hD
   go_simp
   go_wp2_with (go_at_call 102;refine Calls.mono (P:=Tryz.prog) (HT1.out W v3 (G.trans g0 hW) h3) ?_;intro e w9 hs;obtain⟨u9,rfl,g9,aQ⟩:=hs)
   exact hK.out _ _ ⟨_,rfl,g9,aQ⟩
  ·intro W hW hD K hK
   clear hD
   go_simp
   go_wp2_with (go_at_call 97;refine Calls.mono (P:=Tryz.prog) (pO.out W (G.trans g0 hW)) ?_;intro e w9 hs;obtain⟨u9,rfl,g9,aQ⟩:=hs)
   exact hK.out _ _ ⟨_,rfl,g9,aQ⟩
  ·intro W hW hD K hK
   have h8:=Deps.get (v:=v8) 8 hD rfl rfl (by kernel_rfl)
   clear hD
   go_simp
   go_wp2_with (go_at_call 102;refine Calls.mono (P:=Tryz.prog) (HT2.out W v8 (G.trans g0 hW) h8) ?_;intro e w9 hs;obtain⟨u9,rfl,g9,aQ⟩:=hs)
   exact hK.out _ _ ⟨_,rfl,g9,aQ⟩
  ·intro W hW hD K hK
   have h4:=Deps.get (v:=v4) 4 hD rfl rfl (by kernel_rfl)
   have h9:=Deps.get (v:=v9) 9 hD rfl rfl (by kernel_rfl)
   clear hD
   go_simp
   go_wp2_with (go_at_call 103;refine Calls.mono (P:=Tryz.prog) (HM.out W v4 v9 h4 h9) ?_;intro e w9 hs;obtain⟨u9,rfl,g9,aQ⟩:=hs)
   exact hK.out _ _ ⟨_,rfl,g9,aQ⟩
  ·intro W hW hD K hK
   have h10:=Deps.get (v:=v10) 10 hD rfl rfl (by kernel_rfl)
   clear hD
   go_simp
   go_wp2_with (go_at_call 104;refine Calls.mono (P:=Tryz.prog) (HS.out W v10 h10) ?_;intro e w9 hs;obtain⟨rfl,g9⟩:=hs)
   exact hK.out _ _ ⟨_,rfl,g9,rfl⟩
 intro w1 g1 hH
 clear hH
 refine wpAny_done (by kernel_rfl) ?_ _
 clear HM HS HT1 HT2 pO pQ R0 R1
 go_wp2_with fail
 go_ret
 exact⟨rfl,G.trans g0 g1⟩
/-- A whole number times a power of two. -/
def mk2 (m e:Int):Rat:=mkRat (m*((2^e.toNat:Nat):Int)) (2^(-e).toNat)
set_option maxHeartbeats 1000000 in
theorem q4n (w:World) (m e:Int) (h1: -9223372036854775808≤m) (h2:m<9223372036854775808) (h3: -1000000≤e) (h4:e≤1000000) (hm:m=0∨m%2=1):
  Calls Tryz.prog 139 #[.int .i64 m,.int .i64 e] w (RetQ w (mk2 m e)):=by
 have HW:Hid (∀ w1,_):=fun w1=>q7Q w1 m h1 h2
 have hmb:m.natAbs<2^(64*1):=by omega
 by_cases he:e<0
 ·obtain⟨n,rfl⟩:∃ n:Nat,e= -(n:Int):=⟨e.natAbs,by omega⟩
  have hmk:mk2 m (-(n:Int))=mkRat m (2^n):=by
   unfold mk2
   rw[show (-(n:Int)).toNat=0 from by omega,show (- -(n:Int)).toNat=n from by omega]
   simp
  rw[hmk]
  obtain⟨K,hK⟩:∃ K,K=15626:=⟨_,rfl⟩
  have hpw:2^n<2^(64*K):=Nat.pow_lt_pow_right (by omega) (by omega)
  have HL:Hid (∀ w1 v1,Num w1 v1 1→Calls Tryz.prog 144 #[v1,.int .i64 (n:Int)] w1 (q0h w1 (2^n))):=fun w1 v1 hv=>by
   have h:=q25 w1 v1 1 n 1 (by omega) (by omega) hv (by omega)
   rw[Nat.one_mul] at h;exact h
  have Dp:m≠0→Nat.gcd m.natAbs (2^n)=1:=fun h0=>by
   have h5:m.natAbs=2*(m.natAbs/2)+1:=by omega
   rw[h5];exact q72 _ _
  have HF:Hid (∀ w1 v1 v2,WholeIs w1 v1 m→Num w1 v2 (2^n)→_):=fun w1 v1 v2 k1 k2=>q1G w1 v1 v2 m (2^n) K (mkRat m (2^n)) k1 k2 (Nat.two_pow_pos n) hpw Dp rfl
  have hd:decide (-(n:Int)<0)=true:=decide_eq_true he
  have hnn: - -(n:Int)=n:=by omega
  have hwn:IntKind.i64.wrap (n:Int)=n:=by rw[IntKind.wrap_i64];omega
  have hb:(n:Int)≤1000000:=by omega
  have hn1:(1:Int)≤n:=by omega
  generalize -(n:Int)=e at *
  generalize mkRat m (2^n)=q at *
  generalize 2^n=P at *
  clear hmk hpw Dp hmb hm h1 h2 he hK
  go_enter Tryz.func139,Tryz.ntmps139
  go_wp2_with fail
  obtain⟨w0,aB,g0,hz0,R0⟩:=q0e w [.bool false,.slice none 0 0,.slice none 0 0] 97
  rw[aB]
  clear aB
  refine Calls.mono (P:=Tryz.prog) (HW.out w0) ?_
  intro e2 w1 hs
  obtain⟨v1,rfl,g1,⟨a,k,c,rfl,k1⟩⟩:=hs
  obtain⟨s,hs⟩:∃ s,s=decide (m<0):=⟨_,rfl⟩
  have K1:Hid (Num w1 (.slice a k c) m.natAbs):=k1
  have Ah:Hid (s=decide (m<0)):=hs
  rw[← hs]
  clear k1 hs HW
  go_wp2_with fail
  have S0:Hid (Rec _ _ _):=Rec.G R0.out (g1)
  have bU:=G.trans g0 g1
  clear R0 g0 g1
  obtain⟨w2,aB,g2,hz2,R0⟩:=q0e w1 [.bool s,.slice a k c] 95
  rw[aB]
  clear aB
  refine q0d 6 1 #[true,true,true,true,true,true,false] [.is (.agg #[.bool s,.slice a k c]),.any (fun v w'=>Num w' v (1)),.is (.int .i64 e),.is (.int .i64 n),.any (fun v w'=>Num w' v (P)),.any (fun v w'=>QIs w' v (q))] [some 10,some 11,some 12,some 13,some 14,some 15] (by kernel_rfl) (by kernel_rfl) rfl (by kernel_rfl) (by repeat (first|exact trivial|refine⟨fun _ _ _ g h=>by first|exact h.G g|exact fun w3 g3=>h w3 (G.trans g g3),?_⟩)) (by kernel_rfl) (by kernel_rfl) ?_
  refine Letters.is ?_
  refine Letters.any fun v1=> ?_
  refine Letters.is ?_
  refine Letters.is ?_
  refine Letters.any fun v4=> ?_
  refine Letters.any fun v5=> ?_
  refine Letters.nil ?_
  intro A hA
  simp only[q1l,Act.put,List.setIfInBounds_toArray,List.set_cons_zero,List.set_cons_succ] at hA
  subst hA
  refine⟨?_,?_⟩
  ·skip
   refine Eaches.cons rfl ?mV (Eaches.cons rfl ?qE (Eaches.cons rfl ?mW (Eaches.cons rfl ?oG (Eaches.cons rfl ?sP (Eaches.cons rfl ?qF (Eaches.nil))))))
   case mW|oG=>
    intro W hW hD K hK
    clear hD
    go_simp
    exact hK.out _ _ ⟨_,rfl,G.refl _,rfl⟩
   case mV=>
    intro W hW hD K hK
    clear hD
    have hR0:=Rec.f2 (Rec.G R0.out hW)
    have jV:=hR0.1
    have jW:=hR0.2.1
    clear hR0
    go_simp
    exact hK.out _ _ ⟨_,rfl,G.refl _,rfl⟩
   ·intro W hW hD K hK
    clear hD
    go_simp
    exact hK.out _ _ ⟨_,rfl,(G.refl _).alloc _,q1P (by decide) (by decide)⟩
   ·intro W hW hD K hK
    have h1:=Deps.get (v:=v1) 1 hD rfl rfl (by kernel_rfl)
    clear hD
    go_simp
    go_wp2_with (go_at_call 144;refine Calls.mono (P:=Tryz.prog) (HL.out W v1 h1) ?_;intro e w9 hs;obtain⟨u9,rfl,g9,aQ⟩:=hs)
    exact hK.out _ _ ⟨_,rfl,g9,aQ⟩
   ·intro W hW hD K hK
    have h4:=Deps.get (v:=v4) 4 hD rfl rfl (by kernel_rfl)
    clear hD
    go_simp
    go_wp2_with (go_at_call 100;refine Calls.mono (P:=Tryz.prog) (HF.out W (.agg #[.bool s,.slice a k c]) v4 (QIs.top' (K1.out.G (G.trans g2 hW)) Ah.out) h4) ?_;intro e w9 hs;obtain⟨u9,rfl,g9,aQ⟩:=hs)
    exact hK.out _ _ ⟨_,rfl,g9,aQ⟩
  intro w3 g3 hH
  have h5:=Helds.get (v:=v5) 5 hH rfl rfl
  clear hH
  clear HL HF R0 K1 Ah
  have g13:=G.trans g2 g3
  clear g2 g3
  obtain⟨a8,k8,c8,a9,k9,c9,rfl,kK,dZ⟩:=h5
  have og:Hid (Num w3 (.slice a8 k8 c8) (q).num.natAbs):=kK
  have jq:Hid (Num w3 (.slice a9 k9 c9) (q1R (q).den)):=dZ
  obtain⟨t9,dC⟩:∃ t,t=decide ((q).num<0):=⟨_,rfl⟩
  rw[← dC]
  have jS:Hid (t9=decide ((q).num<0)):=dC
  clear kK dZ dC
  have hS:=Rec.f3 (Rec.G S0.out (g13))
  have dE:=hS.1
  have dF:=hS.2.1
  have dG:=hS.2.2.1
  have dH:=hS.2.2.2.1
  have iL:=hS.2.2.2.2.1
  have iM:=hS.2.2.2.2.2
  clear hS
  refine wpAny_ready (rs:=[6]) (by kernel_rfl) (by simp) ?_
  refine AllReady.cons rfl (fun K hK=> ?_) AllReady.nil
  go_simp
  refine hK _ _ ?_
  clear hK K dE dF dG dH iL iM
  refine wpAny_done (by kernel_rfl) ?_ _
  have gu:Num _ _ _:=q0n (u1:= .bool t9) (u2:= .slice a8 k8 c8) (u3:= .slice a9 k9 c9) og.out (Rec.G S0.out (g13)) trivial trivial trivial
  have dA:Num _ _ _:=q0n (u1:= .bool t9) (u2:= .slice a8 k8 c8) (u3:= .slice a9 k9 c9) jq.out (Rec.G S0.out (g13)) trivial trivial trivial
  go_wp2_with fail
  have hT:Hid (Rec (World.setCell (World.setCell (World.setCell w3 ⟨w.heap.size,0,none⟩ (.bool t9)) ⟨w.heap.size,1,none⟩ (.slice a8 k8 c8)) ⟨w.heap.size,2,none⟩ (.slice a9 k9 c9)) (w.heap.size) [.bool t9,.slice a8 k8 c8,.slice a9 k9 c9]):=Rec.set3 (Rec.G S0.out (g13))
  have g9:=Rec.g3 (b:=w.heap.size) (u:= .bool t9) (v:= .slice a8 k8 c8) (x:= .slice a9 k9 c9) (G.trans bU g13) (by omega)
  generalize (World.setCell (World.setCell (World.setCell w3 ⟨w.heap.size,0,none⟩ (.bool t9)) ⟨w.heap.size,1,none⟩ (.slice a8 k8 c8)) ⟨w.heap.size,2,none⟩ (.slice a9 k9 c9))=w9 at *
  have hF:=Rec.f3 (Rec.G hT.out ((G.refl _)))
  have bg:=hF.1
  have bn:=hF.2.1
  have bC:=hF.2.2.1
  have bD:=hF.2.2.2.1
  have jm:=hF.2.2.2.2.1
  have jo:=hF.2.2.2.2.2
  clear hF
  refine bodyPost_ret (v:= .agg #[.bool t9,.slice a8 k8 c8,.slice a9 k9 c9]) (by simp [results,Tryz.results139,go_sem, *]) rfl ?_
  exact⟨_,rfl,g9,a8,k8,c8,a9,k9,c9,by rw[← jS.out],gu,dA⟩
 ·obtain⟨n,rfl⟩:∃ n:Nat,e=(n:Int):=⟨e.natAbs,by omega⟩
  have hmk:mk2 m (n:Int)=((m*((2^n:Nat):Int):Int):Rat):=by
   unfold mk2
   rw[show (-(n:Int)).toNat=0 from by omega,show (n:Int).toNat=n from by omega,q4C]
  rw[hmk]
  obtain⟨t,ht⟩:∃ t,t=decide (m<0):=⟨_,rfl⟩
  have HL:Hid (∀ w1 v1,Num w1 v1 m.natAbs→_):=fun w1 v1 hv=>q25 w1 v1 m.natAbs n 1 (by omega) (by omega) hv hmb
  have hsg:sgn t (m.natAbs*2^n)=m*((2^n:Nat):Int):=by
   have h:=q15 m
   rw[← ht] at h
   rw[q4N,h]
  have HS:Hid (∀ w1 v1,Num w1 v1 (m.natAbs*2^n)→Calls Tryz.prog 101 #[.bool t,v1] w1 (q0u w1 (m*((2^n:Nat):Int)))):=fun w1 v1 hv=>by
   have h:=q17 w1 v1 t _ hv
   rw[hsg] at h;exact h
  have HF:Hid (∀ w1 v1 v2,WholeIs w1 v1 (m*((2^n:Nat):Int))→Num w1 v2 1→_):=fun w1 v1 v2 k1 k2=>q1G w1 v1 v2 (m*((2^n:Nat):Int)) 1 1 ((m*((2^n:Nat):Int):Int):Rat) k1 k2 (by omega) (by omega) (fun _=>Nat.gcd_one_right _) (q4C _)
  have hd:decide ((n:Int)<0)=false:=by simp
  have hb:(n:Int)≤1000000:=by omega
  generalize ((m*((2^n:Nat):Int):Int):Rat)=q at *
  generalize m*((2^n:Nat):Int)=z at *
  generalize m.natAbs*2^n=P at *
  have NV:Hid (t=decide (m<0)):=ht
  clear hmk hmb hm h1 h2 he h3 h4 hsg ht
  go_enter Tryz.func139,Tryz.ntmps139
  go_wp2_with fail
  obtain⟨w0,aB,g0,hz0,R0⟩:=q0e w [.bool false,.slice none 0 0,.slice none 0 0] 97
  rw[aB]
  clear aB
  refine Calls.mono (P:=Tryz.prog) (HW.out w0) ?_
  intro e2 w1 hs
  obtain⟨v1,rfl,g1,⟨a,k,c,rfl,k1⟩⟩:=hs
  have K1:Hid (Num w1 (.slice a k c) m.natAbs):=k1
  rw[← NV.out]
  clear k1 HW NV
  go_wp2_with fail
  have S0:Hid (Rec _ _ _):=Rec.G R0.out (g1)
  have bU:=G.trans g0 g1
  clear R0 g0 g1
  obtain⟨w2,aB,g2,hz2,R0⟩:=q0e w1 [.bool t,.slice a k c] 95
  rw[aB]
  clear aB
  refine q0d 9 1 #[true,true,true,true,true,true,true,true,true,false] [.is (.pointer (some ⟨w1.heap.size,0,none⟩)),.is (.bool t),.is (.pointer (some ⟨w1.heap.size,1,none⟩)),.is (.slice a k c),.is (.int .i64 n),.any (fun v w'=>Num w' v (P)),.any (fun v w'=>WholeIs w' v (z)),.any (fun v w'=>Num w' v (1)),.any (fun v w'=>QIs w' v (q))] [some 16,some 17,some 18,some 19,some 20,some 21,some 22,some 23,some 24] (by kernel_rfl) (by kernel_rfl) rfl (by kernel_rfl) (by repeat (first|exact trivial|refine⟨fun _ _ _ g h=>by first|exact h.G g|exact fun w3 g3=>h w3 (G.trans g g3),?_⟩)) (by kernel_rfl) (by kernel_rfl) ?_
  refine Letters.is ?_
  refine Letters.is ?_
  refine Letters.is ?_
  refine Letters.is ?_
  refine Letters.is ?_
  refine Letters.any fun v5=> ?_
  refine Letters.any fun v6=> ?_
  refine Letters.any fun v7=> ?_
  refine Letters.any fun v8=> ?_
  refine Letters.nil ?_
  intro A hA
  simp only[q1l,Act.put,List.setIfInBounds_toArray,List.set_cons_zero,List.set_cons_succ] at hA
  subst hA
  refine⟨?_,?_⟩
  ·skip
   refine Eaches.cons rfl ?mX (Eaches.cons rfl ?oH (Eaches.cons rfl ?mY (Eaches.cons rfl ?oI (Eaches.cons rfl ?qG (Eaches.cons rfl ?qH (Eaches.cons rfl ?qI (Eaches.cons rfl ?sS (Eaches.cons rfl ?xg (Eaches.nil)))))))))
   case mX|mY|qG=>
    intro W hW hD K hK
    clear hD
    go_simp
    exact hK.out _ _ ⟨_,rfl,G.refl _,rfl⟩
   case oH|oI=>
    intro W hW hD K hK
    clear hD
    have hR0:=Rec.f2 (Rec.G R0.out hW)
    have jV:=hR0.1
    have jW:=hR0.2.1
    clear hR0
    go_simp
    exact hK.out _ _ ⟨_,rfl,G.refl _,rfl⟩
   ·intro W hW hD K hK
    clear hD
    go_simp
    go_wp2_with (go_at_call 144;refine Calls.mono (P:=Tryz.prog) (HL.out W (.slice a k c) (K1.out.G (G.trans g2 hW))) ?_;intro e w9 hs;obtain⟨u9,rfl,g9,aQ⟩:=hs)
    exact hK.out _ _ ⟨_,rfl,g9,aQ⟩
   ·intro W hW hD K hK
    have h5:=Deps.get (v:=v5) 5 hD rfl rfl (by kernel_rfl)
    clear hD
    go_simp
    go_wp2_with (go_at_call 101;refine Calls.mono (P:=Tryz.prog) (HS.out W v5 h5) ?_;intro e w9 hs;obtain⟨u9,rfl,g9,aQ⟩:=hs)
    exact hK.out _ _ ⟨_,rfl,g9,aQ⟩
   ·intro W hW hD K hK
    clear hD
    go_simp
    exact hK.out _ _ ⟨_,rfl,(G.refl _).alloc _,q1P (by decide) (by decide)⟩
   ·intro W hW hD K hK
    have h6:=Deps.get (v:=v6) 6 hD rfl rfl (by kernel_rfl)
    have h7:=Deps.get (v:=v7) 7 hD rfl rfl (by kernel_rfl)
    clear hD
    go_simp
    go_wp2_with (go_at_call 100;refine Calls.mono (P:=Tryz.prog) (HF.out W v6 v7 h6 h7) ?_;intro e w9 hs;obtain⟨u9,rfl,g9,aQ⟩:=hs)
    exact hK.out _ _ ⟨_,rfl,g9,aQ⟩
  intro w3 g3 hH
  have h8:=Helds.get (v:=v8) 8 hH rfl rfl
  clear hH
  clear HL HF HS R0 K1
  have g13:=G.trans g2 g3
  clear g2 g3
  obtain⟨a8,k8,c8,a9,k9,c9,rfl,kK,dZ⟩:=h8
  have og:Hid (Num w3 (.slice a8 k8 c8) (q).num.natAbs):=kK
  have jq:Hid (Num w3 (.slice a9 k9 c9) (q1R (q).den)):=dZ
  obtain⟨t9,dC⟩:∃ t,t=decide ((q).num<0):=⟨_,rfl⟩
  rw[← dC]
  have jS:Hid (t9=decide ((q).num<0)):=dC
  clear kK dZ dC
  have hS:=Rec.f3 (Rec.G S0.out (g13))
  have dE:=hS.1
  have dF:=hS.2.1
  have dG:=hS.2.2.1
  have dH:=hS.2.2.2.1
  have iL:=hS.2.2.2.2.1
  have iM:=hS.2.2.2.2.2
  clear hS
  refine wpAny_ready (rs:=[9]) (by kernel_rfl) (by simp) ?_
  refine AllReady.cons rfl (fun K hK=> ?_) AllReady.nil
  go_simp
  refine hK _ _ ?_
  clear hK K dE dF dG dH iL iM
  refine wpAny_done (by kernel_rfl) ?_ _
  have gu:Num _ _ _:=q0n (u1:= .bool t9) (u2:= .slice a8 k8 c8) (u3:= .slice a9 k9 c9) og.out (Rec.G S0.out (g13)) trivial trivial trivial
  have dA:Num _ _ _:=q0n (u1:= .bool t9) (u2:= .slice a8 k8 c8) (u3:= .slice a9 k9 c9) jq.out (Rec.G S0.out (g13)) trivial trivial trivial
  go_wp2_with fail
  have hT:Hid (Rec (World.setCell (World.setCell (World.setCell w3 ⟨w.heap.size,0,none⟩ (.bool t9)) ⟨w.heap.size,1,none⟩ (.slice a8 k8 c8)) ⟨w.heap.size,2,none⟩ (.slice a9 k9 c9)) (w.heap.size) [.bool t9,.slice a8 k8 c8,.slice a9 k9 c9]):=Rec.set3 (Rec.G S0.out (g13))
  have g9:=Rec.g3 (b:=w.heap.size) (u:= .bool t9) (v:= .slice a8 k8 c8) (x:= .slice a9 k9 c9) (G.trans bU g13) (by omega)
  generalize (World.setCell (World.setCell (World.setCell w3 ⟨w.heap.size,0,none⟩ (.bool t9)) ⟨w.heap.size,1,none⟩ (.slice a8 k8 c8)) ⟨w.heap.size,2,none⟩ (.slice a9 k9 c9))=w9 at *
  have hF:=Rec.f3 (Rec.G hT.out ((G.refl _)))
  have bg:=hF.1
  have bn:=hF.2.1
  have bC:=hF.2.2.1
  have bD:=hF.2.2.2.1
  have jm:=hF.2.2.2.2.1
  have jo:=hF.2.2.2.2.2
  clear hF
  refine bodyPost_ret (v:= .agg #[.bool t9,.slice a8 k8 c8,.slice a9 k9 c9]) (by simp [results,Tryz.results139,go_sem, *]) rfl ?_
  exact⟨_,rfl,g9,a8,k8,c8,a9,k9,c9,by rw[← jS.out],gu,dA⟩
theorem q2n {w:World} {v:Value} {n b i:Nat} {x y u:Value} (h:Num w v n) (r:Rec w b [x,y]) (hx:q2b x) (hy:q2b y):Num (w.setCell ⟨b,i,none⟩ u) v n:=
 q3j h r (by intro z hz;simp at hz;rcases hz with rfl|rfl<;>assumption) _ (fun i k hi=>by
  rw[World.cell?_setCell_other _ _ _ _ (by intro e;injection e with e1;exact hi e1.symm)]) (by simp [World.setCell])
theorem qbx {w:World} {b c:Nat} {x y x' y' z':Value} (h:Rec w b [x,y]) (h2:Rec w c [x',y',z']):b≠c:=by
 intro e
 subst e
 obtain⟨t,h⟩:=h
 obtain⟨t2,h2⟩:=h2
 rw[h] at h2
 simp at h2
/-- A sum of fractions over one bar: s divides both bars, r the sum above and s. -/
theorem q9j {x y:Rat} {op:Int→Int→Int} {z:Rat} (hz:z=mkRat (op (x.num*y.den) (y.num*x.den)) (x.den*y.den)) (hop:∀ a b k:Int,op a b*k=op (a*k) (b*k))
  {s r:Nat} (hs:s=Nat.gcd x.den y.den) {T:Int} (hT:T=op (x.num*((y.den/s:Nat):Int)) (y.num*((x.den/s:Nat):Int))) (hr:r=Nat.gcd T.natAbs s) (t:Bool) (ht:t=decide (T<0)):
  z=mkRat (sgn t (T.natAbs/r)) (x.den/s*(y.den/s)*(s/r)):=by
 have hxd:=x.den_pos
 have qD:=y.den_pos
 have hs0:0<s:=by rw[hs];exact Nat.gcd_pos_of_pos_left _ hxd
 have hr0:0<r:=by rw[hr];exact Nat.gcd_pos_of_pos_right _ hs0
 obtain⟨a,ha⟩:s∣x.den:=by rw[hs];exact Nat.gcd_dvd_left _ _
 obtain⟨b,hb⟩:s∣y.den:=by rw[hs];exact Nat.gcd_dvd_right _ _
 obtain⟨c,hc⟩:r∣T.natAbs:=by rw[hr];exact Nat.gcd_dvd_left _ _
 obtain⟨e,he⟩:r∣s:=by rw[hr];exact Nat.gcd_dvd_right _ _
 have e1:x.den/s=a:=by rw[ha];exact Nat.mul_div_cancel_left _ hs0
 have e2:y.den/s=b:=by rw[hb];exact Nat.mul_div_cancel_left _ hs0
 have e3:T.natAbs/r=c:=by rw[hc];exact Nat.mul_div_cancel_left _ hr0
 have e4:s/r=e:=by rw[he];exact Nat.mul_div_cancel_left _ hr0
 rw[e1,e2] at hT ⊢
 rw[e3,e4]
 have ha0:a≠0:=by rintro rfl;omega
 have hb0:b≠0:=by rintro rfl;omega
 have he0:e≠0:=by rintro rfl;omega
 have hTs:T=sgn t c*(r:Int):=by
  have h:=q15 T
  rw[← ht,hc,Nat.mul_comm,q4N] at h
  exact h.symm
 have htop:op (x.num*y.den) (y.num*x.den)=T*(s:Int):=by
  rw[hT,hop,ha,hb]
  congr 1<;>(rw[Int.natCast_mul];ac_rfl)
 rw[hz,htop,hTs,ha,hb]
 rw[Rat.mkRat_eq_iff (Nat.mul_ne_zero (Nat.mul_ne_zero (by omega) ha0) (Nat.mul_ne_zero (by omega) hb0)) (Nat.mul_ne_zero (Nat.mul_ne_zero ha0 hb0) he0)]
 have h5:(s:Int)=r*e:=by rw[he,Int.natCast_mul]
 simp only[Int.natCast_mul]
 rw[h5]
 ac_rfl
theorem q8Q {x y:Rat} {op:Int→Int→Int} (wZ:∀ p q g:Int,g∣q→g∣op p q→g∣p) (xc:∀ p q g:Int,g∣p→g∣op p q→g∣q)
  {s r:Nat} (hs:s=Nat.gcd x.den y.den) {T:Int} (hT:T=op (x.num*((y.den/s:Nat):Int)) (y.num*((x.den/s:Nat):Int))) (hr:r=Nat.gcd T.natAbs s):
  Nat.gcd (T.natAbs/r) (x.den/s*(y.den/s)*(s/r))=1:=by
 have hxd:=x.den_pos
 have qD:=y.den_pos
 have hs0:0<s:=by rw[hs];exact Nat.gcd_pos_of_pos_left _ hxd
 have hr0:0<r:=by rw[hr];exact Nat.gcd_pos_of_pos_right _ hs0
 have hxs:s∣x.den:=by rw[hs];exact Nat.gcd_dvd_left _ _
 have hys:s∣y.den:=by rw[hs];exact Nat.gcd_dvd_right _ _
 have hab:Nat.gcd (x.den/s) (y.den/s)=1:=by rw[hs];exact q3Y qD
 have hra:r∣T.natAbs:=by rw[hr];exact Nat.gcd_dvd_left _ _
 have hTr:Nat.gcd (T.natAbs/r) (s/r)=1:=by rw[hr];exact q3Y hs0
 have hxa:x.den/s∣x.den:=Nat.div_dvd_of_dvd hxs
 have hyb:y.den/s∣y.den:=Nat.div_dvd_of_dvd hys
 have key:∀ (n d e:Nat),Nat.gcd n d=1→Nat.gcd d e=1→Nat.gcd (n*e) d=1:=fun n d e h1 h2=>Nat.Coprime.mul_left h1 (by show Nat.gcd e d=1;rw[Nat.gcd_comm];exact h2)
 have Qm:Nat.gcd T.natAbs (x.den/s)=1:=by
  refine Nat.eq_one_of_dvd_one ?_
  have g1:((Nat.gcd T.natAbs (x.den/s):Nat):Int)∣T:=Int.ofNat_dvd_left.2 (Nat.gcd_dvd_left _ _)
  have g2:Nat.gcd T.natAbs (x.den/s)∣x.den/s:=Nat.gcd_dvd_right _ _
  generalize Nat.gcd T.natAbs (x.den/s)=g at *
  rw[hT] at g1
  have g3:=wZ _ _ _ (Int.dvd_trans (Int.natCast_dvd_natCast.2 g2) (Int.dvd_mul_left _ _)) g1
  have g4:=Int.ofNat_dvd_left.1 g3
  rw[Int.natAbs_mul,Int.natAbs_natCast] at g4
  have g5:=key x.num.natAbs (x.den/s) (y.den/s) (q2M x.reduced (Nat.dvd_refl _) hxa) hab
  rw[← g5]
  exact Nat.dvd_gcd g4 g2
 have qC:Nat.gcd T.natAbs (y.den/s)=1:=by
  refine Nat.eq_one_of_dvd_one ?_
  have g1:((Nat.gcd T.natAbs (y.den/s):Nat):Int)∣T:=Int.ofNat_dvd_left.2 (Nat.gcd_dvd_left _ _)
  have g2:Nat.gcd T.natAbs (y.den/s)∣y.den/s:=Nat.gcd_dvd_right _ _
  generalize Nat.gcd T.natAbs (y.den/s)=g at *
  rw[hT] at g1
  have g3:=xc _ _ _ (Int.dvd_trans (Int.natCast_dvd_natCast.2 g2) (Int.dvd_mul_left _ _)) g1
  have g4:=Int.ofNat_dvd_left.1 g3
  rw[Int.natAbs_mul,Int.natAbs_natCast] at g4
  have g5:=key y.num.natAbs (y.den/s) (x.den/s) (q2M y.reduced (Nat.dvd_refl _) hyb) (by rw[Nat.gcd_comm];exact hab)
  rw[← g5]
  exact Nat.dvd_gcd g4 g2
 have hd:T.natAbs/r∣T.natAbs:=Nat.div_dvd_of_dvd hra
 exact Nat.Coprime.mul_right (Nat.Coprime.mul_right (q2M Qm hd (Nat.dvd_refl _)) (q2M qC hd (Nat.dvd_refl _))) hTr
set_option maxHeartbeats 2000000 in
theorem q4u (w:World) (v u:Value) (x y:Rat) (K:Nat) (hK:K≤40000) (hK1:1≤K) (qC:Tab w) (hx:QIs w v x) (hy:QIs w u y) (bx:QB x K) (jU:QB y K) (FR:Nat) (op:Int→Int→Int) (z:Rat)
  (hz:z=mkRat (op (x.num*y.den) (y.num*x.den)) (x.den*y.den)) (hop:∀ a b k:Int,op a b*k=op (a*k) (b*k)) (wZ:∀ p q g:Int,g∣q→g∣op p q→g∣p) (xc:∀ p q g:Int,g∣p→g∣op p q→g∣q) (hab:∀ p q:Int,(op p q).natAbs≤p.natAbs+q.natAbs)
  (NK:∀ w1 v1 v2 (X Y:Int),X.natAbs<2^(64*(K+K))→Y.natAbs<2^(64*(K+K))→WholeIs w1 v1 X→WholeIs w1 v2 Y→Calls Tryz.prog FR #[v1,v2] w1 (q0u w1 (op X Y))) (hE:∀ args w,(callFunc FR args).run Tryz.prog w= .ok (.enter FR args) w):
  Calls Tryz.prog 108 #[v,u,.func (.func FR) #[] #[]] w (RetQ w z):=by
 have pO:Hid (∀ w1,G w w1→_):=fun w1 g=>q4M w1 v x (hx.G g)
 have pQ:Hid (∀ w1,G w w1→_):=fun w1 g=>q4M w1 u y (hy.G g)
 obtain⟨a,k,c,a',k',c',rfl,hx1,hx2⟩:=hx
 obtain⟨b,j,e,b',j',e',rfl,hy1,hy2⟩:=hy
 have hxd:=x.den_pos
 have qD:=y.den_pos
 obtain⟨s,hs⟩:∃ s,s=Nat.gcd x.den y.den:=⟨_,rfl⟩
 have hs0:0<s:=by rw[hs];exact Nat.gcd_pos_of_pos_left _ hxd
 have hsb:s<2^(64*K):=Nat.lt_of_le_of_lt (by rw[hs];exact Nat.gcd_le_left _ hxd) bx.2
 obtain⟨T,hT⟩:∃ T:Int,T=op (x.num*((y.den/s:Nat):Int)) (y.num*((x.den/s:Nat):Int)):=⟨_,rfl⟩
 obtain⟨r,hr⟩:∃ r,r=Nat.gcd T.natAbs s:=⟨_,rfl⟩
 obtain⟨t,ht⟩:∃ t,t=decide (T<0):=⟨_,rfl⟩
 have hr0:0<r:=by rw[hr];exact Nat.gcd_pos_of_pos_right _ hs0
 have hrb:r≤s:=by rw[hr];exact Nat.gcd_le_right _ hs0
 have hval:=q9j (x:=x) (y:=y) (op:=op) (z:=z) hz hop hs hT hr t ht
 have hlow:=q8Q (x:=x) (y:=y) (op:=op) wZ xc hs hT hr
 have Di:sgn (decide (x.num<0)) x.num.natAbs=x.num:=q15 _
 have Dj:sgn (decide (y.num<0)) y.num.natAbs=y.num:=q15 _
 obtain⟨p,hp⟩:∃ p,p=x.den:=⟨_,rfl⟩
 obtain⟨q,hq⟩:∃ q,q=y.den:=⟨_,rfl⟩
 obtain⟨A,hA⟩:∃ A,A=x.den/s:=⟨_,rfl⟩
 obtain⟨B,hB⟩:∃ B,B=y.den/s:=⟨_,rfl⟩
 have bA:A<2^(64*K):=Nat.lt_of_le_of_lt (by rw[hA];exact Nat.div_le_self _ _) bx.2
 have bB:B<2^(64*K):=Nat.lt_of_le_of_lt (by rw[hB];exact Nat.div_le_self _ _) jU.2
 have A0:0<A:=by rw[hA];exact Nat.div_pos (by rw[hs];exact Nat.gcd_le_left _ hxd) hs0
 have B0:0<B:=by rw[hB];exact Nat.div_pos (by rw[hs];exact Nat.gcd_le_right _ qD) hs0
 have mg:Hid (∀ w1 v1 v2,G w w1→Num w1 v1 p→Num w1 v2 q→Calls Tryz.prog 96 #[v1,v2] w1 (q0h w1 s)):=fun w1 v1 v2 g h1 h2=>by
  rw[hs,← hp,← hq];exact q1X w1 v1 v2 p q K (by omega) hK1 (qC.G g) h1 h2 (by rw[hp];exact bx.2) (by rw[hq];exact jU.2)
 have rO:Hid (∀ w1 v1 v2,Num w1 v1 p→Num w1 v2 s→Calls Tryz.prog 98 #[v1,v2] w1 (q0h w1 A)):=fun w1 v1 v2 h1 h2=>by
  rw[hA,← hp];exact q2P w1 v1 v2 p s K (by omega) hK1 h1 h2 (by rw[hp];exact bx.2) hsb hs0
 have iK:Hid (∀ w1 v1 v2,Num w1 v1 q→Num w1 v2 s→Calls Tryz.prog 98 #[v1,v2] w1 (q0h w1 B)):=fun w1 v1 v2 h1 h2=>by
  rw[hB,← hq];exact q2P w1 v1 v2 q s K (by omega) hK1 h1 h2 (by rw[hq];exact jU.2) hsb hs0
 rw[← hA,← hB] at hT hval hlow
 have HT1:Hid (∀ w1 v1,G w w1→Num w1 v1 B→Calls Tryz.prog 102 #[.agg #[.bool (decide (x.num<0)),.slice a k c],v1] w1 (q0u w1 (x.num*B))):=fun w1 v1 g h=>by
  have h:=q30 w1 (.agg #[.bool (decide (x.num<0)),.slice a k c]) v1 _ _ _ K (by omega) ⟨a,k,c,rfl,hx1.G g⟩ h bx.1 bB
  rw[Di] at h;exact h
 have HT2:Hid (∀ w1 v1,G w w1→Num w1 v1 A→Calls Tryz.prog 102 #[.agg #[.bool (decide (y.num<0)),.slice b j e],v1] w1 (q0u w1 (y.num*A))):=fun w1 v1 g h=>by
  have h:=q30 w1 (.agg #[.bool (decide (y.num<0)),.slice b j e]) v1 _ _ _ K (by omega) ⟨b,j,e,rfl,hy1.G g⟩ h jU.1 bA
  rw[Dj] at h;exact h
 have q1:(x.num*(B:Int)).natAbs<2^(64*(K+K)):=by rw[Int.natAbs_mul];exact q1d bx.1 bB
 have q2:(y.num*(A:Int)).natAbs<2^(64*(K+K)):=by rw[Int.natAbs_mul];exact q1d jU.1 bA
 have bT:T.natAbs<2^(64*(2*K+1)):=by
  have h1:2^(64*(2*K+1))=2^(64*(K+K))*2^64:=by rw[← Nat.pow_add];congr 1;omega
  rw[hT,h1]
  have h2:=hab (x.num*(B:Int)) (y.num*(A:Int))
  generalize x.num*(B:Int)=X at *
  generalize y.num*(A:Int)=Y at *
  generalize 2^(64*(K+K))=P at *
  omega
 obtain⟨X,hX⟩:∃ X:Int,X=x.num*B:=⟨_,rfl⟩
 obtain⟨Y,hY⟩:∃ Y:Int,Y=y.num*A:=⟨_,rfl⟩
 rw[← hX] at HT1 q1 hT
 rw[← hY] at HT2 q2 hT
 have HP:Hid (∀ w1 v1 v2,WholeIs w1 v1 X→WholeIs w1 v2 Y→Calls Tryz.prog FR #[v1,v2] w1 (q0u w1 T)):=fun w1 v1 v2 h1 h2=>by
  rw[hT];exact NK w1 v1 v2 X Y q1 q2 h1 h2
 have HE:Hid (∀ args w,(callFunc FR args).run Tryz.prog w= .ok (.enter FR args) w):=hE
 have jk:Hid (∀ w1 v1 v2,G w w1→Num w1 v1 T.natAbs→Num w1 v2 s→Calls Tryz.prog 96 #[v1,v2] w1 (q0h w1 r)):=fun w1 v1 v2 g h1 h2=>by
  rw[hr];exact q1X w1 v1 v2 _ s (2*K+1) (by omega) (by omega) (qC.G g) h1 h2 bT (Nat.lt_of_lt_of_le hsb (Nat.pow_le_pow_right (by omega) (by omega)))
 have yS:Hid (∀ w1 v1 v2,Num w1 v1 T.natAbs→Num w1 v2 r→_):=fun w1 v1 v2 h1 h2=>q2P w1 v1 v2 _ r (2*K+1) (by omega) (by omega) h1 h2 bT (Nat.lt_of_le_of_lt hrb (Nat.lt_of_lt_of_le hsb (Nat.pow_le_pow_right (by omega) (by omega)))) hr0
 have rP:Hid (∀ w1 v1 v2,Num w1 v1 s→Num w1 v2 r→_):=fun w1 v1 v2 h1 h2=>q2P w1 v1 v2 s r K (by omega) hK1 h1 h2 hsb (Nat.lt_of_le_of_lt hrb hsb) hr0
 have q3:s/r<2^(64*K):=Nat.lt_of_le_of_lt (Nat.div_le_self _ _) hsb
 have q4:0<s/r:=Nat.div_pos hrb hr0
 have wL:Hid (∀ w1 v1 v2,Num w1 v1 A→Num w1 v2 B→_):=fun w1 v1 v2 h1 h2=>q2e w1 v1 v2 A B K (by omega) h1 h2 bA bB
 have IU:A*B<2^(64*(K+K)):=q1d bA bB
 have tZ:Hid (∀ w1 v1 v2,Num w1 v1 (A*B)→Num w1 v2 (s/r)→_):=fun w1 v1 v2 h1 h2=>q2e w1 v1 v2 (A*B) (s/r) (K+K) (by omega) h1 h2 IU (Nat.lt_of_lt_of_le q3 (Nat.pow_le_pow_right (by omega) (by omega)))
 have htc:decide (sgn t (T.natAbs/r)<0)=t:=by
  rw[q74]
  have h1:r∣T.natAbs:=by rw[hr];exact Nat.gcd_dvd_left _ _
  rw[ht]
  by_cases h:T<0
  ·have h2:0<T.natAbs/r:=Nat.div_pos (Nat.le_of_dvd (by omega) h1) hr0
   simp [h,h2]
  ·simp [h]
 have HF:Hid (∀ w1 d1 d2 d3 v2,Num w1 (.slice d1 d2 d3) (T.natAbs/r)→Num w1 v2 (A*B*(s/r))→Calls Tryz.prog 100 #[.agg #[.bool t,.slice d1 d2 d3],v2] w1 (RetQ w1 z)):=fun w1 d1 d2 d3 v2 h1 h2=>
  q1G w1 _ v2 (sgn t (T.natAbs/r)) (A*B*(s/r)) ((K+K)+K) z ⟨d1,d2,d3,by rw[htc],by rw[q2d];exact h1⟩ h2 (Nat.mul_pos (Nat.mul_pos A0 B0) q4) (q1d IU q3) (fun _=>by rw[q2d];exact hlow) hval
 have IV:Hid (t=decide (T<0)):=ht
 clear hz hop wZ xc hab NK hE hval hlow htc Di Dj hX hY hT hA hB hs hr ht q1 q2 q3 q4 IU bT bA bB A0 B0 hs0 hsb hr0 hrb hxd qD bx jU qC hx1 hx2 hy1 hy2
 generalize A*B*(s/r)=M at *
 generalize A*B=N at *
 generalize s/r=sr at *
 generalize T.natAbs/r=tr at *
 obtain⟨sx,hsx⟩:∃ sx,sx=decide (x.num<0):=⟨_,rfl⟩
 obtain⟨sy,hsy⟩:∃ sy,sy=decide (y.num<0):=⟨_,rfl⟩
 rw[← hsx] at pO HT1
 rw[← hsy] at pQ HT2
 rw[← hsx,← hsy]
 rw[← hp] at pO
 rw[← hq] at pQ
 clear hsx hsy hp hq
 go_enter Tryz.func108,Tryz.ntmps108
 go_wp2_with fail
 obtain⟨w0,aB,g0,hz0,R0,R1,R2⟩:=q1o w [.bool sx,.slice a k c,.slice a' k' c'] [.bool sy,.slice b j e,.slice b' j' e'] [.bool false,.slice none 0 0,.slice none 0 0] 97 97 97
 rw[aB]
 clear aB
 refine q0d 6 0 #[true,true,true,true,true,true] [.is (.agg #[.bool sx,.slice a k c,.slice a' k' c']),.any (fun v w'=>Num w' v (p)),.is (.agg #[.bool sy,.slice b j e,.slice b' j' e']),.any (fun v w'=>Num w' v (q)),.any (fun v w'=>Num w' v (s)),.any (fun v w'=>Num w' v (s))] [some 12,some 13,some 14,some 15,some 16,some 7] (by kernel_rfl) (by kernel_rfl) rfl (by kernel_rfl) (by repeat (first|exact trivial|refine⟨fun _ _ _ g h=>by first|exact h.G g|exact fun w3 g3=>h w3 (G.trans g g3),?_⟩)) (by kernel_rfl) (by kernel_rfl) ?_
 refine Letters.is ?_
 refine Letters.any fun v1=> ?_
 refine Letters.is ?_
 refine Letters.any fun v3=> ?_
 refine Letters.any fun v4=> ?_
 refine Letters.any fun v5=> ?_
 refine Letters.nil ?_
 intro A hA
 simp only[q1l,Act.put,List.setIfInBounds_toArray,List.set_cons_zero,List.set_cons_succ] at hA
 subst hA
 refine⟨?_,?_⟩
 ·skip
  refine Eaches.cons rfl ?jr (Eaches.cons rfl ?jT (Eaches.cons rfl ?jv (Eaches.cons rfl ?kE (Eaches.cons rfl ?mU (Eaches.cons rfl ?mh (Eaches.nil))))))
  case jr|jv=>
   intro W hW hD K hK
   clear hD
   have hR0:=Rec.f3 (Rec.G R0.out hW)
   have jV:=hR0.1
   have jW:=hR0.2.1
   have oF:=hR0.2.2.1
   clear hR0
   have oh:=Rec.f3 (Rec.G R1.out hW)
   have uz:=oh.1
   have uA:=oh.2.1
   have yT:=oh.2.2.1
   clear oh
   go_simp
   exact hK.out _ _ ⟨_,rfl,G.refl _,rfl⟩
  ·intro W hW hD K hK
   clear hD
   go_simp
   go_wp2_with (go_at_call 97;refine Calls.mono (P:=Tryz.prog) (pO.out W (G.trans g0 hW)) ?_;intro e w9 hs;obtain⟨u9,rfl,g9,aQ⟩:=hs)
   exact hK.out _ _ ⟨_,rfl,g9,aQ⟩
  ·intro W hW hD K hK
   clear hD
   go_simp
   go_wp2_with (go_at_call 97;refine Calls.mono (P:=Tryz.prog) (pQ.out W (G.trans g0 hW)) ?_;intro e w9 hs;obtain⟨u9,rfl,g9,aQ⟩:=hs)
   exact hK.out _ _ ⟨_,rfl,g9,aQ⟩
  ·intro W hW hD K hK
   have h1:=Deps.get (v:=v1) 1 hD rfl rfl (by kernel_rfl)
   have h3:=Deps.get (v:=v3) 3 hD rfl rfl (by kernel_rfl)
   clear hD
   go_simp
   go_wp2_with (go_at_call 96;refine Calls.mono (P:=Tryz.prog) (mg.out W v1 v3 (G.trans g0 hW) h1 h3) ?_;intro e w9 hs;obtain⟨u9,rfl,g9,aQ⟩:=hs)
   exact hK.out _ _ ⟨_,rfl,g9,aQ⟩
  ·intro W hW hD K hK
   have h4:=Deps.get (v:=v4) 4 hD rfl rfl (by kernel_rfl)
   clear hD
   go_simp
   exact hK.out _ _ ⟨_,rfl,G.refl _,h4⟩
 intro w1 g1 hH
 have h5:=Helds.get (v:=v5) 5 hH rfl rfl
 clear hH
 refine wpAny_done (by kernel_rfl) ?_ _
 generalize v5=vs at *
 have S5:Hid (Num w1 vs s):=h5
 have bU:=G.trans g0 g1
 have S0:Hid (Rec _ _ _):=Rec.G R0.out (g1)
 have S1:Hid (Rec _ _ _):=Rec.G R1.out (g1)
 have S2:Hid (Rec _ _ _):=Rec.G R2.out (g1)
 clear h5 R0 R1 R2 g0 g1 mg
 go_wp2_with fail
 refine q0d 10 0 #[true,true,true,true,true,true,true,true,true,true] [.is (.agg #[.bool sx,.slice a k c,.slice a' k' c']),.any (fun v w'=>Num w' v (p)),.is (vs),.any (fun v w'=>Num w' v (A)),.is (.agg #[.bool sy,.slice b j e,.slice b' j' e']),.any (fun v w'=>Num w' v (q)),.is (vs),.any (fun v w'=>Num w' v (B)),.any (fun v w'=>Num w' v (A)),.any (fun v w'=>Num w' v (B))] [some 17,some 18,some 19,some 20,some 21,some 22,some 23,some 24,some 8,some 9] (by kernel_rfl) (by kernel_rfl) rfl (by kernel_rfl) (by repeat (first|exact trivial|refine⟨fun _ _ _ g h=>by first|exact h.G g|exact fun w3 g3=>h w3 (G.trans g g3),?_⟩)) (by kernel_rfl) (by kernel_rfl) ?_
 refine Letters.is ?_
 refine Letters.any fun v1=> ?_
 refine Letters.is ?_
 refine Letters.any fun v3=> ?_
 refine Letters.is ?_
 refine Letters.any fun v5=> ?_
 refine Letters.is ?_
 refine Letters.any fun v7=> ?_
 refine Letters.any fun v8=> ?_
 refine Letters.any fun v9=> ?_
 refine Letters.nil ?_
 intro A hA
 simp only[q1l,Act.put,List.setIfInBounds_toArray,List.set_cons_zero,List.set_cons_succ] at hA
 subst hA
 refine⟨?_,?_⟩
 ·skip
  refine Eaches.cons rfl ?mV (Eaches.cons rfl ?qE (Eaches.cons rfl ?mW (Eaches.cons rfl ?oG (Eaches.cons rfl ?sP (Eaches.cons rfl ?qF (Eaches.cons rfl ?sQ (Eaches.cons rfl ?uB (Eaches.cons rfl ?xe (Eaches.cons rfl ?IW (Eaches.nil))))))))))
  case mW|sQ=>
   intro W hW hD K hK
   clear hD
   go_simp
   exact hK.out _ _ ⟨_,rfl,G.refl _,rfl⟩
  case mV|sP=>
   intro W hW hD K hK
   clear hD
   have hS0:=Rec.f3 (Rec.G S0.out hW)
   have rQ:=hS0.1
   have rR:=hS0.2.1
   have yU:=hS0.2.2.1
   clear hS0
   have hS1:=Rec.f3 (Rec.G S1.out hW)
   have rT:=hS1.1
   have rU:=hS1.2.1
   have yV:=hS1.2.2.1
   clear hS1
   go_simp
   exact hK.out _ _ ⟨_,rfl,G.refl _,rfl⟩
  ·intro W hW hD K hK
   clear hD
   go_simp
   go_wp2_with (go_at_call 97;refine Calls.mono (P:=Tryz.prog) (pO.out W (G.trans bU hW)) ?_;intro e w9 hs;obtain⟨u9,rfl,g9,aQ⟩:=hs)
   exact hK.out _ _ ⟨_,rfl,g9,aQ⟩
  ·intro W hW hD K hK
   have h1:=Deps.get (v:=v1) 1 hD rfl rfl (by kernel_rfl)
   clear hD
   go_simp
   go_wp2_with (go_at_call 98;refine Calls.mono (P:=Tryz.prog) (rO.out W v1 vs h1 (S5.out.G hW)) ?_;intro e w9 hs;obtain⟨u9,rfl,g9,aQ⟩:=hs)
   exact hK.out _ _ ⟨_,rfl,g9,aQ⟩
  ·intro W hW hD K hK
   clear hD
   go_simp
   go_wp2_with (go_at_call 97;refine Calls.mono (P:=Tryz.prog) (pQ.out W (G.trans bU hW)) ?_;intro e w9 hs;obtain⟨u9,rfl,g9,aQ⟩:=hs)
   exact hK.out _ _ ⟨_,rfl,g9,aQ⟩
  ·intro W hW hD K hK
   have h5:=Deps.get (v:=v5) 5 hD rfl rfl (by kernel_rfl)
   clear hD
   go_simp
   go_wp2_with (go_at_call 98;refine Calls.mono (P:=Tryz.prog) (iK.out W v5 vs h5 (S5.out.G hW)) ?_;intro e w9 hs;obtain⟨u9,rfl,g9,aQ⟩:=hs)
   exact hK.out _ _ ⟨_,rfl,g9,aQ⟩
  ·intro W hW hD K hK
   have h3:=Deps.get (v:=v3) 3 hD rfl rfl (by kernel_rfl)
   clear hD
   go_simp
   exact hK.out _ _ ⟨_,rfl,G.refl _,h3⟩
  ·intro W hW hD K hK
   have h7:=Deps.get (v:=v7) 7 hD rfl rfl (by kernel_rfl)
   clear hD
   go_simp
   exact hK.out _ _ ⟨_,rfl,G.refl _,h7⟩
 intro w2 g2 hH
 have h8:=Helds.get (v:=v8) 8 hH rfl rfl
 have h9:=Helds.get (v:=v9) 9 hH rfl rfl
 clear hH
 refine wpAny_done (by kernel_rfl) ?_ _
 have S8:Hid (Num w2 v8 A):=h8
 have S9:Hid (Num w2 v9 B):=h9
 have NL:Hid (Num w2 vs s):=S5.out.G g2
 have iJ:=G.trans bU g2
 have T0:Hid (Rec _ _ _):=Rec.G S0.out (g2)
 have T1:Hid (Rec _ _ _):=Rec.G S1.out (g2)
 have T2:Hid (Rec _ _ _):=Rec.G S2.out (g2)
 generalize v8=va at *
 generalize v9=vb at *
 clear h8 h9 S5 S0 S1 S2 bU g2 rO iK pO pQ
 go_wp2_with fail
 refine q0d 11 1 #[true,true,true,true,true,true,true,true,true,true,true,false] [.is (.func (.func FR) #[] #[]),.is (.pointer (some ⟨w.heap.size,0,none⟩)),.is (.agg #[.bool sx,.slice a k c]),.is (vb),.any (fun v w'=>WholeIs w' v (X)),.is (.pointer (some ⟨w.heap.size+1,0,none⟩)),.is (.agg #[.bool sy,.slice b j e]),.is (va),.any (fun v w'=>WholeIs w' v (Y)),.any (fun v w'=>WholeIs w' v (T)),.any (fun v w'=>NewRec w2 w' v ([.bool false,.slice none 0 0]))] [some 25,some 26,some 27,some 28,some 29,some 30,some 31,some 32,some 33,some 34,some 10] (by kernel_rfl) (by kernel_rfl) rfl (by kernel_rfl) (by repeat (first|exact trivial|refine⟨fun _ _ _ g h=>by first|exact h.G g|exact fun w3 g3=>h w3 (G.trans g g3),?_⟩)) (by kernel_rfl) (by kernel_rfl) ?_
 refine Letters.is ?_
 refine Letters.is ?_
 refine Letters.is ?_
 refine Letters.is ?_
 refine Letters.any fun v4=> ?_
 refine Letters.is ?_
 refine Letters.is ?_
 refine Letters.is ?_
 refine Letters.any fun v8=> ?_
 refine Letters.any fun v9=> ?_
 refine Letters.any fun v10=> ?_
 refine Letters.nil ?_
 intro A hA
 simp only[q1l,Act.put,List.setIfInBounds_toArray,List.set_cons_zero,List.set_cons_succ] at hA
 subst hA
 refine⟨?_,?_⟩
 ·skip
  refine Eaches.cons rfl ?mX (Eaches.cons rfl ?oH (Eaches.cons rfl ?mY (Eaches.cons rfl ?oI (Eaches.cons rfl ?qG (Eaches.cons rfl ?qH (Eaches.cons rfl ?qI (Eaches.cons rfl ?sS (Eaches.cons rfl ?xg (Eaches.cons rfl ?IX (Eaches.cons rfl ?NM (Eaches.nil)))))))))))
  case mX|oH|oI|qH|sS=>
   intro W hW hD K hK
   clear hD
   go_simp
   exact hK.out _ _ ⟨_,rfl,G.refl _,rfl⟩
  case mY|qI=>
   intro W hW hD K hK
   clear hD
   have hT0:=Rec.f3 (Rec.G T0.out hW)
   have yO:=hT0.1
   have yP:=hT0.2.1
   have yQ:=hT0.2.2.1
   clear hT0
   have hT1:=Rec.f3 (Rec.G T1.out hW)
   have Dk:=hT1.1
   have Dl:=hT1.2.1
   have Dm:=hT1.2.2.1
   clear hT1
   go_simp
   exact hK.out _ _ ⟨_,rfl,G.refl _,rfl⟩
  ·intro W hW hD K hK
   clear hD
   go_simp
   go_wp2_with (go_at_call 102;refine Calls.mono (P:=Tryz.prog) (HT1.out W vb (G.trans iJ hW) (S9.out.G hW)) ?_;intro e w9 hs;obtain⟨u9,rfl,g9,aQ⟩:=hs)
   exact hK.out _ _ ⟨_,rfl,g9,aQ⟩
  ·intro W hW hD K hK
   clear hD
   go_simp
   go_wp2_with (go_at_call 102;refine Calls.mono (P:=Tryz.prog) (HT2.out W va (G.trans iJ hW) (S8.out.G hW)) ?_;intro e w9 hs;obtain⟨u9,rfl,g9,aQ⟩:=hs)
   exact hK.out _ _ ⟨_,rfl,g9,aQ⟩
  ·intro W hW hD K hK
   have h4:=Deps.get (v:=v4) 4 hD rfl rfl (by kernel_rfl)
   have h8:=Deps.get (v:=v8) 8 hD rfl rfl (by kernel_rfl)
   clear hD
   have hcf:=HE.out #[v4,v8] W
   go_simp
   go_wp2_with (refine Calls.mono (P:=Tryz.prog) (HP.out W v4 v8 h4 h8) ?_;intro e w9 hs;obtain⟨u9,rfl,g9,aQ⟩:=hs)
   exact hK.out _ _ ⟨_,rfl,g9,aQ⟩
  ·intro W hW hD K hK
   clear hD
   go_simp
   exact hK.out _ _ ⟨_,rfl,(G.refl _).alloc _,_,rfl,hW.size,Rec.new2 _ _ _ _⟩
 intro w3 g3 hH
 have h9:=Helds.get (v:=v9) 9 hH rfl rfl
 have h10:=Helds.get (v:=v10) 10 hH rfl rfl
 clear hH
 obtain⟨nb,rfl,hnb,fK⟩:=h10
 obtain⟨d1,d2,d3,rfl,dZ⟩:=h9
 rw[← IV.out]
 have N0:Hid (Rec w3 nb [.bool false,.slice none 0 0]):=fK
 have IY:Hid (Num _ (.slice d1 d2 d3) T.natAbs):=q1A (u1:= .bool t) (u2:= .slice d1 d2 d3) dZ fK trivial trivial
 clear fK dZ HP HT1 HT2
 have hS:=Rec.f2 (Rec.G N0.out ((G.refl _)))
 have dE:=hS.1
 have dF:=hS.2.1
 have dG:=hS.2.2.1
 have dH:=hS.2.2.2
 clear hS
 refine wpAny_ready (rs:=[11]) (by kernel_rfl) (by simp) ?_
 refine AllReady.cons rfl (fun K hK=> ?_) AllReady.nil
 go_simp
 refine hK _ _ ?_
 clear hK K dE dF dG dH
 refine wpAny_done (by kernel_rfl) ?_ _
 have N1:Hid (Rec _ nb [.bool t,.slice d1 d2 d3]):=Rec.set2 N0.out
 have g4:=Rec.g2 (b:=nb) (u:= .bool t) (v:= .slice d1 d2 d3) g3 hnb
 generalize ((w3.setCell ⟨nb,0,none⟩ (.bool t)).setCell ⟨nb,1,none⟩ (.slice d1 d2 d3))=w4 at *
 have mE:=G.trans iJ g4
 have U2:Hid (Rec _ _ _):=Rec.G T2.out (g4)
 have S5:Hid (Num w4 vs s):=NL.out.G g4
 have NP:Hid (Num w4 va A):=S8.out.G g4
 have NQ:Hid (Num w4 vb B):=S9.out.G g4
 have pR:Hid _:=jk.out w4 (.slice d1 d2 d3) vs mE IY.out S5.out
 have hnw:w.heap.size≤nb:=Nat.le_trans iJ.size hnb
 clear T0 T1 T2 N0 NL S8 S9 iJ g3 g4 hnb jk
 have dW:=Rec.f2 (Rec.G N1.out (G.refl _))
 have jw:=dW.1
 have jy:=dW.2.1
 have jA:=dW.2.2.1
 have jB:=dW.2.2.2
 clear dW
 go_wp2_with fail
 refine Calls.mono (P:=Tryz.prog) pR.out ?_
 intro e4 w5 hs
 obtain⟨vr,rfl,g5,wM⟩:=hs
 have NR:Hid _:=yS.out w5 (.slice d1 d2 d3) vr (IY.out.G g5) wM
 have SR:Hid (Num w5 vr r):=wM
 clear pR yS wM jw jy jA jB
 have dW:=Rec.f2 (Rec.G N1.out (g5))
 have jw:=dW.1
 have jy:=dW.2.1
 have jA:=dW.2.2.1
 have jB:=dW.2.2.2
 clear dW
 go_wp2_with fail
 refine Calls.mono (P:=Tryz.prog) NR.out ?_
 intro e4 w6 hs
 obtain⟨vt,rfl,g6,yX⟩:=hs
 obtain⟨f1,f2,f3,rfl,-⟩:=q1Z yX
 have NS:Hid (Num w6 vr r):=SR.out.G g6
 have ST:Hid (Num (w6.setCell ⟨nb,1,none⟩ (.slice f1 f2 f3)) (.slice f1 f2 f3) tr):=q2n yX (Rec.G (Rec.G N1.out g5) g6) trivial trivial
 have u6:=G.trans g5 g6
 have SA:Hid (Num (w6.setCell ⟨nb,1,none⟩ (.slice f1 f2 f3)) va A):=q2n (NP.out.G u6) (Rec.G N1.out u6) trivial trivial
 have SB:Hid (Num (w6.setCell ⟨nb,1,none⟩ (.slice f1 f2 f3)) vb B):=q2n (NQ.out.G u6) (Rec.G N1.out u6) trivial trivial
 have SS:Hid (Num (w6.setCell ⟨nb,1,none⟩ (.slice f1 f2 f3)) vs s):=q2n (S5.out.G u6) (Rec.G N1.out u6) trivial trivial
 have SQ:Hid (Num (w6.setCell ⟨nb,1,none⟩ (.slice f1 f2 f3)) vr r):=q2n NS.out (Rec.G N1.out u6) trivial trivial
 have N2:Hid (Rec (w6.setCell ⟨nb,1,none⟩ (.slice f1 f2 f3)) nb [.bool t,.slice f1 f2 f3]):=(Rec.G N1.out u6).set 1 _
 have V2:Hid (Rec (w6.setCell ⟨nb,1,none⟩ (.slice f1 f2 f3)) (w.heap.size+2) [.bool false,.slice none 0 0,.slice none 0 0]):=(Rec.G U2.out u6).oth (p:=⟨nb,1,none⟩) _ (qbx N1.out U2.out)
 have g7:G w (w6.setCell ⟨nb,1,none⟩ (.slice f1 f2 f3)):=(G.trans mE u6).setCell (p:=⟨nb,1,none⟩) hnw _
 clear NR yX jw jy jA jB SR NS S5 NP NQ mE hnw IY U2
 have dW:=Rec.f2 (Rec.G N1.out (u6))
 have jw:=dW.1
 have jy:=dW.2.1
 have jA:=dW.2.2.1
 have jB:=dW.2.2.2
 clear dW
 clear g5 g6 u6
 go_wp2_with fail
 generalize w6.setCell ⟨nb,1,none⟩ (.slice f1 f2 f3)=w7 at *
 clear jw jy jA jB N1
 refine q0d 9 1 #[true,true,true,true,true,true,true,true,true,false] [.is (.agg #[.bool t,.slice f1 f2 f3]),.is (va),.is (vb),.any (fun v w'=>Num w' v (N)),.is (vs),.is (vr),.any (fun v w'=>Num w' v (sr)),.any (fun v w'=>Num w' v (M)),.any (fun v w'=>QIs w' v (z))] [some 44,some 45,some 46,some 47,some 48,some 49,some 50,some 51,some 52] (by kernel_rfl) (by kernel_rfl) rfl (by kernel_rfl) (by repeat (first|exact trivial|refine⟨fun _ _ _ g h=>by first|exact h.G g|exact fun w3 g3=>h w3 (G.trans g g3),?_⟩)) (by kernel_rfl) (by kernel_rfl) ?_
 refine Letters.is ?_
 refine Letters.is ?_
 refine Letters.is ?_
 refine Letters.any fun v3=> ?_
 refine Letters.is ?_
 refine Letters.is ?_
 refine Letters.any fun v6=> ?_
 refine Letters.any fun v7=> ?_
 refine Letters.any fun v8=> ?_
 refine Letters.nil ?_
 intro A hA
 simp only[q1l,Act.put,List.setIfInBounds_toArray,List.set_cons_zero,List.set_cons_succ] at hA
 subst hA
 refine⟨?_,?_⟩
 ·skip
  refine Eaches.cons rfl ?uC (Eaches.cons rfl ?uD (Eaches.cons rfl ?uE (Eaches.cons rfl ?xh (Eaches.cons rfl ?uF (Eaches.cons rfl ?uG (Eaches.cons rfl ?Af (Eaches.cons rfl ?Ag (Eaches.cons rfl ?Dn (Eaches.nil)))))))))
  case uD|uE|uF|uG=>
   intro W hW hD K hK
   clear hD
   go_simp
   exact hK.out _ _ ⟨_,rfl,G.refl _,rfl⟩
  case uC=>
   intro W hW hD K hK
   clear hD
   have lh:=Rec.f2 (Rec.G N2.out hW)
   have NT:=lh.1
   have NU:=lh.2.1
   clear lh
   go_simp
   exact hK.out _ _ ⟨_,rfl,G.refl _,rfl⟩
  ·intro W hW hD K hK
   clear hD
   go_simp
   go_wp2_with (go_at_call 99;refine Calls.mono (P:=Tryz.prog) (wL.out W va vb (SA.out.G hW) (SB.out.G hW)) ?_;intro e w9 hs;obtain⟨u9,rfl,g9,aQ⟩:=hs)
   exact hK.out _ _ ⟨_,rfl,g9,aQ⟩
  ·intro W hW hD K hK
   clear hD
   go_simp
   go_wp2_with (go_at_call 98;refine Calls.mono (P:=Tryz.prog) (rP.out W vs vr (SS.out.G hW) (SQ.out.G hW)) ?_;intro e w9 hs;obtain⟨u9,rfl,g9,aQ⟩:=hs)
   exact hK.out _ _ ⟨_,rfl,g9,aQ⟩
  ·intro W hW hD K hK
   have h3:=Deps.get (v:=v3) 3 hD rfl rfl (by kernel_rfl)
   have h6:=Deps.get (v:=v6) 6 hD rfl rfl (by kernel_rfl)
   clear hD
   go_simp
   go_wp2_with (go_at_call 99;refine Calls.mono (P:=Tryz.prog) (tZ.out W v3 v6 h3 h6) ?_;intro e w9 hs;obtain⟨u9,rfl,g9,aQ⟩:=hs)
   exact hK.out _ _ ⟨_,rfl,g9,aQ⟩
  ·intro W hW hD K hK
   have h7:=Deps.get (v:=v7) 7 hD rfl rfl (by kernel_rfl)
   clear hD
   go_simp
   go_wp2_with (go_at_call 100;refine Calls.mono (P:=Tryz.prog) (HF.out W f1 f2 f3 v7 (ST.out.G hW) h7) ?_;intro e w9 hs;obtain⟨u9,rfl,g9,aQ⟩:=hs)
   exact hK.out _ _ ⟨_,rfl,g9,aQ⟩
 intro w8 g8 hH
 have h8:=Helds.get (v:=v8) 8 hH rfl rfl
 clear hH
 clear wL tZ rP HF SA SB SS SQ ST N2
 obtain⟨a8,k8,c8,a9,k9,c9,rfl,kK,dZ⟩:=h8
 have og:Hid (Num w8 (.slice a8 k8 c8) (z).num.natAbs):=kK
 have jq:Hid (Num w8 (.slice a9 k9 c9) (q1R (z).den)):=dZ
 obtain⟨t9,dC⟩:∃ t,t=decide ((z).num<0):=⟨_,rfl⟩
 rw[← dC]
 have jS:Hid (t9=decide ((z).num<0)):=dC
 clear kK dZ dC
 have hS:=Rec.f3 (Rec.G V2.out (g8))
 have dE:=hS.1
 have dF:=hS.2.1
 have dG:=hS.2.2.1
 have dH:=hS.2.2.2.1
 have iL:=hS.2.2.2.2.1
 have iM:=hS.2.2.2.2.2
 clear hS
 refine wpAny_ready (rs:=[9]) (by kernel_rfl) (by simp) ?_
 refine AllReady.cons rfl (fun K hK=> ?_) AllReady.nil
 go_simp
 refine hK _ _ ?_
 clear hK K dE dF dG dH iL iM
 refine wpAny_done (by kernel_rfl) ?_ _
 have gu:Num _ _ _:=q0n (u1:= .bool t9) (u2:= .slice a8 k8 c8) (u3:= .slice a9 k9 c9) og.out (Rec.G V2.out (g8)) trivial trivial trivial
 have dA:Num _ _ _:=q0n (u1:= .bool t9) (u2:= .slice a8 k8 c8) (u3:= .slice a9 k9 c9) jq.out (Rec.G V2.out (g8)) trivial trivial trivial
 go_wp2_with fail
 have hT:Hid (Rec (World.setCell (World.setCell (World.setCell w8 ⟨w.heap.size+2,0,none⟩ (.bool t9)) ⟨w.heap.size+2,1,none⟩ (.slice a8 k8 c8)) ⟨w.heap.size+2,2,none⟩ (.slice a9 k9 c9)) (w.heap.size+2) [.bool t9,.slice a8 k8 c8,.slice a9 k9 c9]):=Rec.set3 (Rec.G V2.out (g8))
 have g9:=Rec.g3 (b:=w.heap.size+2) (u:= .bool t9) (v:= .slice a8 k8 c8) (x:= .slice a9 k9 c9) (G.trans g7 g8) (by omega)
 generalize (World.setCell (World.setCell (World.setCell w8 ⟨w.heap.size+2,0,none⟩ (.bool t9)) ⟨w.heap.size+2,1,none⟩ (.slice a8 k8 c8)) ⟨w.heap.size+2,2,none⟩ (.slice a9 k9 c9))=w9 at *
 have hF:=Rec.f3 (Rec.G hT.out ((G.refl _)))
 have bg:=hF.1
 have bn:=hF.2.1
 have bC:=hF.2.2.1
 have bD:=hF.2.2.2.1
 have jm:=hF.2.2.2.2.1
 have jo:=hF.2.2.2.2.2
 clear hF
 refine bodyPost_ret (v:= .agg #[.bool t9,.slice a8 k8 c8,.slice a9 k9 c9]) (by simp [results,Tryz.results108,go_sem, *]) rfl ?_
 exact⟨_,rfl,g9,a8,k8,c8,a9,k9,c9,by rw[← jS.out],gu,dA⟩
theorem q5N (w:World) (v u:Value) (x y:Rat) (K:Nat) (hK:K≤40000) (hK1:1≤K) (qC:Tab w) (hx:QIs w v x) (hy:QIs w u y) (bx:QB x K) (jU:QB y K):
  Calls Tryz.prog 108 #[v,u,.func (.func 109) #[] #[]] w (RetQ w (x+y)):=
 q4u w v u x y K hK hK1 qC hx hy bx jU _ (fun p q=>p+q) _ (Rat.add_def' x y) (fun p q k=>Int.add_mul p q k) (fun p q g h1 h2=>by
   have h3:=Int.dvd_sub h2 h1;rwa[show p+q-q=p from by omega] at h3) (fun p q g h1 h2=>by
   have h3:=Int.dvd_sub h2 h1;rwa[show p+q-p=q from by omega] at h3) (fun p q=>Int.natAbs_add_le p q) (fun w1 v1 v2 X Y q1 q2 h1 h2=>by
   have h:=q80 w1 v1 v2 _ _ _ _ (K+K) (by omega) h1 h2 q1 q2
   rw[q15,q15] at h;exact h) (fun _ _=>by kernel_rfl)
theorem q4s (w:World) (v u:Value) (x y:Rat) (K:Nat) (hK:K≤40000) (hK1:1≤K) (qC:Tab w) (hx:QIs w v x) (hy:QIs w u y) (bx:QB x K) (jU:QB y K):
  Calls Tryz.prog 108 #[v,u,.func (.func 103) #[] #[]] w (RetQ w (x-y)):=
 q4u w v u x y K hK hK1 qC hx hy bx jU _ (fun p q=>p-q) _ (Rat.sub_def' x y) (fun p q k=>Int.sub_mul p q k) (fun p q g h1 h2=>by
   have h3:=Int.dvd_add h2 h1;rwa[show p-q+q=p from by omega] at h3) (fun p q g h1 h2=>by
   have h3:=Int.dvd_sub h1 h2;rwa[show p-(p-q)=q from by omega] at h3) (fun p q=>Int.natAbs_sub_le p q) (fun w1 v1 v2 X Y q1 q2 h1 h2=>by
   have h:=q5T w1 v1 v2 _ _ _ _ (K+K) (by omega) h1 h2 q1 q2
   rw[q15,q15] at h;exact h) (fun _ _=>by kernel_rfl)
theorem qbD (w:World) (v u:Value) (x y:Rat) (K:Nat) (hK:K≤40000) (hK1:1≤K) (qC:Tab w) (hx:QIs w v x) (hy:QIs w u y) (bx:QB x K) (jU:QB y K):
  Calls Tryz.prog 62 #[v,u] w (RetQ w (x+y)):=by
 have HJ:Hid (∀ w1,G w w1→_):=fun w1 g=>q5N w1 v u x y K hK hK1 (qC.G g) (hx.G g) (hy.G g) bx jU
 generalize x+y=z at *
 obtain⟨a,k,c,a',k',c',rfl,-,-⟩:=hx
 obtain⟨b,j,e,b',j',e',rfl,-,-⟩:=hy
 generalize decide (x.num<0)=s at *
 generalize decide (y.num<0)=t at *
 clear bx jU qC
 go_enter Tryz.func62,Tryz.ntmps62
 go_wp2_with fail
 obtain⟨w0,aB,g0,hz0,R0,R1,R2⟩:=q1o w [.bool s,.slice a k c,.slice a' k' c'] [.bool t,.slice b j e,.slice b' j' e'] [.bool false,.slice none 0 0,.slice none 0 0] 97 97 97
 rw[aB]
 clear aB
 refine Calls.mono (P:=Tryz.prog) (HJ.out w0 g0) ?_
 intro e4 w1 hs
 obtain⟨vz,rfl,g1,hz⟩:=hs
 clear HJ
 obtain⟨a8,k8,c8,a9,k9,c9,rfl,kK,dZ⟩:=hz
 have og:Hid (Num w1 (.slice a8 k8 c8) (z).num.natAbs):=kK
 have jq:Hid (Num w1 (.slice a9 k9 c9) (q1R (z).den)):=dZ
 obtain⟨t9,dC⟩:∃ t,t=decide ((z).num<0):=⟨_,rfl⟩
 rw[← dC]
 have jS:Hid (t9=decide ((z).num<0)):=dC
 clear kK dZ dC
 have hS:=Rec.f3 (Rec.G R2.out ((g1)))
 have dE:=hS.1
 have dF:=hS.2.1
 have dG:=hS.2.2.1
 have dH:=hS.2.2.2.1
 have iL:=hS.2.2.2.2.1
 have iM:=hS.2.2.2.2.2
 clear hS
 have gu:Num _ _ _:=q0n (u1:= .bool t9) (u2:= .slice a8 k8 c8) (u3:= .slice a9 k9 c9) og.out (Rec.G R2.out (g1)) trivial trivial trivial
 have dA:Num _ _ _:=q0n (u1:= .bool t9) (u2:= .slice a8 k8 c8) (u3:= .slice a9 k9 c9) jq.out (Rec.G R2.out (g1)) trivial trivial trivial
 go_wp2_with fail
 have hT:Hid (Rec (World.setCell (World.setCell (World.setCell w1 ⟨w.heap.size+2,0,none⟩ (.bool t9)) ⟨w.heap.size+2,1,none⟩ (.slice a8 k8 c8)) ⟨w.heap.size+2,2,none⟩ (.slice a9 k9 c9)) (w.heap.size+2) [.bool t9,.slice a8 k8 c8,.slice a9 k9 c9]):=Rec.set3 (Rec.G R2.out (g1))
 have g9:=Rec.g3 (b:=w.heap.size+2) (u:= .bool t9) (v:= .slice a8 k8 c8) (x:= .slice a9 k9 c9) (G.trans g0 g1) (by omega)
 generalize (World.setCell (World.setCell (World.setCell w1 ⟨w.heap.size+2,0,none⟩ (.bool t9)) ⟨w.heap.size+2,1,none⟩ (.slice a8 k8 c8)) ⟨w.heap.size+2,2,none⟩ (.slice a9 k9 c9))=w9 at *
 have hF:=Rec.f3 (Rec.G hT.out ((G.refl _)))
 have bg:=hF.1
 have bn:=hF.2.1
 have bC:=hF.2.2.1
 have bD:=hF.2.2.2.1
 have jm:=hF.2.2.2.2.1
 have jo:=hF.2.2.2.2.2
 clear hF
 refine bodyPost_ret (v:= .agg #[.bool t9,.slice a8 k8 c8,.slice a9 k9 c9]) (by simp [results,Tryz.results62,go_sem, *]) rfl ?_
 exact⟨_,rfl,g9,a8,k8,c8,a9,k9,c9,by rw[← jS.out],gu,dA⟩
theorem qbB (w:World) (v u:Value) (x y:Rat) (K:Nat) (hK:K≤40000) (hK1:1≤K) (qC:Tab w) (hx:QIs w v x) (hy:QIs w u y) (bx:QB x K) (jU:QB y K):
  Calls Tryz.prog 63 #[v,u] w (RetQ w (x-y)):=by
 have HJ:Hid (∀ w1,G w w1→_):=fun w1 g=>q4s w1 v u x y K hK hK1 (qC.G g) (hx.G g) (hy.G g) bx jU
 generalize x-y=z at *
 obtain⟨a,k,c,a',k',c',rfl,-,-⟩:=hx
 obtain⟨b,j,e,b',j',e',rfl,-,-⟩:=hy
 generalize decide (x.num<0)=s at *
 generalize decide (y.num<0)=t at *
 clear bx jU qC
 go_enter Tryz.func63,Tryz.ntmps63
 go_wp2_with fail
 obtain⟨w0,aB,g0,hz0,R0,R1,R2⟩:=q1o w [.bool s,.slice a k c,.slice a' k' c'] [.bool t,.slice b j e,.slice b' j' e'] [.bool false,.slice none 0 0,.slice none 0 0] 97 97 97
 rw[aB]
 clear aB
 refine Calls.mono (P:=Tryz.prog) (HJ.out w0 g0) ?_
 intro e4 w1 hs
 obtain⟨vz,rfl,g1,hz⟩:=hs
 clear HJ
 obtain⟨a8,k8,c8,a9,k9,c9,rfl,kK,dZ⟩:=hz
 have og:Hid (Num w1 (.slice a8 k8 c8) (z).num.natAbs):=kK
 have jq:Hid (Num w1 (.slice a9 k9 c9) (q1R (z).den)):=dZ
 obtain⟨t9,dC⟩:∃ t,t=decide ((z).num<0):=⟨_,rfl⟩
 rw[← dC]
 have jS:Hid (t9=decide ((z).num<0)):=dC
 clear kK dZ dC
 have hS:=Rec.f3 (Rec.G R2.out ((g1)))
 have dE:=hS.1
 have dF:=hS.2.1
 have dG:=hS.2.2.1
 have dH:=hS.2.2.2.1
 have iL:=hS.2.2.2.2.1
 have iM:=hS.2.2.2.2.2
 clear hS
 have gu:Num _ _ _:=q0n (u1:= .bool t9) (u2:= .slice a8 k8 c8) (u3:= .slice a9 k9 c9) og.out (Rec.G R2.out (g1)) trivial trivial trivial
 have dA:Num _ _ _:=q0n (u1:= .bool t9) (u2:= .slice a8 k8 c8) (u3:= .slice a9 k9 c9) jq.out (Rec.G R2.out (g1)) trivial trivial trivial
 go_wp2_with fail
 have hT:Hid (Rec (World.setCell (World.setCell (World.setCell w1 ⟨w.heap.size+2,0,none⟩ (.bool t9)) ⟨w.heap.size+2,1,none⟩ (.slice a8 k8 c8)) ⟨w.heap.size+2,2,none⟩ (.slice a9 k9 c9)) (w.heap.size+2) [.bool t9,.slice a8 k8 c8,.slice a9 k9 c9]):=Rec.set3 (Rec.G R2.out (g1))
 have g9:=Rec.g3 (b:=w.heap.size+2) (u:= .bool t9) (v:= .slice a8 k8 c8) (x:= .slice a9 k9 c9) (G.trans g0 g1) (by omega)
 generalize (World.setCell (World.setCell (World.setCell w1 ⟨w.heap.size+2,0,none⟩ (.bool t9)) ⟨w.heap.size+2,1,none⟩ (.slice a8 k8 c8)) ⟨w.heap.size+2,2,none⟩ (.slice a9 k9 c9))=w9 at *
 have hF:=Rec.f3 (Rec.G hT.out ((G.refl _)))
 have bg:=hF.1
 have bn:=hF.2.1
 have bC:=hF.2.2.1
 have bD:=hF.2.2.2.1
 have jm:=hF.2.2.2.2.1
 have jo:=hF.2.2.2.2.2
 clear hF
 refine bodyPost_ret (v:= .agg #[.bool t9,.slice a8 k8 c8,.slice a9 k9 c9]) (by simp [results,Tryz.results63,go_sem, *]) rfl ?_
 exact⟨_,rfl,g9,a8,k8,c8,a9,k9,c9,by rw[← jS.out],gu,dA⟩
end Go.Proofs.YtljkfjjchkehaaaGreatDoor.EN
