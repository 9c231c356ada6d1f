/- What is proved here: contracts of package exact: sums and products of whole numbers, over this seat's translation.
What is proved here: contracts of package exact: fractions are made, over this seat's translation.
What is proved here: contracts of package exact: products of fractions, over this seat's translation.
What is proved here: contracts of package exact: sign, opposite, quotient of fractions, over this seat's translation.
What is proved here: contracts of package exact: comparison, powers of two, sums of fractions, over this seat's translation.
What is proved here: contracts of package exact: sums of fractions, over this seat's translation.
What is proved here: contracts of package exact: Add, Sub, Floor, Square, over this seat's translation. -/
import Derived.Test.YtemmkninoiclfaaGreatDoorC27
namespace Go.Proofs.YtemmkninoiclfaaGreatDoor.EN
open Go.ChangeShapes Go.WideShapes Go.ChangeAt Go.RowKit
theorem q60 (w:World) (v u:Value) (s:Bool) (n m K:Nat) (hK:K≤400000) (h:WholeS w v s n) (hu:Num w u m) (hn:n<2^(64*K)) (hm:m<2^(64*K)):
  Calls Tryz.prog 121 #[v,u] w (q0M w (sgn s n*m)):=by
 obtain⟨a,k,c,rfl,hv⟩:=h
 have HT:Hid (∀ w1,G w w1→_):=fun w1 g=>q29 w1 (.slice a k c) u n m K (by omega) (hv.G g) (hu.G g) hn hm
 have HS:Hid (∀ w1 v,Num w1 v (n*m)→Calls Tryz.prog 47 #[.bool s,v] w1 (q0M w1 (sgn s n*m))):=fun w1 v hv=>by
  have h:=q19 w1 v s _ hv
  rw[show sgn s (n*m)=sgn s n*m from by unfold sgn;cases s<;>simp [Int.neg_mul]] at h
  exact h
 generalize n*m=q at *
 generalize sgn s n*m=y at *
 clear hv hu hn hm
 go_enter Tryz.func121,Tryz.ntmps121
 go_wp2_with fail
 obtain⟨w0,aM,g0,hz0,R0,R1⟩:=q3X w [.bool s,.slice a k c] [.bool false,.slice none 0 0] 28 28
 rw[aM]
 clear aM
 refine q08 7 1 #[true,true,true,true,true,true,true,false] [.is (.pointer (some ⟨w.heap.size,0,none⟩)),.is (.bool s),.is (.pointer (some ⟨w.heap.size,1,none⟩)),.is (.slice a k c),.is (u),.any (fun v w'=>Num w' v (q)),.any (fun v w'=>WholeIs w' v (y))] [some 5,some 6,some 7,some 8,some 9,some 10,some 11] (by kernel_rfl) (by kernel_rfl) rfl (by kernel_rfl) (by repeat (first|exact trivial|refine⟨fun _ _ _ g h=>by first|exact h.G g|exact fun w3 g3=>h w3 (G.trans g g3),?_⟩)) (by kernel_rfl) (by kernel_rfl) ?_
 refine Letters.is ?_
 refine Letters.is ?_
 refine Letters.is ?_
 refine Letters.is ?_
 refine Letters.is ?_
 refine Letters.any fun v5=> ?_
 refine Letters.any fun v6=> ?_
 refine Letters.nil ?_
 intro A hA
 simp only[q0V,Act.put,List.setIfInBounds_toArray,List.set_cons_zero,List.set_cons_succ] at hA
 subst hA
 refine⟨?_,?_⟩
 ·skip
  refine Eaches.cons rfl ?gH (Eaches.cons rfl ?gW (Eaches.cons rfl ?gI (Eaches.cons rfl ?gX (Eaches.cons rfl ?jq (Eaches.cons rfl ?jr (Eaches.cons rfl ?jL (Eaches.nil)))))))
  case gH|gI|jq=>
   intro W hW hD K hK
   clear hD
   go_simp
   exact hK.out _ _ ⟨_,rfl,G.refl _,rfl⟩
  case gW|gX=>
   intro W hW hD K hK
   clear hD
   have hR0:=Rec.f2 (Rec.G R0.out hW)
   have jg:=hR0.1
   have jh:=hR0.2.1
   clear hR0
   go_simp
   exact hK.out _ _ ⟨_,rfl,G.refl _,rfl⟩
  ·intro W hW hD K hK
   clear hD
   go_simp
   go_wp2_with (go_at_call 58;refine Calls.mono (P:=Tryz.prog) (HT.out W (G.trans g0 hW)) ?_;intro e w9 hs;obtain⟨u9,rfl,g9,aN⟩:=hs)
   exact hK.out _ _ ⟨_,rfl,g9,aN⟩
  ·intro W hW hD K hK
   have h5:=Deps.get (v:=v5) 5 hD rfl rfl (by kernel_rfl)
   clear hD
   go_simp
   go_wp2_with (go_at_call 47;refine Calls.mono (P:=Tryz.prog) (HS.out W v5 h5) ?_;intro e w9 hs;obtain⟨u9,rfl,g9,aN⟩:=hs)
   exact hK.out _ _ ⟨_,rfl,g9,aN⟩
 intro w1 g1 hH
 have h6:=Helds.get (v:=v6) 6 hH rfl rfl
 clear hH
 clear HT HS
 obtain⟨a9,k9,c9,rfl,dB⟩:=h6
 have gU:Hid (Num w1 (.slice a9 k9 c9) (y).natAbs):=dB
 obtain⟨t9,bK⟩:∃ t,t=decide ((y)<0):=⟨_,rfl⟩
 rw[← bK]
 have iQ:Hid (t9=decide ((y)<0)):=bK
 clear dB bK
 have hS:=Rec.f2 (Rec.G R1.out (g1))
 have bF:=hS.1
 have bG:=hS.2.1
 have bH:=hS.2.2.1
 have bI:=hS.2.2.2
 clear hS
 refine wpAny_ready (rs:=[7]) (by kernel_rfl) (by simp) ?_
 refine AllReady.cons rfl (fun K hK=> ?_) AllReady.nil
 go_simp
 refine hK _ _ ?_
 clear hK K bF bG bH bI
 refine wpAny_done (by kernel_rfl) ?_ _
 have bJ:Num _ _ _:=q1O (u1:= .bool t9) (u2:= .slice a9 k9 c9) gU.out (Rec.G R1.out (g1)) trivial trivial
 go_wp2_with fail
 have hT:Hid (Rec (World.setCell (World.setCell w1 ⟨w.heap.size+1,0,none⟩ (.bool t9)) ⟨w.heap.size+1,1,none⟩ (.slice a9 k9 c9)) (w.heap.size+1) [.bool t9,.slice a9 k9 c9]):=Rec.set2 (Rec.G R1.out (g1))
 have g9:=Rec.g2 (b:=w.heap.size+1) (u:= .bool t9) (v:= .slice a9 k9 c9) (G.trans g0 g1) (by omega)
 generalize (World.setCell (World.setCell w1 ⟨w.heap.size+1,0,none⟩ (.bool t9)) ⟨w.heap.size+1,1,none⟩ (.slice a9 k9 c9))=w9 at *
 have hF:=Rec.f2 (Rec.G hT.out ((G.refl _)))
 have dY:=hF.1
 have dZ:=hF.2.1
 have ed:=hF.2.2.1
 have eB:=hF.2.2.2
 clear hF
 refine bodyPost_ret (v:= .agg #[.bool t9,.slice a9 k9 c9]) (by simp [results,Tryz.results121,go_sem, *]) rfl ?_
 exact⟨_,rfl,g9,a9,k9,c9,by rw[← iQ.out],bJ⟩
theorem qaa (w:World) (v u:Value) (s t:Bool) (n m K:Nat) (hK:K≤400000) (h:WholeS w v s n) (hu:WholeS w u t m) (hn:n<2^(64*K)) (hm:m<2^(64*K)):
  Calls Tryz.prog 54 #[v,u] w (q0M w (sgn s n+sgn t m)):=by
 obtain⟨a,k,c,rfl,hv⟩:=h
 obtain⟨a',k',c',rfl,hu⟩:=hu
 by_cases hst:s=t
 ·have HT:Hid (∀ w1,G w w1→_):=fun w1 g=>q9m w1 (.slice a k c) (.slice a' k' c') n m K (by omega) (hv.G g) (hu.G g) hn hm
  have HS:Hid (∀ w1 v,Num w1 v (n+m)→Calls Tryz.prog 47 #[.bool s,v] w1 (q0M w1 (sgn s n+sgn t m))):=fun w1 v hv=>by
   have h:=q19 w1 v s _ hv
   rw[show sgn s (n+m)=sgn s n+sgn t m from by rw[← hst];unfold sgn;cases s<;>simp;omega] at h
   exact h
  have hte:(s==t)=true:=by rw[hst];simp
  generalize n+m=q at *
  generalize sgn s n+sgn t m=y at *
  clear hv hu hn hm hst
  go_enter Tryz.func54,Tryz.ntmps54
  go_wp2_with fail
  obtain⟨w0,aM,g0,hz0,R0,R1,R2⟩:=q2Y w [.bool s,.slice a k c] [.bool t,.slice a' k' c'] [.bool false,.slice none 0 0] 28 28 28
  rw[aM]
  clear aM
  have hr0:=Rec.f2 R0.out
  have hr1:=Rec.f2 R1.out
  have hq0:=hr0.1
  have hq1:=hr0.2.1
  have hq2:=hr1.1
  have hq3:=hr1.2.1
  clear hr0 hr1
  go_wp2_with fail
  clear hq0 hq1 hq2 hq3
  refine q08 8 1 #[true,true,true,true,true,true,true,true,false] [.is (.pointer (some ⟨w.heap.size,0,none⟩)),.is (.bool s),.is (.pointer (some ⟨w.heap.size,1,none⟩)),.is (.slice a k c),.is (.pointer (some ⟨w.heap.size+1,1,none⟩)),.is (.slice a' k' c'),.any (fun v w'=>Num w' v (q)),.any (fun v w'=>WholeIs w' v (y))] [some 11,some 12,some 13,some 14,some 15,some 16,some 17,some 18] (by kernel_rfl) (by kernel_rfl) rfl (by kernel_rfl) (by repeat (first|exact trivial|refine⟨fun _ _ _ g h=>by first|exact h.G g|exact fun w3 g3=>h w3 (G.trans g g3),?_⟩)) (by kernel_rfl) (by kernel_rfl) ?_
  refine Letters.is ?_
  refine Letters.is ?_
  refine Letters.is ?_
  refine Letters.is ?_
  refine Letters.is ?_
  refine Letters.is ?_
  refine Letters.any fun v6=> ?_
  refine Letters.any fun v7=> ?_
  refine Letters.nil ?_
  intro A hA
  simp only[q0V,Act.put,List.setIfInBounds_toArray,List.set_cons_zero,List.set_cons_succ] at hA
  subst hA
  refine⟨?_,?_⟩
  ·skip
   refine Eaches.cons rfl ?jN (Eaches.cons rfl ?lM (Eaches.cons rfl ?jO (Eaches.cons rfl ?kK (Eaches.cons rfl ?mW (Eaches.cons rfl ?lN (Eaches.cons rfl ?qp (Eaches.cons rfl ?sS (Eaches.nil))))))))
   case jN|jO|mW=>
    intro W hW hD K hK
    clear hD
    go_simp
    exact hK.out _ _ ⟨_,rfl,G.refl _,rfl⟩
   case lM|kK|lN=>
    intro W hW hD K hK
    clear hD
    have hR0:=Rec.f2 (Rec.G R0.out hW)
    have jg:=hR0.1
    have jh:=hR0.2.1
    clear hR0
    have qo:=Rec.f2 (Rec.G R1.out hW)
    have wZ:=qo.1
    have xe:=qo.2.1
    clear qo
    go_simp
    exact hK.out _ _ ⟨_,rfl,G.refl _,rfl⟩
   ·intro W hW hD K hK
    clear hD
    go_simp
    go_wp2_with (go_at_call 122;refine Calls.mono (P:=Tryz.prog) (HT.out W (G.trans g0 hW)) ?_;intro e w9 hs;obtain⟨u9,rfl,g9,aN⟩:=hs)
    exact hK.out _ _ ⟨_,rfl,g9,aN⟩
   ·intro W hW hD K hK
    have h6:=Deps.get (v:=v6) 6 hD rfl rfl (by kernel_rfl)
    clear hD
    go_simp
    go_wp2_with (go_at_call 47;refine Calls.mono (P:=Tryz.prog) (HS.out W v6 h6) ?_;intro e w9 hs;obtain⟨u9,rfl,g9,aN⟩:=hs)
    exact hK.out _ _ ⟨_,rfl,g9,aN⟩
  intro w1 g1 hH
  have h7:=Helds.get (v:=v7) 7 hH rfl rfl
  clear hH
  clear HT HS
  obtain⟨a9,k9,c9,rfl,dB⟩:=h7
  have gU:Hid (Num w1 (.slice a9 k9 c9) (y).natAbs):=dB
  obtain⟨t9,bK⟩:∃ t,t=decide ((y)<0):=⟨_,rfl⟩
  rw[← bK]
  have iQ:Hid (t9=decide ((y)<0)):=bK
  clear dB bK
  have hS:=Rec.f2 (Rec.G R2.out (g1))
  have bF:=hS.1
  have bG:=hS.2.1
  have bH:=hS.2.2.1
  have bI:=hS.2.2.2
  clear hS
  refine wpAny_ready (rs:=[8]) (by kernel_rfl) (by simp) ?_
  refine AllReady.cons rfl (fun K hK=> ?_) AllReady.nil
  go_simp
  refine hK _ _ ?_
  clear hK K bF bG bH bI
  refine wpAny_done (by kernel_rfl) ?_ _
  have bJ:Num _ _ _:=q1O (u1:= .bool t9) (u2:= .slice a9 k9 c9) gU.out (Rec.G R2.out (g1)) trivial trivial
  go_wp2_with fail
  have hT:Hid (Rec (World.setCell (World.setCell w1 ⟨w.heap.size+2,0,none⟩ (.bool t9)) ⟨w.heap.size+2,1,none⟩ (.slice a9 k9 c9)) (w.heap.size+2) [.bool t9,.slice a9 k9 c9]):=Rec.set2 (Rec.G R2.out (g1))
  have g9:=Rec.g2 (b:=w.heap.size+2) (u:= .bool t9) (v:= .slice a9 k9 c9) (G.trans g0 g1) (by omega)
  generalize (World.setCell (World.setCell w1 ⟨w.heap.size+2,0,none⟩ (.bool t9)) ⟨w.heap.size+2,1,none⟩ (.slice a9 k9 c9))=w9 at *
  have hF:=Rec.f2 (Rec.G hT.out ((G.refl _)))
  have dY:=hF.1
  have dZ:=hF.2.1
  have ed:=hF.2.2.1
  have eB:=hF.2.2.2
  clear hF
  refine bodyPost_ret (v:= .agg #[.bool t9,.slice a9 k9 c9]) (by simp [results,Tryz.results54,go_sem, *]) rfl ?_
  exact⟨_,rfl,g9,a9,k9,c9,by rw[← iQ.out],bJ⟩
 ·have hte:(s==t)=false:=by simp [hst]
  have HC:Hid (∀ w1,G w w1→_):=fun w1 g=>q2F w1 (.slice a k c) (.slice a' k' c') n m K (by omega) (hv.G g) (hu.G g) hn hm
  by_cases hlt:n<m
  ·have HT:Hid (∀ w1,G w w1→_):=fun w1 g=>q44 w1 (.slice a' k' c') (.slice a k c) m n K (by omega) (hu.G g) (hv.G g) hm (Nat.le_of_lt hlt)
   have HS:Hid (∀ w1 v,Num w1 v (m-n)→Calls Tryz.prog 47 #[.bool t,v] w1 (q0M w1 (sgn s n+sgn t m))):=fun w1 v hv=>by
    have h:=q19 w1 v t _ hv
    rw[show sgn t (m-n)=sgn s n+sgn t m from by unfold sgn;cases s<;>cases t<;>simp at hst ⊢ <;>omega] at h
    exact h
   rw[show cmpV n m= -1 from by unfold cmpV;rw[if_pos hlt]] at HC
   generalize m-n=q at *
   generalize sgn s n+sgn t m=y at *
   clear hv hu hn hm hst hlt
   go_enter Tryz.func54,Tryz.ntmps54
   go_wp2_with fail
   obtain⟨w0,aM,g0,hz0,R0,R1,R2⟩:=q2Y w [.bool s,.slice a k c] [.bool t,.slice a' k' c'] [.bool false,.slice none 0 0] 28 28 28
   rw[aM]
   clear aM
   have hr0:=Rec.f2 R0.out
   have hr1:=Rec.f2 R1.out
   have hq0:=hr0.1
   have hq1:=hr0.2.1
   have hq2:=hr1.1
   have hq3:=hr1.2.1
   clear hr0 hr1
   go_wp2_with fail
   refine Calls.mono (P:=Tryz.prog) (HC.out w0 g0) ?_
   rintro e w3 ⟨rfl,g3⟩
   clear hq0 hq1 hq2 hq3
   have S0:Hid _:=Rec.G R0.out g3
   have S1:Hid _:=Rec.G R1.out g3
   go_wp2_with fail
   refine q08 8 1 #[true,true,true,true,true,true,true,true,false] [.is (.pointer (some ⟨w.heap.size+1,0,none⟩)),.is (.bool t),.is (.pointer (some ⟨w.heap.size+1,1,none⟩)),.is (.slice a' k' c'),.is (.pointer (some ⟨w.heap.size,1,none⟩)),.is (.slice a k c),.any (fun v w'=>Num w' v (q)),.any (fun v w'=>WholeIs w' v (y))] [some 26,some 27,some 28,some 29,some 30,some 31,some 32,some 33] (by kernel_rfl) (by kernel_rfl) rfl (by kernel_rfl) (by repeat (first|exact trivial|refine⟨fun _ _ _ g h=>by first|exact h.G g|exact fun w3 g3=>h w3 (G.trans g g3),?_⟩)) (by kernel_rfl) (by kernel_rfl) ?_
   refine Letters.is ?_
   refine Letters.is ?_
   refine Letters.is ?_
   refine Letters.is ?_
   refine Letters.is ?_
   refine Letters.is ?_
   refine Letters.any fun v6=> ?_
   refine Letters.any fun v7=> ?_
   refine Letters.nil ?_
   intro A hA
   simp only[q0V,Act.put,List.setIfInBounds_toArray,List.set_cons_zero,List.set_cons_succ] at hA
   subst hA
   refine⟨?_,?_⟩
   ·skip
    refine Eaches.cons rfl ?jP (Eaches.cons rfl ?kL (Eaches.cons rfl ?jQ (Eaches.cons rfl ?kM (Eaches.cons rfl ?lQ (Eaches.cons rfl ?lS (Eaches.cons rfl ?lT (Eaches.cons rfl ?mX (Eaches.nil))))))))
    case jP|jQ|lQ=>
     intro W hW hD K hK
     clear hD
     go_simp
     exact hK.out _ _ ⟨_,rfl,G.refl _,rfl⟩
    case kL|kM|lS=>
     intro W hW hD K hK
     clear hD
     have hS0:=Rec.f2 (Rec.G S0.out hW)
     have pG:=hS0.1
     have pI:=hS0.2.1
     clear hS0
     have hS1:=Rec.f2 (Rec.G S1.out hW)
     have pJ:=hS1.1
     have pK:=hS1.2.1
     clear hS1
     go_simp
     exact hK.out _ _ ⟨_,rfl,G.refl _,rfl⟩
    ·intro W hW hD K hK
     clear hD
     go_simp
     go_wp2_with (go_at_call 124;refine Calls.mono (P:=Tryz.prog) (HT.out W (G.trans g0 (G.trans g3 hW))) ?_;intro e w9 hs;obtain⟨u9,rfl,g9,aN⟩:=hs)
     exact hK.out _ _ ⟨_,rfl,g9,aN⟩
    ·intro W hW hD K hK
     have h6:=Deps.get (v:=v6) 6 hD rfl rfl (by kernel_rfl)
     clear hD
     go_simp
     go_wp2_with (go_at_call 47;refine Calls.mono (P:=Tryz.prog) (HS.out W v6 h6) ?_;intro e w9 hs;obtain⟨u9,rfl,g9,aN⟩:=hs)
     exact hK.out _ _ ⟨_,rfl,g9,aN⟩
   intro w1 g1 hH
   have h7:=Helds.get (v:=v7) 7 hH rfl rfl
   clear hH
   clear HT HS
   obtain⟨a9,k9,c9,rfl,dB⟩:=h7
   have gU:Hid (Num w1 (.slice a9 k9 c9) (y).natAbs):=dB
   obtain⟨t9,bK⟩:∃ t,t=decide ((y)<0):=⟨_,rfl⟩
   rw[← bK]
   have iQ:Hid (t9=decide ((y)<0)):=bK
   clear dB bK
   have hS:=Rec.f2 (Rec.G R2.out (G.trans g3 g1))
   have bF:=hS.1
   have bG:=hS.2.1
   have bH:=hS.2.2.1
   have bI:=hS.2.2.2
   clear hS
   refine wpAny_ready (rs:=[8]) (by kernel_rfl) (by simp) ?_
   refine AllReady.cons rfl (fun K hK=> ?_) AllReady.nil
   go_simp
   refine hK _ _ ?_
   clear hK K bF bG bH bI
   refine wpAny_done (by kernel_rfl) ?_ _
   have bJ:Num _ _ _:=q1O (u1:= .bool t9) (u2:= .slice a9 k9 c9) gU.out (Rec.G R2.out (G.trans g3 g1)) trivial trivial
   go_wp2_with fail
   have hT:Hid (Rec (World.setCell (World.setCell w1 ⟨w.heap.size+2,0,none⟩ (.bool t9)) ⟨w.heap.size+2,1,none⟩ (.slice a9 k9 c9)) (w.heap.size+2) [.bool t9,.slice a9 k9 c9]):=Rec.set2 (Rec.G R2.out (G.trans g3 g1))
   have g9:=Rec.g2 (b:=w.heap.size+2) (u:= .bool t9) (v:= .slice a9 k9 c9) (G.trans g0 (G.trans g3 g1)) (by omega)
   generalize (World.setCell (World.setCell w1 ⟨w.heap.size+2,0,none⟩ (.bool t9)) ⟨w.heap.size+2,1,none⟩ (.slice a9 k9 c9))=w9 at *
   have hF:=Rec.f2 (Rec.G hT.out ((G.refl _)))
   have dY:=hF.1
   have dZ:=hF.2.1
   have ed:=hF.2.2.1
   have eB:=hF.2.2.2
   clear hF
   refine bodyPost_ret (v:= .agg #[.bool t9,.slice a9 k9 c9]) (by simp [results,Tryz.results54,go_sem, *]) rfl ?_
   exact⟨_,rfl,g9,a9,k9,c9,by rw[← iQ.out],bJ⟩
  ·have HT:Hid (∀ w1,G w w1→_):=fun w1 g=>q44 w1 (.slice a k c) (.slice a' k' c') n m K (by omega) (hv.G g) (hu.G g) hn (Nat.le_of_not_lt hlt)
   have HS:Hid (∀ w1 v,Num w1 v (n-m)→Calls Tryz.prog 47 #[.bool s,v] w1 (q0M w1 (sgn s n+sgn t m))):=fun w1 v hv=>by
    have h:=q19 w1 v s _ hv
    rw[show sgn s (n-m)=sgn s n+sgn t m from by unfold sgn;cases s<;>cases t<;>simp at hst ⊢ <;>omega] at h
    exact h
   have hcv:decide (cmpV n m<0)=false:=by unfold cmpV;rw[if_neg hlt];split<;>rfl
   generalize cmpV n m=cv at *
   generalize n-m=q at *
   generalize sgn s n+sgn t m=y at *
   clear hv hu hn hm hst hlt
   go_enter Tryz.func54,Tryz.ntmps54
   go_wp2_with fail
   obtain⟨w0,aM,g0,hz0,R0,R1,R2⟩:=q2Y w [.bool s,.slice a k c] [.bool t,.slice a' k' c'] [.bool false,.slice none 0 0] 28 28 28
   rw[aM]
   clear aM
   have hr0:=Rec.f2 R0.out
   have hr1:=Rec.f2 R1.out
   have hq0:=hr0.1
   have hq1:=hr0.2.1
   have hq2:=hr1.1
   have hq3:=hr1.2.1
   clear hr0 hr1
   go_wp2_with fail
   refine Calls.mono (P:=Tryz.prog) (HC.out w0 g0) ?_
   rintro e w3 ⟨rfl,g3⟩
   clear hq0 hq1 hq2 hq3
   have S0:Hid _:=Rec.G R0.out g3
   have S1:Hid _:=Rec.G R1.out g3
   go_wp2_with fail
   refine q08 8 1 #[true,true,true,true,true,true,true,true,false] [.is (.pointer (some ⟨w.heap.size,0,none⟩)),.is (.bool s),.is (.pointer (some ⟨w.heap.size,1,none⟩)),.is (.slice a k c),.is (.pointer (some ⟨w.heap.size+1,1,none⟩)),.is (.slice a' k' c'),.any (fun v w'=>Num w' v (q)),.any (fun v w'=>WholeIs w' v (y))] [some 34,some 35,some 36,some 37,some 38,some 39,some 40,some 41] (by kernel_rfl) (by kernel_rfl) rfl (by kernel_rfl) (by repeat (first|exact trivial|refine⟨fun _ _ _ g h=>by first|exact h.G g|exact fun w3 g3=>h w3 (G.trans g g3),?_⟩)) (by kernel_rfl) (by kernel_rfl) ?_
   refine Letters.is ?_
   refine Letters.is ?_
   refine Letters.is ?_
   refine Letters.is ?_
   refine Letters.is ?_
   refine Letters.is ?_
   refine Letters.any fun v6=> ?_
   refine Letters.any fun v7=> ?_
   refine Letters.nil ?_
   intro A hA
   simp only[q0V,Act.put,List.setIfInBounds_toArray,List.set_cons_zero,List.set_cons_succ] at hA
   subst hA
   refine⟨?_,?_⟩
   ·skip
    refine Eaches.cons rfl ?sU (Eaches.cons rfl ?sV (Eaches.cons rfl ?sW (Eaches.cons rfl ?vV (Eaches.cons rfl ?sZ (Eaches.cons rfl ?tq (Eaches.cons rfl ?zA (Eaches.cons rfl ?zB (Eaches.nil))))))))
    case sU|sW|sZ=>
     intro W hW hD K hK
     clear hD
     go_simp
     exact hK.out _ _ ⟨_,rfl,G.refl _,rfl⟩
    case sV|vV|tq=>
     intro W hW hD K hK
     clear hD
     have hS0:=Rec.f2 (Rec.G S0.out hW)
     have pG:=hS0.1
     have pI:=hS0.2.1
     clear hS0
     have hS1:=Rec.f2 (Rec.G S1.out hW)
     have pJ:=hS1.1
     have pK:=hS1.2.1
     clear hS1
     go_simp
     exact hK.out _ _ ⟨_,rfl,G.refl _,rfl⟩
    ·intro W hW hD K hK
     clear hD
     go_simp
     go_wp2_with (go_at_call 124;refine Calls.mono (P:=Tryz.prog) (HT.out W (G.trans g0 (G.trans g3 hW))) ?_;intro e w9 hs;obtain⟨u9,rfl,g9,aN⟩:=hs)
     exact hK.out _ _ ⟨_,rfl,g9,aN⟩
    ·intro W hW hD K hK
     have h6:=Deps.get (v:=v6) 6 hD rfl rfl (by kernel_rfl)
     clear hD
     go_simp
     go_wp2_with (go_at_call 47;refine Calls.mono (P:=Tryz.prog) (HS.out W v6 h6) ?_;intro e w9 hs;obtain⟨u9,rfl,g9,aN⟩:=hs)
     exact hK.out _ _ ⟨_,rfl,g9,aN⟩
   intro w1 g1 hH
   have h7:=Helds.get (v:=v7) 7 hH rfl rfl
   clear hH
   clear HT HS
   obtain⟨a9,k9,c9,rfl,dB⟩:=h7
   have gU:Hid (Num w1 (.slice a9 k9 c9) (y).natAbs):=dB
   obtain⟨t9,bK⟩:∃ t,t=decide ((y)<0):=⟨_,rfl⟩
   rw[← bK]
   have iQ:Hid (t9=decide ((y)<0)):=bK
   clear dB bK
   have hS:=Rec.f2 (Rec.G R2.out (G.trans g3 g1))
   have bF:=hS.1
   have bG:=hS.2.1
   have bH:=hS.2.2.1
   have bI:=hS.2.2.2
   clear hS
   refine wpAny_ready (rs:=[8]) (by kernel_rfl) (by simp) ?_
   refine AllReady.cons rfl (fun K hK=> ?_) AllReady.nil
   go_simp
   refine hK _ _ ?_
   clear hK K bF bG bH bI
   refine wpAny_done (by kernel_rfl) ?_ _
   have bJ:Num _ _ _:=q1O (u1:= .bool t9) (u2:= .slice a9 k9 c9) gU.out (Rec.G R2.out (G.trans g3 g1)) trivial trivial
   go_wp2_with fail
   have hT:Hid (Rec (World.setCell (World.setCell w1 ⟨w.heap.size+2,0,none⟩ (.bool t9)) ⟨w.heap.size+2,1,none⟩ (.slice a9 k9 c9)) (w.heap.size+2) [.bool t9,.slice a9 k9 c9]):=Rec.set2 (Rec.G R2.out (G.trans g3 g1))
   have g9:=Rec.g2 (b:=w.heap.size+2) (u:= .bool t9) (v:= .slice a9 k9 c9) (G.trans g0 (G.trans g3 g1)) (by omega)
   generalize (World.setCell (World.setCell w1 ⟨w.heap.size+2,0,none⟩ (.bool t9)) ⟨w.heap.size+2,1,none⟩ (.slice a9 k9 c9))=w9 at *
   have hF:=Rec.f2 (Rec.G hT.out ((G.refl _)))
   have dY:=hF.1
   have dZ:=hF.2.1
   have ed:=hF.2.2.1
   have eB:=hF.2.2.2
   clear hF
   refine bodyPost_ret (v:= .agg #[.bool t9,.slice a9 k9 c9]) (by simp [results,Tryz.results54,go_sem, *]) rfl ?_
   exact⟨_,rfl,g9,a9,k9,c9,by rw[← iQ.out],bJ⟩
/-- What is kept below the bar: nothing for 1. -/
def q1Z (d:Nat):Nat:=if d=1 then 0 else d
/-- v is the fraction q. -/
def QIs (w:World) (v:Value) (q:Rat):Prop:=∃ a k c a' k' c',v= .agg #[.bool (decide (q.num<0)),.slice a k c,.slice a' k' c']∧Num w (.slice a k c) q.num.natAbs∧Num w (.slice a' k' c') (q1Z q.den)
theorem QIs.G {w w':World} {v:Value} {q:Rat} (h:QIs w v q) (g:G w w'):QIs w' v q:=by
 obtain⟨a,k,c,a',k',c',e,h2,h3⟩:=h
 exact⟨a,k,c,a',k',c',e,h2.G g,h3.G g⟩
/-- A call hands back the fraction q. -/
def RetQ (w:World) (q:Rat) (e:Ending) (w':World):Prop:=∃ v,e= .returned v∧G w w'∧QIs w' v q
/-- Lowest terms are told by the number alone. -/
theorem rat_low {q:Rat} {z:Int} {d:Nat} (hd:0<d) (hc:Nat.gcd z.natAbs d=1) (h:z*q.den=q.num*d):q.num=z∧q.den=d:=by
 have e:(Rat.mk' z d (by omega) hc)=q:=by
  rw[Rat.mk_eq_divInt,← Rat.num_divInt_den q,Rat.divInt_eq_divInt_iff (by omega) (by have:=q.den_pos;omega)]
  exact h
 rw[← e]
 exact⟨rfl,rfl⟩
theorem mk_cross {q:Rat} {n:Int} {d:Nat} (hd:0<d) (h:q=mkRat n d):n*q.den=q.num*d:=by
 have h2:mkRat n d=mkRat q.num q.den:=by rw[Rat.mkRat_self];exact h.symm
 exact(Rat.mkRat_eq_iff (by omega) q.den_nz).1 h2
theorem num_nil (w:World) (a:Option Addr) (c:Nat):Num w (.slice a 0 c) 0:=⟨[],⟨q1d,Or.inl ⟨rfl,_,_,rfl⟩⟩,q0X,rfl⟩
theorem q9G (w:World):QIs w (.agg #[.bool false,.slice none 0 0,.slice none 0 0]) 0:=⟨none,0,0,none,0,0,rfl,num_nil _ _ _,num_nil _ _ _⟩
theorem qbu {w:World} {t:Bool} {a a':Option Addr} {k c k' c':Nat} {q:Rat} (h:QIs w (.agg #[.bool t,.slice a k c,.slice a' k' c']) q):Num w (.slice a k c) q.num.natAbs:=by
 obtain⟨_,_,_,_,_,_,e,h1,h2⟩:=h
 simp only[Value.agg.injEq,Array.mk.injEq,List.cons.injEq,Value.slice.injEq,and_true,Value.bool.injEq] at e
 obtain⟨-,⟨rfl,rfl,rfl⟩,rfl,rfl,rfl⟩:=e
 exact h1
theorem qbT {w:World} {t:Bool} {a a':Option Addr} {k c k' c':Nat} {q:Rat} (h:QIs w (.agg #[.bool t,.slice a k c,.slice a' k' c']) q):Num w (.slice a' k' c') (q1Z q.den):=by
 obtain⟨_,_,_,_,_,_,e,h1,h2⟩:=h
 simp only[Value.agg.injEq,Array.mk.injEq,List.cons.injEq,Value.slice.injEq,and_true,Value.bool.injEq] at e
 obtain⟨-,⟨rfl,rfl,rfl⟩,rfl,rfl,rfl⟩:=e
 exact h2
theorem q4C (w:World) (z:Int) (h1: -9223372036854775808≤z) (h2:z<9223372036854775808):
  Calls Tryz.prog 111 #[.int .i64 z] w (q0M w z):=by
 by_cases h0:z<0
 ·obtain⟨n,rfl⟩:∃ n:Nat,z= -(n:Int):=⟨z.natAbs,by omega⟩
  have hn:n<18446744073709551616:=by omega
  have HW:Hid (∀ w1,_):=fun w1=>q5j w1 n hn
  have HS:Hid (∀ w1 v,Num w1 v n→Calls Tryz.prog 47 #[.bool true,v] w1 (q0M w1 (-(n:Int)))):=fun w1 v hv=>q19 w1 v true n hv
  have hd:decide (-(n:Int)<0)=true:=by simp;omega
  have hn1:(1:Int)≤n:=by omega
  have hn2:(n:Int)≤9223372036854775808:=by omega
  have hu:IntKind.u64.wrap (-(n:Int))=18446744073709551616-n:=by rw[IntKind.wrap_u64];omega
  have hu2:IntKind.u64.wrap (-(18446744073709551616-(n:Int)))=n:=by rw[IntKind.wrap_u64];omega
  generalize (-(n:Int))=z at *
  clear h0 h1 h2 hn
  go_enter Tryz.func111,Tryz.ntmps111
  go_wp2_with fail
  obtain⟨w0,aM,g0,hz0,R0⟩:=q0x w [.bool false,.slice none 0 0] 28
  rw[aM]
  clear aM
  refine Calls.mono (P:=Tryz.prog) (HW.out w0) ?_
  intro e w1 hs
  obtain⟨v,rfl,g1,h4⟩:=hs
  go_wp2_with fail
  refine Calls.mono (P:=Tryz.prog) (HS.out w1 v h4) ?_
  intro e w2 hs
  obtain⟨u,rfl,g2,h5⟩:=hs
  clear HW HS h4 hd hu hu2
  obtain⟨a9,k9,c9,rfl,dB⟩:=h5
  have gU:Hid (Num w2 (.slice a9 k9 c9) (z).natAbs):=dB
  obtain⟨t9,bK⟩:∃ t,t=decide ((z)<0):=⟨_,rfl⟩
  rw[← bK]
  have iQ:Hid (t9=decide ((z)<0)):=bK
  clear dB bK
  have hS:=Rec.f2 (Rec.G R0.out ((G.trans g1 g2)))
  have bF:=hS.1
  have bG:=hS.2.1
  have bH:=hS.2.2.1
  have bI:=hS.2.2.2
  clear hS
  have bJ:Num _ _ _:=q1O (u1:= .bool t9) (u2:= .slice a9 k9 c9) gU.out (Rec.G R0.out (G.trans g1 g2)) trivial trivial
  go_wp2_with fail
  have hT:Hid (Rec (World.setCell (World.setCell w2 ⟨w.heap.size,0,none⟩ (.bool t9)) ⟨w.heap.size,1,none⟩ (.slice a9 k9 c9)) (w.heap.size) [.bool t9,.slice a9 k9 c9]):=Rec.set2 (Rec.G R0.out (G.trans g1 g2))
  have g9:=Rec.g2 (b:=w.heap.size) (u:= .bool t9) (v:= .slice a9 k9 c9) (G.trans g0 (G.trans g1 g2)) (by omega)
  generalize (World.setCell (World.setCell w2 ⟨w.heap.size,0,none⟩ (.bool t9)) ⟨w.heap.size,1,none⟩ (.slice a9 k9 c9))=w9 at *
  have hF:=Rec.f2 (Rec.G hT.out ((G.refl _)))
  have dY:=hF.1
  have dZ:=hF.2.1
  have ed:=hF.2.2.1
  have eB:=hF.2.2.2
  clear hF
  refine bodyPost_ret (v:= .agg #[.bool t9,.slice a9 k9 c9]) (by simp [results,Tryz.results111,go_sem, *]) rfl ?_
  exact⟨_,rfl,g9,a9,k9,c9,by rw[← iQ.out],bJ⟩
 ·obtain⟨n,rfl⟩:∃ n:Nat,z=(n:Int):=⟨z.natAbs,by omega⟩
  have hn:n<18446744073709551616:=by omega
  have HW:Hid (∀ w1,_):=fun w1=>q5j w1 n hn
  have HS:Hid (∀ w1 v,Num w1 v n→Calls Tryz.prog 47 #[.bool false,v] w1 (q0M w1 (n:Int))):=fun w1 v hv=>q19 w1 v false n hv
  have hn1:(0:Int)≤n:=by omega
  have hn2:(n:Int)≤9223372036854775807:=by omega
  have hd:decide ((n:Int)<0)=false:=by simp
  clear h0 h1 h2 hn
  go_enter Tryz.func111,Tryz.ntmps111
  go_wp2_with fail
  obtain⟨w0,aM,g0,hz0,R0⟩:=q0x w [.bool false,.slice none 0 0] 28
  rw[aM]
  clear aM
  refine Calls.mono (P:=Tryz.prog) (HW.out w0) ?_
  intro e w1 hs
  obtain⟨v,rfl,g1,h4⟩:=hs
  go_wp2_with fail
  refine Calls.mono (P:=Tryz.prog) (HS.out w1 v h4) ?_
  intro e w2 hs
  obtain⟨u,rfl,g2,h5⟩:=hs
  clear HW HS h4 hd
  obtain⟨a9,k9,c9,rfl,dB⟩:=h5
  have gU:Hid (Num w2 (.slice a9 k9 c9) ((n:Int)).natAbs):=dB
  obtain⟨t9,bK⟩:∃ t,t=decide (((n:Int))<0):=⟨_,rfl⟩
  rw[← bK]
  have iQ:Hid (t9=decide (((n:Int))<0)):=bK
  clear dB bK
  have hS:=Rec.f2 (Rec.G R0.out ((G.trans g1 g2)))
  have bF:=hS.1
  have bG:=hS.2.1
  have bH:=hS.2.2.1
  have bI:=hS.2.2.2
  clear hS
  have bJ:Num _ _ _:=q1O (u1:= .bool t9) (u2:= .slice a9 k9 c9) gU.out (Rec.G R0.out (G.trans g1 g2)) trivial trivial
  go_wp2_with fail
  have hT:Hid (Rec (World.setCell (World.setCell w2 ⟨w.heap.size,0,none⟩ (.bool t9)) ⟨w.heap.size,1,none⟩ (.slice a9 k9 c9)) (w.heap.size) [.bool t9,.slice a9 k9 c9]):=Rec.set2 (Rec.G R0.out (G.trans g1 g2))
  have g9:=Rec.g2 (b:=w.heap.size) (u:= .bool t9) (v:= .slice a9 k9 c9) (G.trans g0 (G.trans g1 g2)) (by omega)
  generalize (World.setCell (World.setCell w2 ⟨w.heap.size,0,none⟩ (.bool t9)) ⟨w.heap.size,1,none⟩ (.slice a9 k9 c9))=w9 at *
  have hF:=Rec.f2 (Rec.G hT.out ((G.refl _)))
  have dY:=hF.1
  have dZ:=hF.2.1
  have ed:=hF.2.2.1
  have eB:=hF.2.2.2
  clear hF
  refine bodyPost_ret (v:= .agg #[.bool t9,.slice a9 k9 c9]) (by simp [results,Tryz.results111,go_sem, *]) rfl ?_
  exact⟨_,rfl,g9,a9,k9,c9,by rw[← iQ.out],bJ⟩
theorem q1t (w:World) (t l:Value) (z:Int) (d K:Nat) (q:Rat) (ht:WholeIs w t z) (hl:Num w l d) (hd0:0<d) (hd:d<2^(64*K)) (hc:z≠0→Nat.gcd z.natAbs d=1) (hq0:q=mkRat z d):
  Calls Tryz.prog 46 #[t,l] w (RetQ w q):=by
 have hq:=mk_cross hd0 hq0
 clear hq0
 have HS:Hid (∀ w1,G w w1→_):=fun w1 g=>q8j w1 t z (ht.G g)
 obtain⟨a,k,c,rfl,hm⟩:=ht
 by_cases h0:z=0
 ·subst h0
  have hq0:q=0:=by
   have h1:q.num*(d:Int)=0:=by rw[← hq];simp
   have h2:q.num=0:=by rcases Int.mul_eq_zero.1 h1 with h|h;exact h;omega
   exact Rat.num_eq_zero.1 h2
  rw[hq0]
  rw[show decide ((0:Int)<0)=false from rfl] at *
  clear hl hd0 hd hc hm hq hq0
  go_enter Tryz.func46,Tryz.ntmps46
  go_wp2_with fail
  obtain⟨w0,aM,g0,hz0,R0,R1⟩:=q3X w [.bool false,.slice a k c] [.bool false,.slice none 0 0,.slice none 0 0] 28 30
  rw[aM]
  clear aM
  refine Calls.mono (P:=Tryz.prog) (HS.out w0 g0) ?_
  rintro e w1 ⟨rfl,g1⟩
  clear HS
  have hS:=Rec.f3 (Rec.G R1.out ((g1)))
  have bF:=hS.1
  have bG:=hS.2.1
  have bH:=hS.2.2.1
  have bI:=hS.2.2.2.1
  have dV:=hS.2.2.2.2.1
  have dW:=hS.2.2.2.2.2
  clear hS
  go_wp2_with fail
  have hT:Hid (Rec (World.setCell (World.setCell (World.setCell w1 ⟨w.heap.size+1,0,none⟩ (.bool false)) ⟨w.heap.size+1,1,none⟩ (.slice none 0 0)) ⟨w.heap.size+1,2,none⟩ (.slice none 0 0)) (w.heap.size+1) [.bool false,.slice none 0 0,.slice none 0 0]):=Rec.set3 (Rec.G R1.out (g1))
  have g9:=Rec.g3 (b:=w.heap.size+1) (u:= .bool false) (v:= .slice none 0 0) (x:= .slice none 0 0) (G.trans g0 g1) (by omega)
  generalize (World.setCell (World.setCell (World.setCell w1 ⟨w.heap.size+1,0,none⟩ (.bool false)) ⟨w.heap.size+1,1,none⟩ (.slice none 0 0)) ⟨w.heap.size+1,2,none⟩ (.slice none 0 0))=w9 at *
  have hF:=Rec.f3 (Rec.G hT.out ((G.refl _)))
  have dY:=hF.1
  have dZ:=hF.2.1
  have ed:=hF.2.2.1
  have eB:=hF.2.2.2.1
  have iD:=hF.2.2.2.2.1
  have iE:=hF.2.2.2.2.2
  clear hF
  refine bodyPost_ret (v:= .agg #[.bool false,.slice none 0 0,.slice none 0 0]) (by simp [results,Tryz.results46,go_sem, *]) rfl ?_
  exact⟨_,rfl,g9,q9G w9⟩
 ·obtain⟨rfl,rfl⟩:=rat_low hd0 (hc h0) hq
  have HO:Hid (∀ w1,G w w1→_):=fun w1 g=>qbk w1 l q.den K (hl.G g) hd
  have hsg:(q.num.sign==0)=false:=by
   rcases Int.lt_trichotomy q.num 0 with h|h|h
   ·rw[Int.sign_eq_neg_one_of_neg h];rfl
   ·exact absurd h h0
   ·rw[Int.sign_eq_one_of_pos h];rfl
  obtain⟨a',k',c',rfl,-⟩:=q1E hl
  have HL:Hid (Num w (.slice a' k' c') q.den):=hl
  obtain⟨t,uG⟩:∃ t,t=decide (q.num<0):=⟨_,rfl⟩
  rw[← uG] at HS ⊢
  have HT:Hid (t=decide (q.num<0)):=uG
  have HM:Hid (Num w (.slice a k c) q.num.natAbs):=hm
  generalize q.num.sign=sg at *
  clear hd0 hd hc hl uG hm hq
  by_cases h1:q.den=1
  ·rw[decide_eq_true h1] at HO
   go_enter Tryz.func46,Tryz.ntmps46
   go_wp2_with fail
   obtain⟨w0,aM,g0,hz0,R0,R1⟩:=q3X w [.bool t,.slice a k c] [.bool false,.slice none 0 0,.slice none 0 0] 28 30
   rw[aM]
   clear aM
   refine Calls.mono (P:=Tryz.prog) (HS.out w0 g0) ?_
   rintro e w1 ⟨rfl,g1⟩
   go_wp2_with fail
   refine Calls.mono (P:=Tryz.prog) (HO.out w1 (G.trans g0 g1)) ?_
   rintro e w2 ⟨rfl,g2⟩
   have hr0:=Rec.f2 (Rec.G R0.out (G.trans g1 g2))
   have hq0:=hr0.1
   have hq1:=hr0.2.1
   have h5:QIs w2 (.agg #[.bool (decide (q.num<0)),.slice a k c,.slice none 0 0]) q:=⟨a,k,c,none,0,0,rfl,HM.out.G (G.trans g0 (G.trans g1 g2)),by unfold q1Z;rw[if_pos h1];exact num_nil _ _ _⟩
   clear hr0 HS HO h0 h1 hsg
   have JG:Hid (Num w2 (.slice a k c) (q).num.natAbs):=qbu h5
   have JH:Hid (Num w2 (.slice none 0 0) (q1Z (q).den)):=qbT h5
   clear h5
   have hS:=Rec.f3 (Rec.G R1.out ((G.trans g1 g2)))
   have bF:=hS.1
   have bG:=hS.2.1
   have bH:=hS.2.2.1
   have bI:=hS.2.2.2.1
   have dV:=hS.2.2.2.2.1
   have dW:=hS.2.2.2.2.2
   clear hS
   have dX:Num _ _ _:=q0o (u1:= .bool t) (u2:= .slice a k c) (u3:= .slice none 0 0) JG.out (Rec.G R1.out (G.trans g1 g2)) trivial trivial trivial
   have bJ:Num _ _ _:=q0o (u1:= .bool t) (u2:= .slice a k c) (u3:= .slice none 0 0) JH.out (Rec.G R1.out (G.trans g1 g2)) trivial trivial trivial
   go_wp2_with fail
   have hT:Hid (Rec (World.setCell (World.setCell (World.setCell w2 ⟨w.heap.size+1,0,none⟩ (.bool t)) ⟨w.heap.size+1,1,none⟩ (.slice a k c)) ⟨w.heap.size+1,2,none⟩ (.slice none 0 0)) (w.heap.size+1) [.bool t,.slice a k c,.slice none 0 0]):=Rec.set3 (Rec.G R1.out (G.trans g1 g2))
   have g9:=Rec.g3 (b:=w.heap.size+1) (u:= .bool t) (v:= .slice a k c) (x:= .slice none 0 0) (G.trans g0 (G.trans g1 g2)) (by omega)
   generalize (World.setCell (World.setCell (World.setCell w2 ⟨w.heap.size+1,0,none⟩ (.bool t)) ⟨w.heap.size+1,1,none⟩ (.slice a k c)) ⟨w.heap.size+1,2,none⟩ (.slice none 0 0))=w9 at *
   have hF:=Rec.f3 (Rec.G hT.out ((G.refl _)))
   have dY:=hF.1
   have dZ:=hF.2.1
   have ed:=hF.2.2.1
   have eB:=hF.2.2.2.1
   have iD:=hF.2.2.2.2.1
   have iE:=hF.2.2.2.2.2
   clear hF
   refine bodyPost_ret (v:= .agg #[.bool t,.slice a k c,.slice none 0 0]) (by simp [results,Tryz.results46,go_sem, *]) rfl ?_
   exact⟨_,rfl,g9,a,k,c,none,0,0,by rw[← HT.out],dX,bJ⟩
  ·rw[decide_eq_false h1] at HO
   go_enter Tryz.func46,Tryz.ntmps46
   go_wp2_with fail
   obtain⟨w0,aM,g0,hz0,R0,R1⟩:=q3X w [.bool t,.slice a k c] [.bool false,.slice none 0 0,.slice none 0 0] 28 30
   rw[aM]
   clear aM
   refine Calls.mono (P:=Tryz.prog) (HS.out w0 g0) ?_
   rintro e w1 ⟨rfl,g1⟩
   go_wp2_with fail
   refine Calls.mono (P:=Tryz.prog) (HO.out w1 (G.trans g0 g1)) ?_
   rintro e w2 ⟨rfl,g2⟩
   have hr0:=Rec.f2 (Rec.G R0.out (G.trans g1 g2))
   have hq0:=hr0.1
   have hq1:=hr0.2.1
   have h5:QIs w2 (.agg #[.bool (decide (q.num<0)),.slice a k c,.slice a' k' c']) q:=⟨a,k,c,a',k',c',rfl,HM.out.G (G.trans g0 (G.trans g1 g2)),by unfold q1Z;rw[if_neg h1];exact HL.out.G (G.trans g0 (G.trans g1 g2))⟩
   clear hr0 HS HO h0 h1 hsg
   have JG:Hid (Num w2 (.slice a k c) (q).num.natAbs):=qbu h5
   have JH:Hid (Num w2 (.slice a' k' c') (q1Z (q).den)):=qbT h5
   clear h5
   have hS:=Rec.f3 (Rec.G R1.out ((G.trans g1 g2)))
   have bF:=hS.1
   have bG:=hS.2.1
   have bH:=hS.2.2.1
   have bI:=hS.2.2.2.1
   have dV:=hS.2.2.2.2.1
   have dW:=hS.2.2.2.2.2
   clear hS
   have dX:Num _ _ _:=q0o (u1:= .bool t) (u2:= .slice a k c) (u3:= .slice a' k' c') JG.out (Rec.G R1.out (G.trans g1 g2)) trivial trivial trivial
   have bJ:Num _ _ _:=q0o (u1:= .bool t) (u2:= .slice a k c) (u3:= .slice a' k' c') JH.out (Rec.G R1.out (G.trans g1 g2)) trivial trivial trivial
   go_wp2_with fail
   have hT:Hid (Rec (World.setCell (World.setCell (World.setCell w2 ⟨w.heap.size+1,0,none⟩ (.bool t)) ⟨w.heap.size+1,1,none⟩ (.slice a k c)) ⟨w.heap.size+1,2,none⟩ (.slice a' k' c')) (w.heap.size+1) [.bool t,.slice a k c,.slice a' k' c']):=Rec.set3 (Rec.G R1.out (G.trans g1 g2))
   have g9:=Rec.g3 (b:=w.heap.size+1) (u:= .bool t) (v:= .slice a k c) (x:= .slice a' k' c') (G.trans g0 (G.trans g1 g2)) (by omega)
   generalize (World.setCell (World.setCell (World.setCell w2 ⟨w.heap.size+1,0,none⟩ (.bool t)) ⟨w.heap.size+1,1,none⟩ (.slice a k c)) ⟨w.heap.size+1,2,none⟩ (.slice a' k' c'))=w9 at *
   have hF:=Rec.f3 (Rec.G hT.out ((G.refl _)))
   have dY:=hF.1
   have dZ:=hF.2.1
   have ed:=hF.2.2.1
   have eB:=hF.2.2.2.1
   have iD:=hF.2.2.2.2.1
   have iE:=hF.2.2.2.2.2
   clear hF
   refine bodyPost_ret (v:= .agg #[.bool t,.slice a k c,.slice a' k' c']) (by simp [results,Tryz.results46,go_sem, *]) rfl ?_
   exact⟨_,rfl,g9,a,k,c,a',k',c',by rw[← HT.out],dX,bJ⟩
/-- How great a fraction's parts are. -/
def QB (q:Rat) (K:Nat):Prop:=q.num.natAbs<2^(64*K)∧q.den<2^(64*K)
theorem QB.mono {q:Rat} {K L:Nat} (h:QB q K) (hl:K≤L):QB q L:=
 ⟨Nat.lt_of_lt_of_le h.1 (Nat.pow_le_pow_right (by omega) (by omega)),Nat.lt_of_lt_of_le h.2 (Nat.pow_le_pow_right (by omega) (by omega))⟩
theorem q1h {a b K L:Nat} (ha:a<2^(64*K)) (hb:b<2^(64*L)):a*b<2^(64*(K+L)):=by
 rw[show 64*(K+L)=64*K+64*L from by omega,Nat.pow_add]
 exact Nat.mul_lt_mul'' ha hb
theorem q4l {a b:Nat} (h:0<b):Nat.gcd (a/Nat.gcd a b) (b/Nat.gcd a b)=1:=Nat.gcd_div_gcd_div_gcd_of_pos_right h
theorem q2L {a b c d:Nat} (h:Nat.gcd a b=1) (hc:c∣a) (hd:d∣b):Nat.gcd c d=1:=
 Nat.eq_one_of_dvd_one (h▸Nat.dvd_gcd (Nat.dvd_trans (Nat.gcd_dvd_left c d) hc) (Nat.dvd_trans (Nat.gcd_dvd_right c d) hd))
theorem q8p {a c e b:Nat} (h1:Nat.gcd a e=1) (h2:Nat.gcd a b=1) (h3:Nat.gcd c e=1) (h4:Nat.gcd c b=1):Nat.gcd (a*c) (e*b)=1:=
 Nat.Coprime.mul_left (Nat.Coprime.mul_right h1 h2) (Nat.Coprime.mul_right h3 h4)
/-- What a product comes to, in lowest terms. -/
theorem qas (x y:Rat):Nat.gcd (x.num.natAbs/Nat.gcd x.num.natAbs y.den*(y.num.natAbs/Nat.gcd y.num.natAbs x.den)) (x.den/Nat.gcd y.num.natAbs x.den*(y.den/Nat.gcd x.num.natAbs y.den))=1:=by
 have hx:=x.reduced
 have hy:=y.reduced
 have hxd:=x.den_pos
 have om:=y.den_pos
 refine q8p ?_ (q4l om) (q4l hxd) ?_
 ·exact q2L hx (Nat.div_dvd_of_dvd (Nat.gcd_dvd_left _ _)) (Nat.div_dvd_of_dvd (Nat.gcd_dvd_right _ _))
 ·exact q2L hy (Nat.div_dvd_of_dvd (Nat.gcd_dvd_left _ _)) (Nat.div_dvd_of_dvd (Nat.gcd_dvd_right _ _))
theorem qa3 (s t:Bool) (n m:Nat):sgn (s != t) (n*m)=sgn s n*sgn t m:=by
 unfold sgn
 cases s<;>cases t<;>simp [Int.neg_mul,Int.mul_neg]
theorem q9Q (x y:Rat):x*y=mkRat (sgn (decide (x.num<0) != decide (y.num<0)) (x.num.natAbs/Nat.gcd x.num.natAbs y.den*(y.num.natAbs/Nat.gcd y.num.natAbs x.den))) (x.den/Nat.gcd y.num.natAbs x.den*(y.den/Nat.gcd x.num.natAbs y.den)):=by
 have hxd:=x.den_pos
 have om:=y.den_pos
 rw[Rat.mul_def']
 obtain⟨a,ha⟩:=Nat.gcd_dvd_left x.num.natAbs y.den
 obtain⟨b,hb⟩:=Nat.gcd_dvd_right x.num.natAbs y.den
 obtain⟨c,hc⟩:=Nat.gcd_dvd_left y.num.natAbs x.den
 obtain⟨e,he⟩:=Nat.gcd_dvd_right y.num.natAbs x.den
 have hg:0<Nat.gcd x.num.natAbs y.den:=Nat.gcd_pos_of_pos_right _ om
 have hh:0<Nat.gcd y.num.natAbs x.den:=Nat.gcd_pos_of_pos_right _ hxd
 generalize Nat.gcd x.num.natAbs y.den=g at *
 generalize Nat.gcd y.num.natAbs x.den=h at *
 have e1:x.num.natAbs/g=a:=by rw[ha];exact Nat.mul_div_cancel_left _ hg
 have e2:y.den/g=b:=by rw[hb];exact Nat.mul_div_cancel_left _ hg
 have e3:y.num.natAbs/h=c:=by rw[hc];exact Nat.mul_div_cancel_left _ hh
 have e4:x.den/h=e:=by rw[he];exact Nat.mul_div_cancel_left _ hh
 rw[e1,e2,e3,e4]
 have hb0:b≠0:=by rintro rfl;omega
 have he0:e≠0:=by rintro rfl;omega
 rw[Rat.mkRat_eq_iff (Nat.mul_ne_zero (by omega) (by omega)) (Nat.mul_ne_zero he0 hb0)]
 have hx:x.num=sgn (decide (x.num<0)) (g*a):=by rw[← ha];exact(q23 _).symm
 have hy:y.num=sgn (decide (y.num<0)) (h*c):=by rw[← hc];exact(q23 _).symm
 generalize decide (x.num<0)=s at *
 generalize decide (y.num<0)=t at *
 rw[hx,hy,hb,he,← qa3]
 clear ha hb hc he hg hh e1 e2 e3 e4 hx hy hb0 he0 hxd om
 have e5:∀ (r:Bool) (p q k l:Nat),p*k=q*l→sgn r p*(k:Int)=sgn r q*(l:Int):=by
  intro r p q k l hpq
  have h1:(p:Int)*k=(q:Int)*l:=by rw[← Int.natCast_mul,hpq,Int.natCast_mul]
  unfold sgn
  cases r
  ·exact h1
  ·simp only[if_true,Int.neg_mul,h1]
 exact e5 _ _ _ _ _ (by ac_rfl)
theorem q9F {w:World} {b:Nat} {e:TypeId} (hb:b=w.heap.size):Num (w.alloc (.cells #[.int .u64 1] e)) (.slice (some ⟨b,0,none⟩) 1 1) 1:=by
 subst hb;exact q1I (d:=1) (by decide) (by decide)
theorem q6I (w:World) (v:Value) (q:Rat) (h:QIs w v q):
  Calls Tryz.prog 48 #[v] w (q0e w q.den):=by
 obtain⟨a,k,c,a',k',c',rfl,h1,h2⟩:=h
 obtain⟨a2,k2,c2,e,hk1,-,hk⟩:=q1E h2
 injection e with e1 e2 e3
 subst e1;subst e2;subst e3
 have hd:=q.den_pos
 obtain⟨t,ht⟩:∃ t,t=decide (q.num<0):=⟨_,rfl⟩
 rw[← ht]
 clear ht
 by_cases h0:q.den=1
 ·have hk0:k'=0:=hk1.2 (by unfold q1Z;rw[if_pos h0])
  subst hk0
  rw[h0]
  go_enter Tryz.func48,Tryz.ntmps48
  go_wp2_with fail
  go_ret
  exact⟨_,rfl,((G.refl _).alloc _).alloc _,q9F (by simp)⟩
 ·have hl:q1Z q.den=q.den:=by unfold q1Z;rw[if_neg h0]
  rw[hl] at h2 hk
  have hk2:((k':Int)==0)=false:=by rw[hk];simp;omega
  have H2:Hid (Num w (.slice a' k' c') q.den):=h2
  clear hk hk1 h0 hl h1 hd h2
  go_enter Tryz.func48,Tryz.ntmps48
  go_wp2_with fail
  go_ret
  exact⟨_,rfl,(G.refl _).alloc _,H2.out.G ((G.refl _).alloc _)⟩
set_option maxHeartbeats 1000000 in
theorem q9K (w:World) (v u:Value) (x y:Rat) (K:Nat) (hK:K≤100000) (hK1:1≤K) (hT:Tab w) (hx:QIs w v x) (hy:QIs w u y) (bx:QB x K) (mq:QB y K):
  Calls Tryz.prog 13 #[v,u] w (RetQ w (x*y)):=by
 have oV:Hid (∀ w1,G w w1→_):=fun w1 g=>q6I w1 v x (hx.G g)
 have sQ:Hid (∀ w1,G w w1→_):=fun w1 g=>q6I w1 u y (hy.G g)
 have hlow:=qas x y
 have hval:=q9Q x y
 obtain⟨a,k,c,a',k',c',rfl,hx1,hx2⟩:=hx
 obtain⟨b,j,e,b',j',e',rfl,hy1,hy2⟩:=hy
 obtain⟨bx1,Dz⟩:=bx
 obtain⟨Gm,DC⟩:=mq
 have hxd:=x.den_pos
 have om:=y.den_pos
 obtain⟨g,hg⟩:∃ g,g=Nat.gcd x.num.natAbs y.den:=⟨_,rfl⟩
 obtain⟨h,hh⟩:∃ h,h=Nat.gcd y.num.natAbs x.den:=⟨_,rfl⟩
 have hg0:0<g:=by rw[hg];exact Nat.gcd_pos_of_pos_right _ om
 have hh0:0<h:=by rw[hh];exact Nat.gcd_pos_of_pos_right _ hxd
 have hgb:g<2^(64*K):=Nat.lt_of_le_of_lt (by rw[hg];exact Nat.gcd_le_right _ om) DC
 have JD:h<2^(64*K):=Nat.lt_of_le_of_lt (by rw[hh];exact Nat.gcd_le_right _ hxd) Dz
 have mo:Hid (∀ w1 v1,G w w1→Num w1 v1 y.den→Calls Tryz.prog 56 #[.slice a k c,v1] w1 (q0e w1 g)):=fun w1 v1 g1 h1=>by
  rw[hg];exact q1T w1 _ v1 _ _ K (by omega) hK1 (hT.G g1) (hx1.G g1) h1 bx1 DC
 have iY:Hid (∀ w1 v1,G w w1→Num w1 v1 x.den→Calls Tryz.prog 56 #[.slice b j e,v1] w1 (q0e w1 h)):=fun w1 v1 g1 h1=>by
  rw[hh];exact q1T w1 _ v1 _ _ K (by omega) hK1 (hT.G g1) (hy1.G g1) h1 Gm Dz
 rw[← hg,← hh] at hlow hval
 have uP:Hid (∀ w1 v1,G w w1→Num w1 v1 g→_):=fun w1 v1 g1 h1=>q31 w1 (.slice a k c) v1 _ g K (by omega) hK1 (hx1.G g1) h1 bx1 hgb hg0
 have ja:Hid (∀ w1 v1,G w w1→Num w1 v1 h→_):=fun w1 v1 g1 h1=>q31 w1 (.slice b j e) v1 _ h K (by omega) hK1 (hy1.G g1) h1 Gm JD hh0
 have wT:Hid (∀ w1 v1 v2,Num w1 v1 x.den→Num w1 v2 h→_):=fun w1 v1 v2 h1 h2=>q31 w1 v1 v2 _ h K (by omega) hK1 h1 h2 Dz JD hh0
 have sF:Hid (∀ w1 v1 v2,Num w1 v1 y.den→Num w1 v2 g→_):=fun w1 v1 v2 h1 h2=>q31 w1 v1 v2 _ g K (by omega) hK1 h1 h2 DC hgb hg0
 have q1:x.num.natAbs/g<2^(64*K):=Nat.lt_of_le_of_lt (Nat.div_le_self _ _) bx1
 have q2:y.num.natAbs/h<2^(64*K):=Nat.lt_of_le_of_lt (Nat.div_le_self _ _) Gm
 have q3:x.den/h<2^(64*K):=Nat.lt_of_le_of_lt (Nat.div_le_self _ _) Dz
 have q4:y.den/g<2^(64*K):=Nat.lt_of_le_of_lt (Nat.div_le_self _ _) DC
 have q5:0<x.den/h:=Nat.div_pos (by rw[hh];exact Nat.gcd_le_right _ hxd) hh0
 have q6:0<y.den/g:=Nat.div_pos (by rw[hg];exact Nat.gcd_le_right _ om) hg0
 clear hg hh hg0 hh0 hgb JD bx1 Dz Gm DC hxd om hx2 hy2 hx1 hy1 hT
 obtain⟨s,hs⟩:∃ s,s=decide (x.num<0):=⟨_,rfl⟩
 obtain⟨t,ht⟩:∃ t,t=decide (y.num<0):=⟨_,rfl⟩
 rw[← hs,← ht] at hval
 rw[← hs] at oV
 rw[← ht] at sQ
 rw[← hs,← ht]
 clear hs ht
 generalize x.num.natAbs/g=A at *
 generalize y.num.natAbs/h=B at *
 generalize x.den/h=C at *
 generalize y.den/g=D at *
 have HT1:Hid (∀ w1 v1 v2,Num w1 v1 A→Num w1 v2 B→_):=fun w1 v1 v2 h1 h2=>q29 w1 v1 v2 A B K (by omega) h1 h2 q1 q2
 have HT2:Hid (∀ w1 v1 v2,Num w1 v1 C→Num w1 v2 D→_):=fun w1 v1 v2 h1 h2=>q29 w1 v1 v2 C D K (by omega) h1 h2 q3 q4
 have HS:Hid (∀ w1 v1,Num w1 v1 (A*B)→_):=fun w1 v1 h1=>q19 w1 v1 (s != t) (A*B) h1
 have HF:Hid (∀ w1 v1 v2,WholeIs w1 v1 (sgn (s != t) (A*B))→Num w1 v2 (C*D)→Calls Tryz.prog 46 #[v1,v2] w1 (RetQ w1 (x*y))):=fun w1 v1 v2 h1 h2=>
  q1t w1 v1 v2 _ (C*D) (K+K) (x*y) h1 h2 (Nat.mul_pos q5 q6) (q1h q3 q4) (fun _=>by rw[q2r];exact hlow) hval
 clear q1 q2 q3 q4 q5 q6 hlow hval
 generalize A*B=N at *
 generalize C*D=M at *
 generalize sgn (s != t) N=z at *
 obtain⟨p,hp⟩:∃ p,p=x.den:=⟨_,rfl⟩
 obtain⟨r,hr⟩:∃ r,r=y.den:=⟨_,rfl⟩
 rw[← hp] at oV iY wT
 rw[← hr] at sQ mo sF
 clear hp hr
 generalize x*y=q at *
 go_enter Tryz.func13,Tryz.ntmps13
 go_wp2_with fail
 obtain⟨w0,aM,g0,hz0,R0,R1,R2⟩:=q2Y w [.bool s,.slice a k c,.slice a' k' c'] [.bool t,.slice b j e,.slice b' j' e'] [.bool false,.slice none 0 0,.slice none 0 0] 30 30 30
 rw[aM]
 clear aM
 refine q08 14 0 #[true,true,true,true,true,true,true,true,true,true,true,true,true,true] [.is (.pointer (some ⟨w.heap.size,0,none⟩)),.is (.pointer (some ⟨w.heap.size,1,none⟩)),.is (.slice a k c),.is (.agg #[.bool t,.slice b j e,.slice b' j' e']),.any (fun v w'=>Num w' v (r)),.any (fun v w'=>Num w' v (g)),.is (.pointer (some ⟨w.heap.size+1,0,none⟩)),.is (.pointer (some ⟨w.heap.size+1,1,none⟩)),.is (.slice b j e),.is (.agg #[.bool s,.slice a k c,.slice a' k' c']),.any (fun v w'=>Num w' v (p)),.any (fun v w'=>Num w' v (h)),.any (fun v w'=>Num w' v (g)),.any (fun v w'=>Num w' v (h))] [some 9,some 10,some 11,some 12,some 13,some 14,some 15,some 16,some 17,some 18,some 19,some 20,some 5,some 6] (by kernel_rfl) (by kernel_rfl) rfl (by kernel_rfl) (by repeat (first|exact trivial|refine⟨fun _ _ _ g h=>by first|exact h.G g|exact fun w3 g3=>h w3 (G.trans g g3),?_⟩)) (by kernel_rfl) (by kernel_rfl) ?_
 refine Letters.is ?_
 refine Letters.is ?_
 refine Letters.is ?_
 refine Letters.is ?_
 refine Letters.any fun v4=> ?_
 refine Letters.any fun v5=> ?_
 refine Letters.is ?_
 refine Letters.is ?_
 refine Letters.is ?_
 refine Letters.is ?_
 refine Letters.any fun v10=> ?_
 refine Letters.any fun v11=> ?_
 refine Letters.any fun v12=> ?_
 refine Letters.any fun v13=> ?_
 refine Letters.nil ?_
 intro A hA
 simp only[q0V,Act.put,List.setIfInBounds_toArray,List.set_cons_zero,List.set_cons_succ] at hA
 subst hA
 refine⟨?_,?_⟩
 ·skip
  refine Eaches.cons rfl ?gH (Eaches.cons rfl ?gW (Eaches.cons rfl ?gI (Eaches.cons rfl ?gX (Eaches.cons rfl ?jq (Eaches.cons rfl ?jr (Eaches.cons rfl ?jL (Eaches.cons rfl ?kJ (Eaches.cons rfl ?jM (Eaches.cons rfl ?mR (Eaches.cons rfl ?kX (Eaches.cons rfl ?mU (Eaches.cons rfl ?mV (Eaches.cons rfl ?pE (Eaches.nil))))))))))))))
  case gH|gW|jL|kJ=>
   intro W hW hD K hK
   clear hD
   go_simp
   exact hK.out _ _ ⟨_,rfl,G.refl _,rfl⟩
  case gI|gX|jM|mR=>
   intro W hW hD K hK
   clear hD
   have hR0:=Rec.f3 (Rec.G R0.out hW)
   have jg:=hR0.1
   have jh:=hR0.2.1
   have pF:=hR0.2.2.1
   clear hR0
   have qo:=Rec.f3 (Rec.G R1.out hW)
   have wZ:=qo.1
   have xe:=qo.2.1
   have Dr:=qo.2.2.1
   clear qo
   go_simp
   exact hK.out _ _ ⟨_,rfl,G.refl _,rfl⟩
  ·intro W hW hD K hK
   clear hD
   go_simp
   go_wp2_with (go_at_call 48;refine Calls.mono (P:=Tryz.prog) (sQ.out W (G.trans g0 hW)) ?_;intro e w9 hs;obtain⟨u9,rfl,g9,aN⟩:=hs)
   exact hK.out _ _ ⟨_,rfl,g9,aN⟩
  ·intro W hW hD K hK
   have h4:=Deps.get (v:=v4) 4 hD rfl rfl (by kernel_rfl)
   clear hD
   go_simp
   go_wp2_with (go_at_call 56;refine Calls.mono (P:=Tryz.prog) (mo.out W v4 (G.trans g0 hW) h4) ?_;intro e w9 hs;obtain⟨u9,rfl,g9,aN⟩:=hs)
   exact hK.out _ _ ⟨_,rfl,g9,aN⟩
  ·intro W hW hD K hK
   clear hD
   go_simp
   go_wp2_with (go_at_call 48;refine Calls.mono (P:=Tryz.prog) (oV.out W (G.trans g0 hW)) ?_;intro e w9 hs;obtain⟨u9,rfl,g9,aN⟩:=hs)
   exact hK.out _ _ ⟨_,rfl,g9,aN⟩
  ·intro W hW hD K hK
   have h10:=Deps.get (v:=v10) 10 hD rfl rfl (by kernel_rfl)
   clear hD
   go_simp
   go_wp2_with (go_at_call 56;refine Calls.mono (P:=Tryz.prog) (iY.out W v10 (G.trans g0 hW) h10) ?_;intro e w9 hs;obtain⟨u9,rfl,g9,aN⟩:=hs)
   exact hK.out _ _ ⟨_,rfl,g9,aN⟩
  ·intro W hW hD K hK
   have h5:=Deps.get (v:=v5) 5 hD rfl rfl (by kernel_rfl)
   clear hD
   go_simp
   exact hK.out _ _ ⟨_,rfl,G.refl _,h5⟩
  ·intro W hW hD K hK
   have h11:=Deps.get (v:=v11) 11 hD rfl rfl (by kernel_rfl)
   clear hD
   go_simp
   exact hK.out _ _ ⟨_,rfl,G.refl _,h11⟩
 intro w1 g1 hH
 have h12:=Helds.get (v:=v12) 12 hH rfl rfl
 have Ny:=Helds.get (v:=v13) 13 hH rfl rfl
 clear hH
 refine wpAny_done (by kernel_rfl) ?_ _
 have JE:Hid (Num w1 v12 g):=h12
 have JF:Hid (Num w1 v13 h):=Ny
 clear h12 Ny mo iY
 have iF:=G.trans g0 g1
 have S0:Hid _:=Rec.G R0.out g1
 have S1:Hid _:=Rec.G R1.out g1
 have S2:Hid _:=Rec.G R2.out g1
 clear R0 R1 R2 g0 g1
 go_wp2_with fail
 refine q08 12 0 #[true,true,true,true,true,true,true,true,true,true,true,true] [.is (.pointer (some ⟨w.heap.size,0,none⟩)),.is (.pointer (some ⟨w.heap.size,1,none⟩)),.is (.slice a k c),.is (v12),.any (fun v w'=>Num w' v (A)),.is (.pointer (some ⟨w.heap.size+1,0,none⟩)),.is (.pointer (some ⟨w.heap.size+1,1,none⟩)),.is (.slice b j e),.is (v13),.any (fun v w'=>Num w' v (B)),.any (fun v w'=>Num w' v (N)),.any (fun v w'=>Num w' v (N))] [some 21,some 22,some 23,some 24,some 25,some 26,some 27,some 28,some 29,some 30,some 31,some 7] (by kernel_rfl) (by kernel_rfl) rfl (by kernel_rfl) (by repeat (first|exact trivial|refine⟨fun _ _ _ g h=>by first|exact h.G g|exact fun w3 g3=>h w3 (G.trans g g3),?_⟩)) (by kernel_rfl) (by kernel_rfl) ?_
 refine Letters.is ?_
 refine Letters.is ?_
 refine Letters.is ?_
 refine Letters.is ?_
 refine Letters.any fun v4=> ?_
 refine Letters.is ?_
 refine Letters.is ?_
 refine Letters.is ?_
 refine Letters.is ?_
 refine Letters.any fun v9=> ?_
 refine Letters.any fun v10=> ?_
 refine Letters.any fun v11=> ?_
 refine Letters.nil ?_
 intro A hA
 simp only[q0V,Act.put,List.setIfInBounds_toArray,List.set_cons_zero,List.set_cons_succ] at hA
 subst hA
 refine⟨?_,?_⟩
 ·skip
  refine Eaches.cons rfl ?jN (Eaches.cons rfl ?lM (Eaches.cons rfl ?jO (Eaches.cons rfl ?kK (Eaches.cons rfl ?mW (Eaches.cons rfl ?lN (Eaches.cons rfl ?qp (Eaches.cons rfl ?sS (Eaches.cons rfl ?vU (Eaches.cons rfl ?JB (Eaches.cons rfl ?Nz (Eaches.cons rfl ?NA (Eaches.nil))))))))))))
  case jN|lM|kK|lN|qp|vU=>
   intro W hW hD K hK
   clear hD
   go_simp
   exact hK.out _ _ ⟨_,rfl,G.refl _,rfl⟩
  case jO|sS=>
   intro W hW hD K hK
   clear hD
   have hS0:=Rec.f3 (Rec.G S0.out hW)
   have pG:=hS0.1
   have pI:=hS0.2.1
   have xg:=hS0.2.2.1
   clear hS0
   have hS1:=Rec.f3 (Rec.G S1.out hW)
   have pJ:=hS1.1
   have pK:=hS1.2.1
   have xh:=hS1.2.2.1
   clear hS1
   go_simp
   exact hK.out _ _ ⟨_,rfl,G.refl _,rfl⟩
  ·intro W hW hD K hK
   clear hD
   go_simp
   go_wp2_with (go_at_call 57;refine Calls.mono (P:=Tryz.prog) (uP.out W v12 (G.trans iF hW) (Num.G JE.out hW)) ?_;intro e w9 hs;obtain⟨u9,rfl,g9,aN⟩:=hs)
   exact hK.out _ _ ⟨_,rfl,g9,aN⟩
  ·intro W hW hD K hK
   clear hD
   go_simp
   go_wp2_with (go_at_call 57;refine Calls.mono (P:=Tryz.prog) (ja.out W v13 (G.trans iF hW) (Num.G JF.out hW)) ?_;intro e w9 hs;obtain⟨u9,rfl,g9,aN⟩:=hs)
   exact hK.out _ _ ⟨_,rfl,g9,aN⟩
  ·intro W hW hD K hK
   have h4:=Deps.get (v:=v4) 4 hD rfl rfl (by kernel_rfl)
   have h9:=Deps.get (v:=v9) 9 hD rfl rfl (by kernel_rfl)
   clear hD
   go_simp
   go_wp2_with (go_at_call 58;refine Calls.mono (P:=Tryz.prog) (HT1.out W v4 v9 h4 h9) ?_;intro e w9 hs;obtain⟨u9,rfl,g9,aN⟩:=hs)
   exact hK.out _ _ ⟨_,rfl,g9,aN⟩
  ·intro W hW hD K hK
   have h10:=Deps.get (v:=v10) 10 hD rfl rfl (by kernel_rfl)
   clear hD
   go_simp
   exact hK.out _ _ ⟨_,rfl,G.refl _,h10⟩
 intro w2 g2 hH
 have h11:=Helds.get (v:=v11) 11 hH rfl rfl
 clear hH
 refine wpAny_done (by kernel_rfl) ?_ _
 have NB:Hid (Num w2 v11 N):=h11
 have DF:Hid (Num w2 v12 g):=JE.out.G g2
 have DJ:Hid (Num w2 v13 h):=JF.out.G g2
 have iV:=G.trans iF g2
 have T0:Hid _:=Rec.G S0.out g2
 have T1:Hid _:=Rec.G S1.out g2
 have T2:Hid _:=Rec.G S2.out g2
 clear h11 JE JF uP ja HT1 S0 S1 S2 iF g2
 go_wp2_with fail
 refine q08 10 0 #[true,true,true,true,true,true,true,true,true,true] [.is (.agg #[.bool s,.slice a k c,.slice a' k' c']),.any (fun v w'=>Num w' v (p)),.is (v13),.any (fun v w'=>Num w' v (C)),.is (.agg #[.bool t,.slice b j e,.slice b' j' e']),.any (fun v w'=>Num w' v (r)),.is (v12),.any (fun v w'=>Num w' v (D)),.any (fun v w'=>Num w' v (M)),.any (fun v w'=>Num w' v (M))] [some 32,some 33,some 34,some 35,some 36,some 37,some 38,some 39,some 40,some 8] (by kernel_rfl) (by kernel_rfl) rfl (by kernel_rfl) (by repeat (first|exact trivial|refine⟨fun _ _ _ g h=>by first|exact h.G g|exact fun w3 g3=>h w3 (G.trans g g3),?_⟩)) (by kernel_rfl) (by kernel_rfl) ?_
 refine Letters.is ?_
 refine Letters.any fun v1=> ?_
 refine Letters.is ?_
 refine Letters.any fun v3=> ?_
 refine Letters.is ?_
 refine Letters.any fun v5=> ?_
 refine Letters.is ?_
 refine Letters.any fun v7=> ?_
 refine Letters.any fun v8=> ?_
 refine Letters.any fun v9=> ?_
 refine Letters.nil ?_
 intro A hA
 simp only[q0V,Act.put,List.setIfInBounds_toArray,List.set_cons_zero,List.set_cons_succ] at hA
 subst hA
 refine⟨?_,?_⟩
 ·skip
  refine Eaches.cons rfl ?jP (Eaches.cons rfl ?kL (Eaches.cons rfl ?jQ (Eaches.cons rfl ?kM (Eaches.cons rfl ?lQ (Eaches.cons rfl ?lS (Eaches.cons rfl ?lT (Eaches.cons rfl ?mX (Eaches.cons rfl ?qw (Eaches.cons rfl ?zz (Eaches.nil))))))))))
  case jQ|lT=>
   intro W hW hD K hK
   clear hD
   go_simp
   exact hK.out _ _ ⟨_,rfl,G.refl _,rfl⟩
  case jP|lQ=>
   intro W hW hD K hK
   clear hD
   have hT0:=Rec.f3 (Rec.G T0.out hW)
   have wV:=hT0.1
   have wW:=hT0.2.1
   have wX:=hT0.2.2.1
   clear hT0
   have hT1:=Rec.f3 (Rec.G T1.out hW)
   have Du:=hT1.1
   have Dv:=hT1.2.1
   have Dw:=hT1.2.2.1
   clear hT1
   go_simp
   exact hK.out _ _ ⟨_,rfl,G.refl _,rfl⟩
  ·intro W hW hD K hK
   clear hD
   go_simp
   go_wp2_with (go_at_call 48;refine Calls.mono (P:=Tryz.prog) (oV.out W (G.trans iV hW)) ?_;intro e w9 hs;obtain⟨u9,rfl,g9,aN⟩:=hs)
   exact hK.out _ _ ⟨_,rfl,g9,aN⟩
  ·intro W hW hD K hK
   have h1:=Deps.get (v:=v1) 1 hD rfl rfl (by kernel_rfl)
   clear hD
   go_simp
   go_wp2_with (go_at_call 57;refine Calls.mono (P:=Tryz.prog) (wT.out W v1 v13 h1 (Num.G DJ.out hW)) ?_;intro e w9 hs;obtain⟨u9,rfl,g9,aN⟩:=hs)
   exact hK.out _ _ ⟨_,rfl,g9,aN⟩
  ·intro W hW hD K hK
   clear hD
   go_simp
   go_wp2_with (go_at_call 48;refine Calls.mono (P:=Tryz.prog) (sQ.out W (G.trans iV hW)) ?_;intro e w9 hs;obtain⟨u9,rfl,g9,aN⟩:=hs)
   exact hK.out _ _ ⟨_,rfl,g9,aN⟩
  ·intro W hW hD K hK
   have h5:=Deps.get (v:=v5) 5 hD rfl rfl (by kernel_rfl)
   clear hD
   go_simp
   go_wp2_with (go_at_call 57;refine Calls.mono (P:=Tryz.prog) (sF.out W v5 v12 h5 (Num.G DF.out hW)) ?_;intro e w9 hs;obtain⟨u9,rfl,g9,aN⟩:=hs)
   exact hK.out _ _ ⟨_,rfl,g9,aN⟩
  ·intro W hW hD K hK
   have h3:=Deps.get (v:=v3) 3 hD rfl rfl (by kernel_rfl)
   have h7:=Deps.get (v:=v7) 7 hD rfl rfl (by kernel_rfl)
   clear hD
   go_simp
   go_wp2_with (go_at_call 58;refine Calls.mono (P:=Tryz.prog) (HT2.out W v3 v7 h3 h7) ?_;intro e w9 hs;obtain⟨u9,rfl,g9,aN⟩:=hs)
   exact hK.out _ _ ⟨_,rfl,g9,aN⟩
  ·intro W hW hD K hK
   have h8:=Deps.get (v:=v8) 8 hD rfl rfl (by kernel_rfl)
   clear hD
   go_simp
   exact hK.out _ _ ⟨_,rfl,G.refl _,h8⟩
 intro w3 g3 hH
 have h9:=Helds.get (v:=v9) 9 hH rfl rfl
 clear hH
 refine wpAny_done (by kernel_rfl) ?_ _
 have H9:Hid (Num w3 v9 M):=h9
 have DK:Hid (Num w3 v11 N):=NB.out.G g3
 have vR:=G.trans iV g3
 have U0:Hid _:=Rec.G T0.out g3
 have U1:Hid _:=Rec.G T1.out g3
 have U2:Hid _:=Rec.G T2.out g3
 clear h9 NB DF DJ wT sF HT2 T0 T1 T2 iV g3 oV sQ
 have qO:Hid _:=HS.out w3 v11 DK.out
 have aD:=Rec.f3 (Rec.G U0.out (G.refl _))
 have dD:=aD.1
 have dE:=aD.2.1
 have dF:=aD.2.2.1
 have cK:=aD.2.2.2.1
 have cO:=aD.2.2.2.2.1
 have cZ:=aD.2.2.2.2.2
 clear aD
 have ou:=Rec.f3 (Rec.G U1.out (G.refl _))
 have zM:=ou.1
 have zN:=ou.2.1
 have zO:=ou.2.2.1
 have zP:=ou.2.2.2.1
 have zQ:=ou.2.2.2.2.1
 have zR:=ou.2.2.2.2.2
 clear ou
 go_wp2_with fail
 refine Calls.mono (P:=Tryz.prog) qO.out ?_
 intro e4 w4 hs
 obtain⟨v20,rfl,g4,h20⟩:=hs
 have CS:Hid _:=HF.out w4 v20 v9 h20 (H9.out.G g4)
 clear HS qO HF h20 H9 DK
 go_wp2_with fail
 refine Calls.mono (P:=Tryz.prog) CS.out ?_
 intro e4 w5 hs
 obtain⟨v21,rfl,g5,h21⟩:=hs
 clear CS
 clear dD dE dF cK cO cZ zM zN zO zP zQ zR
 obtain⟨a8,k8,c8,a9,k9,c9,rfl,fT,dB⟩:=h21
 have jf:Hid (Num w5 (.slice a8 k8 c8) (q).num.natAbs):=fT
 have gU:Hid (Num w5 (.slice a9 k9 c9) (q1Z (q).den)):=dB
 obtain⟨t9,bK⟩:∃ t,t=decide ((q).num<0):=⟨_,rfl⟩
 rw[← bK]
 have iQ:Hid (t9=decide ((q).num<0)):=bK
 clear fT dB bK
 have hS:=Rec.f3 (Rec.G U2.out ((G.trans g4 g5)))
 have bF:=hS.1
 have bG:=hS.2.1
 have bH:=hS.2.2.1
 have bI:=hS.2.2.2.1
 have dV:=hS.2.2.2.2.1
 have dW:=hS.2.2.2.2.2
 clear hS
 have dX:Num _ _ _:=q0o (u1:= .bool t9) (u2:= .slice a8 k8 c8) (u3:= .slice a9 k9 c9) jf.out (Rec.G U2.out (G.trans g4 g5)) trivial trivial trivial
 have bJ:Num _ _ _:=q0o (u1:= .bool t9) (u2:= .slice a8 k8 c8) (u3:= .slice a9 k9 c9) gU.out (Rec.G U2.out (G.trans g4 g5)) trivial trivial trivial
 go_wp2_with fail
 have hT:Hid (Rec (World.setCell (World.setCell (World.setCell w5 ⟨w.heap.size+2,0,none⟩ (.bool t9)) ⟨w.heap.size+2,1,none⟩ (.slice a8 k8 c8)) ⟨w.heap.size+2,2,none⟩ (.slice a9 k9 c9)) (w.heap.size+2) [.bool t9,.slice a8 k8 c8,.slice a9 k9 c9]):=Rec.set3 (Rec.G U2.out (G.trans g4 g5))
 have g9:=Rec.g3 (b:=w.heap.size+2) (u:= .bool t9) (v:= .slice a8 k8 c8) (x:= .slice a9 k9 c9) (G.trans vR (G.trans g4 g5)) (by omega)
 generalize (World.setCell (World.setCell (World.setCell w5 ⟨w.heap.size+2,0,none⟩ (.bool t9)) ⟨w.heap.size+2,1,none⟩ (.slice a8 k8 c8)) ⟨w.heap.size+2,2,none⟩ (.slice a9 k9 c9))=w9 at *
 have hF:=Rec.f3 (Rec.G hT.out ((G.refl _)))
 have dY:=hF.1
 have dZ:=hF.2.1
 have ed:=hF.2.2.1
 have eB:=hF.2.2.2.1
 have iD:=hF.2.2.2.2.1
 have iE:=hF.2.2.2.2.2
 clear hF
 refine bodyPost_ret (v:= .agg #[.bool t9,.slice a8 k8 c8,.slice a9 k9 c9]) (by simp [results,Tryz.results13,go_sem, *]) rfl ?_
 exact⟨_,rfl,g9,a8,k8,c8,a9,k9,c9,by rw[← iQ.out],dX,bJ⟩
/-- A call hands back a fraction and no error, or an error. -/
def q2I (w:World) (q:Rat) (c:Int) (e:Ending) (w':World):Prop:=∃ v,e= .returned (.tuple #[v,.int .i64 c])∧G w w'∧QIs w' v q
theorem QIs.set3 {w:World} {v:Value} {q:Rat} {b:Nat} {x y z u1 u2 u3:Value} (h:QIs w v q) (r:Rec w b [x,y,z]) (hx:q2C x) (hy:q2C y) (hz:q2C z):QIs (((w.setCell ⟨b,0,none⟩ u1).setCell ⟨b,1,none⟩ u2).setCell ⟨b,2,none⟩ u3) v q:=by
 obtain⟨a,k,c,a',k',c',e,h1,h2⟩:=h
 exact⟨a,k,c,a',k',c',e,q0o h1 r hx hy hz,q0o h2 r hx hy hz⟩
theorem QIs.top {w:World} {a:Option Addr} {k c:Nat} {q:Rat} {t:Bool} (h:Num w (.slice a k c) q.num.natAbs) (ht:t=decide (q.num<0)):WholeIs w (.agg #[.bool t,.slice a k c]) q.num:=⟨a,k,c,by rw[ht],h⟩
theorem q2n (w:World) (v:Value) (q:Rat) (h:QIs w v q):
  Calls Tryz.prog 45 #[v] w fun e w'=>e= .returned (.int .i64 q.num.sign)∧G w w':=by
 obtain⟨a,k,c,a',k',c',rfl,h1,h2⟩:=h
 obtain⟨t,ht⟩:∃ t,t=decide (q.num<0):=⟨_,rfl⟩
 have HS:Hid (∀ w1,G w w1→_):=fun w1 g=>q8j w1 (.agg #[.bool t,.slice a k c]) q.num (QIs.top (h1.G g) ht)
 rw[← ht]
 generalize q.num.sign=z at *
 clear ht h1 h2
 go_enter Tryz.func45,Tryz.ntmps45
 go_wp2_with fail
 obtain⟨w0,aM,g0,hz0,R0⟩:=q0x w [.bool t,.slice a k c,.slice a' k' c'] 30
 rw[aM]
 clear aM
 refine Calls.mono (P:=Tryz.prog) (HS.out w0 g0) ?_
 rintro e w1 ⟨rfl,g1⟩
 go_wp2_with fail
 go_ret
 exact⟨rfl,G.trans g0 g1⟩
theorem mkRat_one (z:Int):((z:Int):Rat)=mkRat z 1:=(Rat.mk_eq_mkRat z 1 (by decide) (by simp)).symm▸rfl
theorem qbU (w:World) (z:Int) (h1: -9223372036854775808≤z) (h2:z<9223372036854775808):
  Calls Tryz.prog 101 #[.int .i64 z] w (RetQ w (z:Rat)):=by
 have HW:Hid (∀ w1,_):=fun w1=>q4C w1 z h1 h2
 have HF:Hid (∀ w1 v1 v2,WholeIs w1 v1 z→Num w1 v2 1→_):=fun w1 v1 v2 hv1 hv2=>q1t w1 v1 v2 z 1 1 (z:Rat) hv1 hv2 (by omega) (by omega) (fun _=>Nat.gcd_one_right _) (mkRat_one z)
 generalize (z:Rat)=q at *
 clear h1 h2
 go_enter Tryz.func101,Tryz.ntmps101
 go_wp2_with fail
 obtain⟨w0,aM,g0,hz0,R0⟩:=q0x w [.bool false,.slice none 0 0,.slice none 0 0] 30
 rw[aM]
 clear aM
 refine Calls.mono (P:=Tryz.prog) (HW.out w0) ?_
 intro e w1 hs
 obtain⟨v1,rfl,g1,hv1⟩:=hs
 have p8:Hid (WholeIs w1 v1 z):=hv1
 clear hv1 HW
 go_wp2_with fail
 have gA:=(G.refl w1).alloc (.cells #[.int .u64 1] 85)
 have zf:Hid _:=HF.out _ v1 (.slice (some ⟨w1.heap.size,0,none⟩) 1 1) (p8.out.G gA) (q9F rfl)
 generalize w1.alloc (.cells #[.int .u64 1] 85)=w2 at *
 clear HF p8
 refine Calls.mono (P:=Tryz.prog) zf.out ?_
 intro e w3 hs
 obtain⟨v3,rfl,g3,hv3⟩:=hs
 clear zf
 obtain⟨a8,k8,c8,a9,k9,c9,rfl,fT,dB⟩:=hv3
 have jf:Hid (Num w3 (.slice a8 k8 c8) (q).num.natAbs):=fT
 have gU:Hid (Num w3 (.slice a9 k9 c9) (q1Z (q).den)):=dB
 obtain⟨t9,bK⟩:∃ t,t=decide ((q).num<0):=⟨_,rfl⟩
 rw[← bK]
 have iQ:Hid (t9=decide ((q).num<0)):=bK
 clear fT dB bK
 have hS:=Rec.f3 (Rec.G R0.out ((G.trans g1 (G.trans gA g3))))
 have bF:=hS.1
 have bG:=hS.2.1
 have bH:=hS.2.2.1
 have bI:=hS.2.2.2.1
 have dV:=hS.2.2.2.2.1
 have dW:=hS.2.2.2.2.2
 clear hS
 have dX:Num _ _ _:=q0o (u1:= .bool t9) (u2:= .slice a8 k8 c8) (u3:= .slice a9 k9 c9) jf.out (Rec.G R0.out (G.trans g1 (G.trans gA g3))) trivial trivial trivial
 have bJ:Num _ _ _:=q0o (u1:= .bool t9) (u2:= .slice a8 k8 c8) (u3:= .slice a9 k9 c9) gU.out (Rec.G R0.out (G.trans g1 (G.trans gA g3))) trivial trivial trivial
 go_wp2_with fail
 have hT:Hid (Rec (World.setCell (World.setCell (World.setCell w3 ⟨w.heap.size,0,none⟩ (.bool t9)) ⟨w.heap.size,1,none⟩ (.slice a8 k8 c8)) ⟨w.heap.size,2,none⟩ (.slice a9 k9 c9)) (w.heap.size) [.bool t9,.slice a8 k8 c8,.slice a9 k9 c9]):=Rec.set3 (Rec.G R0.out (G.trans g1 (G.trans gA g3)))
 have g9:=Rec.g3 (b:=w.heap.size) (u:= .bool t9) (v:= .slice a8 k8 c8) (x:= .slice a9 k9 c9) (G.trans g0 (G.trans g1 (G.trans gA g3))) (by omega)
 generalize (World.setCell (World.setCell (World.setCell w3 ⟨w.heap.size,0,none⟩ (.bool t9)) ⟨w.heap.size,1,none⟩ (.slice a8 k8 c8)) ⟨w.heap.size,2,none⟩ (.slice a9 k9 c9))=w9 at *
 have hF:=Rec.f3 (Rec.G hT.out ((G.refl _)))
 have dY:=hF.1
 have dZ:=hF.2.1
 have ed:=hF.2.2.1
 have eB:=hF.2.2.2.1
 have iD:=hF.2.2.2.2.1
 have iE:=hF.2.2.2.2.2
 clear hF
 refine bodyPost_ret (v:= .agg #[.bool t9,.slice a8 k8 c8,.slice a9 k9 c9]) (by simp [results,Tryz.results101,go_sem, *]) rfl ?_
 exact⟨_,rfl,g9,a8,k8,c8,a9,k9,c9,by rw[← iQ.out],dX,bJ⟩
/-- What is 1 over a fraction. -/
theorem q56 {y:Rat} (h:y≠0):y⁻¹ =mkRat (sgn (decide (y.num<0)) y.den) y.num.natAbs∧Nat.gcd y.den y.num.natAbs=1∧0<y.num.natAbs:=by
 have hn:y.num≠0:=fun e=>h (Rat.num_eq_zero.1 e)
 refine⟨?_,by rw[Nat.gcd_comm];exact y.reduced,by omega⟩
 rw[Rat.inv_def]
 rw[← Rat.divInt_ofNat,Rat.divInt_eq_divInt_iff hn (by omega)]
 unfold sgn
 by_cases h0:y.num<0
 ·simp only[h0,decide_true,if_true]
  rw[show ((y.num.natAbs:Nat):Int)= -y.num from by omega,Int.mul_neg,Int.neg_mul]
 ·simp only[h0,decide_false,Bool.false_eq_true,if_false]
  rw[show ((y.num.natAbs:Nat):Int)=y.num from by omega]
theorem q7v {y:Rat} {K:Nat} (h:y≠0) (hb:QB y K):QB y⁻¹ K:=by
 obtain⟨h1,h2,h3⟩:=q56 h
 have h4:=mk_cross h3 h1
 obtain⟨e1,e2⟩:=rat_low h3 (by rw[q2r];exact h2) h4
 unfold QB
 rw[e1,e2,q2r]
 exact⟨hb.2,hb.1⟩
theorem q1S {q:Rat}:(q.num.sign==0)=decide (q=0):=by
 rw[Bool.eq_iff_iff]
 simp [Int.sign_eq_zero_iff_zero,Rat.num_eq_zero]
set_option maxHeartbeats 1000000 in
theorem q9l (w:World) (v u:Value) (x y:Rat) (K:Nat) (hK:K≤100000) (hK1:1≤K) (hT:Tab w) (hx:QIs w v x) (hy:QIs w u y) (bx:QB x K) (mq:QB y K):
  Calls Tryz.prog 8 #[v,u] w (q2I w (if y=0 then 0 else x/y) (if y=0 then 5 else 0)):=by
 have gV:Hid (∀ w1,G w w1→_):=fun w1 g=>q2n w1 u y (hy.G g)
 have HB:Hid (∀ w1,G w w1→_):=fun w1 g=>q6I w1 u y (hy.G g)
 have HX:Hid (QIs w v x):=hx
 obtain⟨a,k,c,a',k',c',rfl,hx1,hx2⟩:=hx
 obtain⟨b,j,e,b',j',e',rfl,hy1,hy2⟩:=hy
 by_cases h0:y=0
 ·rw[if_pos h0,if_pos h0]
  have hz:(y.num.sign==0)=true:=by rw[q1S,h0];rfl
  generalize y.num.sign=z at *
  obtain⟨s,hs⟩:∃ s,s=decide (x.num<0):=⟨_,rfl⟩
  obtain⟨t,ht⟩:∃ t,t=decide (y.num<0):=⟨_,rfl⟩
  rw[← ht] at gV
  rw[← hs,← ht]
  clear hs ht hx1 hx2 hy1 hy2 bx mq h0 HB HX hT
  go_enter Tryz.func8,Tryz.ntmps8
  go_wp2_with fail
  obtain⟨w0,aM,g0,hz0,R0,R1,R2⟩:=q2Y w [.bool s,.slice a k c,.slice a' k' c'] [.bool t,.slice b j e,.slice b' j' e'] [.bool false,.slice none 0 0,.slice none 0 0] 30 30 30
  rw[aM]
  clear aM
  refine Calls.mono (P:=Tryz.prog) (gV.out w0 g0) ?_
  rintro e w1 ⟨rfl,g1⟩
  clear gV
  have hS:=Rec.f3 (Rec.G R2.out ((g1)))
  have bF:=hS.1
  have bG:=hS.2.1
  have bH:=hS.2.2.1
  have bI:=hS.2.2.2.1
  have dV:=hS.2.2.2.2.1
  have dW:=hS.2.2.2.2.2
  clear hS
  go_wp2_with fail
  have hT:Hid (Rec (World.setCell (World.setCell (World.setCell w1 ⟨w.heap.size+2,0,none⟩ (.bool false)) ⟨w.heap.size+2,1,none⟩ (.slice none 0 0)) ⟨w.heap.size+2,2,none⟩ (.slice none 0 0)) (w.heap.size+2) [.bool false,.slice none 0 0,.slice none 0 0]):=Rec.set3 (Rec.G R2.out (g1))
  have g9:=Rec.g3 (b:=w.heap.size+2) (u:= .bool false) (v:= .slice none 0 0) (x:= .slice none 0 0) (G.trans g0 g1) (by omega)
  generalize (World.setCell (World.setCell (World.setCell w1 ⟨w.heap.size+2,0,none⟩ (.bool false)) ⟨w.heap.size+2,1,none⟩ (.slice none 0 0)) ⟨w.heap.size+2,2,none⟩ (.slice none 0 0))=w9 at *
  have hF:=Rec.f3 (Rec.G hT.out ((G.refl _)))
  have dY:=hF.1
  have dZ:=hF.2.1
  have ed:=hF.2.2.1
  have eB:=hF.2.2.2.1
  have iD:=hF.2.2.2.2.1
  have iE:=hF.2.2.2.2.2
  clear hF
  refine bodyPost_ret (v:= .tuple #[.agg #[.bool false,.slice none 0 0,.slice none 0 0],.int .i64 5]) (by simp [results,Tryz.results8,go_sem, *]) rfl ?_
  exact⟨_,rfl,g9,q9G w9⟩
 ·rw[if_neg h0,if_neg h0]
  obtain⟨i1,i2,i3⟩:=q56 h0
  have ib:=q7v h0 mq
  have hz:(y.num.sign==0)=false:=by rw[q1S,decide_eq_false h0]
  have hbn:=mq.1
  obtain⟨s,hs⟩:∃ s,s=decide (x.num<0):=⟨_,rfl⟩
  obtain⟨t,ht⟩:∃ t,t=decide (y.num<0):=⟨_,rfl⟩
  have HS:Hid (∀ w1 v1,Num w1 v1 y.den→_):=fun w1 v1 h1=>q19 w1 v1 t y.den h1
  have HF:Hid (∀ w1 v1,G w w1→WholeIs w1 v1 (sgn t y.den)→_):=fun w1 v1 g h1=>q1t w1 v1 (.slice b j e) _ y.num.natAbs K y⁻¹ h1 (hy1.G g) i3 hbn (fun _=>by rw[q2r];exact i2) (by rw[ht];exact i1)
  have HM:Hid (∀ w1 v1,G w w1→QIs w1 v1 y⁻¹ →Calls Tryz.prog 13 #[.agg #[.bool s,.slice a k c,.slice a' k' c'],v1] w1 (RetQ w1 (x/y))):=fun w1 v1 g h1=>by
   rw[Rat.div_def]
   have hX:=HX.out
   rw[← hs] at hX
   exact q9K w1 _ v1 x y⁻¹ K hK hK1 (hT.G g) (hX.G g) h1 bx ib
  rw[← ht] at gV HB
  rw[← hs,← ht]
  generalize y.num.sign=z at *
  obtain⟨d,hd⟩:∃ d,d=y.den:=⟨_,rfl⟩
  rw[← hd] at HB HS HF
  generalize sgn t d=yt at *
  generalize y.num.natAbs=yn at *
  obtain⟨yi,hyi⟩:∃ yi,yi=y⁻¹ :=⟨_,rfl⟩
  rw[← hyi] at HF HM
  generalize x/y=q at *
  clear hd hs ht hyi i1 i2 i3 ib hbn hx1 hx2 hy1 hy2 bx mq h0 HX hT
  go_enter Tryz.func8,Tryz.ntmps8
  go_wp2_with fail
  obtain⟨w0,aM,g0,hz0,R0,R1,R2⟩:=q2Y w [.bool s,.slice a k c,.slice a' k' c'] [.bool t,.slice b j e,.slice b' j' e'] [.bool false,.slice none 0 0,.slice none 0 0] 30 30 30
  rw[aM]
  clear aM
  refine Calls.mono (P:=Tryz.prog) (gV.out w0 g0) ?_
  rintro e w1 ⟨rfl,g1⟩
  clear gV
  have iF:=G.trans g0 g1
  have S0:Hid (Rec _ _ _):=Rec.G R0.out (g1)
  have S1:Hid (Rec _ _ _):=Rec.G R1.out (g1)
  have S2:Hid (Rec _ _ _):=Rec.G R2.out (g1)
  clear R0 R1 R2 g0 g1
  go_wp2_with fail
  refine q08 11 1 #[true,true,true,true,true,true,true,true,true,true,true,false] [.is (.pointer (some ⟨w.heap.size+1,0,none⟩)),.is (.pointer (some ⟨w.heap.size+1,0,none⟩)),.is (.bool t),.is (.agg #[.bool t,.slice b j e,.slice b' j' e']),.any (fun v w'=>Num w' v (d)),.any (fun v w'=>WholeIs w' v (yt)),.is (.pointer (some ⟨w.heap.size+1,0,none⟩)),.is (.pointer (some ⟨w.heap.size+1,1,none⟩)),.is (.slice b j e),.any (fun v w'=>QIs w' v (yi)),.any (fun v w'=>NewRec w1 w' v ([.bool false,.slice none 0 0,.slice none 0 0]))] [some 11,some 12,some 13,some 14,some 15,some 16,some 17,some 18,some 19,some 20,some 6] (by kernel_rfl) (by kernel_rfl) rfl (by kernel_rfl) (by repeat (first|exact trivial|refine⟨fun _ _ _ g h=>by first|exact h.G g|exact fun w3 g3=>h w3 (G.trans g g3),?_⟩)) (by kernel_rfl) (by kernel_rfl) ?_
  refine Letters.is ?_
  refine Letters.is ?_
  refine Letters.is ?_
  refine Letters.is ?_
  refine Letters.any fun v4=> ?_
  refine Letters.any fun v5=> ?_
  refine Letters.is ?_
  refine Letters.is ?_
  refine Letters.is ?_
  refine Letters.any fun v9=> ?_
  refine Letters.any fun v10=> ?_
  refine Letters.nil ?_
  intro A hA
  simp only[q0V,Act.put,List.setIfInBounds_toArray,List.set_cons_zero,List.set_cons_succ] at hA
  subst hA
  refine⟨?_,?_⟩
  ·skip
   refine Eaches.cons rfl ?gH (Eaches.cons rfl ?gW (Eaches.cons rfl ?gI (Eaches.cons rfl ?gX (Eaches.cons rfl ?jq (Eaches.cons rfl ?jr (Eaches.cons rfl ?jL (Eaches.cons rfl ?kJ (Eaches.cons rfl ?jM (Eaches.cons rfl ?mR (Eaches.cons rfl ?kX (Eaches.nil)))))))))))
   case gH|gW|jL|kJ=>
    intro W hW hD K hK
    clear hD
    go_simp
    exact hK.out _ _ ⟨_,rfl,G.refl _,rfl⟩
   case gI|gX|jM=>
    intro W hW hD K hK
    clear hD
    have hS1:=Rec.f3 (Rec.G S1.out hW)
    have pJ:=hS1.1
    have pK:=hS1.2.1
    have xh:=hS1.2.2.1
    clear hS1
    go_simp
    exact hK.out _ _ ⟨_,rfl,G.refl _,rfl⟩
   ·intro W hW hD K hK
    clear hD
    go_simp
    go_wp2_with (go_at_call 48;refine Calls.mono (P:=Tryz.prog) (HB.out W (G.trans iF hW)) ?_;intro e w9 hs;obtain⟨u9,rfl,g9,aN⟩:=hs)
    exact hK.out _ _ ⟨_,rfl,g9,aN⟩
   ·intro W hW hD K hK
    have h4:=Deps.get (v:=v4) 4 hD rfl rfl (by kernel_rfl)
    clear hD
    go_simp
    go_wp2_with (go_at_call 47;refine Calls.mono (P:=Tryz.prog) (HS.out W v4 h4) ?_;intro e w9 hs;obtain⟨u9,rfl,g9,aN⟩:=hs)
    exact hK.out _ _ ⟨_,rfl,g9,aN⟩
   ·intro W hW hD K hK
    have h5:=Deps.get (v:=v5) 5 hD rfl rfl (by kernel_rfl)
    clear hD
    go_simp
    go_wp2_with (go_at_call 46;refine Calls.mono (P:=Tryz.prog) (HF.out W v5 (G.trans iF hW) h5) ?_;intro e w9 hs;obtain⟨u9,rfl,g9,aN⟩:=hs)
    exact hK.out _ _ ⟨_,rfl,g9,aN⟩
   ·intro W hW hD K hK
    clear hD
    go_simp
    exact hK.out _ _ ⟨_,rfl,(G.refl _).alloc _,_,rfl,hW.size,Rec.new3 _ _ _ _ _⟩
  intro w2 g2 hH
  have h9:=Helds.get (v:=v9) 9 hH rfl rfl
  have h10:=Helds.get (v:=v10) 10 hH rfl rfl
  clear hH
  clear HS HF HB
  obtain⟨nb,rfl,hnb,dJ⟩:=h10
  have N0:Hid (Rec w2 nb [.bool false,.slice none 0 0,.slice none 0 0]):=dJ
  obtain⟨a8,k8,c8,a9,k9,c9,rfl,fT,dB⟩:=h9
  obtain⟨t9,bK⟩:∃ t,t=decide (yi.num<0):=⟨_,rfl⟩
  have hQ:QIs w2 (.agg #[.bool t9,.slice a8 k8 c8,.slice a9 k9 c9]) yi:=⟨a8,k8,c8,a9,k9,c9,by rw[bK],fT,dB⟩
  have HQ:Hid _:=hQ.set3 (u1:= .bool t9) (u2:= .slice a8 k8 c8) (u3:= .slice a9 k9 c9) N0.out trivial trivial trivial
  rw[← bK]
  clear fT dB bK dJ hQ
  have hS:=Rec.f3 (Rec.G N0.out ((G.refl _)))
  have bF:=hS.1
  have bG:=hS.2.1
  have bH:=hS.2.2.1
  have bI:=hS.2.2.2.1
  have dV:=hS.2.2.2.2.1
  have dW:=hS.2.2.2.2.2
  clear hS
  refine wpAny_ready (rs:=[11]) (by kernel_rfl) (by simp) ?_
  refine AllReady.cons rfl (fun K hK=> ?_) AllReady.nil
  go_simp
  refine hK _ _ ?_
  clear hK K bF bG bH bI dV dW
  refine wpAny_done (by kernel_rfl) ?_ _
  have N1:Hid (Rec _ nb [.bool t9,.slice a8 k8 c8,.slice a9 k9 c9]):=Rec.set3 N0.out
  have g3:=Rec.g3 (b:=nb) (u:= .bool t9) (v:= .slice a8 k8 c8) (x:= .slice a9 k9 c9) g2 hnb
  generalize (((w2.setCell ⟨nb,0,none⟩ (.bool t9)).setCell ⟨nb,1,none⟩ (.slice a8 k8 c8)).setCell ⟨nb,2,none⟩ (.slice a9 k9 c9))=w3 at *
  have vR:=G.trans iF g3
  have T0:Hid (Rec _ _ _):=Rec.G S0.out (g3)
  have T2:Hid (Rec _ _ _):=Rec.G S2.out (g3)
  have Nw:Hid _:=HM.out w3 _ vR HQ.out
  clear HM HQ S0 S1 S2 N0 g2 hnb iF g3
  have oq:=Rec.f3 (Rec.G T0.out (G.refl _))
  have zD:=oq.1
  have zF:=oq.2.1
  have zG:=oq.2.2.1
  have zH:=oq.2.2.2.1
  have zI:=oq.2.2.2.2.1
  have zJ:=oq.2.2.2.2.2
  clear oq
  have dG:=Rec.f3 (Rec.G N1.out (G.refl _))
  have iG:=dG.1
  have iH:=dG.2.1
  have iI:=dG.2.2.1
  have iJ:=dG.2.2.2.1
  have zK:=dG.2.2.2.2.1
  have zL:=dG.2.2.2.2.2
  clear dG
  go_wp2_with fail
  refine Calls.mono (P:=Tryz.prog) Nw.out ?_
  intro e4 w4 hs
  obtain⟨v21,rfl,g4,h21⟩:=hs
  clear Nw zD zF zG zH zI zJ iG iH iI iJ zK zL
  obtain⟨a8,k8,c8,a9,k9,c9,rfl,fT,dB⟩:=h21
  have jf:Hid (Num w4 (.slice a8 k8 c8) (q).num.natAbs):=fT
  have gU:Hid (Num w4 (.slice a9 k9 c9) (q1Z (q).den)):=dB
  obtain⟨t9,bK⟩:∃ t,t=decide ((q).num<0):=⟨_,rfl⟩
  rw[← bK]
  have iQ:Hid (t9=decide ((q).num<0)):=bK
  clear fT dB bK
  have hS:=Rec.f3 (Rec.G T2.out ((g4)))
  have bF:=hS.1
  have bG:=hS.2.1
  have bH:=hS.2.2.1
  have bI:=hS.2.2.2.1
  have dV:=hS.2.2.2.2.1
  have dW:=hS.2.2.2.2.2
  clear hS
  have dX:Num _ _ _:=q0o (u1:= .bool t9) (u2:= .slice a8 k8 c8) (u3:= .slice a9 k9 c9) jf.out (Rec.G T2.out (g4)) trivial trivial trivial
  have bJ:Num _ _ _:=q0o (u1:= .bool t9) (u2:= .slice a8 k8 c8) (u3:= .slice a9 k9 c9) gU.out (Rec.G T2.out (g4)) trivial trivial trivial
  go_wp2_with fail
  have hT:Hid (Rec (World.setCell (World.setCell (World.setCell w4 ⟨w.heap.size+2,0,none⟩ (.bool t9)) ⟨w.heap.size+2,1,none⟩ (.slice a8 k8 c8)) ⟨w.heap.size+2,2,none⟩ (.slice a9 k9 c9)) (w.heap.size+2) [.bool t9,.slice a8 k8 c8,.slice a9 k9 c9]):=Rec.set3 (Rec.G T2.out (g4))
  have g9:=Rec.g3 (b:=w.heap.size+2) (u:= .bool t9) (v:= .slice a8 k8 c8) (x:= .slice a9 k9 c9) (G.trans vR g4) (by omega)
  generalize (World.setCell (World.setCell (World.setCell w4 ⟨w.heap.size+2,0,none⟩ (.bool t9)) ⟨w.heap.size+2,1,none⟩ (.slice a8 k8 c8)) ⟨w.heap.size+2,2,none⟩ (.slice a9 k9 c9))=w9 at *
  have hF:=Rec.f3 (Rec.G hT.out ((G.refl _)))
  have dY:=hF.1
  have dZ:=hF.2.1
  have ed:=hF.2.2.1
  have eB:=hF.2.2.2.1
  have iD:=hF.2.2.2.2.1
  have iE:=hF.2.2.2.2.2
  clear hF
  refine bodyPost_ret (v:= .tuple #[.agg #[.bool t9,.slice a8 k8 c8,.slice a9 k9 c9],.int .i64 0]) (by simp [results,Tryz.results8,go_sem, *]) rfl ?_
  exact⟨_,rfl,g9,a8,k8,c8,a9,k9,c9,by rw[← iQ.out],dX,bJ⟩
theorem q9o {z:Int} (h1: -9223372036854775808≤z) (h2:z<9223372036854775808):QB (z:Rat) 1:=⟨by show z.natAbs<_;omega,by show 1<_;omega⟩
theorem QIs.top' {w:World} {a:Option Addr} {k c:Nat} {z:Int} {t:Bool} (h:Num w (.slice a k c) z.natAbs) (ht:t=decide (z<0)):WholeIs w (.agg #[.bool t,.slice a k c]) z:=⟨a,k,c,by rw[ht],h⟩
theorem q4M (t:Bool) (n k:Nat):sgn t (n*k)=sgn t n*(k:Int):=by unfold sgn;cases t<;>simp [Int.neg_mul]
theorem q6Y (w:World) (a b:Int) (hT:Tab w) (h1: -9223372036854775808≤a) (h2:a<9223372036854775808) (h3: -9223372036854775808≤b) (h4:b<9223372036854775808):
  Calls Tryz.prog 38 #[.int .i64 a,.int .i64 b] w (q2I w (if b=0 then 0 else (a:Rat)/b) (if b=0 then 5 else 0)):=by
 have HA:Hid (∀ w1,_):=fun w1=>qbU w1 a h1 h2
 have HB:Hid (∀ w1,_):=fun w1=>qbU w1 b h3 h4
 have HQ:Hid (∀ w1 v1 v2,G w w1→QIs w1 v1 (a:Rat)→QIs w1 v2 (b:Rat)→Calls Tryz.prog 8 #[v1,v2] w1 (q2I w1 (if b=0 then 0 else (a:Rat)/b) (if b=0 then 5 else 0))):=fun w1 v1 v2 g k1 k2=>by
  have h:=q9l w1 v1 v2 a b 1 (by omega) (by omega) (hT.G g) k1 k2 (q9o h1 h2) (q9o h3 h4)
  have e:((b:Rat)=0)=(b=0):=by
   apply propext
   constructor
   ·intro h;have:=congrArg Rat.num h;exact this
   ·intro h;rw[h];rfl
  simpa only[e] using h
 generalize (if b=0 then (5:Int) else 0)=cd at *
 generalize (if b=0 then 0 else (a:Rat)/b)=q at *
 clear h1 h2 h3 h4 hT
 go_enter Tryz.func38,Tryz.ntmps38
 go_wp2_with fail
 obtain⟨w0,aM,g0,hz0,R0⟩:=q0x w [.bool false,.slice none 0 0,.slice none 0 0] 30
 rw[aM]
 clear aM
 refine Calls.mono (P:=Tryz.prog) (HA.out w0) ?_
 intro e w1 hs
 obtain⟨v1,rfl,g1,k1⟩:=hs
 have K1:Hid (QIs w1 v1 (a:Rat)):=k1
 clear k1
 go_wp2_with fail
 refine Calls.mono (P:=Tryz.prog) (HB.out w1) ?_
 intro e w2 hs
 obtain⟨v2,rfl,g2,k2⟩:=hs
 have iV:=G.trans g0 (G.trans g1 g2)
 have Nv:Hid _:=HQ.out w2 v1 v2 iV (K1.out.G g2) k2
 clear k2 K1 HA HB HQ
 go_wp2_with fail
 refine Calls.mono (P:=Tryz.prog) Nv.out ?_
 intro e w3 hs
 obtain⟨v3,rfl,g3,k3⟩:=hs
 clear Nv
 obtain⟨a8,k8,c8,a9,k9,c9,rfl,fT,dB⟩:=k3
 have jf:Hid (Num w3 (.slice a8 k8 c8) (q).num.natAbs):=fT
 have gU:Hid (Num w3 (.slice a9 k9 c9) (q1Z (q).den)):=dB
 obtain⟨t9,bK⟩:∃ t,t=decide ((q).num<0):=⟨_,rfl⟩
 rw[← bK]
 have iQ:Hid (t9=decide ((q).num<0)):=bK
 clear fT dB bK
 have hS:=Rec.f3 (Rec.G R0.out ((G.trans g1 (G.trans g2 g3))))
 have bF:=hS.1
 have bG:=hS.2.1
 have bH:=hS.2.2.1
 have bI:=hS.2.2.2.1
 have dV:=hS.2.2.2.2.1
 have dW:=hS.2.2.2.2.2
 clear hS
 have dX:Num _ _ _:=q0o (u1:= .bool t9) (u2:= .slice a8 k8 c8) (u3:= .slice a9 k9 c9) jf.out (Rec.G R0.out (G.trans g1 (G.trans g2 g3))) trivial trivial trivial
 have bJ:Num _ _ _:=q0o (u1:= .bool t9) (u2:= .slice a8 k8 c8) (u3:= .slice a9 k9 c9) gU.out (Rec.G R0.out (G.trans g1 (G.trans g2 g3))) trivial trivial trivial
 go_wp2_with fail
 have hT:Hid (Rec (World.setCell (World.setCell (World.setCell w3 ⟨w.heap.size,0,none⟩ (.bool t9)) ⟨w.heap.size,1,none⟩ (.slice a8 k8 c8)) ⟨w.heap.size,2,none⟩ (.slice a9 k9 c9)) (w.heap.size) [.bool t9,.slice a8 k8 c8,.slice a9 k9 c9]):=Rec.set3 (Rec.G R0.out (G.trans g1 (G.trans g2 g3)))
 have g9:=Rec.g3 (b:=w.heap.size) (u:= .bool t9) (v:= .slice a8 k8 c8) (x:= .slice a9 k9 c9) (G.trans iV g3) (by omega)
 generalize (World.setCell (World.setCell (World.setCell w3 ⟨w.heap.size,0,none⟩ (.bool t9)) ⟨w.heap.size,1,none⟩ (.slice a8 k8 c8)) ⟨w.heap.size,2,none⟩ (.slice a9 k9 c9))=w9 at *
 have hF:=Rec.f3 (Rec.G hT.out ((G.refl _)))
 have dY:=hF.1
 have dZ:=hF.2.1
 have ed:=hF.2.2.1
 have eB:=hF.2.2.2.1
 have iD:=hF.2.2.2.2.1
 have iE:=hF.2.2.2.2.2
 clear hF
 refine bodyPost_ret (v:= .tuple #[.agg #[.bool t9,.slice a8 k8 c8,.slice a9 k9 c9],.int .i64 cd]) (by simp [results,Tryz.results38,go_sem, *]) rfl ?_
 exact⟨_,rfl,g9,a8,k8,c8,a9,k9,c9,by rw[← iQ.out],dX,bJ⟩
/-- A whole number times a power of two. -/
def mk2 (m e:Int):Rat:=mkRat (m*((2^e.toNat:Nat):Int)) (2^(-e).toNat)
set_option maxHeartbeats 1000000 in
theorem q4u (w:World) (m e:Int) (h1: -9223372036854775808≤m) (h2:m<9223372036854775808) (h3: -1000000≤e) (h4:e≤1000000) (hm:m=0∨m%2=1):
  Calls Tryz.prog 44 #[.int .i64 m,.int .i64 e] w (RetQ w (mk2 m e)):=by
 have HW:Hid (∀ w1,_):=fun w1=>q4C w1 m h1 h2
 have hmb:m.natAbs<2^(64*1):=by omega
 by_cases he:e<0
 ·obtain⟨n,rfl⟩:∃ n:Nat,e= -(n:Int):=⟨e.natAbs,by omega⟩
  have hmk:mk2 m (-(n:Int))=mkRat m (2^n):=by
   unfold mk2
   rw[show (-(n:Int)).toNat=0 from by omega,show (- -(n:Int)).toNat=n from by omega]
   simp
  rw[hmk]
  obtain⟨K,hK⟩:∃ K,K=15626:=⟨_,rfl⟩
  have hpw:2^n<2^(64*K):=Nat.pow_lt_pow_right (by omega) (by omega)
  have HL:Hid (∀ w1 v1,Num w1 v1 1→Calls Tryz.prog 112 #[v1,.int .i64 (n:Int)] w1 (q0e w1 (2^n))):=fun w1 v1 hv=>by
   have h:=q20 w1 v1 1 n 1 (by omega) (by omega) hv (by omega)
   rw[Nat.one_mul] at h;exact h
  have Dy:m≠0→Nat.gcd m.natAbs (2^n)=1:=fun h0=>by
   have h5:m.natAbs=2*(m.natAbs/2)+1:=by omega
   rw[h5];exact q83 _ _
  have HF:Hid (∀ w1 v1 v2,WholeIs w1 v1 m→Num w1 v2 (2^n)→_):=fun w1 v1 v2 k1 k2=>q1t w1 v1 v2 m (2^n) K (mkRat m (2^n)) k1 k2 (Nat.two_pow_pos n) hpw Dy rfl
  have hd:decide (-(n:Int)<0)=true:=decide_eq_true he
  have hnn: - -(n:Int)=n:=by omega
  have hwn:IntKind.i64.wrap (n:Int)=n:=by rw[IntKind.wrap_i64];omega
  have hb:(n:Int)≤1000000:=by omega
  have hn1:(1:Int)≤n:=by omega
  generalize -(n:Int)=e at *
  generalize mkRat m (2^n)=q at *
  generalize 2^n=P at *
  clear hmk hpw Dy hmb hm h1 h2 he hK
  go_enter Tryz.func44,Tryz.ntmps44
  go_wp2_with fail
  obtain⟨w0,aM,g0,hz0,R0⟩:=q0x w [.bool false,.slice none 0 0,.slice none 0 0] 30
  rw[aM]
  clear aM
  refine Calls.mono (P:=Tryz.prog) (HW.out w0) ?_
  intro e2 w1 hs
  obtain⟨v1,rfl,g1,⟨a,k,c,rfl,k1⟩⟩:=hs
  obtain⟨s,hs⟩:∃ s,s=decide (m<0):=⟨_,rfl⟩
  have K1:Hid (Num w1 (.slice a k c) m.natAbs):=k1
  have zC:Hid (s=decide (m<0)):=hs
  rw[← hs]
  clear k1 hs HW
  go_wp2_with fail
  have S0:Hid (Rec _ _ _):=Rec.G R0.out (g1)
  have iF:=G.trans g0 g1
  clear R0 g0 g1
  obtain⟨w2,aM,g2,hz2,R0⟩:=q0x w1 [.bool s,.slice a k c] 28
  rw[aM]
  clear aM
  refine q08 6 1 #[true,true,true,true,true,true,false] [.is (.agg #[.bool s,.slice a k c]),.any (fun v w'=>Num w' v (1)),.is (.int .i64 e),.is (.int .i64 n),.any (fun v w'=>Num w' v (P)),.any (fun v w'=>QIs w' v (q))] [some 10,some 11,some 12,some 13,some 14,some 15] (by kernel_rfl) (by kernel_rfl) rfl (by kernel_rfl) (by repeat (first|exact trivial|refine⟨fun _ _ _ g h=>by first|exact h.G g|exact fun w3 g3=>h w3 (G.trans g g3),?_⟩)) (by kernel_rfl) (by kernel_rfl) ?_
  refine Letters.is ?_
  refine Letters.any fun v1=> ?_
  refine Letters.is ?_
  refine Letters.is ?_
  refine Letters.any fun v4=> ?_
  refine Letters.any fun v5=> ?_
  refine Letters.nil ?_
  intro A hA
  simp only[q0V,Act.put,List.setIfInBounds_toArray,List.set_cons_zero,List.set_cons_succ] at hA
  subst hA
  refine⟨?_,?_⟩
  ·skip
   refine Eaches.cons rfl ?jN (Eaches.cons rfl ?lM (Eaches.cons rfl ?jO (Eaches.cons rfl ?kK (Eaches.cons rfl ?mW (Eaches.cons rfl ?lN (Eaches.nil))))))
   case jO|kK=>
    intro W hW hD K hK
    clear hD
    go_simp
    exact hK.out _ _ ⟨_,rfl,G.refl _,rfl⟩
   case jN=>
    intro W hW hD K hK
    clear hD
    have hR0:=Rec.f2 (Rec.G R0.out hW)
    have jg:=hR0.1
    have jh:=hR0.2.1
    clear hR0
    go_simp
    exact hK.out _ _ ⟨_,rfl,G.refl _,rfl⟩
   ·intro W hW hD K hK
    clear hD
    go_simp
    exact hK.out _ _ ⟨_,rfl,(G.refl _).alloc _,q1I (by decide) (by decide)⟩
   ·intro W hW hD K hK
    have h1:=Deps.get (v:=v1) 1 hD rfl rfl (by kernel_rfl)
    clear hD
    go_simp
    go_wp2_with (go_at_call 112;refine Calls.mono (P:=Tryz.prog) (HL.out W v1 h1) ?_;intro e w9 hs;obtain⟨u9,rfl,g9,aN⟩:=hs)
    exact hK.out _ _ ⟨_,rfl,g9,aN⟩
   ·intro W hW hD K hK
    have h4:=Deps.get (v:=v4) 4 hD rfl rfl (by kernel_rfl)
    clear hD
    go_simp
    go_wp2_with (go_at_call 46;refine Calls.mono (P:=Tryz.prog) (HF.out W (.agg #[.bool s,.slice a k c]) v4 (QIs.top' (K1.out.G (G.trans g2 hW)) zC.out) h4) ?_;intro e w9 hs;obtain⟨u9,rfl,g9,aN⟩:=hs)
    exact hK.out _ _ ⟨_,rfl,g9,aN⟩
  intro w3 g3 hH
  have h5:=Helds.get (v:=v5) 5 hH rfl rfl
  clear hH
  clear HL HF R0 K1 zC
  have g13:=G.trans g2 g3
  clear g2 g3
  obtain⟨a8,k8,c8,a9,k9,c9,rfl,fT,dB⟩:=h5
  have jf:Hid (Num w3 (.slice a8 k8 c8) (q).num.natAbs):=fT
  have gU:Hid (Num w3 (.slice a9 k9 c9) (q1Z (q).den)):=dB
  obtain⟨t9,bK⟩:∃ t,t=decide ((q).num<0):=⟨_,rfl⟩
  rw[← bK]
  have iQ:Hid (t9=decide ((q).num<0)):=bK
  clear fT dB bK
  have hS:=Rec.f3 (Rec.G S0.out (g13))
  have bF:=hS.1
  have bG:=hS.2.1
  have bH:=hS.2.2.1
  have bI:=hS.2.2.2.1
  have dV:=hS.2.2.2.2.1
  have dW:=hS.2.2.2.2.2
  clear hS
  refine wpAny_ready (rs:=[6]) (by kernel_rfl) (by simp) ?_
  refine AllReady.cons rfl (fun K hK=> ?_) AllReady.nil
  go_simp
  refine hK _ _ ?_
  clear hK K bF bG bH bI dV dW
  refine wpAny_done (by kernel_rfl) ?_ _
  have dX:Num _ _ _:=q0o (u1:= .bool t9) (u2:= .slice a8 k8 c8) (u3:= .slice a9 k9 c9) jf.out (Rec.G S0.out (g13)) trivial trivial trivial
  have bJ:Num _ _ _:=q0o (u1:= .bool t9) (u2:= .slice a8 k8 c8) (u3:= .slice a9 k9 c9) gU.out (Rec.G S0.out (g13)) trivial trivial trivial
  go_wp2_with fail
  have hT:Hid (Rec (World.setCell (World.setCell (World.setCell w3 ⟨w.heap.size,0,none⟩ (.bool t9)) ⟨w.heap.size,1,none⟩ (.slice a8 k8 c8)) ⟨w.heap.size,2,none⟩ (.slice a9 k9 c9)) (w.heap.size) [.bool t9,.slice a8 k8 c8,.slice a9 k9 c9]):=Rec.set3 (Rec.G S0.out (g13))
  have g9:=Rec.g3 (b:=w.heap.size) (u:= .bool t9) (v:= .slice a8 k8 c8) (x:= .slice a9 k9 c9) (G.trans iF g13) (by omega)
  generalize (World.setCell (World.setCell (World.setCell w3 ⟨w.heap.size,0,none⟩ (.bool t9)) ⟨w.heap.size,1,none⟩ (.slice a8 k8 c8)) ⟨w.heap.size,2,none⟩ (.slice a9 k9 c9))=w9 at *
  have hF:=Rec.f3 (Rec.G hT.out ((G.refl _)))
  have dY:=hF.1
  have dZ:=hF.2.1
  have ed:=hF.2.2.1
  have eB:=hF.2.2.2.1
  have iD:=hF.2.2.2.2.1
  have iE:=hF.2.2.2.2.2
  clear hF
  refine bodyPost_ret (v:= .agg #[.bool t9,.slice a8 k8 c8,.slice a9 k9 c9]) (by simp [results,Tryz.results44,go_sem, *]) rfl ?_
  exact⟨_,rfl,g9,a8,k8,c8,a9,k9,c9,by rw[← iQ.out],dX,bJ⟩
 ·obtain⟨n,rfl⟩:∃ n:Nat,e=(n:Int):=⟨e.natAbs,by omega⟩
  have hmk:mk2 m (n:Int)=((m*((2^n:Nat):Int):Int):Rat):=by
   unfold mk2
   rw[show (-(n:Int)).toNat=0 from by omega,show (n:Int).toNat=n from by omega,mkRat_one]
  rw[hmk]
  obtain⟨t,ht⟩:∃ t,t=decide (m<0):=⟨_,rfl⟩
  have HL:Hid (∀ w1 v1,Num w1 v1 m.natAbs→_):=fun w1 v1 hv=>q20 w1 v1 m.natAbs n 1 (by omega) (by omega) hv hmb
  have hsg:sgn t (m.natAbs*2^n)=m*((2^n:Nat):Int):=by
   have h:=q23 m
   rw[← ht] at h
   rw[q4M,h]
  have HS:Hid (∀ w1 v1,Num w1 v1 (m.natAbs*2^n)→Calls Tryz.prog 47 #[.bool t,v1] w1 (q0M w1 (m*((2^n:Nat):Int)))):=fun w1 v1 hv=>by
   have h:=q19 w1 v1 t _ hv
   rw[hsg] at h;exact h
  have HF:Hid (∀ w1 v1 v2,WholeIs w1 v1 (m*((2^n:Nat):Int))→Num w1 v2 1→_):=fun w1 v1 v2 k1 k2=>q1t w1 v1 v2 (m*((2^n:Nat):Int)) 1 1 ((m*((2^n:Nat):Int):Int):Rat) k1 k2 (by omega) (by omega) (fun _=>Nat.gcd_one_right _) (mkRat_one _)
  have hd:decide ((n:Int)<0)=false:=by simp
  have hb:(n:Int)≤1000000:=by omega
  generalize ((m*((2^n:Nat):Int):Int):Rat)=q at *
  generalize m*((2^n:Nat):Int)=z at *
  generalize m.natAbs*2^n=P at *
  have Bf:Hid (t=decide (m<0)):=ht
  clear hmk hmb hm h1 h2 he h3 h4 hsg ht
  go_enter Tryz.func44,Tryz.ntmps44
  go_wp2_with fail
  obtain⟨w0,aM,g0,hz0,R0⟩:=q0x w [.bool false,.slice none 0 0,.slice none 0 0] 30
  rw[aM]
  clear aM
  refine Calls.mono (P:=Tryz.prog) (HW.out w0) ?_
  intro e2 w1 hs
  obtain⟨v1,rfl,g1,⟨a,k,c,rfl,k1⟩⟩:=hs
  have K1:Hid (Num w1 (.slice a k c) m.natAbs):=k1
  rw[← Bf.out]
  clear k1 HW Bf
  go_wp2_with fail
  have S0:Hid (Rec _ _ _):=Rec.G R0.out (g1)
  have iF:=G.trans g0 g1
  clear R0 g0 g1
  obtain⟨w2,aM,g2,hz2,R0⟩:=q0x w1 [.bool t,.slice a k c] 28
  rw[aM]
  clear aM
  refine q08 9 1 #[true,true,true,true,true,true,true,true,true,false] [.is (.pointer (some ⟨w1.heap.size,0,none⟩)),.is (.bool t),.is (.pointer (some ⟨w1.heap.size,1,none⟩)),.is (.slice a k c),.is (.int .i64 n),.any (fun v w'=>Num w' v (P)),.any (fun v w'=>WholeIs w' v (z)),.any (fun v w'=>Num w' v (1)),.any (fun v w'=>QIs w' v (q))] [some 16,some 17,some 18,some 19,some 20,some 21,some 22,some 23,some 24] (by kernel_rfl) (by kernel_rfl) rfl (by kernel_rfl) (by repeat (first|exact trivial|refine⟨fun _ _ _ g h=>by first|exact h.G g|exact fun w3 g3=>h w3 (G.trans g g3),?_⟩)) (by kernel_rfl) (by kernel_rfl) ?_
  refine Letters.is ?_
  refine Letters.is ?_
  refine Letters.is ?_
  refine Letters.is ?_
  refine Letters.is ?_
  refine Letters.any fun v5=> ?_
  refine Letters.any fun v6=> ?_
  refine Letters.any fun v7=> ?_
  refine Letters.any fun v8=> ?_
  refine Letters.nil ?_
  intro A hA
  simp only[q0V,Act.put,List.setIfInBounds_toArray,List.set_cons_zero,List.set_cons_succ] at hA
  subst hA
  refine⟨?_,?_⟩
  ·skip
   refine Eaches.cons rfl ?jP (Eaches.cons rfl ?kL (Eaches.cons rfl ?jQ (Eaches.cons rfl ?kM (Eaches.cons rfl ?lQ (Eaches.cons rfl ?lS (Eaches.cons rfl ?lT (Eaches.cons rfl ?mX (Eaches.cons rfl ?qw (Eaches.nil)))))))))
   case jP|jQ|lQ=>
    intro W hW hD K hK
    clear hD
    go_simp
    exact hK.out _ _ ⟨_,rfl,G.refl _,rfl⟩
   case kL|kM=>
    intro W hW hD K hK
    clear hD
    have hR0:=Rec.f2 (Rec.G R0.out hW)
    have jg:=hR0.1
    have jh:=hR0.2.1
    clear hR0
    go_simp
    exact hK.out _ _ ⟨_,rfl,G.refl _,rfl⟩
   ·intro W hW hD K hK
    clear hD
    go_simp
    go_wp2_with (go_at_call 112;refine Calls.mono (P:=Tryz.prog) (HL.out W (.slice a k c) (K1.out.G (G.trans g2 hW))) ?_;intro e w9 hs;obtain⟨u9,rfl,g9,aN⟩:=hs)
    exact hK.out _ _ ⟨_,rfl,g9,aN⟩
   ·intro W hW hD K hK
    have h5:=Deps.get (v:=v5) 5 hD rfl rfl (by kernel_rfl)
    clear hD
    go_simp
    go_wp2_with (go_at_call 47;refine Calls.mono (P:=Tryz.prog) (HS.out W v5 h5) ?_;intro e w9 hs;obtain⟨u9,rfl,g9,aN⟩:=hs)
    exact hK.out _ _ ⟨_,rfl,g9,aN⟩
   ·intro W hW hD K hK
    clear hD
    go_simp
    exact hK.out _ _ ⟨_,rfl,(G.refl _).alloc _,q1I (by decide) (by decide)⟩
   ·intro W hW hD K hK
    have h6:=Deps.get (v:=v6) 6 hD rfl rfl (by kernel_rfl)
    have h7:=Deps.get (v:=v7) 7 hD rfl rfl (by kernel_rfl)
    clear hD
    go_simp
    go_wp2_with (go_at_call 46;refine Calls.mono (P:=Tryz.prog) (HF.out W v6 v7 h6 h7) ?_;intro e w9 hs;obtain⟨u9,rfl,g9,aN⟩:=hs)
    exact hK.out _ _ ⟨_,rfl,g9,aN⟩
  intro w3 g3 hH
  have h8:=Helds.get (v:=v8) 8 hH rfl rfl
  clear hH
  clear HL HF HS R0 K1
  have g13:=G.trans g2 g3
  clear g2 g3
  obtain⟨a8,k8,c8,a9,k9,c9,rfl,fT,dB⟩:=h8
  have jf:Hid (Num w3 (.slice a8 k8 c8) (q).num.natAbs):=fT
  have gU:Hid (Num w3 (.slice a9 k9 c9) (q1Z (q).den)):=dB
  obtain⟨t9,bK⟩:∃ t,t=decide ((q).num<0):=⟨_,rfl⟩
  rw[← bK]
  have iQ:Hid (t9=decide ((q).num<0)):=bK
  clear fT dB bK
  have hS:=Rec.f3 (Rec.G S0.out (g13))
  have bF:=hS.1
  have bG:=hS.2.1
  have bH:=hS.2.2.1
  have bI:=hS.2.2.2.1
  have dV:=hS.2.2.2.2.1
  have dW:=hS.2.2.2.2.2
  clear hS
  refine wpAny_ready (rs:=[9]) (by kernel_rfl) (by simp) ?_
  refine AllReady.cons rfl (fun K hK=> ?_) AllReady.nil
  go_simp
  refine hK _ _ ?_
  clear hK K bF bG bH bI dV dW
  refine wpAny_done (by kernel_rfl) ?_ _
  have dX:Num _ _ _:=q0o (u1:= .bool t9) (u2:= .slice a8 k8 c8) (u3:= .slice a9 k9 c9) jf.out (Rec.G S0.out (g13)) trivial trivial trivial
  have bJ:Num _ _ _:=q0o (u1:= .bool t9) (u2:= .slice a8 k8 c8) (u3:= .slice a9 k9 c9) gU.out (Rec.G S0.out (g13)) trivial trivial trivial
  go_wp2_with fail
  have hT:Hid (Rec (World.setCell (World.setCell (World.setCell w3 ⟨w.heap.size,0,none⟩ (.bool t9)) ⟨w.heap.size,1,none⟩ (.slice a8 k8 c8)) ⟨w.heap.size,2,none⟩ (.slice a9 k9 c9)) (w.heap.size) [.bool t9,.slice a8 k8 c8,.slice a9 k9 c9]):=Rec.set3 (Rec.G S0.out (g13))
  have g9:=Rec.g3 (b:=w.heap.size) (u:= .bool t9) (v:= .slice a8 k8 c8) (x:= .slice a9 k9 c9) (G.trans iF g13) (by omega)
  generalize (World.setCell (World.setCell (World.setCell w3 ⟨w.heap.size,0,none⟩ (.bool t9)) ⟨w.heap.size,1,none⟩ (.slice a8 k8 c8)) ⟨w.heap.size,2,none⟩ (.slice a9 k9 c9))=w9 at *
  have hF:=Rec.f3 (Rec.G hT.out ((G.refl _)))
  have dY:=hF.1
  have dZ:=hF.2.1
  have ed:=hF.2.2.1
  have eB:=hF.2.2.2.1
  have iD:=hF.2.2.2.2.1
  have iE:=hF.2.2.2.2.2
  clear hF
  refine bodyPost_ret (v:= .agg #[.bool t9,.slice a8 k8 c8,.slice a9 k9 c9]) (by simp [results,Tryz.results44,go_sem, *]) rfl ?_
  exact⟨_,rfl,g9,a8,k8,c8,a9,k9,c9,by rw[← iQ.out],dX,bJ⟩
theorem q2w {w:World} {v:Value} {n b i:Nat} {x y u:Value} (h:Num w v n) (r:Rec w b [x,y]) (hx:q2C x) (hy:q2C y):Num (w.setCell ⟨b,i,none⟩ u) v n:=
 q38 h r (by intro z hz;simp at hz;rcases hz with rfl|rfl<;>assumption) _ (fun i k hi=>by
  rw[World.cell?_setCell_other _ _ _ _ (by intro e;injection e with e1;exact hi e1.symm)]) (by simp [World.setCell])
theorem qb3 {w:World} {b c:Nat} {x y x' y' z':Value} (h:Rec w b [x,y]) (h2:Rec w c [x',y',z']):b≠c:=by
 intro e
 subst e
 obtain⟨t,h⟩:=h
 obtain⟨t2,h2⟩:=h2
 rw[h] at h2
 simp at h2
/-- A sum of fractions over one bar: s divides both bars, r the sum above and s. -/
theorem q9e {x y:Rat} {op:Int→Int→Int} {z:Rat} (hz:z=mkRat (op (x.num*y.den) (y.num*x.den)) (x.den*y.den)) (hop:∀ a b k:Int,op a b*k=op (a*k) (b*k))
  {s r:Nat} (hs:s=Nat.gcd x.den y.den) {T:Int} (hT:T=op (x.num*((y.den/s:Nat):Int)) (y.num*((x.den/s:Nat):Int))) (hr:r=Nat.gcd T.natAbs s) (t:Bool) (ht:t=decide (T<0)):
  z=mkRat (sgn t (T.natAbs/r)) (x.den/s*(y.den/s)*(s/r)):=by
 have hxd:=x.den_pos
 have om:=y.den_pos
 have hs0:0<s:=by rw[hs];exact Nat.gcd_pos_of_pos_left _ hxd
 have hr0:0<r:=by rw[hr];exact Nat.gcd_pos_of_pos_right _ hs0
 obtain⟨a,ha⟩:s∣x.den:=by rw[hs];exact Nat.gcd_dvd_left _ _
 obtain⟨b,hb⟩:s∣y.den:=by rw[hs];exact Nat.gcd_dvd_right _ _
 obtain⟨c,hc⟩:r∣T.natAbs:=by rw[hr];exact Nat.gcd_dvd_left _ _
 obtain⟨e,he⟩:r∣s:=by rw[hr];exact Nat.gcd_dvd_right _ _
 have e1:x.den/s=a:=by rw[ha];exact Nat.mul_div_cancel_left _ hs0
 have e2:y.den/s=b:=by rw[hb];exact Nat.mul_div_cancel_left _ hs0
 have e3:T.natAbs/r=c:=by rw[hc];exact Nat.mul_div_cancel_left _ hr0
 have e4:s/r=e:=by rw[he];exact Nat.mul_div_cancel_left _ hr0
 rw[e1,e2] at hT ⊢
 rw[e3,e4]
 have ha0:a≠0:=by rintro rfl;omega
 have hb0:b≠0:=by rintro rfl;omega
 have he0:e≠0:=by rintro rfl;omega
 have hTs:T=sgn t c*(r:Int):=by
  have h:=q23 T
  rw[← ht,hc,Nat.mul_comm,q4M] at h
  exact h.symm
 have htop:op (x.num*y.den) (y.num*x.den)=T*(s:Int):=by
  rw[hT,hop,ha,hb]
  congr 1<;>(rw[Int.natCast_mul];ac_rfl)
 rw[hz,htop,hTs,ha,hb]
 rw[Rat.mkRat_eq_iff (Nat.mul_ne_zero (Nat.mul_ne_zero (by omega) ha0) (Nat.mul_ne_zero (by omega) hb0)) (Nat.mul_ne_zero (Nat.mul_ne_zero ha0 hb0) he0)]
 have h5:(s:Int)=r*e:=by rw[he,Int.natCast_mul]
 simp only[Int.natCast_mul]
 rw[h5]
 ac_rfl
theorem q8B {x y:Rat} {op:Int→Int→Int} (vS:∀ p q g:Int,g∣q→g∣op p q→g∣p) (vT:∀ p q g:Int,g∣p→g∣op p q→g∣q)
  {s r:Nat} (hs:s=Nat.gcd x.den y.den) {T:Int} (hT:T=op (x.num*((y.den/s:Nat):Int)) (y.num*((x.den/s:Nat):Int))) (hr:r=Nat.gcd T.natAbs s):
  Nat.gcd (T.natAbs/r) (x.den/s*(y.den/s)*(s/r))=1:=by
 have hxd:=x.den_pos
 have om:=y.den_pos
 have hs0:0<s:=by rw[hs];exact Nat.gcd_pos_of_pos_left _ hxd
 have hr0:0<r:=by rw[hr];exact Nat.gcd_pos_of_pos_right _ hs0
 have hxs:s∣x.den:=by rw[hs];exact Nat.gcd_dvd_left _ _
 have hys:s∣y.den:=by rw[hs];exact Nat.gcd_dvd_right _ _
 have hab:Nat.gcd (x.den/s) (y.den/s)=1:=by rw[hs];exact q4l om
 have hra:r∣T.natAbs:=by rw[hr];exact Nat.gcd_dvd_left _ _
 have hTr:Nat.gcd (T.natAbs/r) (s/r)=1:=by rw[hr];exact q4l hs0
 have hxa:x.den/s∣x.den:=Nat.div_dvd_of_dvd hxs
 have hyb:y.den/s∣y.den:=Nat.div_dvd_of_dvd hys
 have key:∀ (n d e:Nat),Nat.gcd n d=1→Nat.gcd d e=1→Nat.gcd (n*e) d=1:=fun n d e h1 h2=>Nat.Coprime.mul_left h1 (by show Nat.gcd e d=1;rw[Nat.gcd_comm];exact h2)
 have Rt:Nat.gcd T.natAbs (x.den/s)=1:=by
  refine Nat.eq_one_of_dvd_one ?_
  have g1:((Nat.gcd T.natAbs (x.den/s):Nat):Int)∣T:=Int.ofNat_dvd_left.2 (Nat.gcd_dvd_left _ _)
  have g2:Nat.gcd T.natAbs (x.den/s)∣x.den/s:=Nat.gcd_dvd_right _ _
  generalize Nat.gcd T.natAbs (x.den/s)=g at *
  rw[hT] at g1
  have g3:=vS _ _ _ (Int.dvd_trans (Int.natCast_dvd_natCast.2 g2) (Int.dvd_mul_left _ _)) g1
  have g4:=Int.ofNat_dvd_left.1 g3
  rw[Int.natAbs_mul,Int.natAbs_natCast] at g4
  have g5:=key x.num.natAbs (x.den/s) (y.den/s) (q2L x.reduced (Nat.dvd_refl _) hxa) hab
  rw[← g5]
  exact Nat.dvd_gcd g4 g2
 have uO:Nat.gcd T.natAbs (y.den/s)=1:=by
  refine Nat.eq_one_of_dvd_one ?_
  have g1:((Nat.gcd T.natAbs (y.den/s):Nat):Int)∣T:=Int.ofNat_dvd_left.2 (Nat.gcd_dvd_left _ _)
  have g2:Nat.gcd T.natAbs (y.den/s)∣y.den/s:=Nat.gcd_dvd_right _ _
  generalize Nat.gcd T.natAbs (y.den/s)=g at *
  rw[hT] at g1
  have g3:=vT _ _ _ (Int.dvd_trans (Int.natCast_dvd_natCast.2 g2) (Int.dvd_mul_left _ _)) g1
  have g4:=Int.ofNat_dvd_left.1 g3
  rw[Int.natAbs_mul,Int.natAbs_natCast] at g4
  have g5:=key y.num.natAbs (y.den/s) (x.den/s) (q2L y.reduced (Nat.dvd_refl _) hyb) (by rw[Nat.gcd_comm];exact hab)
  rw[← g5]
  exact Nat.dvd_gcd g4 g2
 have hd:T.natAbs/r∣T.natAbs:=Nat.div_dvd_of_dvd hra
 exact Nat.Coprime.mul_right (Nat.Coprime.mul_right (q2L Rt hd (Nat.dvd_refl _)) (q2L uO hd (Nat.dvd_refl _))) hTr
set_option maxHeartbeats 2000000 in
theorem q7J (w:World) (v u:Value) (x y:Rat) (K:Nat) (hK:K≤40000) (hK1:1≤K) (uO:Tab w) (hx:QIs w v x) (hy:QIs w u y) (bx:QB x K) (mq:QB y K) (FR:Nat) (op:Int→Int→Int) (z:Rat)
  (hz:z=mkRat (op (x.num*y.den) (y.num*x.den)) (x.den*y.den)) (hop:∀ a b k:Int,op a b*k=op (a*k) (b*k)) (vS:∀ p q g:Int,g∣q→g∣op p q→g∣p) (vT:∀ p q g:Int,g∣p→g∣op p q→g∣q) (hab:∀ p q:Int,(op p q).natAbs≤p.natAbs+q.natAbs)
  (Nl:∀ w1 v1 v2 (X Y:Int),X.natAbs<2^(64*(K+K))→Y.natAbs<2^(64*(K+K))→WholeIs w1 v1 X→WholeIs w1 v2 Y→Calls Tryz.prog FR #[v1,v2] w1 (q0M w1 (op X Y))) (hE:∀ args w,(callFunc FR args).run Tryz.prog w= .ok (.enter FR args) w):
  Calls Tryz.prog 53 #[v,u,.func (.func FR) #[] #[]] w (RetQ w z):=by
 have oV:Hid (∀ w1,G w w1→_):=fun w1 g=>q6I w1 v x (hx.G g)
 have sQ:Hid (∀ w1,G w w1→_):=fun w1 g=>q6I w1 u y (hy.G g)
 obtain⟨a,k,c,a',k',c',rfl,hx1,hx2⟩:=hx
 obtain⟨b,j,e,b',j',e',rfl,hy1,hy2⟩:=hy
 have hxd:=x.den_pos
 have om:=y.den_pos
 obtain⟨s,hs⟩:∃ s,s=Nat.gcd x.den y.den:=⟨_,rfl⟩
 have hs0:0<s:=by rw[hs];exact Nat.gcd_pos_of_pos_left _ hxd
 have hsb:s<2^(64*K):=Nat.lt_of_le_of_lt (by rw[hs];exact Nat.gcd_le_left _ hxd) bx.2
 obtain⟨T,hT⟩:∃ T:Int,T=op (x.num*((y.den/s:Nat):Int)) (y.num*((x.den/s:Nat):Int)):=⟨_,rfl⟩
 obtain⟨r,hr⟩:∃ r,r=Nat.gcd T.natAbs s:=⟨_,rfl⟩
 obtain⟨t,ht⟩:∃ t,t=decide (T<0):=⟨_,rfl⟩
 have hr0:0<r:=by rw[hr];exact Nat.gcd_pos_of_pos_right _ hs0
 have hrb:r≤s:=by rw[hr];exact Nat.gcd_le_right _ hs0
 have hval:=q9e (x:=x) (y:=y) (op:=op) (z:=z) hz hop hs hT hr t ht
 have hlow:=q8B (x:=x) (y:=y) (op:=op) vS vT hs hT hr
 have Dp:sgn (decide (x.num<0)) x.num.natAbs=x.num:=q23 _
 have Dq:sgn (decide (y.num<0)) y.num.natAbs=y.num:=q23 _
 obtain⟨p,hp⟩:∃ p,p=x.den:=⟨_,rfl⟩
 obtain⟨q,hq⟩:∃ q,q=y.den:=⟨_,rfl⟩
 obtain⟨A,hA⟩:∃ A,A=x.den/s:=⟨_,rfl⟩
 obtain⟨B,hB⟩:∃ B,B=y.den/s:=⟨_,rfl⟩
 have bA:A<2^(64*K):=Nat.lt_of_le_of_lt (by rw[hA];exact Nat.div_le_self _ _) bx.2
 have bB:B<2^(64*K):=Nat.lt_of_le_of_lt (by rw[hB];exact Nat.div_le_self _ _) mq.2
 have A0:0<A:=by rw[hA];exact Nat.div_pos (by rw[hs];exact Nat.gcd_le_left _ hxd) hs0
 have B0:0<B:=by rw[hB];exact Nat.div_pos (by rw[hs];exact Nat.gcd_le_right _ om) hs0
 have mo:Hid (∀ w1 v1 v2,G w w1→Num w1 v1 p→Num w1 v2 q→Calls Tryz.prog 56 #[v1,v2] w1 (q0e w1 s)):=fun w1 v1 v2 g h1 h2=>by
  rw[hs,← hp,← hq];exact q1T w1 v1 v2 p q K (by omega) hK1 (uO.G g) h1 h2 (by rw[hp];exact bx.2) (by rw[hq];exact mq.2)
 have uP:Hid (∀ w1 v1 v2,Num w1 v1 p→Num w1 v2 s→Calls Tryz.prog 57 #[v1,v2] w1 (q0e w1 A)):=fun w1 v1 v2 h1 h2=>by
  rw[hA,← hp];exact q31 w1 v1 v2 p s K (by omega) hK1 h1 h2 (by rw[hp];exact bx.2) hsb hs0
 have ja:Hid (∀ w1 v1 v2,Num w1 v1 q→Num w1 v2 s→Calls Tryz.prog 57 #[v1,v2] w1 (q0e w1 B)):=fun w1 v1 v2 h1 h2=>by
  rw[hB,← hq];exact q31 w1 v1 v2 q s K (by omega) hK1 h1 h2 (by rw[hq];exact mq.2) hsb hs0
 rw[← hA,← hB] at hT hval hlow
 have HT1:Hid (∀ w1 v1,G w w1→Num w1 v1 B→Calls Tryz.prog 121 #[.agg #[.bool (decide (x.num<0)),.slice a k c],v1] w1 (q0M w1 (x.num*B))):=fun w1 v1 g h=>by
  have h:=q60 w1 (.agg #[.bool (decide (x.num<0)),.slice a k c]) v1 _ _ _ K (by omega) ⟨a,k,c,rfl,hx1.G g⟩ h bx.1 bB
  rw[Dp] at h;exact h
 have HT2:Hid (∀ w1 v1,G w w1→Num w1 v1 A→Calls Tryz.prog 121 #[.agg #[.bool (decide (y.num<0)),.slice b j e],v1] w1 (q0M w1 (y.num*A))):=fun w1 v1 g h=>by
  have h:=q60 w1 (.agg #[.bool (decide (y.num<0)),.slice b j e]) v1 _ _ _ K (by omega) ⟨b,j,e,rfl,hy1.G g⟩ h mq.1 bA
  rw[Dq] at h;exact h
 have q1:(x.num*(B:Int)).natAbs<2^(64*(K+K)):=by rw[Int.natAbs_mul];exact q1h bx.1 bB
 have q2:(y.num*(A:Int)).natAbs<2^(64*(K+K)):=by rw[Int.natAbs_mul];exact q1h mq.1 bA
 have bT:T.natAbs<2^(64*(2*K+1)):=by
  have h1:2^(64*(2*K+1))=2^(64*(K+K))*2^64:=by rw[← Nat.pow_add];congr 1;omega
  rw[hT,h1]
  have h2:=hab (x.num*(B:Int)) (y.num*(A:Int))
  generalize x.num*(B:Int)=X at *
  generalize y.num*(A:Int)=Y at *
  generalize 2^(64*(K+K))=P at *
  omega
 obtain⟨X,hX⟩:∃ X:Int,X=x.num*B:=⟨_,rfl⟩
 obtain⟨Y,hY⟩:∃ Y:Int,Y=y.num*A:=⟨_,rfl⟩
 rw[← hX] at HT1 q1 hT
 rw[← hY] at HT2 q2 hT
 have HP:Hid (∀ w1 v1 v2,WholeIs w1 v1 X→WholeIs w1 v2 Y→Calls Tryz.prog FR #[v1,v2] w1 (q0M w1 T)):=fun w1 v1 v2 h1 h2=>by
  rw[hT];exact Nl w1 v1 v2 X Y q1 q2 h1 h2
 have HE:Hid (∀ args w,(callFunc FR args).run Tryz.prog w= .ok (.enter FR args) w):=hE
 have iY:Hid (∀ w1 v1 v2,G w w1→Num w1 v1 T.natAbs→Num w1 v2 s→Calls Tryz.prog 56 #[v1,v2] w1 (q0e w1 r)):=fun w1 v1 v2 g h1 h2=>by
  rw[hr];exact q1T w1 v1 v2 _ s (2*K+1) (by omega) (by omega) (uO.G g) h1 h2 bT (Nat.lt_of_lt_of_le hsb (Nat.pow_le_pow_right (by omega) (by omega)))
 have wT:Hid (∀ w1 v1 v2,Num w1 v1 T.natAbs→Num w1 v2 r→_):=fun w1 v1 v2 h1 h2=>q31 w1 v1 v2 _ r (2*K+1) (by omega) (by omega) h1 h2 bT (Nat.lt_of_le_of_lt hrb (Nat.lt_of_lt_of_le hsb (Nat.pow_le_pow_right (by omega) (by omega)))) hr0
 have sF:Hid (∀ w1 v1 v2,Num w1 v1 s→Num w1 v2 r→_):=fun w1 v1 v2 h1 h2=>q31 w1 v1 v2 s r K (by omega) hK1 h1 h2 hsb (Nat.lt_of_le_of_lt hrb hsb) hr0
 have q3:s/r<2^(64*K):=Nat.lt_of_le_of_lt (Nat.div_le_self _ _) hsb
 have q4:0<s/r:=Nat.div_pos hrb hr0
 have uQ:Hid (∀ w1 v1 v2,Num w1 v1 A→Num w1 v2 B→_):=fun w1 v1 v2 h1 h2=>q29 w1 v1 v2 A B K (by omega) h1 h2 bA bB
 have JA:A*B<2^(64*(K+K)):=q1h bA bB
 have qR:Hid (∀ w1 v1 v2,Num w1 v1 (A*B)→Num w1 v2 (s/r)→_):=fun w1 v1 v2 h1 h2=>q29 w1 v1 v2 (A*B) (s/r) (K+K) (by omega) h1 h2 JA (Nat.lt_of_lt_of_le q3 (Nat.pow_le_pow_right (by omega) (by omega)))
 have htc:decide (sgn t (T.natAbs/r)<0)=t:=by
  rw[q87]
  have h1:r∣T.natAbs:=by rw[hr];exact Nat.gcd_dvd_left _ _
  rw[ht]
  by_cases h:T<0
  ·have h2:0<T.natAbs/r:=Nat.div_pos (Nat.le_of_dvd (by omega) h1) hr0
   simp [h,h2]
  ·simp [h]
 have HF:Hid (∀ w1 d1 d2 d3 v2,Num w1 (.slice d1 d2 d3) (T.natAbs/r)→Num w1 v2 (A*B*(s/r))→Calls Tryz.prog 46 #[.agg #[.bool t,.slice d1 d2 d3],v2] w1 (RetQ w1 z)):=fun w1 d1 d2 d3 v2 h1 h2=>
  q1t w1 _ v2 (sgn t (T.natAbs/r)) (A*B*(s/r)) ((K+K)+K) z ⟨d1,d2,d3,by rw[htc],by rw[q2r];exact h1⟩ h2 (Nat.mul_pos (Nat.mul_pos A0 B0) q4) (q1h JA q3) (fun _=>by rw[q2r];exact hlow) hval
 have Jv:Hid (t=decide (T<0)):=ht
 clear hz hop vS vT hab Nl hE hval hlow htc Dp Dq hX hY hT hA hB hs hr ht q1 q2 q3 q4 JA bT bA bB A0 B0 hs0 hsb hr0 hrb hxd om bx mq uO hx1 hx2 hy1 hy2
 generalize A*B*(s/r)=M at *
 generalize A*B=N at *
 generalize s/r=sr at *
 generalize T.natAbs/r=tr at *
 obtain⟨sx,hsx⟩:∃ sx,sx=decide (x.num<0):=⟨_,rfl⟩
 obtain⟨sy,hsy⟩:∃ sy,sy=decide (y.num<0):=⟨_,rfl⟩
 rw[← hsx] at oV HT1
 rw[← hsy] at sQ HT2
 rw[← hsx,← hsy]
 rw[← hp] at oV
 rw[← hq] at sQ
 clear hsx hsy hp hq
 go_enter Tryz.func53,Tryz.ntmps53
 go_wp2_with fail
 obtain⟨w0,aM,g0,hz0,R0,R1,R2⟩:=q2Y w [.bool sx,.slice a k c,.slice a' k' c'] [.bool sy,.slice b j e,.slice b' j' e'] [.bool false,.slice none 0 0,.slice none 0 0] 30 30 30
 rw[aM]
 clear aM
 refine q08 6 0 #[true,true,true,true,true,true] [.is (.agg #[.bool sx,.slice a k c,.slice a' k' c']),.any (fun v w'=>Num w' v (p)),.is (.agg #[.bool sy,.slice b j e,.slice b' j' e']),.any (fun v w'=>Num w' v (q)),.any (fun v w'=>Num w' v (s)),.any (fun v w'=>Num w' v (s))] [some 12,some 13,some 14,some 15,some 16,some 7] (by kernel_rfl) (by kernel_rfl) rfl (by kernel_rfl) (by repeat (first|exact trivial|refine⟨fun _ _ _ g h=>by first|exact h.G g|exact fun w3 g3=>h w3 (G.trans g g3),?_⟩)) (by kernel_rfl) (by kernel_rfl) ?_
 refine Letters.is ?_
 refine Letters.any fun v1=> ?_
 refine Letters.is ?_
 refine Letters.any fun v3=> ?_
 refine Letters.any fun v4=> ?_
 refine Letters.any fun v5=> ?_
 refine Letters.nil ?_
 intro A hA
 simp only[q0V,Act.put,List.setIfInBounds_toArray,List.set_cons_zero,List.set_cons_succ] at hA
 subst hA
 refine⟨?_,?_⟩
 ·skip
  refine Eaches.cons rfl ?gH (Eaches.cons rfl ?gW (Eaches.cons rfl ?gI (Eaches.cons rfl ?gX (Eaches.cons rfl ?jq (Eaches.cons rfl ?jr (Eaches.nil))))))
  case gH|gI=>
   intro W hW hD K hK
   clear hD
   have hR0:=Rec.f3 (Rec.G R0.out hW)
   have jg:=hR0.1
   have jh:=hR0.2.1
   have pF:=hR0.2.2.1
   clear hR0
   have qo:=Rec.f3 (Rec.G R1.out hW)
   have wZ:=qo.1
   have xe:=qo.2.1
   have Dr:=qo.2.2.1
   clear qo
   go_simp
   exact hK.out _ _ ⟨_,rfl,G.refl _,rfl⟩
  ·intro W hW hD K hK
   clear hD
   go_simp
   go_wp2_with (go_at_call 48;refine Calls.mono (P:=Tryz.prog) (oV.out W (G.trans g0 hW)) ?_;intro e w9 hs;obtain⟨u9,rfl,g9,aN⟩:=hs)
   exact hK.out _ _ ⟨_,rfl,g9,aN⟩
  ·intro W hW hD K hK
   clear hD
   go_simp
   go_wp2_with (go_at_call 48;refine Calls.mono (P:=Tryz.prog) (sQ.out W (G.trans g0 hW)) ?_;intro e w9 hs;obtain⟨u9,rfl,g9,aN⟩:=hs)
   exact hK.out _ _ ⟨_,rfl,g9,aN⟩
  ·intro W hW hD K hK
   have h1:=Deps.get (v:=v1) 1 hD rfl rfl (by kernel_rfl)
   have h3:=Deps.get (v:=v3) 3 hD rfl rfl (by kernel_rfl)
   clear hD
   go_simp
   go_wp2_with (go_at_call 56;refine Calls.mono (P:=Tryz.prog) (mo.out W v1 v3 (G.trans g0 hW) h1 h3) ?_;intro e w9 hs;obtain⟨u9,rfl,g9,aN⟩:=hs)
   exact hK.out _ _ ⟨_,rfl,g9,aN⟩
  ·intro W hW hD K hK
   have h4:=Deps.get (v:=v4) 4 hD rfl rfl (by kernel_rfl)
   clear hD
   go_simp
   exact hK.out _ _ ⟨_,rfl,G.refl _,h4⟩
 intro w1 g1 hH
 have h5:=Helds.get (v:=v5) 5 hH rfl rfl
 clear hH
 refine wpAny_done (by kernel_rfl) ?_ _
 generalize v5=vs at *
 have S5:Hid (Num w1 vs s):=h5
 have iF:=G.trans g0 g1
 have S0:Hid (Rec _ _ _):=Rec.G R0.out (g1)
 have S1:Hid (Rec _ _ _):=Rec.G R1.out (g1)
 have S2:Hid (Rec _ _ _):=Rec.G R2.out (g1)
 clear h5 R0 R1 R2 g0 g1 mo
 go_wp2_with fail
 refine q08 10 0 #[true,true,true,true,true,true,true,true,true,true] [.is (.agg #[.bool sx,.slice a k c,.slice a' k' c']),.any (fun v w'=>Num w' v (p)),.is (vs),.any (fun v w'=>Num w' v (A)),.is (.agg #[.bool sy,.slice b j e,.slice b' j' e']),.any (fun v w'=>Num w' v (q)),.is (vs),.any (fun v w'=>Num w' v (B)),.any (fun v w'=>Num w' v (A)),.any (fun v w'=>Num w' v (B))] [some 17,some 18,some 19,some 20,some 21,some 22,some 23,some 24,some 8,some 9] (by kernel_rfl) (by kernel_rfl) rfl (by kernel_rfl) (by repeat (first|exact trivial|refine⟨fun _ _ _ g h=>by first|exact h.G g|exact fun w3 g3=>h w3 (G.trans g g3),?_⟩)) (by kernel_rfl) (by kernel_rfl) ?_
 refine Letters.is ?_
 refine Letters.any fun v1=> ?_
 refine Letters.is ?_
 refine Letters.any fun v3=> ?_
 refine Letters.is ?_
 refine Letters.any fun v5=> ?_
 refine Letters.is ?_
 refine Letters.any fun v7=> ?_
 refine Letters.any fun v8=> ?_
 refine Letters.any fun v9=> ?_
 refine Letters.nil ?_
 intro A hA
 simp only[q0V,Act.put,List.setIfInBounds_toArray,List.set_cons_zero,List.set_cons_succ] at hA
 subst hA
 refine⟨?_,?_⟩
 ·skip
  refine Eaches.cons rfl ?jN (Eaches.cons rfl ?lM (Eaches.cons rfl ?jO (Eaches.cons rfl ?kK (Eaches.cons rfl ?mW (Eaches.cons rfl ?lN (Eaches.cons rfl ?qp (Eaches.cons rfl ?sS (Eaches.cons rfl ?vU (Eaches.cons rfl ?JB (Eaches.nil))))))))))
  case jO|qp=>
   intro W hW hD K hK
   clear hD
   go_simp
   exact hK.out _ _ ⟨_,rfl,G.refl _,rfl⟩
  case jN|mW=>
   intro W hW hD K hK
   clear hD
   have hS0:=Rec.f3 (Rec.G S0.out hW)
   have pG:=hS0.1
   have pI:=hS0.2.1
   have xg:=hS0.2.2.1
   clear hS0
   have hS1:=Rec.f3 (Rec.G S1.out hW)
   have pJ:=hS1.1
   have pK:=hS1.2.1
   have xh:=hS1.2.2.1
   clear hS1
   go_simp
   exact hK.out _ _ ⟨_,rfl,G.refl _,rfl⟩
  ·intro W hW hD K hK
   clear hD
   go_simp
   go_wp2_with (go_at_call 48;refine Calls.mono (P:=Tryz.prog) (oV.out W (G.trans iF hW)) ?_;intro e w9 hs;obtain⟨u9,rfl,g9,aN⟩:=hs)
   exact hK.out _ _ ⟨_,rfl,g9,aN⟩
  ·intro W hW hD K hK
   have h1:=Deps.get (v:=v1) 1 hD rfl rfl (by kernel_rfl)
   clear hD
   go_simp
   go_wp2_with (go_at_call 57;refine Calls.mono (P:=Tryz.prog) (uP.out W v1 vs h1 (S5.out.G hW)) ?_;intro e w9 hs;obtain⟨u9,rfl,g9,aN⟩:=hs)
   exact hK.out _ _ ⟨_,rfl,g9,aN⟩
  ·intro W hW hD K hK
   clear hD
   go_simp
   go_wp2_with (go_at_call 48;refine Calls.mono (P:=Tryz.prog) (sQ.out W (G.trans iF hW)) ?_;intro e w9 hs;obtain⟨u9,rfl,g9,aN⟩:=hs)
   exact hK.out _ _ ⟨_,rfl,g9,aN⟩
  ·intro W hW hD K hK
   have h5:=Deps.get (v:=v5) 5 hD rfl rfl (by kernel_rfl)
   clear hD
   go_simp
   go_wp2_with (go_at_call 57;refine Calls.mono (P:=Tryz.prog) (ja.out W v5 vs h5 (S5.out.G hW)) ?_;intro e w9 hs;obtain⟨u9,rfl,g9,aN⟩:=hs)
   exact hK.out _ _ ⟨_,rfl,g9,aN⟩
  ·intro W hW hD K hK
   have h3:=Deps.get (v:=v3) 3 hD rfl rfl (by kernel_rfl)
   clear hD
   go_simp
   exact hK.out _ _ ⟨_,rfl,G.refl _,h3⟩
  ·intro W hW hD K hK
   have h7:=Deps.get (v:=v7) 7 hD rfl rfl (by kernel_rfl)
   clear hD
   go_simp
   exact hK.out _ _ ⟨_,rfl,G.refl _,h7⟩
 intro w2 g2 hH
 have h8:=Helds.get (v:=v8) 8 hH rfl rfl
 have h9:=Helds.get (v:=v9) 9 hH rfl rfl
 clear hH
 refine wpAny_done (by kernel_rfl) ?_ _
 have S8:Hid (Num w2 v8 A):=h8
 have S9:Hid (Num w2 v9 B):=h9
 have Nn:Hid (Num w2 vs s):=S5.out.G g2
 have iV:=G.trans iF g2
 have T0:Hid (Rec _ _ _):=Rec.G S0.out (g2)
 have T1:Hid (Rec _ _ _):=Rec.G S1.out (g2)
 have T2:Hid (Rec _ _ _):=Rec.G S2.out (g2)
 generalize v8=va at *
 generalize v9=vb at *
 clear h8 h9 S5 S0 S1 S2 iF g2 uP ja oV sQ
 go_wp2_with fail
 refine q08 11 1 #[true,true,true,true,true,true,true,true,true,true,true,false] [.is (.func (.func FR) #[] #[]),.is (.pointer (some ⟨w.heap.size,0,none⟩)),.is (.agg #[.bool sx,.slice a k c]),.is (vb),.any (fun v w'=>WholeIs w' v (X)),.is (.pointer (some ⟨w.heap.size+1,0,none⟩)),.is (.agg #[.bool sy,.slice b j e]),.is (va),.any (fun v w'=>WholeIs w' v (Y)),.any (fun v w'=>WholeIs w' v (T)),.any (fun v w'=>NewRec w2 w' v ([.bool false,.slice none 0 0]))] [some 25,some 26,some 27,some 28,some 29,some 30,some 31,some 32,some 33,some 34,some 10] (by kernel_rfl) (by kernel_rfl) rfl (by kernel_rfl) (by repeat (first|exact trivial|refine⟨fun _ _ _ g h=>by first|exact h.G g|exact fun w3 g3=>h w3 (G.trans g g3),?_⟩)) (by kernel_rfl) (by kernel_rfl) ?_
 refine Letters.is ?_
 refine Letters.is ?_
 refine Letters.is ?_
 refine Letters.is ?_
 refine Letters.any fun v4=> ?_
 refine Letters.is ?_
 refine Letters.is ?_
 refine Letters.is ?_
 refine Letters.any fun v8=> ?_
 refine Letters.any fun v9=> ?_
 refine Letters.any fun v10=> ?_
 refine Letters.nil ?_
 intro A hA
 simp only[q0V,Act.put,List.setIfInBounds_toArray,List.set_cons_zero,List.set_cons_succ] at hA
 subst hA
 refine⟨?_,?_⟩
 ·skip
  refine Eaches.cons rfl ?jP (Eaches.cons rfl ?kL (Eaches.cons rfl ?jQ (Eaches.cons rfl ?kM (Eaches.cons rfl ?lQ (Eaches.cons rfl ?lS (Eaches.cons rfl ?lT (Eaches.cons rfl ?mX (Eaches.cons rfl ?qw (Eaches.cons rfl ?zz (Eaches.cons rfl ?Dt (Eaches.nil)))))))))))
  case jP|kL|kM|lS|mX=>
   intro W hW hD K hK
   clear hD
   go_simp
   exact hK.out _ _ ⟨_,rfl,G.refl _,rfl⟩
  case jQ|lT=>
   intro W hW hD K hK
   clear hD
   have hT0:=Rec.f3 (Rec.G T0.out hW)
   have wV:=hT0.1
   have wW:=hT0.2.1
   have wX:=hT0.2.2.1
   clear hT0
   have hT1:=Rec.f3 (Rec.G T1.out hW)
   have Du:=hT1.1
   have Dv:=hT1.2.1
   have Dw:=hT1.2.2.1
   clear hT1
   go_simp
   exact hK.out _ _ ⟨_,rfl,G.refl _,rfl⟩
  ·intro W hW hD K hK
   clear hD
   go_simp
   go_wp2_with (go_at_call 121;refine Calls.mono (P:=Tryz.prog) (HT1.out W vb (G.trans iV hW) (S9.out.G hW)) ?_;intro e w9 hs;obtain⟨u9,rfl,g9,aN⟩:=hs)
   exact hK.out _ _ ⟨_,rfl,g9,aN⟩
  ·intro W hW hD K hK
   clear hD
   go_simp
   go_wp2_with (go_at_call 121;refine Calls.mono (P:=Tryz.prog) (HT2.out W va (G.trans iV hW) (S8.out.G hW)) ?_;intro e w9 hs;obtain⟨u9,rfl,g9,aN⟩:=hs)
   exact hK.out _ _ ⟨_,rfl,g9,aN⟩
  ·intro W hW hD K hK
   have h4:=Deps.get (v:=v4) 4 hD rfl rfl (by kernel_rfl)
   have h8:=Deps.get (v:=v8) 8 hD rfl rfl (by kernel_rfl)
   clear hD
   have hcf:=HE.out #[v4,v8] W
   go_simp
   go_wp2_with (refine Calls.mono (P:=Tryz.prog) (HP.out W v4 v8 h4 h8) ?_;intro e w9 hs;obtain⟨u9,rfl,g9,aN⟩:=hs)
   exact hK.out _ _ ⟨_,rfl,g9,aN⟩
  ·intro W hW hD K hK
   clear hD
   go_simp
   exact hK.out _ _ ⟨_,rfl,(G.refl _).alloc _,_,rfl,hW.size,Rec.new2 _ _ _ _⟩
 intro w3 g3 hH
 have h9:=Helds.get (v:=v9) 9 hH rfl rfl
 have h10:=Helds.get (v:=v10) 10 hH rfl rfl
 clear hH
 obtain⟨nb,rfl,hnb,dJ⟩:=h10
 obtain⟨d1,d2,d3,rfl,dB⟩:=h9
 rw[← Jv.out]
 have N0:Hid (Rec w3 nb [.bool false,.slice none 0 0]):=dJ
 have JC:Hid (Num _ (.slice d1 d2 d3) T.natAbs):=q1O (u1:= .bool t) (u2:= .slice d1 d2 d3) dB dJ trivial trivial
 clear dJ dB HP HT1 HT2
 have hS:=Rec.f2 (Rec.G N0.out ((G.refl _)))
 have bF:=hS.1
 have bG:=hS.2.1
 have bH:=hS.2.2.1
 have bI:=hS.2.2.2
 clear hS
 refine wpAny_ready (rs:=[11]) (by kernel_rfl) (by simp) ?_
 refine AllReady.cons rfl (fun K hK=> ?_) AllReady.nil
 go_simp
 refine hK _ _ ?_
 clear hK K bF bG bH bI
 refine wpAny_done (by kernel_rfl) ?_ _
 have N1:Hid (Rec _ nb [.bool t,.slice d1 d2 d3]):=Rec.set2 N0.out
 have g4:=Rec.g2 (b:=nb) (u:= .bool t) (v:= .slice d1 d2 d3) g3 hnb
 generalize ((w3.setCell ⟨nb,0,none⟩ (.bool t)).setCell ⟨nb,1,none⟩ (.slice d1 d2 d3))=w4 at *
 have sP:=G.trans iV g4
 have U2:Hid (Rec _ _ _):=Rec.G T2.out (g4)
 have S5:Hid (Num w4 vs s):=Nn.out.G g4
 have Np:Hid (Num w4 va A):=S8.out.G g4
 have Nq:Hid (Num w4 vb B):=S9.out.G g4
 have nJ:Hid _:=iY.out w4 (.slice d1 d2 d3) vs sP JC.out S5.out
 have hnw:w.heap.size≤nb:=Nat.le_trans iV.size hnb
 clear T0 T1 T2 N0 Nn S8 S9 iV g3 g4 hnb iY
 have dG:=Rec.f2 (Rec.G N1.out (G.refl _))
 have iG:=dG.1
 have iH:=dG.2.1
 have iI:=dG.2.2.1
 have iJ:=dG.2.2.2
 clear dG
 go_wp2_with fail
 refine Calls.mono (P:=Tryz.prog) nJ.out ?_
 intro e4 w5 hs
 obtain⟨vr,rfl,g5,uM⟩:=hs
 have Nr:Hid _:=wT.out w5 (.slice d1 d2 d3) vr (JC.out.G g5) uM
 have SR:Hid (Num w5 vr r):=uM
 clear nJ wT uM iG iH iI iJ
 have dG:=Rec.f2 (Rec.G N1.out (g5))
 have iG:=dG.1
 have iH:=dG.2.1
 have iI:=dG.2.2.1
 have iJ:=dG.2.2.2
 clear dG
 go_wp2_with fail
 refine Calls.mono (P:=Tryz.prog) Nr.out ?_
 intro e4 w6 hs
 obtain⟨vt,rfl,g6,wO⟩:=hs
 obtain⟨f1,f2,f3,rfl,-⟩:=q1E wO
 have Ns:Hid (Num w6 vr r):=SR.out.G g6
 have ST:Hid (Num (w6.setCell ⟨nb,1,none⟩ (.slice f1 f2 f3)) (.slice f1 f2 f3) tr):=q2w wO (Rec.G (Rec.G N1.out g5) g6) trivial trivial
 have qU:=G.trans g5 g6
 have SA:Hid (Num (w6.setCell ⟨nb,1,none⟩ (.slice f1 f2 f3)) va A):=q2w (Np.out.G qU) (Rec.G N1.out qU) trivial trivial
 have SB:Hid (Num (w6.setCell ⟨nb,1,none⟩ (.slice f1 f2 f3)) vb B):=q2w (Nq.out.G qU) (Rec.G N1.out qU) trivial trivial
 have SS:Hid (Num (w6.setCell ⟨nb,1,none⟩ (.slice f1 f2 f3)) vs s):=q2w (S5.out.G qU) (Rec.G N1.out qU) trivial trivial
 have SQ:Hid (Num (w6.setCell ⟨nb,1,none⟩ (.slice f1 f2 f3)) vr r):=q2w Ns.out (Rec.G N1.out qU) trivial trivial
 have N2:Hid (Rec (w6.setCell ⟨nb,1,none⟩ (.slice f1 f2 f3)) nb [.bool t,.slice f1 f2 f3]):=(Rec.G N1.out qU).set 1 _
 have V2:Hid (Rec (w6.setCell ⟨nb,1,none⟩ (.slice f1 f2 f3)) (w.heap.size+2) [.bool false,.slice none 0 0,.slice none 0 0]):=(Rec.G U2.out qU).oth (p:=⟨nb,1,none⟩) _ (qb3 N1.out U2.out)
 have g7:G w (w6.setCell ⟨nb,1,none⟩ (.slice f1 f2 f3)):=(G.trans sP qU).setCell (p:=⟨nb,1,none⟩) hnw _
 clear Nr wO iG iH iI iJ SR Ns S5 Np Nq sP hnw JC U2
 have dG:=Rec.f2 (Rec.G N1.out (qU))
 have iG:=dG.1
 have iH:=dG.2.1
 have iI:=dG.2.2.1
 have iJ:=dG.2.2.2
 clear dG
 clear g5 g6 qU
 go_wp2_with fail
 generalize w6.setCell ⟨nb,1,none⟩ (.slice f1 f2 f3)=w7 at *
 clear iG iH iI iJ N1
 refine q08 9 1 #[true,true,true,true,true,true,true,true,true,false] [.is (.agg #[.bool t,.slice f1 f2 f3]),.is (va),.is (vb),.any (fun v w'=>Num w' v (N)),.is (vs),.is (vr),.any (fun v w'=>Num w' v (sr)),.any (fun v w'=>Num w' v (M)),.any (fun v w'=>QIs w' v (z))] [some 44,some 45,some 46,some 47,some 48,some 49,some 50,some 51,some 52] (by kernel_rfl) (by kernel_rfl) rfl (by kernel_rfl) (by repeat (first|exact trivial|refine⟨fun _ _ _ g h=>by first|exact h.G g|exact fun w3 g3=>h w3 (G.trans g g3),?_⟩)) (by kernel_rfl) (by kernel_rfl) ?_
 refine Letters.is ?_
 refine Letters.is ?_
 refine Letters.is ?_
 refine Letters.any fun v3=> ?_
 refine Letters.is ?_
 refine Letters.is ?_
 refine Letters.any fun v6=> ?_
 refine Letters.any fun v7=> ?_
 refine Letters.any fun v8=> ?_
 refine Letters.nil ?_
 intro A hA
 simp only[q0V,Act.put,List.setIfInBounds_toArray,List.set_cons_zero,List.set_cons_succ] at hA
 subst hA
 refine⟨?_,?_⟩
 ·skip
  refine Eaches.cons rfl ?sU (Eaches.cons rfl ?sV (Eaches.cons rfl ?sW (Eaches.cons rfl ?vV (Eaches.cons rfl ?sZ (Eaches.cons rfl ?tq (Eaches.cons rfl ?zA (Eaches.cons rfl ?zB (Eaches.cons rfl ?Dx (Eaches.nil)))))))))
  case sV|sW|sZ|tq=>
   intro W hW hD K hK
   clear hD
   go_simp
   exact hK.out _ _ ⟨_,rfl,G.refl _,rfl⟩
  case sU=>
   intro W hW hD K hK
   clear hD
   have iB:=Rec.f2 (Rec.G N2.out hW)
   have Nt:=iB.1
   have Nu:=iB.2.1
   clear iB
   go_simp
   exact hK.out _ _ ⟨_,rfl,G.refl _,rfl⟩
  ·intro W hW hD K hK
   clear hD
   go_simp
   go_wp2_with (go_at_call 58;refine Calls.mono (P:=Tryz.prog) (uQ.out W va vb (SA.out.G hW) (SB.out.G hW)) ?_;intro e w9 hs;obtain⟨u9,rfl,g9,aN⟩:=hs)
   exact hK.out _ _ ⟨_,rfl,g9,aN⟩
  ·intro W hW hD K hK
   clear hD
   go_simp
   go_wp2_with (go_at_call 57;refine Calls.mono (P:=Tryz.prog) (sF.out W vs vr (SS.out.G hW) (SQ.out.G hW)) ?_;intro e w9 hs;obtain⟨u9,rfl,g9,aN⟩:=hs)
   exact hK.out _ _ ⟨_,rfl,g9,aN⟩
  ·intro W hW hD K hK
   have h3:=Deps.get (v:=v3) 3 hD rfl rfl (by kernel_rfl)
   have h6:=Deps.get (v:=v6) 6 hD rfl rfl (by kernel_rfl)
   clear hD
   go_simp
   go_wp2_with (go_at_call 58;refine Calls.mono (P:=Tryz.prog) (qR.out W v3 v6 h3 h6) ?_;intro e w9 hs;obtain⟨u9,rfl,g9,aN⟩:=hs)
   exact hK.out _ _ ⟨_,rfl,g9,aN⟩
  ·intro W hW hD K hK
   have h7:=Deps.get (v:=v7) 7 hD rfl rfl (by kernel_rfl)
   clear hD
   go_simp
   go_wp2_with (go_at_call 46;refine Calls.mono (P:=Tryz.prog) (HF.out W f1 f2 f3 v7 (ST.out.G hW) h7) ?_;intro e w9 hs;obtain⟨u9,rfl,g9,aN⟩:=hs)
   exact hK.out _ _ ⟨_,rfl,g9,aN⟩
 intro w8 g8 hH
 have h8:=Helds.get (v:=v8) 8 hH rfl rfl
 clear hH
 clear uQ qR sF HF SA SB SS SQ ST N2
 obtain⟨a8,k8,c8,a9,k9,c9,rfl,fT,dB⟩:=h8
 have jf:Hid (Num w8 (.slice a8 k8 c8) (z).num.natAbs):=fT
 have gU:Hid (Num w8 (.slice a9 k9 c9) (q1Z (z).den)):=dB
 obtain⟨t9,bK⟩:∃ t,t=decide ((z).num<0):=⟨_,rfl⟩
 rw[← bK]
 have iQ:Hid (t9=decide ((z).num<0)):=bK
 clear fT dB bK
 have hS:=Rec.f3 (Rec.G V2.out (g8))
 have bF:=hS.1
 have bG:=hS.2.1
 have bH:=hS.2.2.1
 have bI:=hS.2.2.2.1
 have dV:=hS.2.2.2.2.1
 have dW:=hS.2.2.2.2.2
 clear hS
 refine wpAny_ready (rs:=[9]) (by kernel_rfl) (by simp) ?_
 refine AllReady.cons rfl (fun K hK=> ?_) AllReady.nil
 go_simp
 refine hK _ _ ?_
 clear hK K bF bG bH bI dV dW
 refine wpAny_done (by kernel_rfl) ?_ _
 have dX:Num _ _ _:=q0o (u1:= .bool t9) (u2:= .slice a8 k8 c8) (u3:= .slice a9 k9 c9) jf.out (Rec.G V2.out (g8)) trivial trivial trivial
 have bJ:Num _ _ _:=q0o (u1:= .bool t9) (u2:= .slice a8 k8 c8) (u3:= .slice a9 k9 c9) gU.out (Rec.G V2.out (g8)) trivial trivial trivial
 go_wp2_with fail
 have hT:Hid (Rec (World.setCell (World.setCell (World.setCell w8 ⟨w.heap.size+2,0,none⟩ (.bool t9)) ⟨w.heap.size+2,1,none⟩ (.slice a8 k8 c8)) ⟨w.heap.size+2,2,none⟩ (.slice a9 k9 c9)) (w.heap.size+2) [.bool t9,.slice a8 k8 c8,.slice a9 k9 c9]):=Rec.set3 (Rec.G V2.out (g8))
 have g9:=Rec.g3 (b:=w.heap.size+2) (u:= .bool t9) (v:= .slice a8 k8 c8) (x:= .slice a9 k9 c9) (G.trans g7 g8) (by omega)
 generalize (World.setCell (World.setCell (World.setCell w8 ⟨w.heap.size+2,0,none⟩ (.bool t9)) ⟨w.heap.size+2,1,none⟩ (.slice a8 k8 c8)) ⟨w.heap.size+2,2,none⟩ (.slice a9 k9 c9))=w9 at *
 have hF:=Rec.f3 (Rec.G hT.out ((G.refl _)))
 have dY:=hF.1
 have dZ:=hF.2.1
 have ed:=hF.2.2.1
 have eB:=hF.2.2.2.1
 have iD:=hF.2.2.2.2.1
 have iE:=hF.2.2.2.2.2
 clear hF
 refine bodyPost_ret (v:= .agg #[.bool t9,.slice a8 k8 c8,.slice a9 k9 c9]) (by simp [results,Tryz.results53,go_sem, *]) rfl ?_
 exact⟨_,rfl,g9,a8,k8,c8,a9,k9,c9,by rw[← iQ.out],dX,bJ⟩
theorem q5T (w:World) (v u:Value) (x y:Rat) (K:Nat) (hK:K≤40000) (hK1:1≤K) (uO:Tab w) (hx:QIs w v x) (hy:QIs w u y) (bx:QB x K) (mq:QB y K):
  Calls Tryz.prog 53 #[v,u,.func (.func 54) #[] #[]] w (RetQ w (x+y)):=
 q7J w v u x y K hK hK1 uO hx hy bx mq _ (fun p q=>p+q) _ (Rat.add_def' x y) (fun p q k=>Int.add_mul p q k) (fun p q g h1 h2=>by
   have h3:=Int.dvd_sub h2 h1;rwa[show p+q-q=p from by omega] at h3) (fun p q g h1 h2=>by
   have h3:=Int.dvd_sub h2 h1;rwa[show p+q-p=q from by omega] at h3) (fun p q=>Int.natAbs_add_le p q) (fun w1 v1 v2 X Y q1 q2 h1 h2=>by
   have h:=qaa w1 v1 v2 _ _ _ _ (K+K) (by omega) h1 h2 q1 q2
   rw[q23,q23] at h;exact h) (fun _ _=>by kernel_rfl)
theorem qbM (w:World) (v u:Value) (x y:Rat) (K:Nat) (hK:K≤40000) (hK1:1≤K) (uO:Tab w) (hx:QIs w v x) (hy:QIs w u y) (bx:QB x K) (mq:QB y K):
  Calls Tryz.prog 11 #[v,u] w (RetQ w (x+y)):=by
 have HJ:Hid (∀ w1,G w w1→_):=fun w1 g=>q5T w1 v u x y K hK hK1 (uO.G g) (hx.G g) (hy.G g) bx mq
 generalize x+y=z at *
 obtain⟨a,k,c,a',k',c',rfl,-,-⟩:=hx
 obtain⟨b,j,e,b',j',e',rfl,-,-⟩:=hy
 generalize decide (x.num<0)=s at *
 generalize decide (y.num<0)=t at *
 clear bx mq uO
 go_enter Tryz.func11,Tryz.ntmps11
 go_wp2_with fail
 obtain⟨w0,aM,g0,hz0,R0,R1,R2⟩:=q2Y w [.bool s,.slice a k c,.slice a' k' c'] [.bool t,.slice b j e,.slice b' j' e'] [.bool false,.slice none 0 0,.slice none 0 0] 30 30 30
 rw[aM]
 clear aM
 refine Calls.mono (P:=Tryz.prog) (HJ.out w0 g0) ?_
 intro e4 w1 hs
 obtain⟨vz,rfl,g1,hz⟩:=hs
 clear HJ
 obtain⟨a8,k8,c8,a9,k9,c9,rfl,fT,dB⟩:=hz
 have jf:Hid (Num w1 (.slice a8 k8 c8) (z).num.natAbs):=fT
 have gU:Hid (Num w1 (.slice a9 k9 c9) (q1Z (z).den)):=dB
 obtain⟨t9,bK⟩:∃ t,t=decide ((z).num<0):=⟨_,rfl⟩
 rw[← bK]
 have iQ:Hid (t9=decide ((z).num<0)):=bK
 clear fT dB bK
 have hS:=Rec.f3 (Rec.G R2.out ((g1)))
 have bF:=hS.1
 have bG:=hS.2.1
 have bH:=hS.2.2.1
 have bI:=hS.2.2.2.1
 have dV:=hS.2.2.2.2.1
 have dW:=hS.2.2.2.2.2
 clear hS
 have dX:Num _ _ _:=q0o (u1:= .bool t9) (u2:= .slice a8 k8 c8) (u3:= .slice a9 k9 c9) jf.out (Rec.G R2.out (g1)) trivial trivial trivial
 have bJ:Num _ _ _:=q0o (u1:= .bool t9) (u2:= .slice a8 k8 c8) (u3:= .slice a9 k9 c9) gU.out (Rec.G R2.out (g1)) trivial trivial trivial
 go_wp2_with fail
 have hT:Hid (Rec (World.setCell (World.setCell (World.setCell w1 ⟨w.heap.size+2,0,none⟩ (.bool t9)) ⟨w.heap.size+2,1,none⟩ (.slice a8 k8 c8)) ⟨w.heap.size+2,2,none⟩ (.slice a9 k9 c9)) (w.heap.size+2) [.bool t9,.slice a8 k8 c8,.slice a9 k9 c9]):=Rec.set3 (Rec.G R2.out (g1))
 have g9:=Rec.g3 (b:=w.heap.size+2) (u:= .bool t9) (v:= .slice a8 k8 c8) (x:= .slice a9 k9 c9) (G.trans g0 g1) (by omega)
 generalize (World.setCell (World.setCell (World.setCell w1 ⟨w.heap.size+2,0,none⟩ (.bool t9)) ⟨w.heap.size+2,1,none⟩ (.slice a8 k8 c8)) ⟨w.heap.size+2,2,none⟩ (.slice a9 k9 c9))=w9 at *
 have hF:=Rec.f3 (Rec.G hT.out ((G.refl _)))
 have dY:=hF.1
 have dZ:=hF.2.1
 have ed:=hF.2.2.1
 have eB:=hF.2.2.2.1
 have iD:=hF.2.2.2.2.1
 have iE:=hF.2.2.2.2.2
 clear hF
 refine bodyPost_ret (v:= .agg #[.bool t9,.slice a8 k8 c8,.slice a9 k9 c9]) (by simp [results,Tryz.results11,go_sem, *]) rfl ?_
 exact⟨_,rfl,g9,a8,k8,c8,a9,k9,c9,by rw[← iQ.out],dX,bJ⟩
end Go.Proofs.YtemmkninoiclfaaGreatDoor.EN
