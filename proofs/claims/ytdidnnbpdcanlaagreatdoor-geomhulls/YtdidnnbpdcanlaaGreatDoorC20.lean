/- What is proved here: contracts of package exact: sums and products of whole numbers, over this seat's translation.
What is proved here: contracts of package exact: fractions are made, over this seat's translation.
What is proved here: contracts of package exact: products of fractions, over this seat's translation.
What is proved here: contracts of package exact: sign, opposite, quotient of fractions, over this seat's translation.
What is proved here: contracts of package exact: comparison, powers of two, sums of fractions, over this seat's translation.
What is proved here: contracts of package exact: sums of fractions, over this seat's translation.
What is proved here: contracts of package exact: Add, Sub, Floor, Square, over this seat's translation.
What is proved here: contracts of package exact: a fraction's front, over this seat's translation.
What is proved here: a slice of points of our own that grows, over this seat's translation (no program). -/
import Derived.Test.YtdidnnbpdcanlaaGreatDoorC19
import Derived.Test.YtdidnnbpdcanlaaGreatDoorC9
namespace Go.Proofs.YtdidnnbpdcanlaaGreatDoor.EN
open Go.ChangeShapes Go.WideShapes Go.ChangeAt Go.RowKit
theorem q5v (w:World) (v u:Value) (s:Bool) (n m K:Nat) (hK:K≤400000) (h:WholeS w v s n) (hu:Num w u m) (hn:n<2^(64*K)) (hm:m<2^(64*K)):
  Calls Tryz.prog 173 #[v,u] w (q0C w (sgn s n*m)):=by
 obtain⟨a,k,c,rfl,hv⟩:=h
 have HT:Hid (∀ w1,G w w1→_):=fun w1 g=>q29 w1 (.slice a k c) u n m K (by omega) (hv.G g) (hu.G g) hn hm
 have HS:Hid (∀ w1 v,Num w1 v (n*m)→Calls Tryz.prog 111 #[.bool s,v] w1 (q0C w1 (sgn s n*m))):=fun w1 v hv=>by
  have h:=q1d w1 v s _ hv
  rw[show sgn s (n*m)=sgn s n*m from by unfold sgn;cases s<;>simp [Int.neg_mul]] at h
  exact h
 generalize n*m=q at *
 generalize sgn s n*m=y at *
 clear hv hu hn hm
 go_enter Tryz.func173,Tryz.ntmps173
 go_wp2_with fail
 obtain⟨w0,aL,g0,hz0,R0,R1⟩:=q2s w [.bool s,.slice a k c] [.bool false,.slice none 0 0] 91 91
 rw[aL]
 clear aL
 refine region_each 7 1 #[true,true,true,true,true,true,true,false] [.is (.pointer (some ⟨w.heap.size,0,none⟩)),.is (.bool s),.is (.pointer (some ⟨w.heap.size,1,none⟩)),.is (.slice a k c),.is (u),.any (fun v w'=>Num w' v (q)),.any (fun v w'=>WholeIs w' v (y))] [some 5,some 6,some 7,some 8,some 9,some 10,some 11] (by kernel_rfl) (by kernel_rfl) rfl (by kernel_rfl) (by repeat (first|exact trivial|refine⟨fun _ _ _ g h=>by first|exact h.G g|exact fun w3 g3=>h w3 (G.trans g g3),?_⟩)) (by kernel_rfl) (by kernel_rfl) ?_
 refine Letters.is ?_
 refine Letters.is ?_
 refine Letters.is ?_
 refine Letters.is ?_
 refine Letters.is ?_
 refine Letters.any fun v5=> ?_
 refine Letters.any fun v6=> ?_
 refine Letters.nil ?_
 intro A hA
 simp only[q0N,Act.put,List.setIfInBounds_toArray,List.set_cons_zero,List.set_cons_succ] at hA
 subst hA
 refine⟨?_,?_⟩
 ·skip
  refine Eaches.cons rfl ?dW (Eaches.cons rfl ?eU (Eaches.cons rfl ?fB (Eaches.cons rfl ?dZ (Eaches.cons rfl ?iA (Eaches.cons rfl ?iB (Eaches.cons rfl ?iC (Eaches.nil)))))))
  case dW|fB|iA=>
   intro W hW hD K hK
   clear hD
   go_simp
   exact hK.out _ _ ⟨_,rfl,G.refl _,rfl⟩
  case eU|dZ=>
   intro W hW hD K hK
   clear hD
   have hR0:=Rec.f2 (Rec.G R0.out hW)
   have ed:=hR0.1
   have ek:=hR0.2.1
   clear hR0
   go_simp
   exact hK.out _ _ ⟨_,rfl,G.refl _,rfl⟩
  ·intro W hW hD K hK
   clear hD
   go_simp
   go_wp2_with (go_at_call 109;refine Calls.mono (P:=Tryz.prog) (HT.out W (G.trans g0 hW)) ?_;intro e w9 hs;obtain⟨u9,rfl,g9,aH⟩:=hs)
   exact hK.out _ _ ⟨_,rfl,g9,aH⟩
  ·intro W hW hD K hK
   have h5:=Deps.get (v:=v5) 5 hD rfl rfl (by kernel_rfl)
   clear hD
   go_simp
   go_wp2_with (go_at_call 111;refine Calls.mono (P:=Tryz.prog) (HS.out W v5 h5) ?_;intro e w9 hs;obtain⟨u9,rfl,g9,aH⟩:=hs)
   exact hK.out _ _ ⟨_,rfl,g9,aH⟩
 intro w1 g1 hH
 have h6:=Helds.get (v:=v6) 6 hH rfl rfl
 clear hH
 clear HT HS
 obtain⟨a9,k9,c9,rfl,dh⟩:=h6
 have fJ:Hid (Num w1 (.slice a9 k9 c9) (y).natAbs):=dh
 obtain⟨t9,cK⟩:∃ t,t=decide ((y)<0):=⟨_,rfl⟩
 rw[← cK]
 have gH:Hid (t9=decide ((y)<0)):=cK
 clear dh cK
 have hS:=Rec.f2 (Rec.G R1.out (g1))
 have bJ:=hS.1
 have bK:=hS.2.1
 have bL:=hS.2.2.1
 have bM:=hS.2.2.2
 clear hS
 refine wpAny_ready (rs:=[7]) (by kernel_rfl) (by simp) ?_
 refine AllReady.cons rfl (fun K hK=> ?_) AllReady.nil
 go_simp
 refine hK _ _ ?_
 clear hK K bJ bK bL bM
 refine wpAny_done (by kernel_rfl) ?_ _
 have bH:Num _ _ _:=q1v (u1:= .bool t9) (u2:= .slice a9 k9 c9) fJ.out (Rec.G R1.out (g1)) trivial trivial
 go_wp2_with fail
 have hT:Hid (Rec (World.setCell (World.setCell w1 ⟨w.heap.size+1,0,none⟩ (.bool t9)) ⟨w.heap.size+1,1,none⟩ (.slice a9 k9 c9)) (w.heap.size+1) [.bool t9,.slice a9 k9 c9]):=Rec.set2 (Rec.G R1.out (g1))
 have g9:=Rec.g2 (b:=w.heap.size+1) (u:= .bool t9) (v:= .slice a9 k9 c9) (G.trans g0 g1) (by omega)
 generalize (World.setCell (World.setCell w1 ⟨w.heap.size+1,0,none⟩ (.bool t9)) ⟨w.heap.size+1,1,none⟩ (.slice a9 k9 c9))=w9 at *
 have hF:=Rec.f2 (Rec.G hT.out ((G.refl _)))
 have bR:=hF.1
 have bU:=hF.2.1
 have bV:=hF.2.2.1
 have bW:=hF.2.2.2
 clear hF
 refine bodyPost_ret (v:= .agg #[.bool t9,.slice a9 k9 c9]) (by simp [results,Tryz.results173,go_sem, *]) rfl ?_
 exact⟨_,rfl,g9,a9,k9,c9,by rw[← gH.out],bH⟩
theorem q75 (w:World) (v u:Value) (s t:Bool) (n m K:Nat) (hK:K≤400000) (h:WholeS w v s n) (hu:WholeS w u t m) (hn:n<2^(64*K)) (hm:m<2^(64*K)):
  Calls Tryz.prog 114 #[v,u] w (q0C w (sgn s n+sgn t m)):=by
 obtain⟨a,k,c,rfl,hv⟩:=h
 obtain⟨a',k',c',rfl,hu⟩:=hu
 by_cases hst:s=t
 ·have HT:Hid (∀ w1,G w w1→_):=fun w1 g=>qbq w1 (.slice a k c) (.slice a' k' c') n m K (by omega) (hv.G g) (hu.G g) hn hm
  have HS:Hid (∀ w1 v,Num w1 v (n+m)→Calls Tryz.prog 111 #[.bool s,v] w1 (q0C w1 (sgn s n+sgn t m))):=fun w1 v hv=>by
   have h:=q1d w1 v s _ hv
   rw[show sgn s (n+m)=sgn s n+sgn t m from by rw[← hst];unfold sgn;cases s<;>simp;omega] at h
   exact h
  have hte:(s==t)=true:=by rw[hst];simp
  generalize n+m=q at *
  generalize sgn s n+sgn t m=y at *
  clear hv hu hn hm hst
  go_enter Tryz.func114,Tryz.ntmps114
  go_wp2_with fail
  obtain⟨w0,aL,g0,hz0,R0,R1,R2⟩:=q1t w [.bool s,.slice a k c] [.bool t,.slice a' k' c'] [.bool false,.slice none 0 0] 91 91 91
  rw[aL]
  clear aL
  have hr0:=Rec.f2 R0.out
  have hr1:=Rec.f2 R1.out
  have hq0:=hr0.1
  have hq1:=hr0.2.1
  have hq2:=hr1.1
  have hq3:=hr1.2.1
  clear hr0 hr1
  go_wp2_with fail
  clear hq0 hq1 hq2 hq3
  refine region_each 8 1 #[true,true,true,true,true,true,true,true,false] [.is (.pointer (some ⟨w.heap.size,0,none⟩)),.is (.bool s),.is (.pointer (some ⟨w.heap.size,1,none⟩)),.is (.slice a k c),.is (.pointer (some ⟨w.heap.size+1,1,none⟩)),.is (.slice a' k' c'),.any (fun v w'=>Num w' v (q)),.any (fun v w'=>WholeIs w' v (y))] [some 11,some 12,some 13,some 14,some 15,some 16,some 17,some 18] (by kernel_rfl) (by kernel_rfl) rfl (by kernel_rfl) (by repeat (first|exact trivial|refine⟨fun _ _ _ g h=>by first|exact h.G g|exact fun w3 g3=>h w3 (G.trans g g3),?_⟩)) (by kernel_rfl) (by kernel_rfl) ?_
  refine Letters.is ?_
  refine Letters.is ?_
  refine Letters.is ?_
  refine Letters.is ?_
  refine Letters.is ?_
  refine Letters.is ?_
  refine Letters.any fun v6=> ?_
  refine Letters.any fun v7=> ?_
  refine Letters.nil ?_
  intro A hA
  simp only[q0N,Act.put,List.setIfInBounds_toArray,List.set_cons_zero,List.set_cons_succ] at hA
  subst hA
  refine⟨?_,?_⟩
  ·skip
   refine Eaches.cons rfl ?gN (Eaches.cons rfl ?iU (Eaches.cons rfl ?iV (Eaches.cons rfl ?iW (Eaches.cons rfl ?iX (Eaches.cons rfl ?kH (Eaches.cons rfl ?kI (Eaches.cons rfl ?pR (Eaches.nil))))))))
   case gN|iV|iX=>
    intro W hW hD K hK
    clear hD
    go_simp
    exact hK.out _ _ ⟨_,rfl,G.refl _,rfl⟩
   case iU|iW|kH=>
    intro W hW hD K hK
    clear hD
    have hR0:=Rec.f2 (Rec.G R0.out hW)
    have ed:=hR0.1
    have ek:=hR0.2.1
    clear hR0
    have eu:=Rec.f2 (Rec.G R1.out hW)
    have jb:=eu.1
    have jc:=eu.2.1
    clear eu
    go_simp
    exact hK.out _ _ ⟨_,rfl,G.refl _,rfl⟩
   ·intro W hW hD K hK
    clear hD
    go_simp
    go_wp2_with (go_at_call 174;refine Calls.mono (P:=Tryz.prog) (HT.out W (G.trans g0 hW)) ?_;intro e w9 hs;obtain⟨u9,rfl,g9,aH⟩:=hs)
    exact hK.out _ _ ⟨_,rfl,g9,aH⟩
   ·intro W hW hD K hK
    have h6:=Deps.get (v:=v6) 6 hD rfl rfl (by kernel_rfl)
    clear hD
    go_simp
    go_wp2_with (go_at_call 111;refine Calls.mono (P:=Tryz.prog) (HS.out W v6 h6) ?_;intro e w9 hs;obtain⟨u9,rfl,g9,aH⟩:=hs)
    exact hK.out _ _ ⟨_,rfl,g9,aH⟩
  intro w1 g1 hH
  have h7:=Helds.get (v:=v7) 7 hH rfl rfl
  clear hH
  clear HT HS
  obtain⟨a9,k9,c9,rfl,dh⟩:=h7
  have fJ:Hid (Num w1 (.slice a9 k9 c9) (y).natAbs):=dh
  obtain⟨t9,cK⟩:∃ t,t=decide ((y)<0):=⟨_,rfl⟩
  rw[← cK]
  have gH:Hid (t9=decide ((y)<0)):=cK
  clear dh cK
  have hS:=Rec.f2 (Rec.G R2.out (g1))
  have bJ:=hS.1
  have bK:=hS.2.1
  have bL:=hS.2.2.1
  have bM:=hS.2.2.2
  clear hS
  refine wpAny_ready (rs:=[8]) (by kernel_rfl) (by simp) ?_
  refine AllReady.cons rfl (fun K hK=> ?_) AllReady.nil
  go_simp
  refine hK _ _ ?_
  clear hK K bJ bK bL bM
  refine wpAny_done (by kernel_rfl) ?_ _
  have bH:Num _ _ _:=q1v (u1:= .bool t9) (u2:= .slice a9 k9 c9) fJ.out (Rec.G R2.out (g1)) trivial trivial
  go_wp2_with fail
  have hT:Hid (Rec (World.setCell (World.setCell w1 ⟨w.heap.size+2,0,none⟩ (.bool t9)) ⟨w.heap.size+2,1,none⟩ (.slice a9 k9 c9)) (w.heap.size+2) [.bool t9,.slice a9 k9 c9]):=Rec.set2 (Rec.G R2.out (g1))
  have g9:=Rec.g2 (b:=w.heap.size+2) (u:= .bool t9) (v:= .slice a9 k9 c9) (G.trans g0 g1) (by omega)
  generalize (World.setCell (World.setCell w1 ⟨w.heap.size+2,0,none⟩ (.bool t9)) ⟨w.heap.size+2,1,none⟩ (.slice a9 k9 c9))=w9 at *
  have hF:=Rec.f2 (Rec.G hT.out ((G.refl _)))
  have bR:=hF.1
  have bU:=hF.2.1
  have bV:=hF.2.2.1
  have bW:=hF.2.2.2
  clear hF
  refine bodyPost_ret (v:= .agg #[.bool t9,.slice a9 k9 c9]) (by simp [results,Tryz.results114,go_sem, *]) rfl ?_
  exact⟨_,rfl,g9,a9,k9,c9,by rw[← gH.out],bH⟩
 ·have hte:(s==t)=false:=by simp [hst]
  have HC:Hid (∀ w1,G w w1→_):=fun w1 g=>q2R w1 (.slice a k c) (.slice a' k' c') n m K (by omega) (hv.G g) (hu.G g) hn hm
  by_cases hlt:n<m
  ·have HT:Hid (∀ w1,G w w1→_):=fun w1 g=>q3H w1 (.slice a' k' c') (.slice a k c) m n K (by omega) (hu.G g) (hv.G g) hm (Nat.le_of_lt hlt)
   have HS:Hid (∀ w1 v,Num w1 v (m-n)→Calls Tryz.prog 111 #[.bool t,v] w1 (q0C w1 (sgn s n+sgn t m))):=fun w1 v hv=>by
    have h:=q1d w1 v t _ hv
    rw[show sgn t (m-n)=sgn s n+sgn t m from by unfold sgn;cases s<;>cases t<;>simp at hst ⊢ <;>omega] at h
    exact h
   rw[show cmpV n m= -1 from by unfold cmpV;rw[if_pos hlt]] at HC
   generalize m-n=q at *
   generalize sgn s n+sgn t m=y at *
   clear hv hu hn hm hst hlt
   go_enter Tryz.func114,Tryz.ntmps114
   go_wp2_with fail
   obtain⟨w0,aL,g0,hz0,R0,R1,R2⟩:=q1t w [.bool s,.slice a k c] [.bool t,.slice a' k' c'] [.bool false,.slice none 0 0] 91 91 91
   rw[aL]
   clear aL
   have hr0:=Rec.f2 R0.out
   have hr1:=Rec.f2 R1.out
   have hq0:=hr0.1
   have hq1:=hr0.2.1
   have hq2:=hr1.1
   have hq3:=hr1.2.1
   clear hr0 hr1
   go_wp2_with fail
   refine Calls.mono (P:=Tryz.prog) (HC.out w0 g0) ?_
   rintro e w3 ⟨rfl,g3⟩
   clear hq0 hq1 hq2 hq3
   have S0:Hid _:=Rec.G R0.out g3
   have S1:Hid _:=Rec.G R1.out g3
   go_wp2_with fail
   refine region_each 8 1 #[true,true,true,true,true,true,true,true,false] [.is (.pointer (some ⟨w.heap.size+1,0,none⟩)),.is (.bool t),.is (.pointer (some ⟨w.heap.size+1,1,none⟩)),.is (.slice a' k' c'),.is (.pointer (some ⟨w.heap.size,1,none⟩)),.is (.slice a k c),.any (fun v w'=>Num w' v (q)),.any (fun v w'=>WholeIs w' v (y))] [some 26,some 27,some 28,some 29,some 30,some 31,some 32,some 33] (by kernel_rfl) (by kernel_rfl) rfl (by kernel_rfl) (by repeat (first|exact trivial|refine⟨fun _ _ _ g h=>by first|exact h.G g|exact fun w3 g3=>h w3 (G.trans g g3),?_⟩)) (by kernel_rfl) (by kernel_rfl) ?_
   refine Letters.is ?_
   refine Letters.is ?_
   refine Letters.is ?_
   refine Letters.is ?_
   refine Letters.is ?_
   refine Letters.is ?_
   refine Letters.any fun v6=> ?_
   refine Letters.any fun v7=> ?_
   refine Letters.nil ?_
   intro A hA
   simp only[q0N,Act.put,List.setIfInBounds_toArray,List.set_cons_zero,List.set_cons_succ] at hA
   subst hA
   refine⟨?_,?_⟩
   ·skip
    refine Eaches.cons rfl ?nZ (Eaches.cons rfl ?pU (Eaches.cons rfl ?pV (Eaches.cons rfl ?pW (Eaches.cons rfl ?pX (Eaches.cons rfl ?qU (Eaches.cons rfl ?qV (Eaches.cons rfl ?uo (Eaches.nil))))))))
    case nZ|pV|pX=>
     intro W hW hD K hK
     clear hD
     go_simp
     exact hK.out _ _ ⟨_,rfl,G.refl _,rfl⟩
    case pU|pW|qU=>
     intro W hW hD K hK
     clear hD
     have hS0:=Rec.f2 (Rec.G S0.out hW)
     have qO:=hS0.1
     have qP:=hS0.2.1
     clear hS0
     have hS1:=Rec.f2 (Rec.G S1.out hW)
     have qQ:=hS1.1
     have qR:=hS1.2.1
     clear hS1
     go_simp
     exact hK.out _ _ ⟨_,rfl,G.refl _,rfl⟩
    ·intro W hW hD K hK
     clear hD
     go_simp
     go_wp2_with (go_at_call 176;refine Calls.mono (P:=Tryz.prog) (HT.out W (G.trans g0 (G.trans g3 hW))) ?_;intro e w9 hs;obtain⟨u9,rfl,g9,aH⟩:=hs)
     exact hK.out _ _ ⟨_,rfl,g9,aH⟩
    ·intro W hW hD K hK
     have h6:=Deps.get (v:=v6) 6 hD rfl rfl (by kernel_rfl)
     clear hD
     go_simp
     go_wp2_with (go_at_call 111;refine Calls.mono (P:=Tryz.prog) (HS.out W v6 h6) ?_;intro e w9 hs;obtain⟨u9,rfl,g9,aH⟩:=hs)
     exact hK.out _ _ ⟨_,rfl,g9,aH⟩
   intro w1 g1 hH
   have h7:=Helds.get (v:=v7) 7 hH rfl rfl
   clear hH
   clear HT HS
   obtain⟨a9,k9,c9,rfl,dh⟩:=h7
   have fJ:Hid (Num w1 (.slice a9 k9 c9) (y).natAbs):=dh
   obtain⟨t9,cK⟩:∃ t,t=decide ((y)<0):=⟨_,rfl⟩
   rw[← cK]
   have gH:Hid (t9=decide ((y)<0)):=cK
   clear dh cK
   have hS:=Rec.f2 (Rec.G R2.out (G.trans g3 g1))
   have bJ:=hS.1
   have bK:=hS.2.1
   have bL:=hS.2.2.1
   have bM:=hS.2.2.2
   clear hS
   refine wpAny_ready (rs:=[8]) (by kernel_rfl) (by simp) ?_
   refine AllReady.cons rfl (fun K hK=> ?_) AllReady.nil
   go_simp
   refine hK _ _ ?_
   clear hK K bJ bK bL bM
   refine wpAny_done (by kernel_rfl) ?_ _
   have bH:Num _ _ _:=q1v (u1:= .bool t9) (u2:= .slice a9 k9 c9) fJ.out (Rec.G R2.out (G.trans g3 g1)) trivial trivial
   go_wp2_with fail
   have hT:Hid (Rec (World.setCell (World.setCell w1 ⟨w.heap.size+2,0,none⟩ (.bool t9)) ⟨w.heap.size+2,1,none⟩ (.slice a9 k9 c9)) (w.heap.size+2) [.bool t9,.slice a9 k9 c9]):=Rec.set2 (Rec.G R2.out (G.trans g3 g1))
   have g9:=Rec.g2 (b:=w.heap.size+2) (u:= .bool t9) (v:= .slice a9 k9 c9) (G.trans g0 (G.trans g3 g1)) (by omega)
   generalize (World.setCell (World.setCell w1 ⟨w.heap.size+2,0,none⟩ (.bool t9)) ⟨w.heap.size+2,1,none⟩ (.slice a9 k9 c9))=w9 at *
   have hF:=Rec.f2 (Rec.G hT.out ((G.refl _)))
   have bR:=hF.1
   have bU:=hF.2.1
   have bV:=hF.2.2.1
   have bW:=hF.2.2.2
   clear hF
   refine bodyPost_ret (v:= .agg #[.bool t9,.slice a9 k9 c9]) (by simp [results,Tryz.results114,go_sem, *]) rfl ?_
   exact⟨_,rfl,g9,a9,k9,c9,by rw[← gH.out],bH⟩
  ·have HT:Hid (∀ w1,G w w1→_):=fun w1 g=>q3H w1 (.slice a k c) (.slice a' k' c') n m K (by omega) (hv.G g) (hu.G g) hn (Nat.le_of_not_lt hlt)
   have HS:Hid (∀ w1 v,Num w1 v (n-m)→Calls Tryz.prog 111 #[.bool s,v] w1 (q0C w1 (sgn s n+sgn t m))):=fun w1 v hv=>by
    have h:=q1d w1 v s _ hv
    rw[show sgn s (n-m)=sgn s n+sgn t m from by unfold sgn;cases s<;>cases t<;>simp at hst ⊢ <;>omega] at h
    exact h
   have hcv:decide (cmpV n m<0)=false:=by unfold cmpV;rw[if_neg hlt];split<;>rfl
   generalize cmpV n m=cv at *
   generalize n-m=q at *
   generalize sgn s n+sgn t m=y at *
   clear hv hu hn hm hst hlt
   go_enter Tryz.func114,Tryz.ntmps114
   go_wp2_with fail
   obtain⟨w0,aL,g0,hz0,R0,R1,R2⟩:=q1t w [.bool s,.slice a k c] [.bool t,.slice a' k' c'] [.bool false,.slice none 0 0] 91 91 91
   rw[aL]
   clear aL
   have hr0:=Rec.f2 R0.out
   have hr1:=Rec.f2 R1.out
   have hq0:=hr0.1
   have hq1:=hr0.2.1
   have hq2:=hr1.1
   have hq3:=hr1.2.1
   clear hr0 hr1
   go_wp2_with fail
   refine Calls.mono (P:=Tryz.prog) (HC.out w0 g0) ?_
   rintro e w3 ⟨rfl,g3⟩
   clear hq0 hq1 hq2 hq3
   have S0:Hid _:=Rec.G R0.out g3
   have S1:Hid _:=Rec.G R1.out g3
   go_wp2_with fail
   refine region_each 8 1 #[true,true,true,true,true,true,true,true,false] [.is (.pointer (some ⟨w.heap.size,0,none⟩)),.is (.bool s),.is (.pointer (some ⟨w.heap.size,1,none⟩)),.is (.slice a k c),.is (.pointer (some ⟨w.heap.size+1,1,none⟩)),.is (.slice a' k' c'),.any (fun v w'=>Num w' v (q)),.any (fun v w'=>WholeIs w' v (y))] [some 34,some 35,some 36,some 37,some 38,some 39,some 40,some 41] (by kernel_rfl) (by kernel_rfl) rfl (by kernel_rfl) (by repeat (first|exact trivial|refine⟨fun _ _ _ g h=>by first|exact h.G g|exact fun w3 g3=>h w3 (G.trans g g3),?_⟩)) (by kernel_rfl) (by kernel_rfl) ?_
   refine Letters.is ?_
   refine Letters.is ?_
   refine Letters.is ?_
   refine Letters.is ?_
   refine Letters.is ?_
   refine Letters.is ?_
   refine Letters.any fun v6=> ?_
   refine Letters.any fun v7=> ?_
   refine Letters.nil ?_
   intro A hA
   simp only[q0N,Act.put,List.setIfInBounds_toArray,List.set_cons_zero,List.set_cons_succ] at hA
   subst hA
   refine⟨?_,?_⟩
   ·skip
    refine Eaches.cons rfl ?qW (Eaches.cons rfl ?qX (Eaches.cons rfl ?uq (Eaches.cons rfl ?uu (Eaches.cons rfl ?qY (Eaches.cons rfl ?uw (Eaches.cons rfl ?Cb (Eaches.cons rfl ?Cc (Eaches.nil))))))))
    case qW|uq|qY=>
     intro W hW hD K hK
     clear hD
     go_simp
     exact hK.out _ _ ⟨_,rfl,G.refl _,rfl⟩
    case qX|uu|uw=>
     intro W hW hD K hK
     clear hD
     have hS0:=Rec.f2 (Rec.G S0.out hW)
     have qO:=hS0.1
     have qP:=hS0.2.1
     clear hS0
     have hS1:=Rec.f2 (Rec.G S1.out hW)
     have qQ:=hS1.1
     have qR:=hS1.2.1
     clear hS1
     go_simp
     exact hK.out _ _ ⟨_,rfl,G.refl _,rfl⟩
    ·intro W hW hD K hK
     clear hD
     go_simp
     go_wp2_with (go_at_call 176;refine Calls.mono (P:=Tryz.prog) (HT.out W (G.trans g0 (G.trans g3 hW))) ?_;intro e w9 hs;obtain⟨u9,rfl,g9,aH⟩:=hs)
     exact hK.out _ _ ⟨_,rfl,g9,aH⟩
    ·intro W hW hD K hK
     have h6:=Deps.get (v:=v6) 6 hD rfl rfl (by kernel_rfl)
     clear hD
     go_simp
     go_wp2_with (go_at_call 111;refine Calls.mono (P:=Tryz.prog) (HS.out W v6 h6) ?_;intro e w9 hs;obtain⟨u9,rfl,g9,aH⟩:=hs)
     exact hK.out _ _ ⟨_,rfl,g9,aH⟩
   intro w1 g1 hH
   have h7:=Helds.get (v:=v7) 7 hH rfl rfl
   clear hH
   clear HT HS
   obtain⟨a9,k9,c9,rfl,dh⟩:=h7
   have fJ:Hid (Num w1 (.slice a9 k9 c9) (y).natAbs):=dh
   obtain⟨t9,cK⟩:∃ t,t=decide ((y)<0):=⟨_,rfl⟩
   rw[← cK]
   have gH:Hid (t9=decide ((y)<0)):=cK
   clear dh cK
   have hS:=Rec.f2 (Rec.G R2.out (G.trans g3 g1))
   have bJ:=hS.1
   have bK:=hS.2.1
   have bL:=hS.2.2.1
   have bM:=hS.2.2.2
   clear hS
   refine wpAny_ready (rs:=[8]) (by kernel_rfl) (by simp) ?_
   refine AllReady.cons rfl (fun K hK=> ?_) AllReady.nil
   go_simp
   refine hK _ _ ?_
   clear hK K bJ bK bL bM
   refine wpAny_done (by kernel_rfl) ?_ _
   have bH:Num _ _ _:=q1v (u1:= .bool t9) (u2:= .slice a9 k9 c9) fJ.out (Rec.G R2.out (G.trans g3 g1)) trivial trivial
   go_wp2_with fail
   have hT:Hid (Rec (World.setCell (World.setCell w1 ⟨w.heap.size+2,0,none⟩ (.bool t9)) ⟨w.heap.size+2,1,none⟩ (.slice a9 k9 c9)) (w.heap.size+2) [.bool t9,.slice a9 k9 c9]):=Rec.set2 (Rec.G R2.out (G.trans g3 g1))
   have g9:=Rec.g2 (b:=w.heap.size+2) (u:= .bool t9) (v:= .slice a9 k9 c9) (G.trans g0 (G.trans g3 g1)) (by omega)
   generalize (World.setCell (World.setCell w1 ⟨w.heap.size+2,0,none⟩ (.bool t9)) ⟨w.heap.size+2,1,none⟩ (.slice a9 k9 c9))=w9 at *
   have hF:=Rec.f2 (Rec.G hT.out ((G.refl _)))
   have bR:=hF.1
   have bU:=hF.2.1
   have bV:=hF.2.2.1
   have bW:=hF.2.2.2
   clear hF
   refine bodyPost_ret (v:= .agg #[.bool t9,.slice a9 k9 c9]) (by simp [results,Tryz.results114,go_sem, *]) rfl ?_
   exact⟨_,rfl,g9,a9,k9,c9,by rw[← gH.out],bH⟩
/-- What is kept below the bar: nothing for 1. -/
def q1J (d:Nat):Nat:=if d=1 then 0 else d
/-- v is the fraction q. -/
def QIs (w:World) (v:Value) (q:Rat):Prop:=∃ a k c a' k' c',v= .agg #[.bool (decide (q.num<0)),.slice a k c,.slice a' k' c']∧Num w (.slice a k c) q.num.natAbs∧Num w (.slice a' k' c') (q1J q.den)
theorem QIs.G {w w':World} {v:Value} {q:Rat} (h:QIs w v q) (g:G w w'):QIs w' v q:=by
 obtain⟨a,k,c,a',k',c',e,h2,h3⟩:=h
 exact⟨a,k,c,a',k',c',e,h2.G g,h3.G g⟩
/-- A call hands back the fraction q. -/
def RetQ (w:World) (q:Rat) (e:Ending) (w':World):Prop:=∃ v,e= .returned v∧G w w'∧QIs w' v q
/-- Lowest terms are told by the number alone. -/
theorem rat_low {q:Rat} {z:Int} {d:Nat} (hd:0<d) (hc:Nat.gcd z.natAbs d=1) (h:z*q.den=q.num*d):q.num=z∧q.den=d:=by
 have e:(Rat.mk' z d (by omega) hc)=q:=by
  rw[Rat.mk_eq_divInt,← Rat.num_divInt_den q,Rat.divInt_eq_divInt_iff (by omega) (by have:=q.den_pos;omega)]
  exact h
 rw[← e]
 exact⟨rfl,rfl⟩
theorem mk_cross {q:Rat} {n:Int} {d:Nat} (hd:0<d) (h:q=mkRat n d):n*q.den=q.num*d:=by
 have h2:mkRat n d=mkRat q.num q.den:=by rw[Rat.mkRat_self];exact h.symm
 exact(Rat.mkRat_eq_iff (by omega) q.den_nz).1 h2
theorem q0X (w:World) (a:Option Addr) (c:Nat):Num w (.slice a 0 c) 0:=⟨[],⟨q1a,Or.inl ⟨rfl,_,_,rfl⟩⟩,q0T,rfl⟩
theorem qba (w:World):QIs w (.agg #[.bool false,.slice none 0 0,.slice none 0 0]) 0:=⟨none,0,0,none,0,0,rfl,q0X _ _ _,q0X _ _ _⟩
theorem qb5 {w:World} {t:Bool} {a a':Option Addr} {k c k' c':Nat} {q:Rat} (h:QIs w (.agg #[.bool t,.slice a k c,.slice a' k' c']) q):Num w (.slice a k c) q.num.natAbs:=by
 obtain⟨_,_,_,_,_,_,e,h1,h2⟩:=h
 simp only[Value.agg.injEq,Array.mk.injEq,List.cons.injEq,Value.slice.injEq,and_true,Value.bool.injEq] at e
 obtain⟨-,⟨rfl,rfl,rfl⟩,rfl,rfl,rfl⟩:=e
 exact h1
theorem qbb {w:World} {t:Bool} {a a':Option Addr} {k c k' c':Nat} {q:Rat} (h:QIs w (.agg #[.bool t,.slice a k c,.slice a' k' c']) q):Num w (.slice a' k' c') (q1J q.den):=by
 obtain⟨_,_,_,_,_,_,e,h1,h2⟩:=h
 simp only[Value.agg.injEq,Array.mk.injEq,List.cons.injEq,Value.slice.injEq,and_true,Value.bool.injEq] at e
 obtain⟨-,⟨rfl,rfl,rfl⟩,rfl,rfl,rfl⟩:=e
 exact h2
theorem q8O (w:World) (v u:Value) (s t:Bool) (n m K:Nat) (hK:K≤400000) (h:WholeS w v s n) (hu:WholeS w u t m) (hn:n<2^(64*K)) (hm:m<2^(64*K)):
  Calls Tryz.prog 172 #[v,u] w (q0C w (sgn s n-sgn t m)):=by
 obtain⟨a,k,c,rfl,hv⟩:=h
 obtain⟨a',k',c',rfl,hu⟩:=hu
 have HP:Hid (∀ w1,G w w1→Calls Tryz.prog 114 #[.agg #[.bool s,.slice a k c],.agg #[.bool (!t),.slice a' k' c']] w1 (q0C w1 (sgn s n-sgn t m))):=fun w1 g=>by
  have h:=q75 w1 (.agg #[.bool s,.slice a k c]) (.agg #[.bool (!t),.slice a' k' c']) s (!t) n m K hK ⟨a,k,c,rfl,hv.G g⟩ ⟨a',k',c',rfl,hu.G g⟩ hn hm
  rw[show sgn s n+sgn (!t) m=sgn s n-sgn t m from by unfold sgn;cases s<;>cases t<;>simp <;>omega] at h
  exact h
 generalize sgn s n-sgn t m=y at *
 clear hv hu hn hm
 go_enter Tryz.func172,Tryz.ntmps172
 go_wp2_with fail
 obtain⟨w0,aL,g0,hz0,R0,R1,R2⟩:=q1t w [.bool s,.slice a k c] [.bool t,.slice a' k' c'] [.bool false,.slice none 0 0] 91 91 91
 rw[aL]
 clear aL
 refine Calls.mono (P:=Tryz.prog) (HP.out w0 g0) ?_
 intro e w1 hs
 obtain⟨v,rfl,g1,h4⟩:=hs
 clear HP
 obtain⟨a9,k9,c9,rfl,dh⟩:=h4
 have fJ:Hid (Num w1 (.slice a9 k9 c9) (y).natAbs):=dh
 obtain⟨t9,cK⟩:∃ t,t=decide ((y)<0):=⟨_,rfl⟩
 rw[← cK]
 have gH:Hid (t9=decide ((y)<0)):=cK
 clear dh cK
 have hS:=Rec.f2 (Rec.G R2.out ((g1)))
 have bJ:=hS.1
 have bK:=hS.2.1
 have bL:=hS.2.2.1
 have bM:=hS.2.2.2
 clear hS
 have bH:Num _ _ _:=q1v (u1:= .bool t9) (u2:= .slice a9 k9 c9) fJ.out (Rec.G R2.out (g1)) trivial trivial
 go_wp2_with fail
 have hT:Hid (Rec (World.setCell (World.setCell w1 ⟨w.heap.size+2,0,none⟩ (.bool t9)) ⟨w.heap.size+2,1,none⟩ (.slice a9 k9 c9)) (w.heap.size+2) [.bool t9,.slice a9 k9 c9]):=Rec.set2 (Rec.G R2.out (g1))
 have g9:=Rec.g2 (b:=w.heap.size+2) (u:= .bool t9) (v:= .slice a9 k9 c9) (G.trans g0 g1) (by omega)
 generalize (World.setCell (World.setCell w1 ⟨w.heap.size+2,0,none⟩ (.bool t9)) ⟨w.heap.size+2,1,none⟩ (.slice a9 k9 c9))=w9 at *
 have hF:=Rec.f2 (Rec.G hT.out ((G.refl _)))
 have bR:=hF.1
 have bU:=hF.2.1
 have bV:=hF.2.2.1
 have bW:=hF.2.2.2
 clear hF
 refine bodyPost_ret (v:= .agg #[.bool t9,.slice a9 k9 c9]) (by simp [results,Tryz.results172,go_sem, *]) rfl ?_
 exact⟨_,rfl,g9,a9,k9,c9,by rw[← gH.out],bH⟩
theorem q7L (w:World) (z:Int) (h1: -9223372036854775808≤z) (h2:z<9223372036854775808):
  Calls Tryz.prog 239 #[.int .i64 z] w (q0C w z):=by
 by_cases h0:z<0
 ·obtain⟨n,rfl⟩:∃ n:Nat,z= -(n:Int):=⟨z.natAbs,by omega⟩
  have hn:n<18446744073709551616:=by omega
  have HW:Hid (∀ w1,_):=fun w1=>q4X w1 n hn
  have HS:Hid (∀ w1 v,Num w1 v n→Calls Tryz.prog 111 #[.bool true,v] w1 (q0C w1 (-(n:Int)))):=fun w1 v hv=>q1d w1 v true n hv
  have hd:decide (-(n:Int)<0)=true:=by simp;omega
  have hn1:(1:Int)≤n:=by omega
  have hn2:(n:Int)≤9223372036854775808:=by omega
  have hu:IntKind.u64.wrap (-(n:Int))=18446744073709551616-n:=by rw[IntKind.wrap_u64];omega
  have hu2:IntKind.u64.wrap (-(18446744073709551616-(n:Int)))=n:=by rw[IntKind.wrap_u64];omega
  generalize (-(n:Int))=z at *
  clear h0 h1 h2 hn
  go_enter Tryz.func239,Tryz.ntmps239
  go_wp2_with fail
  obtain⟨w0,aL,g0,hz0,R0⟩:=q0B w [.bool false,.slice none 0 0] 91
  rw[aL]
  clear aL
  refine Calls.mono (P:=Tryz.prog) (HW.out w0) ?_
  intro e w1 hs
  obtain⟨v,rfl,g1,h4⟩:=hs
  go_wp2_with fail
  refine Calls.mono (P:=Tryz.prog) (HS.out w1 v h4) ?_
  intro e w2 hs
  obtain⟨u,rfl,g2,h5⟩:=hs
  clear HW HS h4 hd hu hu2
  obtain⟨a9,k9,c9,rfl,dh⟩:=h5
  have fJ:Hid (Num w2 (.slice a9 k9 c9) (z).natAbs):=dh
  obtain⟨t9,cK⟩:∃ t,t=decide ((z)<0):=⟨_,rfl⟩
  rw[← cK]
  have gH:Hid (t9=decide ((z)<0)):=cK
  clear dh cK
  have hS:=Rec.f2 (Rec.G R0.out ((G.trans g1 g2)))
  have bJ:=hS.1
  have bK:=hS.2.1
  have bL:=hS.2.2.1
  have bM:=hS.2.2.2
  clear hS
  have bH:Num _ _ _:=q1v (u1:= .bool t9) (u2:= .slice a9 k9 c9) fJ.out (Rec.G R0.out (G.trans g1 g2)) trivial trivial
  go_wp2_with fail
  have hT:Hid (Rec (World.setCell (World.setCell w2 ⟨w.heap.size,0,none⟩ (.bool t9)) ⟨w.heap.size,1,none⟩ (.slice a9 k9 c9)) (w.heap.size) [.bool t9,.slice a9 k9 c9]):=Rec.set2 (Rec.G R0.out (G.trans g1 g2))
  have g9:=Rec.g2 (b:=w.heap.size) (u:= .bool t9) (v:= .slice a9 k9 c9) (G.trans g0 (G.trans g1 g2)) (by omega)
  generalize (World.setCell (World.setCell w2 ⟨w.heap.size,0,none⟩ (.bool t9)) ⟨w.heap.size,1,none⟩ (.slice a9 k9 c9))=w9 at *
  have hF:=Rec.f2 (Rec.G hT.out ((G.refl _)))
  have bR:=hF.1
  have bU:=hF.2.1
  have bV:=hF.2.2.1
  have bW:=hF.2.2.2
  clear hF
  refine bodyPost_ret (v:= .agg #[.bool t9,.slice a9 k9 c9]) (by simp [results,Tryz.results239,go_sem, *]) rfl ?_
  exact⟨_,rfl,g9,a9,k9,c9,by rw[← gH.out],bH⟩
 ·obtain⟨n,rfl⟩:∃ n:Nat,z=(n:Int):=⟨z.natAbs,by omega⟩
  have hn:n<18446744073709551616:=by omega
  have HW:Hid (∀ w1,_):=fun w1=>q4X w1 n hn
  have HS:Hid (∀ w1 v,Num w1 v n→Calls Tryz.prog 111 #[.bool false,v] w1 (q0C w1 (n:Int))):=fun w1 v hv=>q1d w1 v false n hv
  have hn1:(0:Int)≤n:=by omega
  have hn2:(n:Int)≤9223372036854775807:=by omega
  have hd:decide ((n:Int)<0)=false:=by simp
  clear h0 h1 h2 hn
  go_enter Tryz.func239,Tryz.ntmps239
  go_wp2_with fail
  obtain⟨w0,aL,g0,hz0,R0⟩:=q0B w [.bool false,.slice none 0 0] 91
  rw[aL]
  clear aL
  refine Calls.mono (P:=Tryz.prog) (HW.out w0) ?_
  intro e w1 hs
  obtain⟨v,rfl,g1,h4⟩:=hs
  go_wp2_with fail
  refine Calls.mono (P:=Tryz.prog) (HS.out w1 v h4) ?_
  intro e w2 hs
  obtain⟨u,rfl,g2,h5⟩:=hs
  clear HW HS h4 hd
  obtain⟨a9,k9,c9,rfl,dh⟩:=h5
  have fJ:Hid (Num w2 (.slice a9 k9 c9) ((n:Int)).natAbs):=dh
  obtain⟨t9,cK⟩:∃ t,t=decide (((n:Int))<0):=⟨_,rfl⟩
  rw[← cK]
  have gH:Hid (t9=decide (((n:Int))<0)):=cK
  clear dh cK
  have hS:=Rec.f2 (Rec.G R0.out ((G.trans g1 g2)))
  have bJ:=hS.1
  have bK:=hS.2.1
  have bL:=hS.2.2.1
  have bM:=hS.2.2.2
  clear hS
  have bH:Num _ _ _:=q1v (u1:= .bool t9) (u2:= .slice a9 k9 c9) fJ.out (Rec.G R0.out (G.trans g1 g2)) trivial trivial
  go_wp2_with fail
  have hT:Hid (Rec (World.setCell (World.setCell w2 ⟨w.heap.size,0,none⟩ (.bool t9)) ⟨w.heap.size,1,none⟩ (.slice a9 k9 c9)) (w.heap.size) [.bool t9,.slice a9 k9 c9]):=Rec.set2 (Rec.G R0.out (G.trans g1 g2))
  have g9:=Rec.g2 (b:=w.heap.size) (u:= .bool t9) (v:= .slice a9 k9 c9) (G.trans g0 (G.trans g1 g2)) (by omega)
  generalize (World.setCell (World.setCell w2 ⟨w.heap.size,0,none⟩ (.bool t9)) ⟨w.heap.size,1,none⟩ (.slice a9 k9 c9))=w9 at *
  have hF:=Rec.f2 (Rec.G hT.out ((G.refl _)))
  have bR:=hF.1
  have bU:=hF.2.1
  have bV:=hF.2.2.1
  have bW:=hF.2.2.2
  clear hF
  refine bodyPost_ret (v:= .agg #[.bool t9,.slice a9 k9 c9]) (by simp [results,Tryz.results239,go_sem, *]) rfl ?_
  exact⟨_,rfl,g9,a9,k9,c9,by rw[← gH.out],bH⟩
theorem q1T (w:World) (t l:Value) (z:Int) (d K:Nat) (q:Rat) (ht:WholeIs w t z) (hl:Num w l d) (hd0:0<d) (hd:d<2^(64*K)) (hc:z≠0→Nat.gcd z.natAbs d=1) (hq0:q=mkRat z d):
  Calls Tryz.prog 110 #[t,l] w (RetQ w q):=by
 have hq:=mk_cross hd0 hq0
 clear hq0
 have HS:Hid (∀ w1,G w w1→_):=fun w1 g=>q7z w1 t z (ht.G g)
 obtain⟨a,k,c,rfl,hm⟩:=ht
 by_cases h0:z=0
 ·subst h0
  have hq0:q=0:=by
   have h1:q.num*(d:Int)=0:=by rw[← hq];simp
   have h2:q.num=0:=by rcases Int.mul_eq_zero.1 h1 with h|h;exact h;omega
   exact Rat.num_eq_zero.1 h2
  rw[hq0]
  rw[show decide ((0:Int)<0)=false from rfl] at *
  clear hl hd0 hd hc hm hq hq0
  go_enter Tryz.func110,Tryz.ntmps110
  go_wp2_with fail
  obtain⟨w0,aL,g0,hz0,R0,R1⟩:=q2s w [.bool false,.slice a k c] [.bool false,.slice none 0 0,.slice none 0 0] 91 93
  rw[aL]
  clear aL
  refine Calls.mono (P:=Tryz.prog) (HS.out w0 g0) ?_
  rintro e w1 ⟨rfl,g1⟩
  clear HS
  have hS:=Rec.f3 (Rec.G R1.out ((g1)))
  have bJ:=hS.1
  have bK:=hS.2.1
  have bL:=hS.2.2.1
  have bM:=hS.2.2.2.1
  have dM:=hS.2.2.2.2.1
  have dN:=hS.2.2.2.2.2
  clear hS
  go_wp2_with fail
  have hT:Hid (Rec (World.setCell (World.setCell (World.setCell w1 ⟨w.heap.size+1,0,none⟩ (.bool false)) ⟨w.heap.size+1,1,none⟩ (.slice none 0 0)) ⟨w.heap.size+1,2,none⟩ (.slice none 0 0)) (w.heap.size+1) [.bool false,.slice none 0 0,.slice none 0 0]):=Rec.set3 (Rec.G R1.out (g1))
  have g9:=Rec.g3 (b:=w.heap.size+1) (u:= .bool false) (v:= .slice none 0 0) (x:= .slice none 0 0) (G.trans g0 g1) (by omega)
  generalize (World.setCell (World.setCell (World.setCell w1 ⟨w.heap.size+1,0,none⟩ (.bool false)) ⟨w.heap.size+1,1,none⟩ (.slice none 0 0)) ⟨w.heap.size+1,2,none⟩ (.slice none 0 0))=w9 at *
  have hF:=Rec.f3 (Rec.G hT.out ((G.refl _)))
  have bR:=hF.1
  have bU:=hF.2.1
  have bV:=hF.2.2.1
  have bW:=hF.2.2.2.1
  have jg:=hF.2.2.2.2.1
  have jh:=hF.2.2.2.2.2
  clear hF
  refine bodyPost_ret (v:= .agg #[.bool false,.slice none 0 0,.slice none 0 0]) (by simp [results,Tryz.results110,go_sem, *]) rfl ?_
  exact⟨_,rfl,g9,qba w9⟩
 ·obtain⟨rfl,rfl⟩:=rat_low hd0 (hc h0) hq
  have HO:Hid (∀ w1,G w w1→_):=fun w1 g=>qaX w1 l q.den K (hl.G g) hd
  have hsg:(q.num.sign==0)=false:=by
   rcases Int.lt_trichotomy q.num 0 with h|h|h
   ·rw[Int.sign_eq_neg_one_of_neg h];rfl
   ·exact absurd h h0
   ·rw[Int.sign_eq_one_of_pos h];rfl
  obtain⟨a',k',c',rfl,-⟩:=q2k hl
  have HL:Hid (Num w (.slice a' k' c') q.den):=hl
  obtain⟨t,yf⟩:∃ t,t=decide (q.num<0):=⟨_,rfl⟩
  rw[← yf] at HS ⊢
  have HT:Hid (t=decide (q.num<0)):=yf
  have HM:Hid (Num w (.slice a k c) q.num.natAbs):=hm
  generalize q.num.sign=sg at *
  clear hd0 hd hc hl yf hm hq
  by_cases h1:q.den=1
  ·rw[decide_eq_true h1] at HO
   go_enter Tryz.func110,Tryz.ntmps110
   go_wp2_with fail
   obtain⟨w0,aL,g0,hz0,R0,R1⟩:=q2s w [.bool t,.slice a k c] [.bool false,.slice none 0 0,.slice none 0 0] 91 93
   rw[aL]
   clear aL
   refine Calls.mono (P:=Tryz.prog) (HS.out w0 g0) ?_
   rintro e w1 ⟨rfl,g1⟩
   go_wp2_with fail
   refine Calls.mono (P:=Tryz.prog) (HO.out w1 (G.trans g0 g1)) ?_
   rintro e w2 ⟨rfl,g2⟩
   have hr0:=Rec.f2 (Rec.G R0.out (G.trans g1 g2))
   have hq0:=hr0.1
   have hq1:=hr0.2.1
   have h5:QIs w2 (.agg #[.bool (decide (q.num<0)),.slice a k c,.slice none 0 0]) q:=⟨a,k,c,none,0,0,rfl,HM.out.G (G.trans g0 (G.trans g1 g2)),by unfold q1J;rw[if_pos h1];exact q0X _ _ _⟩
   clear hr0 HS HO h0 h1 hsg
   have GQ:Hid (Num w2 (.slice a k c) (q).num.natAbs):=qb5 h5
   have GR:Hid (Num w2 (.slice none 0 0) (q1J (q).den)):=qbb h5
   clear h5
   have hS:=Rec.f3 (Rec.G R1.out ((G.trans g1 g2)))
   have bJ:=hS.1
   have bK:=hS.2.1
   have bL:=hS.2.2.1
   have bM:=hS.2.2.2.1
   have dM:=hS.2.2.2.2.1
   have dN:=hS.2.2.2.2.2
   clear hS
   have dO:Num _ _ _:=q0l (u1:= .bool t) (u2:= .slice a k c) (u3:= .slice none 0 0) GQ.out (Rec.G R1.out (G.trans g1 g2)) trivial trivial trivial
   have bH:Num _ _ _:=q0l (u1:= .bool t) (u2:= .slice a k c) (u3:= .slice none 0 0) GR.out (Rec.G R1.out (G.trans g1 g2)) trivial trivial trivial
   go_wp2_with fail
   have hT:Hid (Rec (World.setCell (World.setCell (World.setCell w2 ⟨w.heap.size+1,0,none⟩ (.bool t)) ⟨w.heap.size+1,1,none⟩ (.slice a k c)) ⟨w.heap.size+1,2,none⟩ (.slice none 0 0)) (w.heap.size+1) [.bool t,.slice a k c,.slice none 0 0]):=Rec.set3 (Rec.G R1.out (G.trans g1 g2))
   have g9:=Rec.g3 (b:=w.heap.size+1) (u:= .bool t) (v:= .slice a k c) (x:= .slice none 0 0) (G.trans g0 (G.trans g1 g2)) (by omega)
   generalize (World.setCell (World.setCell (World.setCell w2 ⟨w.heap.size+1,0,none⟩ (.bool t)) ⟨w.heap.size+1,1,none⟩ (.slice a k c)) ⟨w.heap.size+1,2,none⟩ (.slice none 0 0))=w9 at *
   have hF:=Rec.f3 (Rec.G hT.out ((G.refl _)))
   have bR:=hF.1
   have bU:=hF.2.1
   have bV:=hF.2.2.1
   have bW:=hF.2.2.2.1
   have jg:=hF.2.2.2.2.1
   have jh:=hF.2.2.2.2.2
   clear hF
   refine bodyPost_ret (v:= .agg #[.bool t,.slice a k c,.slice none 0 0]) (by simp [results,Tryz.results110,go_sem, *]) rfl ?_
   exact⟨_,rfl,g9,a,k,c,none,0,0,by rw[← HT.out],dO,bH⟩
  ·rw[decide_eq_false h1] at HO
   go_enter Tryz.func110,Tryz.ntmps110
   go_wp2_with fail
   obtain⟨w0,aL,g0,hz0,R0,R1⟩:=q2s w [.bool t,.slice a k c] [.bool false,.slice none 0 0,.slice none 0 0] 91 93
   rw[aL]
   clear aL
   refine Calls.mono (P:=Tryz.prog) (HS.out w0 g0) ?_
   rintro e w1 ⟨rfl,g1⟩
   go_wp2_with fail
   refine Calls.mono (P:=Tryz.prog) (HO.out w1 (G.trans g0 g1)) ?_
   rintro e w2 ⟨rfl,g2⟩
   have hr0:=Rec.f2 (Rec.G R0.out (G.trans g1 g2))
   have hq0:=hr0.1
   have hq1:=hr0.2.1
   have h5:QIs w2 (.agg #[.bool (decide (q.num<0)),.slice a k c,.slice a' k' c']) q:=⟨a,k,c,a',k',c',rfl,HM.out.G (G.trans g0 (G.trans g1 g2)),by unfold q1J;rw[if_neg h1];exact HL.out.G (G.trans g0 (G.trans g1 g2))⟩
   clear hr0 HS HO h0 h1 hsg
   have GQ:Hid (Num w2 (.slice a k c) (q).num.natAbs):=qb5 h5
   have GR:Hid (Num w2 (.slice a' k' c') (q1J (q).den)):=qbb h5
   clear h5
   have hS:=Rec.f3 (Rec.G R1.out ((G.trans g1 g2)))
   have bJ:=hS.1
   have bK:=hS.2.1
   have bL:=hS.2.2.1
   have bM:=hS.2.2.2.1
   have dM:=hS.2.2.2.2.1
   have dN:=hS.2.2.2.2.2
   clear hS
   have dO:Num _ _ _:=q0l (u1:= .bool t) (u2:= .slice a k c) (u3:= .slice a' k' c') GQ.out (Rec.G R1.out (G.trans g1 g2)) trivial trivial trivial
   have bH:Num _ _ _:=q0l (u1:= .bool t) (u2:= .slice a k c) (u3:= .slice a' k' c') GR.out (Rec.G R1.out (G.trans g1 g2)) trivial trivial trivial
   go_wp2_with fail
   have hT:Hid (Rec (World.setCell (World.setCell (World.setCell w2 ⟨w.heap.size+1,0,none⟩ (.bool t)) ⟨w.heap.size+1,1,none⟩ (.slice a k c)) ⟨w.heap.size+1,2,none⟩ (.slice a' k' c')) (w.heap.size+1) [.bool t,.slice a k c,.slice a' k' c']):=Rec.set3 (Rec.G R1.out (G.trans g1 g2))
   have g9:=Rec.g3 (b:=w.heap.size+1) (u:= .bool t) (v:= .slice a k c) (x:= .slice a' k' c') (G.trans g0 (G.trans g1 g2)) (by omega)
   generalize (World.setCell (World.setCell (World.setCell w2 ⟨w.heap.size+1,0,none⟩ (.bool t)) ⟨w.heap.size+1,1,none⟩ (.slice a k c)) ⟨w.heap.size+1,2,none⟩ (.slice a' k' c'))=w9 at *
   have hF:=Rec.f3 (Rec.G hT.out ((G.refl _)))
   have bR:=hF.1
   have bU:=hF.2.1
   have bV:=hF.2.2.1
   have bW:=hF.2.2.2.1
   have jg:=hF.2.2.2.2.1
   have jh:=hF.2.2.2.2.2
   clear hF
   refine bodyPost_ret (v:= .agg #[.bool t,.slice a k c,.slice a' k' c']) (by simp [results,Tryz.results110,go_sem, *]) rfl ?_
   exact⟨_,rfl,g9,a,k,c,a',k',c',by rw[← HT.out],dO,bH⟩
/-- How great a fraction's parts are. -/
def QB (q:Rat) (K:Nat):Prop:=q.num.natAbs<2^(64*K)∧q.den<2^(64*K)
theorem QB.mono {q:Rat} {K L:Nat} (h:QB q K) (hl:K≤L):QB q L:=
 ⟨Nat.lt_of_lt_of_le h.1 (Nat.pow_le_pow_right (by omega) (by omega)),Nat.lt_of_lt_of_le h.2 (Nat.pow_le_pow_right (by omega) (by omega))⟩
theorem q0Y {a b K L:Nat} (ha:a<2^(64*K)) (hb:b<2^(64*L)):a*b<2^(64*(K+L)):=by
 rw[show 64*(K+L)=64*K+64*L from by omega,Nat.pow_add]
 exact Nat.mul_lt_mul'' ha hb
theorem q3R {a b:Nat} (h:0<b):Nat.gcd (a/Nat.gcd a b) (b/Nat.gcd a b)=1:=Nat.gcd_div_gcd_div_gcd_of_pos_right h
theorem q2B {a b c d:Nat} (h:Nat.gcd a b=1) (hc:c∣a) (hd:d∣b):Nat.gcd c d=1:=
 Nat.eq_one_of_dvd_one (h▸Nat.dvd_gcd (Nat.dvd_trans (Nat.gcd_dvd_left c d) hc) (Nat.dvd_trans (Nat.gcd_dvd_right c d) hd))
theorem q8V {a c e b:Nat} (h1:Nat.gcd a e=1) (h2:Nat.gcd a b=1) (h3:Nat.gcd c e=1) (h4:Nat.gcd c b=1):Nat.gcd (a*c) (e*b)=1:=
 Nat.Coprime.mul_left (Nat.Coprime.mul_right h1 h2) (Nat.Coprime.mul_right h3 h4)
/-- What a product comes to, in lowest terms. -/
theorem qaB (x y:Rat):Nat.gcd (x.num.natAbs/Nat.gcd x.num.natAbs y.den*(y.num.natAbs/Nat.gcd y.num.natAbs x.den)) (x.den/Nat.gcd y.num.natAbs x.den*(y.den/Nat.gcd x.num.natAbs y.den))=1:=by
 have hx:=x.reduced
 have hy:=y.reduced
 have hxd:=x.den_pos
 have nY:=y.den_pos
 refine q8V ?_ (q3R nY) (q3R hxd) ?_
 ·exact q2B hx (Nat.div_dvd_of_dvd (Nat.gcd_dvd_left _ _)) (Nat.div_dvd_of_dvd (Nat.gcd_dvd_right _ _))
 ·exact q2B hy (Nat.div_dvd_of_dvd (Nat.gcd_dvd_left _ _)) (Nat.div_dvd_of_dvd (Nat.gcd_dvd_right _ _))
theorem q9X (s t:Bool) (n m:Nat):sgn (s != t) (n*m)=sgn s n*sgn t m:=by
 unfold sgn
 cases s<;>cases t<;>simp [Int.neg_mul,Int.mul_neg]
theorem q9Q (x y:Rat):x*y=mkRat (sgn (decide (x.num<0) != decide (y.num<0)) (x.num.natAbs/Nat.gcd x.num.natAbs y.den*(y.num.natAbs/Nat.gcd y.num.natAbs x.den))) (x.den/Nat.gcd y.num.natAbs x.den*(y.den/Nat.gcd x.num.natAbs y.den)):=by
 have hxd:=x.den_pos
 have nY:=y.den_pos
 rw[Rat.mul_def']
 obtain⟨a,ha⟩:=Nat.gcd_dvd_left x.num.natAbs y.den
 obtain⟨b,hb⟩:=Nat.gcd_dvd_right x.num.natAbs y.den
 obtain⟨c,hc⟩:=Nat.gcd_dvd_left y.num.natAbs x.den
 obtain⟨e,he⟩:=Nat.gcd_dvd_right y.num.natAbs x.den
 have hg:0<Nat.gcd x.num.natAbs y.den:=Nat.gcd_pos_of_pos_right _ nY
 have hh:0<Nat.gcd y.num.natAbs x.den:=Nat.gcd_pos_of_pos_right _ hxd
 generalize Nat.gcd x.num.natAbs y.den=g at *
 generalize Nat.gcd y.num.natAbs x.den=h at *
 have e1:x.num.natAbs/g=a:=by rw[ha];exact Nat.mul_div_cancel_left _ hg
 have e2:y.den/g=b:=by rw[hb];exact Nat.mul_div_cancel_left _ hg
 have e3:y.num.natAbs/h=c:=by rw[hc];exact Nat.mul_div_cancel_left _ hh
 have e4:x.den/h=e:=by rw[he];exact Nat.mul_div_cancel_left _ hh
 rw[e1,e2,e3,e4]
 have hb0:b≠0:=by rintro rfl;omega
 have he0:e≠0:=by rintro rfl;omega
 rw[Rat.mkRat_eq_iff (Nat.mul_ne_zero (by omega) (by omega)) (Nat.mul_ne_zero he0 hb0)]
 have hx:x.num=sgn (decide (x.num<0)) (g*a):=by rw[← ha];exact(q1y _).symm
 have hy:y.num=sgn (decide (y.num<0)) (h*c):=by rw[← hc];exact(q1y _).symm
 generalize decide (x.num<0)=s at *
 generalize decide (y.num<0)=t at *
 rw[hx,hy,hb,he,← q9X]
 clear ha hb hc he hg hh e1 e2 e3 e4 hx hy hb0 he0 hxd nY
 have e5:∀ (r:Bool) (p q k l:Nat),p*k=q*l→sgn r p*(k:Int)=sgn r q*(l:Int):=by
  intro r p q k l hpq
  have h1:(p:Int)*k=(q:Int)*l:=by rw[← Int.natCast_mul,hpq,Int.natCast_mul]
  unfold sgn
  cases r
  ·exact h1
  ·simp only[if_true,Int.neg_mul,h1]
 exact e5 _ _ _ _ _ (by ac_rfl)
theorem qb9 {w:World} {b:Nat} {e:TypeId} (hb:b=w.heap.size):Num (w.alloc (.cells #[.int .u64 1] e)) (.slice (some ⟨b,0,none⟩) 1 1) 1:=by
 subst hb;exact q1Q (d:=1) (by decide) (by decide)
theorem q8w (w:World) (v:Value) (q:Rat) (h:QIs w v q):
  Calls Tryz.prog 107 #[v] w (q0i w q.den):=by
 obtain⟨a,k,c,a',k',c',rfl,h1,h2⟩:=h
 obtain⟨a2,k2,c2,e,hk1,-,hk⟩:=q2k h2
 injection e with e1 e2 e3
 subst e1;subst e2;subst e3
 have hd:=q.den_pos
 obtain⟨t,ht⟩:∃ t,t=decide (q.num<0):=⟨_,rfl⟩
 rw[← ht]
 clear ht
 by_cases h0:q.den=1
 ·have hk0:k'=0:=hk1.2 (by unfold q1J;rw[if_pos h0])
  subst hk0
  rw[h0]
  go_enter Tryz.func107,Tryz.ntmps107
  go_wp2_with fail
  go_ret
  exact⟨_,rfl,((G.refl _).alloc _).alloc _,qb9 (by simp)⟩
 ·have hl:q1J q.den=q.den:=by unfold q1J;rw[if_neg h0]
  rw[hl] at h2 hk
  have hk2:((k':Int)==0)=false:=by rw[hk];simp;omega
  have H2:Hid (Num w (.slice a' k' c') q.den):=h2
  clear hk hk1 h0 hl h1 hd h2
  go_enter Tryz.func107,Tryz.ntmps107
  go_wp2_with fail
  go_ret
  exact⟨_,rfl,(G.refl _).alloc _,H2.out.G ((G.refl _).alloc _)⟩
set_option maxHeartbeats 1000000 in
theorem q36 (w:World) (v u:Value) (x y:Rat) (K:Nat) (hK:K≤100000) (hK1:1≤K) (hT:Tab w) (hx:QIs w v x) (hy:QIs w u y) (bx:QB x K) (kT:QB y K):
  Calls Tryz.prog 64 #[v,u] w (RetQ w (x*y)):=by
 have lI:Hid (∀ w1,G w w1→_):=fun w1 g=>q8w w1 v x (hx.G g)
 have kJ:Hid (∀ w1,G w w1→_):=fun w1 g=>q8w w1 u y (hy.G g)
 have hlow:=qaB x y
 have hval:=q9Q x y
 obtain⟨a,k,c,a',k',c',rfl,hx1,hx2⟩:=hx
 obtain⟨b,j,e,b',j',e',rfl,hy1,hy2⟩:=hy
 obtain⟨bx1,BQ⟩:=bx
 obtain⟨Fw,BR⟩:=kT
 have hxd:=x.den_pos
 have nY:=y.den_pos
 obtain⟨g,hg⟩:∃ g,g=Nat.gcd x.num.natAbs y.den:=⟨_,rfl⟩
 obtain⟨h,hh⟩:∃ h,h=Nat.gcd y.num.natAbs x.den:=⟨_,rfl⟩
 have hg0:0<g:=by rw[hg];exact Nat.gcd_pos_of_pos_right _ nY
 have hh0:0<h:=by rw[hh];exact Nat.gcd_pos_of_pos_right _ hxd
 have hgb:g<2^(64*K):=Nat.lt_of_le_of_lt (by rw[hg];exact Nat.gcd_le_right _ nY) BR
 have GJ:h<2^(64*K):=Nat.lt_of_le_of_lt (by rw[hh];exact Nat.gcd_le_right _ hxd) BQ
 have Be:Hid (∀ w1 v1,G w w1→Num w1 v1 y.den→Calls Tryz.prog 106 #[.slice a k c,v1] w1 (q0i w1 g)):=fun w1 v1 g1 h1=>by
  rw[hg];exact q1Z w1 _ v1 _ _ K (by omega) hK1 (hT.G g1) (hx1.G g1) h1 bx1 BR
 have mO:Hid (∀ w1 v1,G w w1→Num w1 v1 x.den→Calls Tryz.prog 106 #[.slice b j e,v1] w1 (q0i w1 h)):=fun w1 v1 g1 h1=>by
  rw[hh];exact q1Z w1 _ v1 _ _ K (by omega) hK1 (hT.G g1) (hy1.G g1) h1 Fw BQ
 rw[← hg,← hh] at hlow hval
 have lJ:Hid (∀ w1 v1,G w w1→Num w1 v1 g→_):=fun w1 v1 g1 h1=>q2K w1 (.slice a k c) v1 _ g K (by omega) hK1 (hx1.G g1) h1 bx1 hgb hg0
 have dL:Hid (∀ w1 v1,G w w1→Num w1 v1 h→_):=fun w1 v1 g1 h1=>q2K w1 (.slice b j e) v1 _ h K (by omega) hK1 (hy1.G g1) h1 Fw GJ hh0
 have tu:Hid (∀ w1 v1 v2,Num w1 v1 x.den→Num w1 v2 h→_):=fun w1 v1 v2 h1 h2=>q2K w1 v1 v2 _ h K (by omega) hK1 h1 h2 BQ GJ hh0
 have kD:Hid (∀ w1 v1 v2,Num w1 v1 y.den→Num w1 v2 g→_):=fun w1 v1 v2 h1 h2=>q2K w1 v1 v2 _ g K (by omega) hK1 h1 h2 BR hgb hg0
 have q1:x.num.natAbs/g<2^(64*K):=Nat.lt_of_le_of_lt (Nat.div_le_self _ _) bx1
 have q2:y.num.natAbs/h<2^(64*K):=Nat.lt_of_le_of_lt (Nat.div_le_self _ _) Fw
 have q3:x.den/h<2^(64*K):=Nat.lt_of_le_of_lt (Nat.div_le_self _ _) BQ
 have q4:y.den/g<2^(64*K):=Nat.lt_of_le_of_lt (Nat.div_le_self _ _) BR
 have q5:0<x.den/h:=Nat.div_pos (by rw[hh];exact Nat.gcd_le_right _ hxd) hh0
 have q6:0<y.den/g:=Nat.div_pos (by rw[hg];exact Nat.gcd_le_right _ nY) hg0
 clear hg hh hg0 hh0 hgb GJ bx1 BQ Fw BR hxd nY hx2 hy2 hx1 hy1 hT
 obtain⟨s,hs⟩:∃ s,s=decide (x.num<0):=⟨_,rfl⟩
 obtain⟨t,ht⟩:∃ t,t=decide (y.num<0):=⟨_,rfl⟩
 rw[← hs,← ht] at hval
 rw[← hs] at lI
 rw[← ht] at kJ
 rw[← hs,← ht]
 clear hs ht
 generalize x.num.natAbs/g=A at *
 generalize y.num.natAbs/h=B at *
 generalize x.den/h=C at *
 generalize y.den/g=D at *
 have HT1:Hid (∀ w1 v1 v2,Num w1 v1 A→Num w1 v2 B→_):=fun w1 v1 v2 h1 h2=>q29 w1 v1 v2 A B K (by omega) h1 h2 q1 q2
 have HT2:Hid (∀ w1 v1 v2,Num w1 v1 C→Num w1 v2 D→_):=fun w1 v1 v2 h1 h2=>q29 w1 v1 v2 C D K (by omega) h1 h2 q3 q4
 have HS:Hid (∀ w1 v1,Num w1 v1 (A*B)→_):=fun w1 v1 h1=>q1d w1 v1 (s != t) (A*B) h1
 have HF:Hid (∀ w1 v1 v2,WholeIs w1 v1 (sgn (s != t) (A*B))→Num w1 v2 (C*D)→Calls Tryz.prog 110 #[v1,v2] w1 (RetQ w1 (x*y))):=fun w1 v1 v2 h1 h2=>
  q1T w1 v1 v2 _ (C*D) (K+K) (x*y) h1 h2 (Nat.mul_pos q5 q6) (q0Y q3 q4) (fun _=>by rw[q3T];exact hlow) hval
 clear q1 q2 q3 q4 q5 q6 hlow hval
 generalize A*B=N at *
 generalize C*D=M at *
 generalize sgn (s != t) N=z at *
 obtain⟨p,hp⟩:∃ p,p=x.den:=⟨_,rfl⟩
 obtain⟨r,hr⟩:∃ r,r=y.den:=⟨_,rfl⟩
 rw[← hp] at lI mO tu
 rw[← hr] at kJ Be kD
 clear hp hr
 generalize x*y=q at *
 go_enter Tryz.func64,Tryz.ntmps64
 go_wp2_with fail
 obtain⟨w0,aL,g0,hz0,R0,R1,R2⟩:=q1t w [.bool s,.slice a k c,.slice a' k' c'] [.bool t,.slice b j e,.slice b' j' e'] [.bool false,.slice none 0 0,.slice none 0 0] 93 93 93
 rw[aL]
 clear aL
 refine region_each 14 0 #[true,true,true,true,true,true,true,true,true,true,true,true,true,true] [.is (.pointer (some ⟨w.heap.size,0,none⟩)),.is (.pointer (some ⟨w.heap.size,1,none⟩)),.is (.slice a k c),.is (.agg #[.bool t,.slice b j e,.slice b' j' e']),.any (fun v w'=>Num w' v (r)),.any (fun v w'=>Num w' v (g)),.is (.pointer (some ⟨w.heap.size+1,0,none⟩)),.is (.pointer (some ⟨w.heap.size+1,1,none⟩)),.is (.slice b j e),.is (.agg #[.bool s,.slice a k c,.slice a' k' c']),.any (fun v w'=>Num w' v (p)),.any (fun v w'=>Num w' v (h)),.any (fun v w'=>Num w' v (g)),.any (fun v w'=>Num w' v (h))] [some 9,some 10,some 11,some 12,some 13,some 14,some 15,some 16,some 17,some 18,some 19,some 20,some 5,some 6] (by kernel_rfl) (by kernel_rfl) rfl (by kernel_rfl) (by repeat (first|exact trivial|refine⟨fun _ _ _ g h=>by first|exact h.G g|exact fun w3 g3=>h w3 (G.trans g g3),?_⟩)) (by kernel_rfl) (by kernel_rfl) ?_
 refine Letters.is ?_
 refine Letters.is ?_
 refine Letters.is ?_
 refine Letters.is ?_
 refine Letters.any fun v4=> ?_
 refine Letters.any fun v5=> ?_
 refine Letters.is ?_
 refine Letters.is ?_
 refine Letters.is ?_
 refine Letters.is ?_
 refine Letters.any fun v10=> ?_
 refine Letters.any fun v11=> ?_
 refine Letters.any fun v12=> ?_
 refine Letters.any fun v13=> ?_
 refine Letters.nil ?_
 intro A hA
 simp only[q0N,Act.put,List.setIfInBounds_toArray,List.set_cons_zero,List.set_cons_succ] at hA
 subst hA
 refine⟨?_,?_⟩
 ·skip
  refine Eaches.cons rfl ?dW (Eaches.cons rfl ?eU (Eaches.cons rfl ?fB (Eaches.cons rfl ?dZ (Eaches.cons rfl ?iA (Eaches.cons rfl ?iB (Eaches.cons rfl ?iC (Eaches.cons rfl ?gT (Eaches.cons rfl ?iD (Eaches.cons rfl ?lK (Eaches.cons rfl ?ja (Eaches.cons rfl ?kU (Eaches.cons rfl ?qM (Eaches.cons rfl ?wz (Eaches.nil))))))))))))))
  case dW|eU|iC|gT=>
   intro W hW hD K hK
   clear hD
   go_simp
   exact hK.out _ _ ⟨_,rfl,G.refl _,rfl⟩
  case fB|dZ|iD|lK=>
   intro W hW hD K hK
   clear hD
   have hR0:=Rec.f3 (Rec.G R0.out hW)
   have ed:=hR0.1
   have ek:=hR0.2.1
   have qN:=hR0.2.2.1
   clear hR0
   have eu:=Rec.f3 (Rec.G R1.out hW)
   have jb:=eu.1
   have jc:=eu.2.1
   have wC:=eu.2.2.1
   clear eu
   go_simp
   exact hK.out _ _ ⟨_,rfl,G.refl _,rfl⟩
  ·intro W hW hD K hK
   clear hD
   go_simp
   go_wp2_with (go_at_call 107;refine Calls.mono (P:=Tryz.prog) (kJ.out W (G.trans g0 hW)) ?_;intro e w9 hs;obtain⟨u9,rfl,g9,aH⟩:=hs)
   exact hK.out _ _ ⟨_,rfl,g9,aH⟩
  ·intro W hW hD K hK
   have h4:=Deps.get (v:=v4) 4 hD rfl rfl (by kernel_rfl)
   clear hD
   go_simp
   go_wp2_with (go_at_call 106;refine Calls.mono (P:=Tryz.prog) (Be.out W v4 (G.trans g0 hW) h4) ?_;intro e w9 hs;obtain⟨u9,rfl,g9,aH⟩:=hs)
   exact hK.out _ _ ⟨_,rfl,g9,aH⟩
  ·intro W hW hD K hK
   clear hD
   go_simp
   go_wp2_with (go_at_call 107;refine Calls.mono (P:=Tryz.prog) (lI.out W (G.trans g0 hW)) ?_;intro e w9 hs;obtain⟨u9,rfl,g9,aH⟩:=hs)
   exact hK.out _ _ ⟨_,rfl,g9,aH⟩
  ·intro W hW hD K hK
   have h10:=Deps.get (v:=v10) 10 hD rfl rfl (by kernel_rfl)
   clear hD
   go_simp
   go_wp2_with (go_at_call 106;refine Calls.mono (P:=Tryz.prog) (mO.out W v10 (G.trans g0 hW) h10) ?_;intro e w9 hs;obtain⟨u9,rfl,g9,aH⟩:=hs)
   exact hK.out _ _ ⟨_,rfl,g9,aH⟩
  ·intro W hW hD K hK
   have h5:=Deps.get (v:=v5) 5 hD rfl rfl (by kernel_rfl)
   clear hD
   go_simp
   exact hK.out _ _ ⟨_,rfl,G.refl _,h5⟩
  ·intro W hW hD K hK
   have h11:=Deps.get (v:=v11) 11 hD rfl rfl (by kernel_rfl)
   clear hD
   go_simp
   exact hK.out _ _ ⟨_,rfl,G.refl _,h11⟩
 intro w1 g1 hH
 have h12:=Helds.get (v:=v12) 12 hH rfl rfl
 have wD:=Helds.get (v:=v13) 13 hH rfl rfl
 clear hH
 refine wpAny_done (by kernel_rfl) ?_ _
 have GK:Hid (Num w1 v12 g):=h12
 have GL:Hid (Num w1 v13 h):=wD
 clear h12 wD Be mO
 have fG:=G.trans g0 g1
 have S0:Hid _:=Rec.G R0.out g1
 have S1:Hid _:=Rec.G R1.out g1
 have S2:Hid _:=Rec.G R2.out g1
 clear R0 R1 R2 g0 g1
 go_wp2_with fail
 refine region_each 12 0 #[true,true,true,true,true,true,true,true,true,true,true,true] [.is (.pointer (some ⟨w.heap.size,0,none⟩)),.is (.pointer (some ⟨w.heap.size,1,none⟩)),.is (.slice a k c),.is (v12),.any (fun v w'=>Num w' v (A)),.is (.pointer (some ⟨w.heap.size+1,0,none⟩)),.is (.pointer (some ⟨w.heap.size+1,1,none⟩)),.is (.slice b j e),.is (v13),.any (fun v w'=>Num w' v (B)),.any (fun v w'=>Num w' v (N)),.any (fun v w'=>Num w' v (N))] [some 21,some 22,some 23,some 24,some 25,some 26,some 27,some 28,some 29,some 30,some 31,some 7] (by kernel_rfl) (by kernel_rfl) rfl (by kernel_rfl) (by repeat (first|exact trivial|refine⟨fun _ _ _ g h=>by first|exact h.G g|exact fun w3 g3=>h w3 (G.trans g g3),?_⟩)) (by kernel_rfl) (by kernel_rfl) ?_
 refine Letters.is ?_
 refine Letters.is ?_
 refine Letters.is ?_
 refine Letters.is ?_
 refine Letters.any fun v4=> ?_
 refine Letters.is ?_
 refine Letters.is ?_
 refine Letters.is ?_
 refine Letters.is ?_
 refine Letters.any fun v9=> ?_
 refine Letters.any fun v10=> ?_
 refine Letters.any fun v11=> ?_
 refine Letters.nil ?_
 intro A hA
 simp only[q0N,Act.put,List.setIfInBounds_toArray,List.set_cons_zero,List.set_cons_succ] at hA
 subst hA
 refine⟨?_,?_⟩
 ·skip
  refine Eaches.cons rfl ?gN (Eaches.cons rfl ?iU (Eaches.cons rfl ?iV (Eaches.cons rfl ?iW (Eaches.cons rfl ?iX (Eaches.cons rfl ?kH (Eaches.cons rfl ?kI (Eaches.cons rfl ?pR (Eaches.cons rfl ?qL (Eaches.cons rfl ?xN (Eaches.cons rfl ?wE (Eaches.cons rfl ?BS (Eaches.nil))))))))))))
  case gN|iU|iW|kH|kI|qL=>
   intro W hW hD K hK
   clear hD
   go_simp
   exact hK.out _ _ ⟨_,rfl,G.refl _,rfl⟩
  case iV|pR=>
   intro W hW hD K hK
   clear hD
   have hS0:=Rec.f3 (Rec.G S0.out hW)
   have qO:=hS0.1
   have qP:=hS0.2.1
   have BU:=hS0.2.2.1
   clear hS0
   have hS1:=Rec.f3 (Rec.G S1.out hW)
   have qQ:=hS1.1
   have qR:=hS1.2.1
   have BV:=hS1.2.2.1
   clear hS1
   go_simp
   exact hK.out _ _ ⟨_,rfl,G.refl _,rfl⟩
  ·intro W hW hD K hK
   clear hD
   go_simp
   go_wp2_with (go_at_call 108;refine Calls.mono (P:=Tryz.prog) (lJ.out W v12 (G.trans fG hW) (Num.G GK.out hW)) ?_;intro e w9 hs;obtain⟨u9,rfl,g9,aH⟩:=hs)
   exact hK.out _ _ ⟨_,rfl,g9,aH⟩
  ·intro W hW hD K hK
   clear hD
   go_simp
   go_wp2_with (go_at_call 108;refine Calls.mono (P:=Tryz.prog) (dL.out W v13 (G.trans fG hW) (Num.G GL.out hW)) ?_;intro e w9 hs;obtain⟨u9,rfl,g9,aH⟩:=hs)
   exact hK.out _ _ ⟨_,rfl,g9,aH⟩
  ·intro W hW hD K hK
   have h4:=Deps.get (v:=v4) 4 hD rfl rfl (by kernel_rfl)
   have h9:=Deps.get (v:=v9) 9 hD rfl rfl (by kernel_rfl)
   clear hD
   go_simp
   go_wp2_with (go_at_call 109;refine Calls.mono (P:=Tryz.prog) (HT1.out W v4 v9 h4 h9) ?_;intro e w9 hs;obtain⟨u9,rfl,g9,aH⟩:=hs)
   exact hK.out _ _ ⟨_,rfl,g9,aH⟩
  ·intro W hW hD K hK
   have h10:=Deps.get (v:=v10) 10 hD rfl rfl (by kernel_rfl)
   clear hD
   go_simp
   exact hK.out _ _ ⟨_,rfl,G.refl _,h10⟩
 intro w2 g2 hH
 have h11:=Helds.get (v:=v11) 11 hH rfl rfl
 clear hH
 refine wpAny_done (by kernel_rfl) ?_ _
 have Mc:Hid (Num w2 v11 N):=h11
 have BX:Hid (Num w2 v12 g):=GK.out.G g2
 have BZ:Hid (Num w2 v13 h):=GL.out.G g2
 have tC:=G.trans fG g2
 have T0:Hid _:=Rec.G S0.out g2
 have T1:Hid _:=Rec.G S1.out g2
 have T2:Hid _:=Rec.G S2.out g2
 clear h11 GK GL lJ dL HT1 S0 S1 S2 fG g2
 go_wp2_with fail
 refine region_each 10 0 #[true,true,true,true,true,true,true,true,true,true] [.is (.agg #[.bool s,.slice a k c,.slice a' k' c']),.any (fun v w'=>Num w' v (p)),.is (v13),.any (fun v w'=>Num w' v (C)),.is (.agg #[.bool t,.slice b j e,.slice b' j' e']),.any (fun v w'=>Num w' v (r)),.is (v12),.any (fun v w'=>Num w' v (D)),.any (fun v w'=>Num w' v (M)),.any (fun v w'=>Num w' v (M))] [some 32,some 33,some 34,some 35,some 36,some 37,some 38,some 39,some 40,some 8] (by kernel_rfl) (by kernel_rfl) rfl (by kernel_rfl) (by repeat (first|exact trivial|refine⟨fun _ _ _ g h=>by first|exact h.G g|exact fun w3 g3=>h w3 (G.trans g g3),?_⟩)) (by kernel_rfl) (by kernel_rfl) ?_
 refine Letters.is ?_
 refine Letters.any fun v1=> ?_
 refine Letters.is ?_
 refine Letters.any fun v3=> ?_
 refine Letters.is ?_
 refine Letters.any fun v5=> ?_
 refine Letters.is ?_
 refine Letters.any fun v7=> ?_
 refine Letters.any fun v8=> ?_
 refine Letters.any fun v9=> ?_
 refine Letters.nil ?_
 intro A hA
 simp only[q0N,Act.put,List.setIfInBounds_toArray,List.set_cons_zero,List.set_cons_succ] at hA
 subst hA
 refine⟨?_,?_⟩
 ·skip
  refine Eaches.cons rfl ?nZ (Eaches.cons rfl ?pU (Eaches.cons rfl ?pV (Eaches.cons rfl ?pW (Eaches.cons rfl ?pX (Eaches.cons rfl ?qU (Eaches.cons rfl ?qV (Eaches.cons rfl ?uo (Eaches.cons rfl ?GM (Eaches.cons rfl ?GN (Eaches.nil))))))))))
  case pV|qV=>
   intro W hW hD K hK
   clear hD
   go_simp
   exact hK.out _ _ ⟨_,rfl,G.refl _,rfl⟩
  case nZ|pX=>
   intro W hW hD K hK
   clear hD
   have hT0:=Rec.f3 (Rec.G T0.out hW)
   have wF:=hT0.1
   have wG:=hT0.2.1
   have C8:=hT0.2.2.1
   clear hT0
   have hT1:=Rec.f3 (Rec.G T1.out hW)
   have wH:=hT1.1
   have wI:=hT1.2.1
   have C9:=hT1.2.2.1
   clear hT1
   go_simp
   exact hK.out _ _ ⟨_,rfl,G.refl _,rfl⟩
  ·intro W hW hD K hK
   clear hD
   go_simp
   go_wp2_with (go_at_call 107;refine Calls.mono (P:=Tryz.prog) (lI.out W (G.trans tC hW)) ?_;intro e w9 hs;obtain⟨u9,rfl,g9,aH⟩:=hs)
   exact hK.out _ _ ⟨_,rfl,g9,aH⟩
  ·intro W hW hD K hK
   have h1:=Deps.get (v:=v1) 1 hD rfl rfl (by kernel_rfl)
   clear hD
   go_simp
   go_wp2_with (go_at_call 108;refine Calls.mono (P:=Tryz.prog) (tu.out W v1 v13 h1 (Num.G BZ.out hW)) ?_;intro e w9 hs;obtain⟨u9,rfl,g9,aH⟩:=hs)
   exact hK.out _ _ ⟨_,rfl,g9,aH⟩
  ·intro W hW hD K hK
   clear hD
   go_simp
   go_wp2_with (go_at_call 107;refine Calls.mono (P:=Tryz.prog) (kJ.out W (G.trans tC hW)) ?_;intro e w9 hs;obtain⟨u9,rfl,g9,aH⟩:=hs)
   exact hK.out _ _ ⟨_,rfl,g9,aH⟩
  ·intro W hW hD K hK
   have h5:=Deps.get (v:=v5) 5 hD rfl rfl (by kernel_rfl)
   clear hD
   go_simp
   go_wp2_with (go_at_call 108;refine Calls.mono (P:=Tryz.prog) (kD.out W v5 v12 h5 (Num.G BX.out hW)) ?_;intro e w9 hs;obtain⟨u9,rfl,g9,aH⟩:=hs)
   exact hK.out _ _ ⟨_,rfl,g9,aH⟩
  ·intro W hW hD K hK
   have h3:=Deps.get (v:=v3) 3 hD rfl rfl (by kernel_rfl)
   have h7:=Deps.get (v:=v7) 7 hD rfl rfl (by kernel_rfl)
   clear hD
   go_simp
   go_wp2_with (go_at_call 109;refine Calls.mono (P:=Tryz.prog) (HT2.out W v3 v7 h3 h7) ?_;intro e w9 hs;obtain⟨u9,rfl,g9,aH⟩:=hs)
   exact hK.out _ _ ⟨_,rfl,g9,aH⟩
  ·intro W hW hD K hK
   have h8:=Deps.get (v:=v8) 8 hD rfl rfl (by kernel_rfl)
   clear hD
   go_simp
   exact hK.out _ _ ⟨_,rfl,G.refl _,h8⟩
 intro w3 g3 hH
 have h9:=Helds.get (v:=v9) 9 hH rfl rfl
 clear hH
 refine wpAny_done (by kernel_rfl) ?_ _
 have H9:Hid (Num w3 v9 M):=h9
 have Ca:Hid (Num w3 v11 N):=Mc.out.G g3
 have PI:=G.trans tC g3
 have U0:Hid _:=Rec.G T0.out g3
 have U1:Hid _:=Rec.G T1.out g3
 have U2:Hid _:=Rec.G T2.out g3
 clear h9 Mc BX BZ tu kD HT2 T0 T1 T2 tC g3 lI kJ
 have pY:Hid _:=HS.out w3 v11 Ca.out
 have o5:=Rec.f3 (Rec.G U0.out (G.refl _))
 have xO:=o5.1
 have xP:=o5.2.1
 have xQ:=o5.2.2.1
 have xR:=o5.2.2.2.1
 have xS:=o5.2.2.2.2.1
 have xU:=o5.2.2.2.2.2
 clear o5
 have o6:=Rec.f3 (Rec.G U1.out (G.refl _))
 have xV:=o6.1
 have xW:=o6.2.1
 have xX:=o6.2.2.1
 have xY:=o6.2.2.2.1
 have xZ:=o6.2.2.2.2.1
 have yc:=o6.2.2.2.2.2
 clear o6
 go_wp2_with fail
 refine Calls.mono (P:=Tryz.prog) pY.out ?_
 intro e4 w4 hs
 obtain⟨v20,rfl,g4,h20⟩:=hs
 have wJ:Hid _:=HF.out w4 v20 v9 h20 (H9.out.G g4)
 clear HS pY HF h20 H9 Ca
 go_wp2_with fail
 refine Calls.mono (P:=Tryz.prog) wJ.out ?_
 intro e4 w5 hs
 obtain⟨v21,rfl,g5,h21⟩:=hs
 clear wJ
 clear xO xP xQ xR xS xU xV xW xX xY xZ yc
 obtain⟨a8,k8,c8,a9,k9,c9,rfl,fA,dh⟩:=h21
 have kE:Hid (Num w5 (.slice a8 k8 c8) (q).num.natAbs):=fA
 have fJ:Hid (Num w5 (.slice a9 k9 c9) (q1J (q).den)):=dh
 obtain⟨t9,cK⟩:∃ t,t=decide ((q).num<0):=⟨_,rfl⟩
 rw[← cK]
 have gH:Hid (t9=decide ((q).num<0)):=cK
 clear fA dh cK
 have hS:=Rec.f3 (Rec.G U2.out ((G.trans g4 g5)))
 have bJ:=hS.1
 have bK:=hS.2.1
 have bL:=hS.2.2.1
 have bM:=hS.2.2.2.1
 have dM:=hS.2.2.2.2.1
 have dN:=hS.2.2.2.2.2
 clear hS
 have dO:Num _ _ _:=q0l (u1:= .bool t9) (u2:= .slice a8 k8 c8) (u3:= .slice a9 k9 c9) kE.out (Rec.G U2.out (G.trans g4 g5)) trivial trivial trivial
 have bH:Num _ _ _:=q0l (u1:= .bool t9) (u2:= .slice a8 k8 c8) (u3:= .slice a9 k9 c9) fJ.out (Rec.G U2.out (G.trans g4 g5)) trivial trivial trivial
 go_wp2_with fail
 have hT:Hid (Rec (World.setCell (World.setCell (World.setCell w5 ⟨w.heap.size+2,0,none⟩ (.bool t9)) ⟨w.heap.size+2,1,none⟩ (.slice a8 k8 c8)) ⟨w.heap.size+2,2,none⟩ (.slice a9 k9 c9)) (w.heap.size+2) [.bool t9,.slice a8 k8 c8,.slice a9 k9 c9]):=Rec.set3 (Rec.G U2.out (G.trans g4 g5))
 have g9:=Rec.g3 (b:=w.heap.size+2) (u:= .bool t9) (v:= .slice a8 k8 c8) (x:= .slice a9 k9 c9) (G.trans PI (G.trans g4 g5)) (by omega)
 generalize (World.setCell (World.setCell (World.setCell w5 ⟨w.heap.size+2,0,none⟩ (.bool t9)) ⟨w.heap.size+2,1,none⟩ (.slice a8 k8 c8)) ⟨w.heap.size+2,2,none⟩ (.slice a9 k9 c9))=w9 at *
 have hF:=Rec.f3 (Rec.G hT.out ((G.refl _)))
 have bR:=hF.1
 have bU:=hF.2.1
 have bV:=hF.2.2.1
 have bW:=hF.2.2.2.1
 have jg:=hF.2.2.2.2.1
 have jh:=hF.2.2.2.2.2
 clear hF
 refine bodyPost_ret (v:= .agg #[.bool t9,.slice a8 k8 c8,.slice a9 k9 c9]) (by simp [results,Tryz.results64,go_sem, *]) rfl ?_
 exact⟨_,rfl,g9,a8,k8,c8,a9,k9,c9,by rw[← gH.out],dO,bH⟩
/-- A call hands back a fraction and no error, or an error. -/
def q8R (w:World) (q:Rat) (c:Int) (e:Ending) (w':World):Prop:=∃ v,e= .returned (.tuple #[v,.int .i64 c])∧G w w'∧QIs w' v q
theorem QIs.set3 {w:World} {v:Value} {q:Rat} {b:Nat} {x y z u1 u2 u3:Value} (h:QIs w v q) (r:Rec w b [x,y,z]) (hx:q2j x) (hy:q2j y) (hz:q2j z):QIs (((w.setCell ⟨b,0,none⟩ u1).setCell ⟨b,1,none⟩ u2).setCell ⟨b,2,none⟩ u3) v q:=by
 obtain⟨a,k,c,a',k',c',e,h1,h2⟩:=h
 exact⟨a,k,c,a',k',c',e,q0l h1 r hx hy hz,q0l h2 r hx hy hz⟩
theorem QIs.top {w:World} {a:Option Addr} {k c:Nat} {q:Rat} {t:Bool} (h:Num w (.slice a k c) q.num.natAbs) (ht:t=decide (q.num<0)):WholeIs w (.agg #[.bool t,.slice a k c]) q.num:=⟨a,k,c,by rw[ht],h⟩
theorem q7c (w:World) (v:Value) (q:Rat) (h:QIs w v q):
  Calls Tryz.prog 67 #[v] w fun e w'=>e= .returned (.int .i64 q.num.sign)∧G w w':=by
 obtain⟨a,k,c,a',k',c',rfl,h1,h2⟩:=h
 obtain⟨t,ht⟩:∃ t,t=decide (q.num<0):=⟨_,rfl⟩
 have HS:Hid (∀ w1,G w w1→_):=fun w1 g=>q7z w1 (.agg #[.bool t,.slice a k c]) q.num (QIs.top (h1.G g) ht)
 rw[← ht]
 generalize q.num.sign=z at *
 clear ht h1 h2
 go_enter Tryz.func67,Tryz.ntmps67
 go_wp2_with fail
 obtain⟨w0,aL,g0,hz0,R0⟩:=q0B w [.bool t,.slice a k c,.slice a' k' c'] 93
 rw[aL]
 clear aL
 refine Calls.mono (P:=Tryz.prog) (HS.out w0 g0) ?_
 rintro e w1 ⟨rfl,g1⟩
 go_wp2_with fail
 go_ret
 exact⟨rfl,G.trans g0 g1⟩
theorem q4y (z:Int):((z:Int):Rat)=mkRat z 1:=(Rat.mk_eq_mkRat z 1 (by decide) (by simp)).symm▸rfl
theorem QIs.top' {w:World} {a:Option Addr} {k c:Nat} {z:Int} {t:Bool} (h:Num w (.slice a k c) z.natAbs) (ht:t=decide (z<0)):WholeIs w (.agg #[.bool t,.slice a k c]) z:=⟨a,k,c,by rw[ht],h⟩
theorem q4G (t:Bool) (n k:Nat):sgn t (n*k)=sgn t n*(k:Int):=by unfold sgn;cases t<;>simp [Int.neg_mul]
/-- A whole number times a power of two. -/
def mk2 (m e:Int):Rat:=mkRat (m*((2^e.toNat:Nat):Int)) (2^(-e).toNat)
set_option maxHeartbeats 1000000 in
theorem q4x (w:World) (m e:Int) (h1: -9223372036854775808≤m) (h2:m<9223372036854775808) (h3: -1000000≤e) (h4:e≤1000000) (hm:m=0∨m%2=1):
  Calls Tryz.prog 207 #[.int .i64 m,.int .i64 e] w (RetQ w (mk2 m e)):=by
 have HW:Hid (∀ w1,_):=fun w1=>q7L w1 m h1 h2
 have hmb:m.natAbs<2^(64*1):=by omega
 by_cases he:e<0
 ·obtain⟨n,rfl⟩:∃ n:Nat,e= -(n:Int):=⟨e.natAbs,by omega⟩
  have hmk:mk2 m (-(n:Int))=mkRat m (2^n):=by
   unfold mk2
   rw[show (-(n:Int)).toNat=0 from by omega,show (- -(n:Int)).toNat=n from by omega]
   simp
  rw[hmk]
  obtain⟨K,hK⟩:∃ K,K=15626:=⟨_,rfl⟩
  have hpw:2^n<2^(64*K):=Nat.pow_lt_pow_right (by omega) (by omega)
  have HL:Hid (∀ w1 v1,Num w1 v1 1→Calls Tryz.prog 167 #[v1,.int .i64 (n:Int)] w1 (q0i w1 (2^n))):=fun w1 v1 hv=>by
   have h:=q20 w1 v1 1 n 1 (by omega) (by omega) hv (by omega)
   rw[Nat.one_mul] at h;exact h
  have BP:m≠0→Nat.gcd m.natAbs (2^n)=1:=fun h0=>by
   have h5:m.natAbs=2*(m.natAbs/2)+1:=by omega
   rw[h5];exact q8a _ _
  have HF:Hid (∀ w1 v1 v2,WholeIs w1 v1 m→Num w1 v2 (2^n)→_):=fun w1 v1 v2 k1 k2=>q1T w1 v1 v2 m (2^n) K (mkRat m (2^n)) k1 k2 (Nat.two_pow_pos n) hpw BP rfl
  have hd:decide (-(n:Int)<0)=true:=decide_eq_true he
  have hnn: - -(n:Int)=n:=by omega
  have hwn:IntKind.i64.wrap (n:Int)=n:=by rw[IntKind.wrap_i64];omega
  have hb:(n:Int)≤1000000:=by omega
  have hn1:(1:Int)≤n:=by omega
  generalize -(n:Int)=e at *
  generalize mkRat m (2^n)=q at *
  generalize 2^n=P at *
  clear hmk hpw BP hmb hm h1 h2 he hK
  go_enter Tryz.func207,Tryz.ntmps207
  go_wp2_with fail
  obtain⟨w0,aL,g0,hz0,R0⟩:=q0B w [.bool false,.slice none 0 0,.slice none 0 0] 93
  rw[aL]
  clear aL
  refine Calls.mono (P:=Tryz.prog) (HW.out w0) ?_
  intro e2 w1 hs
  obtain⟨v1,rfl,g1,⟨a,k,c,rfl,k1⟩⟩:=hs
  obtain⟨s,hs⟩:∃ s,s=decide (m<0):=⟨_,rfl⟩
  have K1:Hid (Num w1 (.slice a k c) m.natAbs):=k1
  have xM:Hid (s=decide (m<0)):=hs
  rw[← hs]
  clear k1 hs HW
  go_wp2_with fail
  have S0:Hid (Rec _ _ _):=Rec.G R0.out (g1)
  have fG:=G.trans g0 g1
  clear R0 g0 g1
  obtain⟨w2,aL,g2,hz2,R0⟩:=q0B w1 [.bool s,.slice a k c] 91
  rw[aL]
  clear aL
  refine region_each 6 1 #[true,true,true,true,true,true,false] [.is (.agg #[.bool s,.slice a k c]),.any (fun v w'=>Num w' v (1)),.is (.int .i64 e),.is (.int .i64 n),.any (fun v w'=>Num w' v (P)),.any (fun v w'=>QIs w' v (q))] [some 10,some 11,some 12,some 13,some 14,some 15] (by kernel_rfl) (by kernel_rfl) rfl (by kernel_rfl) (by repeat (first|exact trivial|refine⟨fun _ _ _ g h=>by first|exact h.G g|exact fun w3 g3=>h w3 (G.trans g g3),?_⟩)) (by kernel_rfl) (by kernel_rfl) ?_
  refine Letters.is ?_
  refine Letters.any fun v1=> ?_
  refine Letters.is ?_
  refine Letters.is ?_
  refine Letters.any fun v4=> ?_
  refine Letters.any fun v5=> ?_
  refine Letters.nil ?_
  intro A hA
  simp only[q0N,Act.put,List.setIfInBounds_toArray,List.set_cons_zero,List.set_cons_succ] at hA
  subst hA
  refine⟨?_,?_⟩
  ·skip
   refine Eaches.cons rfl ?dW (Eaches.cons rfl ?eU (Eaches.cons rfl ?fB (Eaches.cons rfl ?dZ (Eaches.cons rfl ?iA (Eaches.cons rfl ?iB (Eaches.nil))))))
   case fB|dZ=>
    intro W hW hD K hK
    clear hD
    go_simp
    exact hK.out _ _ ⟨_,rfl,G.refl _,rfl⟩
   case dW=>
    intro W hW hD K hK
    clear hD
    have hR0:=Rec.f2 (Rec.G R0.out hW)
    have ed:=hR0.1
    have ek:=hR0.2.1
    clear hR0
    go_simp
    exact hK.out _ _ ⟨_,rfl,G.refl _,rfl⟩
   ·intro W hW hD K hK
    clear hD
    go_simp
    exact hK.out _ _ ⟨_,rfl,(G.refl _).alloc _,q1Q (by decide) (by decide)⟩
   ·intro W hW hD K hK
    have h1:=Deps.get (v:=v1) 1 hD rfl rfl (by kernel_rfl)
    clear hD
    go_simp
    go_wp2_with (go_at_call 167;refine Calls.mono (P:=Tryz.prog) (HL.out W v1 h1) ?_;intro e w9 hs;obtain⟨u9,rfl,g9,aH⟩:=hs)
    exact hK.out _ _ ⟨_,rfl,g9,aH⟩
   ·intro W hW hD K hK
    have h4:=Deps.get (v:=v4) 4 hD rfl rfl (by kernel_rfl)
    clear hD
    go_simp
    go_wp2_with (go_at_call 110;refine Calls.mono (P:=Tryz.prog) (HF.out W (.agg #[.bool s,.slice a k c]) v4 (QIs.top' (K1.out.G (G.trans g2 hW)) xM.out) h4) ?_;intro e w9 hs;obtain⟨u9,rfl,g9,aH⟩:=hs)
    exact hK.out _ _ ⟨_,rfl,g9,aH⟩
  intro w3 g3 hH
  have h5:=Helds.get (v:=v5) 5 hH rfl rfl
  clear hH
  clear HL HF R0 K1 xM
  have g13:=G.trans g2 g3
  clear g2 g3
  obtain⟨a8,k8,c8,a9,k9,c9,rfl,fA,dh⟩:=h5
  have kE:Hid (Num w3 (.slice a8 k8 c8) (q).num.natAbs):=fA
  have fJ:Hid (Num w3 (.slice a9 k9 c9) (q1J (q).den)):=dh
  obtain⟨t9,cK⟩:∃ t,t=decide ((q).num<0):=⟨_,rfl⟩
  rw[← cK]
  have gH:Hid (t9=decide ((q).num<0)):=cK
  clear fA dh cK
  have hS:=Rec.f3 (Rec.G S0.out (g13))
  have bJ:=hS.1
  have bK:=hS.2.1
  have bL:=hS.2.2.1
  have bM:=hS.2.2.2.1
  have dM:=hS.2.2.2.2.1
  have dN:=hS.2.2.2.2.2
  clear hS
  refine wpAny_ready (rs:=[6]) (by kernel_rfl) (by simp) ?_
  refine AllReady.cons rfl (fun K hK=> ?_) AllReady.nil
  go_simp
  refine hK _ _ ?_
  clear hK K bJ bK bL bM dM dN
  refine wpAny_done (by kernel_rfl) ?_ _
  have dO:Num _ _ _:=q0l (u1:= .bool t9) (u2:= .slice a8 k8 c8) (u3:= .slice a9 k9 c9) kE.out (Rec.G S0.out (g13)) trivial trivial trivial
  have bH:Num _ _ _:=q0l (u1:= .bool t9) (u2:= .slice a8 k8 c8) (u3:= .slice a9 k9 c9) fJ.out (Rec.G S0.out (g13)) trivial trivial trivial
  go_wp2_with fail
  have hT:Hid (Rec (World.setCell (World.setCell (World.setCell w3 ⟨w.heap.size,0,none⟩ (.bool t9)) ⟨w.heap.size,1,none⟩ (.slice a8 k8 c8)) ⟨w.heap.size,2,none⟩ (.slice a9 k9 c9)) (w.heap.size) [.bool t9,.slice a8 k8 c8,.slice a9 k9 c9]):=Rec.set3 (Rec.G S0.out (g13))
  have g9:=Rec.g3 (b:=w.heap.size) (u:= .bool t9) (v:= .slice a8 k8 c8) (x:= .slice a9 k9 c9) (G.trans fG g13) (by omega)
  generalize (World.setCell (World.setCell (World.setCell w3 ⟨w.heap.size,0,none⟩ (.bool t9)) ⟨w.heap.size,1,none⟩ (.slice a8 k8 c8)) ⟨w.heap.size,2,none⟩ (.slice a9 k9 c9))=w9 at *
  have hF:=Rec.f3 (Rec.G hT.out ((G.refl _)))
  have bR:=hF.1
  have bU:=hF.2.1
  have bV:=hF.2.2.1
  have bW:=hF.2.2.2.1
  have jg:=hF.2.2.2.2.1
  have jh:=hF.2.2.2.2.2
  clear hF
  refine bodyPost_ret (v:= .agg #[.bool t9,.slice a8 k8 c8,.slice a9 k9 c9]) (by simp [results,Tryz.results207,go_sem, *]) rfl ?_
  exact⟨_,rfl,g9,a8,k8,c8,a9,k9,c9,by rw[← gH.out],dO,bH⟩
 ·obtain⟨n,rfl⟩:∃ n:Nat,e=(n:Int):=⟨e.natAbs,by omega⟩
  have hmk:mk2 m (n:Int)=((m*((2^n:Nat):Int):Int):Rat):=by
   unfold mk2
   rw[show (-(n:Int)).toNat=0 from by omega,show (n:Int).toNat=n from by omega,q4y]
  rw[hmk]
  obtain⟨t,ht⟩:∃ t,t=decide (m<0):=⟨_,rfl⟩
  have HL:Hid (∀ w1 v1,Num w1 v1 m.natAbs→_):=fun w1 v1 hv=>q20 w1 v1 m.natAbs n 1 (by omega) (by omega) hv hmb
  have hsg:sgn t (m.natAbs*2^n)=m*((2^n:Nat):Int):=by
   have h:=q1y m
   rw[← ht] at h
   rw[q4G,h]
  have HS:Hid (∀ w1 v1,Num w1 v1 (m.natAbs*2^n)→Calls Tryz.prog 111 #[.bool t,v1] w1 (q0C w1 (m*((2^n:Nat):Int)))):=fun w1 v1 hv=>by
   have h:=q1d w1 v1 t _ hv
   rw[hsg] at h;exact h
  have HF:Hid (∀ w1 v1 v2,WholeIs w1 v1 (m*((2^n:Nat):Int))→Num w1 v2 1→_):=fun w1 v1 v2 k1 k2=>q1T w1 v1 v2 (m*((2^n:Nat):Int)) 1 1 ((m*((2^n:Nat):Int):Int):Rat) k1 k2 (by omega) (by omega) (fun _=>Nat.gcd_one_right _) (q4y _)
  have hd:decide ((n:Int)<0)=false:=by simp
  have hb:(n:Int)≤1000000:=by omega
  generalize ((m*((2^n:Nat):Int):Int):Rat)=q at *
  generalize m*((2^n:Nat):Int)=z at *
  generalize m.natAbs*2^n=P at *
  have Ma:Hid (t=decide (m<0)):=ht
  clear hmk hmb hm h1 h2 he h3 h4 hsg ht
  go_enter Tryz.func207,Tryz.ntmps207
  go_wp2_with fail
  obtain⟨w0,aL,g0,hz0,R0⟩:=q0B w [.bool false,.slice none 0 0,.slice none 0 0] 93
  rw[aL]
  clear aL
  refine Calls.mono (P:=Tryz.prog) (HW.out w0) ?_
  intro e2 w1 hs
  obtain⟨v1,rfl,g1,⟨a,k,c,rfl,k1⟩⟩:=hs
  have K1:Hid (Num w1 (.slice a k c) m.natAbs):=k1
  rw[← Ma.out]
  clear k1 HW Ma
  go_wp2_with fail
  have S0:Hid (Rec _ _ _):=Rec.G R0.out (g1)
  have fG:=G.trans g0 g1
  clear R0 g0 g1
  obtain⟨w2,aL,g2,hz2,R0⟩:=q0B w1 [.bool t,.slice a k c] 91
  rw[aL]
  clear aL
  refine region_each 9 1 #[true,true,true,true,true,true,true,true,true,false] [.is (.pointer (some ⟨w1.heap.size,0,none⟩)),.is (.bool t),.is (.pointer (some ⟨w1.heap.size,1,none⟩)),.is (.slice a k c),.is (.int .i64 n),.any (fun v w'=>Num w' v (P)),.any (fun v w'=>WholeIs w' v (z)),.any (fun v w'=>Num w' v (1)),.any (fun v w'=>QIs w' v (q))] [some 16,some 17,some 18,some 19,some 20,some 21,some 22,some 23,some 24] (by kernel_rfl) (by kernel_rfl) rfl (by kernel_rfl) (by repeat (first|exact trivial|refine⟨fun _ _ _ g h=>by first|exact h.G g|exact fun w3 g3=>h w3 (G.trans g g3),?_⟩)) (by kernel_rfl) (by kernel_rfl) ?_
  refine Letters.is ?_
  refine Letters.is ?_
  refine Letters.is ?_
  refine Letters.is ?_
  refine Letters.is ?_
  refine Letters.any fun v5=> ?_
  refine Letters.any fun v6=> ?_
  refine Letters.any fun v7=> ?_
  refine Letters.any fun v8=> ?_
  refine Letters.nil ?_
  intro A hA
  simp only[q0N,Act.put,List.setIfInBounds_toArray,List.set_cons_zero,List.set_cons_succ] at hA
  subst hA
  refine⟨?_,?_⟩
  ·skip
   refine Eaches.cons rfl ?gN (Eaches.cons rfl ?iU (Eaches.cons rfl ?iV (Eaches.cons rfl ?iW (Eaches.cons rfl ?iX (Eaches.cons rfl ?kH (Eaches.cons rfl ?kI (Eaches.cons rfl ?pR (Eaches.cons rfl ?qL (Eaches.nil)))))))))
   case gN|iV|iX=>
    intro W hW hD K hK
    clear hD
    go_simp
    exact hK.out _ _ ⟨_,rfl,G.refl _,rfl⟩
   case iU|iW=>
    intro W hW hD K hK
    clear hD
    have hR0:=Rec.f2 (Rec.G R0.out hW)
    have ed:=hR0.1
    have ek:=hR0.2.1
    clear hR0
    go_simp
    exact hK.out _ _ ⟨_,rfl,G.refl _,rfl⟩
   ·intro W hW hD K hK
    clear hD
    go_simp
    go_wp2_with (go_at_call 167;refine Calls.mono (P:=Tryz.prog) (HL.out W (.slice a k c) (K1.out.G (G.trans g2 hW))) ?_;intro e w9 hs;obtain⟨u9,rfl,g9,aH⟩:=hs)
    exact hK.out _ _ ⟨_,rfl,g9,aH⟩
   ·intro W hW hD K hK
    have h5:=Deps.get (v:=v5) 5 hD rfl rfl (by kernel_rfl)
    clear hD
    go_simp
    go_wp2_with (go_at_call 111;refine Calls.mono (P:=Tryz.prog) (HS.out W v5 h5) ?_;intro e w9 hs;obtain⟨u9,rfl,g9,aH⟩:=hs)
    exact hK.out _ _ ⟨_,rfl,g9,aH⟩
   ·intro W hW hD K hK
    clear hD
    go_simp
    exact hK.out _ _ ⟨_,rfl,(G.refl _).alloc _,q1Q (by decide) (by decide)⟩
   ·intro W hW hD K hK
    have h6:=Deps.get (v:=v6) 6 hD rfl rfl (by kernel_rfl)
    have h7:=Deps.get (v:=v7) 7 hD rfl rfl (by kernel_rfl)
    clear hD
    go_simp
    go_wp2_with (go_at_call 110;refine Calls.mono (P:=Tryz.prog) (HF.out W v6 v7 h6 h7) ?_;intro e w9 hs;obtain⟨u9,rfl,g9,aH⟩:=hs)
    exact hK.out _ _ ⟨_,rfl,g9,aH⟩
  intro w3 g3 hH
  have h8:=Helds.get (v:=v8) 8 hH rfl rfl
  clear hH
  clear HL HF HS R0 K1
  have g13:=G.trans g2 g3
  clear g2 g3
  obtain⟨a8,k8,c8,a9,k9,c9,rfl,fA,dh⟩:=h8
  have kE:Hid (Num w3 (.slice a8 k8 c8) (q).num.natAbs):=fA
  have fJ:Hid (Num w3 (.slice a9 k9 c9) (q1J (q).den)):=dh
  obtain⟨t9,cK⟩:∃ t,t=decide ((q).num<0):=⟨_,rfl⟩
  rw[← cK]
  have gH:Hid (t9=decide ((q).num<0)):=cK
  clear fA dh cK
  have hS:=Rec.f3 (Rec.G S0.out (g13))
  have bJ:=hS.1
  have bK:=hS.2.1
  have bL:=hS.2.2.1
  have bM:=hS.2.2.2.1
  have dM:=hS.2.2.2.2.1
  have dN:=hS.2.2.2.2.2
  clear hS
  refine wpAny_ready (rs:=[9]) (by kernel_rfl) (by simp) ?_
  refine AllReady.cons rfl (fun K hK=> ?_) AllReady.nil
  go_simp
  refine hK _ _ ?_
  clear hK K bJ bK bL bM dM dN
  refine wpAny_done (by kernel_rfl) ?_ _
  have dO:Num _ _ _:=q0l (u1:= .bool t9) (u2:= .slice a8 k8 c8) (u3:= .slice a9 k9 c9) kE.out (Rec.G S0.out (g13)) trivial trivial trivial
  have bH:Num _ _ _:=q0l (u1:= .bool t9) (u2:= .slice a8 k8 c8) (u3:= .slice a9 k9 c9) fJ.out (Rec.G S0.out (g13)) trivial trivial trivial
  go_wp2_with fail
  have hT:Hid (Rec (World.setCell (World.setCell (World.setCell w3 ⟨w.heap.size,0,none⟩ (.bool t9)) ⟨w.heap.size,1,none⟩ (.slice a8 k8 c8)) ⟨w.heap.size,2,none⟩ (.slice a9 k9 c9)) (w.heap.size) [.bool t9,.slice a8 k8 c8,.slice a9 k9 c9]):=Rec.set3 (Rec.G S0.out (g13))
  have g9:=Rec.g3 (b:=w.heap.size) (u:= .bool t9) (v:= .slice a8 k8 c8) (x:= .slice a9 k9 c9) (G.trans fG g13) (by omega)
  generalize (World.setCell (World.setCell (World.setCell w3 ⟨w.heap.size,0,none⟩ (.bool t9)) ⟨w.heap.size,1,none⟩ (.slice a8 k8 c8)) ⟨w.heap.size,2,none⟩ (.slice a9 k9 c9))=w9 at *
  have hF:=Rec.f3 (Rec.G hT.out ((G.refl _)))
  have bR:=hF.1
  have bU:=hF.2.1
  have bV:=hF.2.2.1
  have bW:=hF.2.2.2.1
  have jg:=hF.2.2.2.2.1
  have jh:=hF.2.2.2.2.2
  clear hF
  refine bodyPost_ret (v:= .agg #[.bool t9,.slice a8 k8 c8,.slice a9 k9 c9]) (by simp [results,Tryz.results207,go_sem, *]) rfl ?_
  exact⟨_,rfl,g9,a8,k8,c8,a9,k9,c9,by rw[← gH.out],dO,bH⟩
theorem q2f {w:World} {v:Value} {n b i:Nat} {x y u:Value} (h:Num w v n) (r:Rec w b [x,y]) (hx:q2j x) (hy:q2j y):Num (w.setCell ⟨b,i,none⟩ u) v n:=
 q2V h r (by intro z hz;simp at hz;rcases hz with rfl|rfl<;>assumption) _ (fun i k hi=>by
  rw[World.cell?_setCell_other _ _ _ _ (by intro e;injection e with e1;exact hi e1.symm)]) (by simp [World.setCell])
theorem qbr {w:World} {b c:Nat} {x y x' y' z':Value} (h:Rec w b [x,y]) (h2:Rec w c [x',y',z']):b≠c:=by
 intro e
 subst e
 obtain⟨t,h⟩:=h
 obtain⟨t2,h2⟩:=h2
 rw[h] at h2
 simp at h2
/-- A sum of fractions over one bar: s divides both bars, r the sum above and s. -/
theorem q9s {x y:Rat} {op:Int→Int→Int} {z:Rat} (hz:z=mkRat (op (x.num*y.den) (y.num*x.den)) (x.den*y.den)) (hop:∀ a b k:Int,op a b*k=op (a*k) (b*k))
  {s r:Nat} (hs:s=Nat.gcd x.den y.den) {T:Int} (hT:T=op (x.num*((y.den/s:Nat):Int)) (y.num*((x.den/s:Nat):Int))) (hr:r=Nat.gcd T.natAbs s) (t:Bool) (ht:t=decide (T<0)):
  z=mkRat (sgn t (T.natAbs/r)) (x.den/s*(y.den/s)*(s/r)):=by
 have hxd:=x.den_pos
 have nY:=y.den_pos
 have hs0:0<s:=by rw[hs];exact Nat.gcd_pos_of_pos_left _ hxd
 have hr0:0<r:=by rw[hr];exact Nat.gcd_pos_of_pos_right _ hs0
 obtain⟨a,ha⟩:s∣x.den:=by rw[hs];exact Nat.gcd_dvd_left _ _
 obtain⟨b,hb⟩:s∣y.den:=by rw[hs];exact Nat.gcd_dvd_right _ _
 obtain⟨c,hc⟩:r∣T.natAbs:=by rw[hr];exact Nat.gcd_dvd_left _ _
 obtain⟨e,he⟩:r∣s:=by rw[hr];exact Nat.gcd_dvd_right _ _
 have e1:x.den/s=a:=by rw[ha];exact Nat.mul_div_cancel_left _ hs0
 have e2:y.den/s=b:=by rw[hb];exact Nat.mul_div_cancel_left _ hs0
 have e3:T.natAbs/r=c:=by rw[hc];exact Nat.mul_div_cancel_left _ hr0
 have e4:s/r=e:=by rw[he];exact Nat.mul_div_cancel_left _ hr0
 rw[e1,e2] at hT ⊢
 rw[e3,e4]
 have ha0:a≠0:=by rintro rfl;omega
 have hb0:b≠0:=by rintro rfl;omega
 have he0:e≠0:=by rintro rfl;omega
 have hTs:T=sgn t c*(r:Int):=by
  have h:=q1y T
  rw[← ht,hc,Nat.mul_comm,q4G] at h
  exact h.symm
 have htop:op (x.num*y.den) (y.num*x.den)=T*(s:Int):=by
  rw[hT,hop,ha,hb]
  congr 1<;>(rw[Int.natCast_mul];ac_rfl)
 rw[hz,htop,hTs,ha,hb]
 rw[Rat.mkRat_eq_iff (Nat.mul_ne_zero (Nat.mul_ne_zero (by omega) ha0) (Nat.mul_ne_zero (by omega) hb0)) (Nat.mul_ne_zero (Nat.mul_ne_zero ha0 hb0) he0)]
 have h5:(s:Int)=r*e:=by rw[he,Int.natCast_mul]
 simp only[Int.natCast_mul]
 rw[h5]
 ac_rfl
theorem q92 {x y:Rat} {op:Int→Int→Int} (uN:∀ p q g:Int,g∣q→g∣op p q→g∣p) (uO:∀ p q g:Int,g∣p→g∣op p q→g∣q)
  {s r:Nat} (hs:s=Nat.gcd x.den y.den) {T:Int} (hT:T=op (x.num*((y.den/s:Nat):Int)) (y.num*((x.den/s:Nat):Int))) (hr:r=Nat.gcd T.natAbs s):
  Nat.gcd (T.natAbs/r) (x.den/s*(y.den/s)*(s/r))=1:=by
 have hxd:=x.den_pos
 have nY:=y.den_pos
 have hs0:0<s:=by rw[hs];exact Nat.gcd_pos_of_pos_left _ hxd
 have hr0:0<r:=by rw[hr];exact Nat.gcd_pos_of_pos_right _ hs0
 have hxs:s∣x.den:=by rw[hs];exact Nat.gcd_dvd_left _ _
 have hys:s∣y.den:=by rw[hs];exact Nat.gcd_dvd_right _ _
 have hab:Nat.gcd (x.den/s) (y.den/s)=1:=by rw[hs];exact q3R nY
 have hra:r∣T.natAbs:=by rw[hr];exact Nat.gcd_dvd_left _ _
 have hTr:Nat.gcd (T.natAbs/r) (s/r)=1:=by rw[hr];exact q3R hs0
 have hxa:x.den/s∣x.den:=Nat.div_dvd_of_dvd hxs
 have hyb:y.den/s∣y.den:=Nat.div_dvd_of_dvd hys
 have key:∀ (n d e:Nat),Nat.gcd n d=1→Nat.gcd d e=1→Nat.gcd (n*e) d=1:=fun n d e h1 h2=>Nat.Coprime.mul_left h1 (by show Nat.gcd e d=1;rw[Nat.gcd_comm];exact h2)
 have QK:Nat.gcd T.natAbs (x.den/s)=1:=by
  refine Nat.eq_one_of_dvd_one ?_
  have g1:((Nat.gcd T.natAbs (x.den/s):Nat):Int)∣T:=Int.ofNat_dvd_left.2 (Nat.gcd_dvd_left _ _)
  have g2:Nat.gcd T.natAbs (x.den/s)∣x.den/s:=Nat.gcd_dvd_right _ _
  generalize Nat.gcd T.natAbs (x.den/s)=g at *
  rw[hT] at g1
  have g3:=uN _ _ _ (Int.dvd_trans (Int.natCast_dvd_natCast.2 g2) (Int.dvd_mul_left _ _)) g1
  have g4:=Int.ofNat_dvd_left.1 g3
  rw[Int.natAbs_mul,Int.natAbs_natCast] at g4
  have g5:=key x.num.natAbs (x.den/s) (y.den/s) (q2B x.reduced (Nat.dvd_refl _) hxa) hab
  rw[← g5]
  exact Nat.dvd_gcd g4 g2
 have oG:Nat.gcd T.natAbs (y.den/s)=1:=by
  refine Nat.eq_one_of_dvd_one ?_
  have g1:((Nat.gcd T.natAbs (y.den/s):Nat):Int)∣T:=Int.ofNat_dvd_left.2 (Nat.gcd_dvd_left _ _)
  have g2:Nat.gcd T.natAbs (y.den/s)∣y.den/s:=Nat.gcd_dvd_right _ _
  generalize Nat.gcd T.natAbs (y.den/s)=g at *
  rw[hT] at g1
  have g3:=uO _ _ _ (Int.dvd_trans (Int.natCast_dvd_natCast.2 g2) (Int.dvd_mul_left _ _)) g1
  have g4:=Int.ofNat_dvd_left.1 g3
  rw[Int.natAbs_mul,Int.natAbs_natCast] at g4
  have g5:=key y.num.natAbs (y.den/s) (x.den/s) (q2B y.reduced (Nat.dvd_refl _) hyb) (by rw[Nat.gcd_comm];exact hab)
  rw[← g5]
  exact Nat.dvd_gcd g4 g2
 have hd:T.natAbs/r∣T.natAbs:=Nat.div_dvd_of_dvd hra
 exact Nat.Coprime.mul_right (Nat.Coprime.mul_right (q2B QK hd (Nat.dvd_refl _)) (q2B oG hd (Nat.dvd_refl _))) hTr
set_option maxHeartbeats 2000000 in
theorem q4l (w:World) (v u:Value) (x y:Rat) (K:Nat) (hK:K≤40000) (hK1:1≤K) (oG:Tab w) (hx:QIs w v x) (hy:QIs w u y) (bx:QB x K) (kT:QB y K) (FR:Nat) (op:Int→Int→Int) (z:Rat)
  (hz:z=mkRat (op (x.num*y.den) (y.num*x.den)) (x.den*y.den)) (hop:∀ a b k:Int,op a b*k=op (a*k) (b*k)) (uN:∀ p q g:Int,g∣q→g∣op p q→g∣p) (uO:∀ p q g:Int,g∣p→g∣op p q→g∣q) (hab:∀ p q:Int,(op p q).natAbs≤p.natAbs+q.natAbs)
  (MW:∀ w1 v1 v2 (X Y:Int),X.natAbs<2^(64*(K+K))→Y.natAbs<2^(64*(K+K))→WholeIs w1 v1 X→WholeIs w1 v2 Y→Calls Tryz.prog FR #[v1,v2] w1 (q0C w1 (op X Y))) (hE:∀ args w,(callFunc FR args).run Tryz.prog w= .ok (.enter FR args) w):
  Calls Tryz.prog 113 #[v,u,.func (.func FR) #[] #[]] w (RetQ w z):=by
 have lI:Hid (∀ w1,G w w1→_):=fun w1 g=>q8w w1 v x (hx.G g)
 have kJ:Hid (∀ w1,G w w1→_):=fun w1 g=>q8w w1 u y (hy.G g)
 obtain⟨a,k,c,a',k',c',rfl,hx1,hx2⟩:=hx
 obtain⟨b,j,e,b',j',e',rfl,hy1,hy2⟩:=hy
 have hxd:=x.den_pos
 have nY:=y.den_pos
 obtain⟨s,hs⟩:∃ s,s=Nat.gcd x.den y.den:=⟨_,rfl⟩
 have hs0:0<s:=by rw[hs];exact Nat.gcd_pos_of_pos_left _ hxd
 have hsb:s<2^(64*K):=Nat.lt_of_le_of_lt (by rw[hs];exact Nat.gcd_le_left _ hxd) bx.2
 obtain⟨T,hT⟩:∃ T:Int,T=op (x.num*((y.den/s:Nat):Int)) (y.num*((x.den/s:Nat):Int)):=⟨_,rfl⟩
 obtain⟨r,hr⟩:∃ r,r=Nat.gcd T.natAbs s:=⟨_,rfl⟩
 obtain⟨t,ht⟩:∃ t,t=decide (T<0):=⟨_,rfl⟩
 have hr0:0<r:=by rw[hr];exact Nat.gcd_pos_of_pos_right _ hs0
 have hrb:r≤s:=by rw[hr];exact Nat.gcd_le_right _ hs0
 have hval:=q9s (x:=x) (y:=y) (op:=op) (z:=z) hz hop hs hT hr t ht
 have hlow:=q92 (x:=x) (y:=y) (op:=op) uN uO hs hT hr
 have Du:sgn (decide (x.num<0)) x.num.natAbs=x.num:=q1y _
 have Dv:sgn (decide (y.num<0)) y.num.natAbs=y.num:=q1y _
 obtain⟨p,hp⟩:∃ p,p=x.den:=⟨_,rfl⟩
 obtain⟨q,hq⟩:∃ q,q=y.den:=⟨_,rfl⟩
 obtain⟨A,hA⟩:∃ A,A=x.den/s:=⟨_,rfl⟩
 obtain⟨B,hB⟩:∃ B,B=y.den/s:=⟨_,rfl⟩
 have bA:A<2^(64*K):=Nat.lt_of_le_of_lt (by rw[hA];exact Nat.div_le_self _ _) bx.2
 have bB:B<2^(64*K):=Nat.lt_of_le_of_lt (by rw[hB];exact Nat.div_le_self _ _) kT.2
 have A0:0<A:=by rw[hA];exact Nat.div_pos (by rw[hs];exact Nat.gcd_le_left _ hxd) hs0
 have B0:0<B:=by rw[hB];exact Nat.div_pos (by rw[hs];exact Nat.gcd_le_right _ nY) hs0
 have Be:Hid (∀ w1 v1 v2,G w w1→Num w1 v1 p→Num w1 v2 q→Calls Tryz.prog 106 #[v1,v2] w1 (q0i w1 s)):=fun w1 v1 v2 g h1 h2=>by
  rw[hs,← hp,← hq];exact q1Z w1 v1 v2 p q K (by omega) hK1 (oG.G g) h1 h2 (by rw[hp];exact bx.2) (by rw[hq];exact kT.2)
 have lJ:Hid (∀ w1 v1 v2,Num w1 v1 p→Num w1 v2 s→Calls Tryz.prog 108 #[v1,v2] w1 (q0i w1 A)):=fun w1 v1 v2 h1 h2=>by
  rw[hA,← hp];exact q2K w1 v1 v2 p s K (by omega) hK1 h1 h2 (by rw[hp];exact bx.2) hsb hs0
 have dL:Hid (∀ w1 v1 v2,Num w1 v1 q→Num w1 v2 s→Calls Tryz.prog 108 #[v1,v2] w1 (q0i w1 B)):=fun w1 v1 v2 h1 h2=>by
  rw[hB,← hq];exact q2K w1 v1 v2 q s K (by omega) hK1 h1 h2 (by rw[hq];exact kT.2) hsb hs0
 rw[← hA,← hB] at hT hval hlow
 have HT1:Hid (∀ w1 v1,G w w1→Num w1 v1 B→Calls Tryz.prog 173 #[.agg #[.bool (decide (x.num<0)),.slice a k c],v1] w1 (q0C w1 (x.num*B))):=fun w1 v1 g h=>by
  have h:=q5v w1 (.agg #[.bool (decide (x.num<0)),.slice a k c]) v1 _ _ _ K (by omega) ⟨a,k,c,rfl,hx1.G g⟩ h bx.1 bB
  rw[Du] at h;exact h
 have HT2:Hid (∀ w1 v1,G w w1→Num w1 v1 A→Calls Tryz.prog 173 #[.agg #[.bool (decide (y.num<0)),.slice b j e],v1] w1 (q0C w1 (y.num*A))):=fun w1 v1 g h=>by
  have h:=q5v w1 (.agg #[.bool (decide (y.num<0)),.slice b j e]) v1 _ _ _ K (by omega) ⟨b,j,e,rfl,hy1.G g⟩ h kT.1 bA
  rw[Dv] at h;exact h
 have q1:(x.num*(B:Int)).natAbs<2^(64*(K+K)):=by rw[Int.natAbs_mul];exact q0Y bx.1 bB
 have q2:(y.num*(A:Int)).natAbs<2^(64*(K+K)):=by rw[Int.natAbs_mul];exact q0Y kT.1 bA
 have bT:T.natAbs<2^(64*(2*K+1)):=by
  have h1:2^(64*(2*K+1))=2^(64*(K+K))*2^64:=by rw[← Nat.pow_add];congr 1;omega
  rw[hT,h1]
  have h2:=hab (x.num*(B:Int)) (y.num*(A:Int))
  generalize x.num*(B:Int)=X at *
  generalize y.num*(A:Int)=Y at *
  generalize 2^(64*(K+K))=P at *
  omega
 obtain⟨X,hX⟩:∃ X:Int,X=x.num*B:=⟨_,rfl⟩
 obtain⟨Y,hY⟩:∃ Y:Int,Y=y.num*A:=⟨_,rfl⟩
 rw[← hX] at HT1 q1 hT
 rw[← hY] at HT2 q2 hT
 have HP:Hid (∀ w1 v1 v2,WholeIs w1 v1 X→WholeIs w1 v2 Y→Calls Tryz.prog FR #[v1,v2] w1 (q0C w1 T)):=fun w1 v1 v2 h1 h2=>by
  rw[hT];exact MW w1 v1 v2 X Y q1 q2 h1 h2
 have HE:Hid (∀ args w,(callFunc FR args).run Tryz.prog w= .ok (.enter FR args) w):=hE
 have mO:Hid (∀ w1 v1 v2,G w w1→Num w1 v1 T.natAbs→Num w1 v2 s→Calls Tryz.prog 106 #[v1,v2] w1 (q0i w1 r)):=fun w1 v1 v2 g h1 h2=>by
  rw[hr];exact q1Z w1 v1 v2 _ s (2*K+1) (by omega) (by omega) (oG.G g) h1 h2 bT (Nat.lt_of_lt_of_le hsb (Nat.pow_le_pow_right (by omega) (by omega)))
 have tu:Hid (∀ w1 v1 v2,Num w1 v1 T.natAbs→Num w1 v2 r→_):=fun w1 v1 v2 h1 h2=>q2K w1 v1 v2 _ r (2*K+1) (by omega) (by omega) h1 h2 bT (Nat.lt_of_le_of_lt hrb (Nat.lt_of_lt_of_le hsb (Nat.pow_le_pow_right (by omega) (by omega)))) hr0
 have kD:Hid (∀ w1 v1 v2,Num w1 v1 s→Num w1 v2 r→_):=fun w1 v1 v2 h1 h2=>q2K w1 v1 v2 s r K (by omega) hK1 h1 h2 hsb (Nat.lt_of_le_of_lt hrb hsb) hr0
 have q3:s/r<2^(64*K):=Nat.lt_of_le_of_lt (Nat.div_le_self _ _) hsb
 have q4:0<s/r:=Nat.div_pos hrb hr0
 have lL:Hid (∀ w1 v1 v2,Num w1 v1 A→Num w1 v2 B→_):=fun w1 v1 v2 h1 h2=>q29 w1 v1 v2 A B K (by omega) h1 h2 bA bB
 have IJ:A*B<2^(64*(K+K)):=q0Y bA bB
 have jI:Hid (∀ w1 v1 v2,Num w1 v1 (A*B)→Num w1 v2 (s/r)→_):=fun w1 v1 v2 h1 h2=>q29 w1 v1 v2 (A*B) (s/r) (K+K) (by omega) h1 h2 IJ (Nat.lt_of_lt_of_le q3 (Nat.pow_le_pow_right (by omega) (by omega)))
 have htc:decide (sgn t (T.natAbs/r)<0)=t:=by
  rw[q8e]
  have h1:r∣T.natAbs:=by rw[hr];exact Nat.gcd_dvd_left _ _
  rw[ht]
  by_cases h:T<0
  ·have h2:0<T.natAbs/r:=Nat.div_pos (Nat.le_of_dvd (by omega) h1) hr0
   simp [h,h2]
  ·simp [h]
 have HF:Hid (∀ w1 d1 d2 d3 v2,Num w1 (.slice d1 d2 d3) (T.natAbs/r)→Num w1 v2 (A*B*(s/r))→Calls Tryz.prog 110 #[.agg #[.bool t,.slice d1 d2 d3],v2] w1 (RetQ w1 z)):=fun w1 d1 d2 d3 v2 h1 h2=>
  q1T w1 _ v2 (sgn t (T.natAbs/r)) (A*B*(s/r)) ((K+K)+K) z ⟨d1,d2,d3,by rw[htc],by rw[q3T];exact h1⟩ h2 (Nat.mul_pos (Nat.mul_pos A0 B0) q4) (q0Y IJ q3) (fun _=>by rw[q3T];exact hlow) hval
 have IK:Hid (t=decide (T<0)):=ht
 clear hz hop uN uO hab MW hE hval hlow htc Du Dv hX hY hT hA hB hs hr ht q1 q2 q3 q4 IJ bT bA bB A0 B0 hs0 hsb hr0 hrb hxd nY bx kT oG hx1 hx2 hy1 hy2
 generalize A*B*(s/r)=M at *
 generalize A*B=N at *
 generalize s/r=sr at *
 generalize T.natAbs/r=tr at *
 obtain⟨sx,hsx⟩:∃ sx,sx=decide (x.num<0):=⟨_,rfl⟩
 obtain⟨sy,hsy⟩:∃ sy,sy=decide (y.num<0):=⟨_,rfl⟩
 rw[← hsx] at lI HT1
 rw[← hsy] at kJ HT2
 rw[← hsx,← hsy]
 rw[← hp] at lI
 rw[← hq] at kJ
 clear hsx hsy hp hq
 go_enter Tryz.func113,Tryz.ntmps113
 go_wp2_with fail
 obtain⟨w0,aL,g0,hz0,R0,R1,R2⟩:=q1t w [.bool sx,.slice a k c,.slice a' k' c'] [.bool sy,.slice b j e,.slice b' j' e'] [.bool false,.slice none 0 0,.slice none 0 0] 93 93 93
 rw[aL]
 clear aL
 refine region_each 6 0 #[true,true,true,true,true,true] [.is (.agg #[.bool sx,.slice a k c,.slice a' k' c']),.any (fun v w'=>Num w' v (p)),.is (.agg #[.bool sy,.slice b j e,.slice b' j' e']),.any (fun v w'=>Num w' v (q)),.any (fun v w'=>Num w' v (s)),.any (fun v w'=>Num w' v (s))] [some 12,some 13,some 14,some 15,some 16,some 7] (by kernel_rfl) (by kernel_rfl) rfl (by kernel_rfl) (by repeat (first|exact trivial|refine⟨fun _ _ _ g h=>by first|exact h.G g|exact fun w3 g3=>h w3 (G.trans g g3),?_⟩)) (by kernel_rfl) (by kernel_rfl) ?_
 refine Letters.is ?_
 refine Letters.any fun v1=> ?_
 refine Letters.is ?_
 refine Letters.any fun v3=> ?_
 refine Letters.any fun v4=> ?_
 refine Letters.any fun v5=> ?_
 refine Letters.nil ?_
 intro A hA
 simp only[q0N,Act.put,List.setIfInBounds_toArray,List.set_cons_zero,List.set_cons_succ] at hA
 subst hA
 refine⟨?_,?_⟩
 ·skip
  refine Eaches.cons rfl ?dW (Eaches.cons rfl ?eU (Eaches.cons rfl ?fB (Eaches.cons rfl ?dZ (Eaches.cons rfl ?iA (Eaches.cons rfl ?iB (Eaches.nil))))))
  case dW|fB=>
   intro W hW hD K hK
   clear hD
   have hR0:=Rec.f3 (Rec.G R0.out hW)
   have ed:=hR0.1
   have ek:=hR0.2.1
   have qN:=hR0.2.2.1
   clear hR0
   have eu:=Rec.f3 (Rec.G R1.out hW)
   have jb:=eu.1
   have jc:=eu.2.1
   have wC:=eu.2.2.1
   clear eu
   go_simp
   exact hK.out _ _ ⟨_,rfl,G.refl _,rfl⟩
  ·intro W hW hD K hK
   clear hD
   go_simp
   go_wp2_with (go_at_call 107;refine Calls.mono (P:=Tryz.prog) (lI.out W (G.trans g0 hW)) ?_;intro e w9 hs;obtain⟨u9,rfl,g9,aH⟩:=hs)
   exact hK.out _ _ ⟨_,rfl,g9,aH⟩
  ·intro W hW hD K hK
   clear hD
   go_simp
   go_wp2_with (go_at_call 107;refine Calls.mono (P:=Tryz.prog) (kJ.out W (G.trans g0 hW)) ?_;intro e w9 hs;obtain⟨u9,rfl,g9,aH⟩:=hs)
   exact hK.out _ _ ⟨_,rfl,g9,aH⟩
  ·intro W hW hD K hK
   have h1:=Deps.get (v:=v1) 1 hD rfl rfl (by kernel_rfl)
   have h3:=Deps.get (v:=v3) 3 hD rfl rfl (by kernel_rfl)
   clear hD
   go_simp
   go_wp2_with (go_at_call 106;refine Calls.mono (P:=Tryz.prog) (Be.out W v1 v3 (G.trans g0 hW) h1 h3) ?_;intro e w9 hs;obtain⟨u9,rfl,g9,aH⟩:=hs)
   exact hK.out _ _ ⟨_,rfl,g9,aH⟩
  ·intro W hW hD K hK
   have h4:=Deps.get (v:=v4) 4 hD rfl rfl (by kernel_rfl)
   clear hD
   go_simp
   exact hK.out _ _ ⟨_,rfl,G.refl _,h4⟩
 intro w1 g1 hH
 have h5:=Helds.get (v:=v5) 5 hH rfl rfl
 clear hH
 refine wpAny_done (by kernel_rfl) ?_ _
 generalize v5=vs at *
 have S5:Hid (Num w1 vs s):=h5
 have fG:=G.trans g0 g1
 have S0:Hid (Rec _ _ _):=Rec.G R0.out (g1)
 have S1:Hid (Rec _ _ _):=Rec.G R1.out (g1)
 have S2:Hid (Rec _ _ _):=Rec.G R2.out (g1)
 clear h5 R0 R1 R2 g0 g1 Be
 go_wp2_with fail
 refine region_each 10 0 #[true,true,true,true,true,true,true,true,true,true] [.is (.agg #[.bool sx,.slice a k c,.slice a' k' c']),.any (fun v w'=>Num w' v (p)),.is (vs),.any (fun v w'=>Num w' v (A)),.is (.agg #[.bool sy,.slice b j e,.slice b' j' e']),.any (fun v w'=>Num w' v (q)),.is (vs),.any (fun v w'=>Num w' v (B)),.any (fun v w'=>Num w' v (A)),.any (fun v w'=>Num w' v (B))] [some 17,some 18,some 19,some 20,some 21,some 22,some 23,some 24,some 8,some 9] (by kernel_rfl) (by kernel_rfl) rfl (by kernel_rfl) (by repeat (first|exact trivial|refine⟨fun _ _ _ g h=>by first|exact h.G g|exact fun w3 g3=>h w3 (G.trans g g3),?_⟩)) (by kernel_rfl) (by kernel_rfl) ?_
 refine Letters.is ?_
 refine Letters.any fun v1=> ?_
 refine Letters.is ?_
 refine Letters.any fun v3=> ?_
 refine Letters.is ?_
 refine Letters.any fun v5=> ?_
 refine Letters.is ?_
 refine Letters.any fun v7=> ?_
 refine Letters.any fun v8=> ?_
 refine Letters.any fun v9=> ?_
 refine Letters.nil ?_
 intro A hA
 simp only[q0N,Act.put,List.setIfInBounds_toArray,List.set_cons_zero,List.set_cons_succ] at hA
 subst hA
 refine⟨?_,?_⟩
 ·skip
  refine Eaches.cons rfl ?gN (Eaches.cons rfl ?iU (Eaches.cons rfl ?iV (Eaches.cons rfl ?iW (Eaches.cons rfl ?iX (Eaches.cons rfl ?kH (Eaches.cons rfl ?kI (Eaches.cons rfl ?pR (Eaches.cons rfl ?qL (Eaches.cons rfl ?xN (Eaches.nil))))))))))
  case iV|kI=>
   intro W hW hD K hK
   clear hD
   go_simp
   exact hK.out _ _ ⟨_,rfl,G.refl _,rfl⟩
  case gN|iX=>
   intro W hW hD K hK
   clear hD
   have hS0:=Rec.f3 (Rec.G S0.out hW)
   have qO:=hS0.1
   have qP:=hS0.2.1
   have BU:=hS0.2.2.1
   clear hS0
   have hS1:=Rec.f3 (Rec.G S1.out hW)
   have qQ:=hS1.1
   have qR:=hS1.2.1
   have BV:=hS1.2.2.1
   clear hS1
   go_simp
   exact hK.out _ _ ⟨_,rfl,G.refl _,rfl⟩
  ·intro W hW hD K hK
   clear hD
   go_simp
   go_wp2_with (go_at_call 107;refine Calls.mono (P:=Tryz.prog) (lI.out W (G.trans fG hW)) ?_;intro e w9 hs;obtain⟨u9,rfl,g9,aH⟩:=hs)
   exact hK.out _ _ ⟨_,rfl,g9,aH⟩
  ·intro W hW hD K hK
   have h1:=Deps.get (v:=v1) 1 hD rfl rfl (by kernel_rfl)
   clear hD
   go_simp
   go_wp2_with (go_at_call 108;refine Calls.mono (P:=Tryz.prog) (lJ.out W v1 vs h1 (S5.out.G hW)) ?_;intro e w9 hs;obtain⟨u9,rfl,g9,aH⟩:=hs)
   exact hK.out _ _ ⟨_,rfl,g9,aH⟩
  ·intro W hW hD K hK
   clear hD
   go_simp
   go_wp2_with (go_at_call 107;refine Calls.mono (P:=Tryz.prog) (kJ.out W (G.trans fG hW)) ?_;intro e w9 hs;obtain⟨u9,rfl,g9,aH⟩:=hs)
   exact hK.out _ _ ⟨_,rfl,g9,aH⟩
  ·intro W hW hD K hK
   have h5:=Deps.get (v:=v5) 5 hD rfl rfl (by kernel_rfl)
   clear hD
   go_simp
   go_wp2_with (go_at_call 108;refine Calls.mono (P:=Tryz.prog) (dL.out W v5 vs h5 (S5.out.G hW)) ?_;intro e w9 hs;obtain⟨u9,rfl,g9,aH⟩:=hs)
   exact hK.out _ _ ⟨_,rfl,g9,aH⟩
  ·intro W hW hD K hK
   have h3:=Deps.get (v:=v3) 3 hD rfl rfl (by kernel_rfl)
   clear hD
   go_simp
   exact hK.out _ _ ⟨_,rfl,G.refl _,h3⟩
  ·intro W hW hD K hK
   have h7:=Deps.get (v:=v7) 7 hD rfl rfl (by kernel_rfl)
   clear hD
   go_simp
   exact hK.out _ _ ⟨_,rfl,G.refl _,h7⟩
 intro w2 g2 hH
 have h8:=Helds.get (v:=v8) 8 hH rfl rfl
 have h9:=Helds.get (v:=v9) 9 hH rfl rfl
 clear hH
 refine wpAny_done (by kernel_rfl) ?_ _
 have S8:Hid (Num w2 v8 A):=h8
 have S9:Hid (Num w2 v9 B):=h9
 have MX:Hid (Num w2 vs s):=S5.out.G g2
 have tC:=G.trans fG g2
 have T0:Hid (Rec _ _ _):=Rec.G S0.out (g2)
 have T1:Hid (Rec _ _ _):=Rec.G S1.out (g2)
 have T2:Hid (Rec _ _ _):=Rec.G S2.out (g2)
 generalize v8=va at *
 generalize v9=vb at *
 clear h8 h9 S5 S0 S1 S2 fG g2 lJ dL lI kJ
 go_wp2_with fail
 refine region_each 11 1 #[true,true,true,true,true,true,true,true,true,true,true,false] [.is (.func (.func FR) #[] #[]),.is (.pointer (some ⟨w.heap.size,0,none⟩)),.is (.agg #[.bool sx,.slice a k c]),.is (vb),.any (fun v w'=>WholeIs w' v (X)),.is (.pointer (some ⟨w.heap.size+1,0,none⟩)),.is (.agg #[.bool sy,.slice b j e]),.is (va),.any (fun v w'=>WholeIs w' v (Y)),.any (fun v w'=>WholeIs w' v (T)),.any (fun v w'=>NewRec w2 w' v ([.bool false,.slice none 0 0]))] [some 25,some 26,some 27,some 28,some 29,some 30,some 31,some 32,some 33,some 34,some 10] (by kernel_rfl) (by kernel_rfl) rfl (by kernel_rfl) (by repeat (first|exact trivial|refine⟨fun _ _ _ g h=>by first|exact h.G g|exact fun w3 g3=>h w3 (G.trans g g3),?_⟩)) (by kernel_rfl) (by kernel_rfl) ?_
 refine Letters.is ?_
 refine Letters.is ?_
 refine Letters.is ?_
 refine Letters.is ?_
 refine Letters.any fun v4=> ?_
 refine Letters.is ?_
 refine Letters.is ?_
 refine Letters.is ?_
 refine Letters.any fun v8=> ?_
 refine Letters.any fun v9=> ?_
 refine Letters.any fun v10=> ?_
 refine Letters.nil ?_
 intro A hA
 simp only[q0N,Act.put,List.setIfInBounds_toArray,List.set_cons_zero,List.set_cons_succ] at hA
 subst hA
 refine⟨?_,?_⟩
 ·skip
  refine Eaches.cons rfl ?nZ (Eaches.cons rfl ?pU (Eaches.cons rfl ?pV (Eaches.cons rfl ?pW (Eaches.cons rfl ?pX (Eaches.cons rfl ?qU (Eaches.cons rfl ?qV (Eaches.cons rfl ?uo (Eaches.cons rfl ?GM (Eaches.cons rfl ?GN (Eaches.cons rfl ?MZ (Eaches.nil)))))))))))
  case nZ|pU|pW|qU|uo=>
   intro W hW hD K hK
   clear hD
   go_simp
   exact hK.out _ _ ⟨_,rfl,G.refl _,rfl⟩
  case pV|qV=>
   intro W hW hD K hK
   clear hD
   have hT0:=Rec.f3 (Rec.G T0.out hW)
   have wF:=hT0.1
   have wG:=hT0.2.1
   have C8:=hT0.2.2.1
   clear hT0
   have hT1:=Rec.f3 (Rec.G T1.out hW)
   have wH:=hT1.1
   have wI:=hT1.2.1
   have C9:=hT1.2.2.1
   clear hT1
   go_simp
   exact hK.out _ _ ⟨_,rfl,G.refl _,rfl⟩
  ·intro W hW hD K hK
   clear hD
   go_simp
   go_wp2_with (go_at_call 173;refine Calls.mono (P:=Tryz.prog) (HT1.out W vb (G.trans tC hW) (S9.out.G hW)) ?_;intro e w9 hs;obtain⟨u9,rfl,g9,aH⟩:=hs)
   exact hK.out _ _ ⟨_,rfl,g9,aH⟩
  ·intro W hW hD K hK
   clear hD
   go_simp
   go_wp2_with (go_at_call 173;refine Calls.mono (P:=Tryz.prog) (HT2.out W va (G.trans tC hW) (S8.out.G hW)) ?_;intro e w9 hs;obtain⟨u9,rfl,g9,aH⟩:=hs)
   exact hK.out _ _ ⟨_,rfl,g9,aH⟩
  ·intro W hW hD K hK
   have h4:=Deps.get (v:=v4) 4 hD rfl rfl (by kernel_rfl)
   have h8:=Deps.get (v:=v8) 8 hD rfl rfl (by kernel_rfl)
   clear hD
   have hcf:=HE.out #[v4,v8] W
   go_simp
   go_wp2_with (refine Calls.mono (P:=Tryz.prog) (HP.out W v4 v8 h4 h8) ?_;intro e w9 hs;obtain⟨u9,rfl,g9,aH⟩:=hs)
   exact hK.out _ _ ⟨_,rfl,g9,aH⟩
  ·intro W hW hD K hK
   clear hD
   go_simp
   exact hK.out _ _ ⟨_,rfl,(G.refl _).alloc _,_,rfl,hW.size,Rec.new2 _ _ _ _⟩
 intro w3 g3 hH
 have h9:=Helds.get (v:=v9) 9 hH rfl rfl
 have h10:=Helds.get (v:=v10) 10 hH rfl rfl
 clear hH
 obtain⟨nb,rfl,hnb,ji⟩:=h10
 obtain⟨d1,d2,d3,rfl,dh⟩:=h9
 rw[← IK.out]
 have N0:Hid (Rec w3 nb [.bool false,.slice none 0 0]):=ji
 have uP:Hid (Num _ (.slice d1 d2 d3) T.natAbs):=q1v (u1:= .bool t) (u2:= .slice d1 d2 d3) dh ji trivial trivial
 clear ji dh HP HT1 HT2
 have hS:=Rec.f2 (Rec.G N0.out ((G.refl _)))
 have bJ:=hS.1
 have bK:=hS.2.1
 have bL:=hS.2.2.1
 have bM:=hS.2.2.2
 clear hS
 refine wpAny_ready (rs:=[11]) (by kernel_rfl) (by simp) ?_
 refine AllReady.cons rfl (fun K hK=> ?_) AllReady.nil
 go_simp
 refine hK _ _ ?_
 clear hK K bJ bK bL bM
 refine wpAny_done (by kernel_rfl) ?_ _
 have N1:Hid (Rec _ nb [.bool t,.slice d1 d2 d3]):=Rec.set2 N0.out
 have g4:=Rec.g2 (b:=nb) (u:= .bool t) (v:= .slice d1 d2 d3) g3 hnb
 generalize ((w3.setCell ⟨nb,0,none⟩ (.bool t)).setCell ⟨nb,1,none⟩ (.slice d1 d2 d3))=w4 at *
 have IL:=G.trans tC g4
 have U2:Hid (Rec _ _ _):=Rec.G T2.out (g4)
 have S5:Hid (Num w4 vs s):=MX.out.G g4
 have N7:Hid (Num w4 va A):=S8.out.G g4
 have N8:Hid (Num w4 vb B):=S9.out.G g4
 have nJ:Hid _:=mO.out w4 (.slice d1 d2 d3) vs IL uP.out S5.out
 have hnw:w.heap.size≤nb:=Nat.le_trans tC.size hnb
 clear T0 T1 T2 N0 MX S8 S9 tC g3 g4 hnb mO
 have fK:=Rec.f2 (Rec.G N1.out (G.refl _))
 have jL:=fK.1
 have jM:=fK.2.1
 have jN:=fK.2.2.1
 have jO:=fK.2.2.2
 clear fK
 go_wp2_with fail
 refine Calls.mono (P:=Tryz.prog) nJ.out ?_
 intro e4 w5 hs
 obtain⟨vr,rfl,g5,tK⟩:=hs
 have fF:Hid _:=tu.out w5 (.slice d1 d2 d3) vr (uP.out.G g5) tK
 have SR:Hid (Num w5 vr r):=tK
 clear nJ tu tK jL jM jN jO
 have fK:=Rec.f2 (Rec.G N1.out (g5))
 have jL:=fK.1
 have jM:=fK.2.1
 have jN:=fK.2.2.1
 have jO:=fK.2.2.2
 clear fK
 go_wp2_with fail
 refine Calls.mono (P:=Tryz.prog) fF.out ?_
 intro e4 w6 hs
 obtain⟨vt,rfl,g6,wL⟩:=hs
 obtain⟨f1,f2,f3,rfl,-⟩:=q2k wL
 have N9:Hid (Num w6 vr r):=SR.out.G g6
 have ST:Hid (Num (w6.setCell ⟨nb,1,none⟩ (.slice f1 f2 f3)) (.slice f1 f2 f3) tr):=q2f wL (Rec.G (Rec.G N1.out g5) g6) trivial trivial
 have qD:=G.trans g5 g6
 have SA:Hid (Num (w6.setCell ⟨nb,1,none⟩ (.slice f1 f2 f3)) va A):=q2f (N7.out.G qD) (Rec.G N1.out qD) trivial trivial
 have SB:Hid (Num (w6.setCell ⟨nb,1,none⟩ (.slice f1 f2 f3)) vb B):=q2f (N8.out.G qD) (Rec.G N1.out qD) trivial trivial
 have SS:Hid (Num (w6.setCell ⟨nb,1,none⟩ (.slice f1 f2 f3)) vs s):=q2f (S5.out.G qD) (Rec.G N1.out qD) trivial trivial
 have SQ:Hid (Num (w6.setCell ⟨nb,1,none⟩ (.slice f1 f2 f3)) vr r):=q2f N9.out (Rec.G N1.out qD) trivial trivial
 have N2:Hid (Rec (w6.setCell ⟨nb,1,none⟩ (.slice f1 f2 f3)) nb [.bool t,.slice f1 f2 f3]):=(Rec.G N1.out qD).set 1 _
 have V2:Hid (Rec (w6.setCell ⟨nb,1,none⟩ (.slice f1 f2 f3)) (w.heap.size+2) [.bool false,.slice none 0 0,.slice none 0 0]):=(Rec.G U2.out qD).oth (p:=⟨nb,1,none⟩) _ (qbr N1.out U2.out)
 have g7:G w (w6.setCell ⟨nb,1,none⟩ (.slice f1 f2 f3)):=(G.trans IL qD).setCell (p:=⟨nb,1,none⟩) hnw _
 clear fF wL jL jM jN jO SR N9 S5 N7 N8 IL hnw uP U2
 have fK:=Rec.f2 (Rec.G N1.out (qD))
 have jL:=fK.1
 have jM:=fK.2.1
 have jN:=fK.2.2.1
 have jO:=fK.2.2.2
 clear fK
 clear g5 g6 qD
 go_wp2_with fail
 generalize w6.setCell ⟨nb,1,none⟩ (.slice f1 f2 f3)=w7 at *
 clear jL jM jN jO N1
 refine region_each 9 1 #[true,true,true,true,true,true,true,true,true,false] [.is (.agg #[.bool t,.slice f1 f2 f3]),.is (va),.is (vb),.any (fun v w'=>Num w' v (N)),.is (vs),.is (vr),.any (fun v w'=>Num w' v (sr)),.any (fun v w'=>Num w' v (M)),.any (fun v w'=>QIs w' v (z))] [some 44,some 45,some 46,some 47,some 48,some 49,some 50,some 51,some 52] (by kernel_rfl) (by kernel_rfl) rfl (by kernel_rfl) (by repeat (first|exact trivial|refine⟨fun _ _ _ g h=>by first|exact h.G g|exact fun w3 g3=>h w3 (G.trans g g3),?_⟩)) (by kernel_rfl) (by kernel_rfl) ?_
 refine Letters.is ?_
 refine Letters.is ?_
 refine Letters.is ?_
 refine Letters.any fun v3=> ?_
 refine Letters.is ?_
 refine Letters.is ?_
 refine Letters.any fun v6=> ?_
 refine Letters.any fun v7=> ?_
 refine Letters.any fun v8=> ?_
 refine Letters.nil ?_
 intro A hA
 simp only[q0N,Act.put,List.setIfInBounds_toArray,List.set_cons_zero,List.set_cons_succ] at hA
 subst hA
 refine⟨?_,?_⟩
 ·skip
  refine Eaches.cons rfl ?qW (Eaches.cons rfl ?qX (Eaches.cons rfl ?uq (Eaches.cons rfl ?uu (Eaches.cons rfl ?qY (Eaches.cons rfl ?uw (Eaches.cons rfl ?Cb (Eaches.cons rfl ?Cc (Eaches.cons rfl ?QL (Eaches.nil)))))))))
  case qX|uq|qY|uw=>
   intro W hW hD K hK
   clear hD
   go_simp
   exact hK.out _ _ ⟨_,rfl,G.refl _,rfl⟩
  case qW=>
   intro W hW hD K hK
   clear hD
   have kN:=Rec.f2 (Rec.G N2.out hW)
   have Na:=kN.1
   have Nb:=kN.2.1
   clear kN
   go_simp
   exact hK.out _ _ ⟨_,rfl,G.refl _,rfl⟩
  ·intro W hW hD K hK
   clear hD
   go_simp
   go_wp2_with (go_at_call 109;refine Calls.mono (P:=Tryz.prog) (lL.out W va vb (SA.out.G hW) (SB.out.G hW)) ?_;intro e w9 hs;obtain⟨u9,rfl,g9,aH⟩:=hs)
   exact hK.out _ _ ⟨_,rfl,g9,aH⟩
  ·intro W hW hD K hK
   clear hD
   go_simp
   go_wp2_with (go_at_call 108;refine Calls.mono (P:=Tryz.prog) (kD.out W vs vr (SS.out.G hW) (SQ.out.G hW)) ?_;intro e w9 hs;obtain⟨u9,rfl,g9,aH⟩:=hs)
   exact hK.out _ _ ⟨_,rfl,g9,aH⟩
  ·intro W hW hD K hK
   have h3:=Deps.get (v:=v3) 3 hD rfl rfl (by kernel_rfl)
   have h6:=Deps.get (v:=v6) 6 hD rfl rfl (by kernel_rfl)
   clear hD
   go_simp
   go_wp2_with (go_at_call 109;refine Calls.mono (P:=Tryz.prog) (jI.out W v3 v6 h3 h6) ?_;intro e w9 hs;obtain⟨u9,rfl,g9,aH⟩:=hs)
   exact hK.out _ _ ⟨_,rfl,g9,aH⟩
  ·intro W hW hD K hK
   have h7:=Deps.get (v:=v7) 7 hD rfl rfl (by kernel_rfl)
   clear hD
   go_simp
   go_wp2_with (go_at_call 110;refine Calls.mono (P:=Tryz.prog) (HF.out W f1 f2 f3 v7 (ST.out.G hW) h7) ?_;intro e w9 hs;obtain⟨u9,rfl,g9,aH⟩:=hs)
   exact hK.out _ _ ⟨_,rfl,g9,aH⟩
 intro w8 g8 hH
 have h8:=Helds.get (v:=v8) 8 hH rfl rfl
 clear hH
 clear lL jI kD HF SA SB SS SQ ST N2
 obtain⟨a8,k8,c8,a9,k9,c9,rfl,fA,dh⟩:=h8
 have kE:Hid (Num w8 (.slice a8 k8 c8) (z).num.natAbs):=fA
 have fJ:Hid (Num w8 (.slice a9 k9 c9) (q1J (z).den)):=dh
 obtain⟨t9,cK⟩:∃ t,t=decide ((z).num<0):=⟨_,rfl⟩
 rw[← cK]
 have gH:Hid (t9=decide ((z).num<0)):=cK
 clear fA dh cK
 have hS:=Rec.f3 (Rec.G V2.out (g8))
 have bJ:=hS.1
 have bK:=hS.2.1
 have bL:=hS.2.2.1
 have bM:=hS.2.2.2.1
 have dM:=hS.2.2.2.2.1
 have dN:=hS.2.2.2.2.2
 clear hS
 refine wpAny_ready (rs:=[9]) (by kernel_rfl) (by simp) ?_
 refine AllReady.cons rfl (fun K hK=> ?_) AllReady.nil
 go_simp
 refine hK _ _ ?_
 clear hK K bJ bK bL bM dM dN
 refine wpAny_done (by kernel_rfl) ?_ _
 have dO:Num _ _ _:=q0l (u1:= .bool t9) (u2:= .slice a8 k8 c8) (u3:= .slice a9 k9 c9) kE.out (Rec.G V2.out (g8)) trivial trivial trivial
 have bH:Num _ _ _:=q0l (u1:= .bool t9) (u2:= .slice a8 k8 c8) (u3:= .slice a9 k9 c9) fJ.out (Rec.G V2.out (g8)) trivial trivial trivial
 go_wp2_with fail
 have hT:Hid (Rec (World.setCell (World.setCell (World.setCell w8 ⟨w.heap.size+2,0,none⟩ (.bool t9)) ⟨w.heap.size+2,1,none⟩ (.slice a8 k8 c8)) ⟨w.heap.size+2,2,none⟩ (.slice a9 k9 c9)) (w.heap.size+2) [.bool t9,.slice a8 k8 c8,.slice a9 k9 c9]):=Rec.set3 (Rec.G V2.out (g8))
 have g9:=Rec.g3 (b:=w.heap.size+2) (u:= .bool t9) (v:= .slice a8 k8 c8) (x:= .slice a9 k9 c9) (G.trans g7 g8) (by omega)
 generalize (World.setCell (World.setCell (World.setCell w8 ⟨w.heap.size+2,0,none⟩ (.bool t9)) ⟨w.heap.size+2,1,none⟩ (.slice a8 k8 c8)) ⟨w.heap.size+2,2,none⟩ (.slice a9 k9 c9))=w9 at *
 have hF:=Rec.f3 (Rec.G hT.out ((G.refl _)))
 have bR:=hF.1
 have bU:=hF.2.1
 have bV:=hF.2.2.1
 have bW:=hF.2.2.2.1
 have jg:=hF.2.2.2.2.1
 have jh:=hF.2.2.2.2.2
 clear hF
 refine bodyPost_ret (v:= .agg #[.bool t9,.slice a8 k8 c8,.slice a9 k9 c9]) (by simp [results,Tryz.results113,go_sem, *]) rfl ?_
 exact⟨_,rfl,g9,a8,k8,c8,a9,k9,c9,by rw[← gH.out],dO,bH⟩
theorem q5t (w:World) (v u:Value) (x y:Rat) (K:Nat) (hK:K≤40000) (hK1:1≤K) (oG:Tab w) (hx:QIs w v x) (hy:QIs w u y) (bx:QB x K) (kT:QB y K):
  Calls Tryz.prog 113 #[v,u,.func (.func 114) #[] #[]] w (RetQ w (x+y)):=
 q4l w v u x y K hK hK1 oG hx hy bx kT _ (fun p q=>p+q) _ (Rat.add_def' x y) (fun p q k=>Int.add_mul p q k) (fun p q g h1 h2=>by
   have h3:=Int.dvd_sub h2 h1;rwa[show p+q-q=p from by omega] at h3) (fun p q g h1 h2=>by
   have h3:=Int.dvd_sub h2 h1;rwa[show p+q-p=q from by omega] at h3) (fun p q=>Int.natAbs_add_le p q) (fun w1 v1 v2 X Y q1 q2 h1 h2=>by
   have h:=q75 w1 v1 v2 _ _ _ _ (K+K) (by omega) h1 h2 q1 q2
   rw[q1y,q1y] at h;exact h) (fun _ _=>by kernel_rfl)
theorem q4b (w:World) (v u:Value) (x y:Rat) (K:Nat) (hK:K≤40000) (hK1:1≤K) (oG:Tab w) (hx:QIs w v x) (hy:QIs w u y) (bx:QB x K) (kT:QB y K):
  Calls Tryz.prog 113 #[v,u,.func (.func 172) #[] #[]] w (RetQ w (x-y)):=
 q4l w v u x y K hK hK1 oG hx hy bx kT _ (fun p q=>p-q) _ (Rat.sub_def' x y) (fun p q k=>Int.sub_mul p q k) (fun p q g h1 h2=>by
   have h3:=Int.dvd_add h2 h1;rwa[show p-q+q=p from by omega] at h3) (fun p q g h1 h2=>by
   have h3:=Int.dvd_sub h1 h2;rwa[show p-(p-q)=q from by omega] at h3) (fun p q=>Int.natAbs_sub_le p q) (fun w1 v1 v2 X Y q1 q2 h1 h2=>by
   have h:=q8O w1 v1 v2 _ _ _ _ (K+K) (by omega) h1 h2 q1 q2
   rw[q1y,q1y] at h;exact h) (fun _ _=>by kernel_rfl)
theorem q8c (w:World) (v u:Value) (x y:Rat) (K:Nat) (hK:K≤40000) (hK1:1≤K) (oG:Tab w) (hx:QIs w v x) (hy:QIs w u y) (bx:QB x K) (kT:QB y K):
  Calls Tryz.prog 66 #[v,u] w (RetQ w (x+y)):=by
 have HJ:Hid (∀ w1,G w w1→_):=fun w1 g=>q5t w1 v u x y K hK hK1 (oG.G g) (hx.G g) (hy.G g) bx kT
 generalize x+y=z at *
 obtain⟨a,k,c,a',k',c',rfl,-,-⟩:=hx
 obtain⟨b,j,e,b',j',e',rfl,-,-⟩:=hy
 generalize decide (x.num<0)=s at *
 generalize decide (y.num<0)=t at *
 clear bx kT oG
 go_enter Tryz.func66,Tryz.ntmps66
 go_wp2_with fail
 obtain⟨w0,aL,g0,hz0,R0,R1,R2⟩:=q1t w [.bool s,.slice a k c,.slice a' k' c'] [.bool t,.slice b j e,.slice b' j' e'] [.bool false,.slice none 0 0,.slice none 0 0] 93 93 93
 rw[aL]
 clear aL
 refine Calls.mono (P:=Tryz.prog) (HJ.out w0 g0) ?_
 intro e4 w1 hs
 obtain⟨vz,rfl,g1,hz⟩:=hs
 clear HJ
 obtain⟨a8,k8,c8,a9,k9,c9,rfl,fA,dh⟩:=hz
 have kE:Hid (Num w1 (.slice a8 k8 c8) (z).num.natAbs):=fA
 have fJ:Hid (Num w1 (.slice a9 k9 c9) (q1J (z).den)):=dh
 obtain⟨t9,cK⟩:∃ t,t=decide ((z).num<0):=⟨_,rfl⟩
 rw[← cK]
 have gH:Hid (t9=decide ((z).num<0)):=cK
 clear fA dh cK
 have hS:=Rec.f3 (Rec.G R2.out ((g1)))
 have bJ:=hS.1
 have bK:=hS.2.1
 have bL:=hS.2.2.1
 have bM:=hS.2.2.2.1
 have dM:=hS.2.2.2.2.1
 have dN:=hS.2.2.2.2.2
 clear hS
 have dO:Num _ _ _:=q0l (u1:= .bool t9) (u2:= .slice a8 k8 c8) (u3:= .slice a9 k9 c9) kE.out (Rec.G R2.out (g1)) trivial trivial trivial
 have bH:Num _ _ _:=q0l (u1:= .bool t9) (u2:= .slice a8 k8 c8) (u3:= .slice a9 k9 c9) fJ.out (Rec.G R2.out (g1)) trivial trivial trivial
 go_wp2_with fail
 have hT:Hid (Rec (World.setCell (World.setCell (World.setCell w1 ⟨w.heap.size+2,0,none⟩ (.bool t9)) ⟨w.heap.size+2,1,none⟩ (.slice a8 k8 c8)) ⟨w.heap.size+2,2,none⟩ (.slice a9 k9 c9)) (w.heap.size+2) [.bool t9,.slice a8 k8 c8,.slice a9 k9 c9]):=Rec.set3 (Rec.G R2.out (g1))
 have g9:=Rec.g3 (b:=w.heap.size+2) (u:= .bool t9) (v:= .slice a8 k8 c8) (x:= .slice a9 k9 c9) (G.trans g0 g1) (by omega)
 generalize (World.setCell (World.setCell (World.setCell w1 ⟨w.heap.size+2,0,none⟩ (.bool t9)) ⟨w.heap.size+2,1,none⟩ (.slice a8 k8 c8)) ⟨w.heap.size+2,2,none⟩ (.slice a9 k9 c9))=w9 at *
 have hF:=Rec.f3 (Rec.G hT.out ((G.refl _)))
 have bR:=hF.1
 have bU:=hF.2.1
 have bV:=hF.2.2.1
 have bW:=hF.2.2.2.1
 have jg:=hF.2.2.2.2.1
 have jh:=hF.2.2.2.2.2
 clear hF
 refine bodyPost_ret (v:= .agg #[.bool t9,.slice a8 k8 c8,.slice a9 k9 c9]) (by simp [results,Tryz.results66,go_sem, *]) rfl ?_
 exact⟨_,rfl,g9,a8,k8,c8,a9,k9,c9,by rw[← gH.out],dO,bH⟩
theorem q9v (w:World) (v u:Value) (x y:Rat) (K:Nat) (hK:K≤40000) (hK1:1≤K) (oG:Tab w) (hx:QIs w v x) (hy:QIs w u y) (bx:QB x K) (kT:QB y K):
  Calls Tryz.prog 112 #[v,u] w (RetQ w (x-y)):=by
 have HJ:Hid (∀ w1,G w w1→_):=fun w1 g=>q4b w1 v u x y K hK hK1 (oG.G g) (hx.G g) (hy.G g) bx kT
 generalize x-y=z at *
 obtain⟨a,k,c,a',k',c',rfl,-,-⟩:=hx
 obtain⟨b,j,e,b',j',e',rfl,-,-⟩:=hy
 generalize decide (x.num<0)=s at *
 generalize decide (y.num<0)=t at *
 clear bx kT oG
 go_enter Tryz.func112,Tryz.ntmps112
 go_wp2_with fail
 obtain⟨w0,aL,g0,hz0,R0,R1,R2⟩:=q1t w [.bool s,.slice a k c,.slice a' k' c'] [.bool t,.slice b j e,.slice b' j' e'] [.bool false,.slice none 0 0,.slice none 0 0] 93 93 93
 rw[aL]
 clear aL
 refine Calls.mono (P:=Tryz.prog) (HJ.out w0 g0) ?_
 intro e4 w1 hs
 obtain⟨vz,rfl,g1,hz⟩:=hs
 clear HJ
 obtain⟨a8,k8,c8,a9,k9,c9,rfl,fA,dh⟩:=hz
 have kE:Hid (Num w1 (.slice a8 k8 c8) (z).num.natAbs):=fA
 have fJ:Hid (Num w1 (.slice a9 k9 c9) (q1J (z).den)):=dh
 obtain⟨t9,cK⟩:∃ t,t=decide ((z).num<0):=⟨_,rfl⟩
 rw[← cK]
 have gH:Hid (t9=decide ((z).num<0)):=cK
 clear fA dh cK
 have hS:=Rec.f3 (Rec.G R2.out ((g1)))
 have bJ:=hS.1
 have bK:=hS.2.1
 have bL:=hS.2.2.1
 have bM:=hS.2.2.2.1
 have dM:=hS.2.2.2.2.1
 have dN:=hS.2.2.2.2.2
 clear hS
 have dO:Num _ _ _:=q0l (u1:= .bool t9) (u2:= .slice a8 k8 c8) (u3:= .slice a9 k9 c9) kE.out (Rec.G R2.out (g1)) trivial trivial trivial
 have bH:Num _ _ _:=q0l (u1:= .bool t9) (u2:= .slice a8 k8 c8) (u3:= .slice a9 k9 c9) fJ.out (Rec.G R2.out (g1)) trivial trivial trivial
 go_wp2_with fail
 have hT:Hid (Rec (World.setCell (World.setCell (World.setCell w1 ⟨w.heap.size+2,0,none⟩ (.bool t9)) ⟨w.heap.size+2,1,none⟩ (.slice a8 k8 c8)) ⟨w.heap.size+2,2,none⟩ (.slice a9 k9 c9)) (w.heap.size+2) [.bool t9,.slice a8 k8 c8,.slice a9 k9 c9]):=Rec.set3 (Rec.G R2.out (g1))
 have g9:=Rec.g3 (b:=w.heap.size+2) (u:= .bool t9) (v:= .slice a8 k8 c8) (x:= .slice a9 k9 c9) (G.trans g0 g1) (by omega)
 generalize (World.setCell (World.setCell (World.setCell w1 ⟨w.heap.size+2,0,none⟩ (.bool t9)) ⟨w.heap.size+2,1,none⟩ (.slice a8 k8 c8)) ⟨w.heap.size+2,2,none⟩ (.slice a9 k9 c9))=w9 at *
 have hF:=Rec.f3 (Rec.G hT.out ((G.refl _)))
 have bR:=hF.1
 have bU:=hF.2.1
 have bV:=hF.2.2.1
 have bW:=hF.2.2.2.1
 have jg:=hF.2.2.2.2.1
 have jh:=hF.2.2.2.2.2
 clear hF
 refine bodyPost_ret (v:= .agg #[.bool t9,.slice a8 k8 c8,.slice a9 k9 c9]) (by simp [results,Tryz.results112,go_sem, *]) rfl ?_
 exact⟨_,rfl,g9,a8,k8,c8,a9,k9,c9,by rw[← gH.out],dO,bH⟩
theorem q3Q (w:World) (va:Value) (a K:Nat) (n:Int) (hK:K≤500000) (hn1: -1000000≤n) (hn2:n≤1000000) (ha:Num w va a) (ha2:a<2^(64*K)):
  Calls Tryz.prog 234 #[va,.int .i64 n] w (q0i w (a*2^n.toNat)):=by
 have HL:Hid _:=q20 w va a n.toNat K hK (by omega) ha ha2
 have HM:Hid (max n 0=((n.toNat:Nat):Int)):=by show max n 0=_;omega
 generalize n.toNat=k at *
 generalize a*2^k=z at *
 clear ha ha2
 go_enter Tryz.func234,Tryz.ntmps234
 go_wp2_with fail
 rw[HM.out]
 refine Calls.mono (P:=Tryz.prog) HL.out ?_
 intro e w1 hs
 obtain⟨v,rfl,g1,hv⟩:=hs
 go_wp2_with fail
 go_ret
 exact⟨_,rfl,g1,hv⟩
theorem q1l {w:World} {g:Nat} {o:Obj} (h:w.heap[g]? =some o):g<w.heap.size:=(Array.getElem?_eq_some_iff.1 h).1
theorem q7x:∃ i,Tryz.prog.info? 32=some i∧i.zero=some (.agg #[.float .f64 0,.float .f64 0])∧i.size=2∧i.bytes=16:=by
 have h:(Tryz.prog.info? 32).map (fun i=>(i.zero,i.size,i.bytes))=some (some (.agg #[.float .f64 0,.float .f64 0]),2,16):=by kernel_rfl
 obtain⟨i,hi,hzz⟩:=Option.map_eq_some_iff.1 h
 simp only[Prod.mk.injEq] at hzz
 exact⟨i,hi,hzz.1,hzz.2.1,hzz.2.2⟩
/-- Points as cells. -/
def pl:List (Nat×Nat)→List Value
 |[]=>[]
 |p::l=> .float .f64 p.1:: .float .f64 p.2::pl l
theorem q1L (l:List (Nat×Nat)):(pl l).length=l.length*2:=by
 induction l with
 |nil=>rfl
 |cons p l ih=>simp only[pl,List.length_cons,ih];omega
theorem q9M (l m:List (Nat×Nat)):pl (l++m)=pl l++pl m:=by
 induction l with
 |nil=>rfl
 |cons p l ih=>simp only[pl,List.cons_append,ih]
theorem q7M {l:List (Nat×Nat)} {i:Nat} (h:i<l.length):(pl l)[i*2]? =some (.float .f64 (l.getD i (0,0)).1)∧(pl l)[i*2+1]? =some (.float .f64 (l.getD i (0,0)).2):=by
 induction l generalizing i with
 |nil=>simp at h
 |cons p l ih=>
  rcases i with _|i
  ·exact⟨rfl,rfl⟩
  ·have:=ih (i:=i) (by simpa using h)
   rw[show (i+1)*2=i*2+1+1 from by omega]
   simp only[pl,List.getElem?_cons_succ,List.getD_cons_succ]
   exact this
theorem qbP (l:List (Nat×Nat)) (i:Nat) (p:Nat×Nat):pl (l.set i p)=((pl l).set (i*2) (.float .f64 p.1)).set (i*2+1) (.float .f64 p.2):=by
 induction l generalizing i with
 |nil=>rfl
 |cons q l ih=>
  rcases i with _|i
  ·rfl
  ·rw[show (i+1)*2=i*2+1+1 from by omega]
   simp only[pl,List.set_cons_succ,ih]
theorem q7K (l:List (Nat×Nat)) (k:Nat):pl (l.take k)=(pl l).take (k*2):=by
 induction l generalizing k with
 |nil=>simp [pl]
 |cons q l ih=>
  rcases k with _|k
  ·simp [pl]
  ·rw[show (k+1)*2=k*2+1+1 from by omega]
   simp only[pl,List.take_succ_cons,ih]
theorem q35 {l:List (Nat×Nat)}:∀ x∈pl l,∃ b,x= .float .f64 b:=by
 induction l with
 |nil=>intro x hx;simp [pl] at hx
 |cons p l ih=>
  intro x hx
  simp only[pl,List.mem_cons] at hx
  rcases hx with rfl|rfl|hx
  ·exact⟨_,rfl⟩
  ·exact⟨_,rfl⟩
  ·exact ih x hx
/-- A slice of points whose block is our own (from block base on). -/
def POwn (w:World) (base:Nat) (v:Value) (l:List (Nat×Nat)):Prop:=
 (v= .slice none 0 0∧l=[])∨∃ g cap cur,v= .slice (some ⟨g,0,none⟩) l.length cap∧base≤g∧w.heap[g]? =some (.cells cur 32 (0,0))∧l.length≤cap∧cap≤maxLen∧cur.size=cap*2∧cur.toList.take (l.length*2)=pl l∧∀ x∈cur.toList,∃ b,x= .float .f64 b
theorem q2m (w:World) (base:Nat):POwn w base (.slice none 0 0) []:=Or.inl ⟨rfl,rfl⟩
theorem POwn.G {w w':World} {base:Nat} {v:Value} {l:List (Nat×Nat)} (h:POwn w base v l) (g:Go.Proofs.YtdidnnbpdcanlaaGreatDoor.G w w'):POwn w' base v l:=by
 rcases h with h|⟨b,cap,cur,e,h1,h2,h3⟩
 ·exact Or.inl h
 ·refine Or.inr ⟨b,cap,cur,e,h1,?_,h3⟩
  obtain⟨-,-,-,-,g5⟩:=g
  exact(g5 b (q1l h2)).trans h2
theorem POwn.cellAt {w:World} {g:Nat} {cur:Array Value} {l:List (Nat×Nat)} (h2:w.heap[g]? =some (.cells cur 32 (0,0))) (h6:cur.toList.take (l.length*2)=pl l) {i:Nat} (hi:i<l.length):
  w.cell? ⟨g,i*2,none⟩=some (.float .f64 (l.getD i (0,0)).1)∧w.cell? ⟨g,i*2+1,none⟩=some (.float .f64 (l.getD i (0,0)).2):=by
 obtain⟨h8,h9⟩:=q7M hi
 rw[← h6,List.getElem?_take,if_pos (by omega)] at h8 h9
 simp only[World.cell?,h2]
 simp at h8 h9 ⊢
 exact⟨h8,h9⟩
theorem POwn.len {w:World} {base:Nat} {v:Value} {l:List (Nat×Nat)} (h:POwn w base v l):∃ a c,v= .slice a l.length c:=by
 rcases h with ⟨rfl,rfl⟩|⟨b,cap,cur,rfl,-⟩
 ·exact⟨_,_,rfl⟩
 ·exact⟨_,_,rfl⟩
theorem POwn.own {w:World} {base:Nat} {v:Value} {l:List (Nat×Nat)} (h:POwn w base v l) {b:Nat} (hb:b<base∨w.heap.size≤b):v.ownBlock≠some b:=by
 rcases h with ⟨rfl,-⟩|⟨g,cap,cur,rfl,h1,h2,-⟩
 ·intro e;cases e
 ·intro e
  have e1:g=b:=Option.some.inj e
  have:=q1l h2
  omega
theorem POwn.oth {w w':World} {base:Nat} {v:Value} {l:List (Nat×Nat)} (h:POwn w base v l) {b:Nat} (hb:v.ownBlock≠some b) (hw:∀ k,k≠b→w'.heap[k]? =w.heap[k]?):POwn w' base v l:=by
 rcases h with h|⟨g,cap,cur,rfl,h1,h2,h3⟩
 ·exact Or.inl h
 ·exact Or.inr ⟨g,cap,cur,rfl,h1,by rw[hw g (by intro e;exact hb (by rw[← e];rfl))];exact h2,h3⟩
/-- A shorter piece of the same row, from its start on. -/
theorem POwn.cut {w:World} {base b n cap k:Nat} {l:List (Nat×Nat)} (h:POwn w base (.slice (some ⟨b,0,none⟩) n cap) l) (hk:k≤l.length):POwn w base (.slice (some ⟨b,0,none⟩) k cap) (l.take k):=by
 rcases h with ⟨e,-⟩|⟨b',cap',cur,e,h1,h2,h3,h4,h5,h6,h7⟩
 ·cases e
 ·injection e with e1 e2 e3
  injection e1 with e1
  injection e1 with e1
  subst e1;subst e3
  have hl:(l.take k).length=k:=by rw[List.length_take];omega
  refine Or.inr ⟨b,cap,cur,by rw[hl],h1,h2,by rw[hl];omega,h4,h5,?_,h7⟩
  rw[hl,q7K,← h6,List.take_take,Nat.min_eq_left (by omega)]
theorem POwn.set {w:World} {base b i n cap:Nat} {p:Nat×Nat} {l:List (Nat×Nat)} (h:POwn w base (.slice (some ⟨b,0,none⟩) n cap) l):POwn ((w.setCell ⟨b,i*2,none⟩ (.float .f64 p.1)).setCell ⟨b,i*2+1,none⟩ (.float .f64 p.2)) base (.slice (some ⟨b,0,none⟩) n cap) (l.set i p):=by
 rcases h with ⟨e,-⟩|⟨b',cap',cur,e,h1,h2,h3,h4,h5,h6,h7⟩
 ·cases e
 ·injection e with e1 e2 e3
  injection e1 with e1
  injection e1 with e1
  subst e1;subst e3
  refine Or.inr ⟨b,cap,(cur.setIfInBounds (i*2) (.float .f64 p.1)).setIfInBounds (i*2+1) (.float .f64 p.2),by rw[List.length_set,e2],h1,?_,by rw[List.length_set];exact h3,h4,by simpa using h5,?_,?_⟩
  ·simp only[World.setCell,Array.getElem?_modify,if_true,h2,Option.map_some]
   simp
  ·rw[Array.toList_setIfInBounds,Array.toList_setIfInBounds,List.length_set]
   rw[List.take_set,List.take_set,h6,qbP]
  ·intro u hu
   rw[Array.toList_setIfInBounds] at hu
   rcases List.mem_or_eq_of_mem_set hu with hu|rfl
   ·rw[Array.toList_setIfInBounds] at hu
    rcases List.mem_or_eq_of_mem_set hu with hu|rfl
    ·exact h7 u hu
    ·exact⟨_,rfl⟩
   ·exact⟨_,rfl⟩
theorem POwn.base {w:World} {b c:Nat} {v:Value} {l:List (Nat×Nat)} (h:POwn w b v l) (hbc:c≤b):POwn w c v l:=by
 rcases h with h|⟨g,cap,cur,e,h1,h2⟩
 ·exact Or.inl h
 ·exact Or.inr ⟨g,cap,cur,e,by omega,h2⟩
/-- What appending to a slice of points of our own leaves standing. -/
structure OntoP (base:Nat) (v:Value) (w w':World):Prop where
 h:∀ k,k<w.heap.size→v.ownBlock≠some k→w'.heap[k]? =w.heap[k]?
 s:w.heap.size≤w'.heap.size
 e:w'.os=w.os∧w'.tape=w.tape∧w'.output=w.output
 g:∀ w0:World,w0.heap.size≤base→G w0 w→G w0 w'
theorem OntoP.r {base:Nat} {v:Value} {w w':World} (o:OntoP base v w w') {b:Nat} {L:List Value} (r:Rec w b L) (hne:v.ownBlock≠some b):Rec w' b L:=by
 have hlt:=r.lt
 obtain⟨t,r⟩:=r
 exact⟨t,(o.h b hlt hne).trans r⟩
theorem q1o {base:Nat} {v:Value} {w w':World} (g:G w w'):OntoP base v w w':=by
 refine⟨fun k hk _=> ?_,g.size,?_,fun _ _ h=>G.trans h g⟩
 ·obtain⟨-,-,-,-,g5⟩:=g
  exact g5 k hk
 ·obtain⟨g1,g2,g3,-,-⟩:=g
  exact⟨g1,g2,g3⟩
theorem OntoP.below {base n₀:Nat} {v:Value} {w w':World} {l:List (Nat×Nat)} (o:OntoP base v w w') (h:POwn w base v l) (hn:n₀≤base) (hs:n₀≤w.heap.size):Below n₀ w w':=
 ⟨o.e.1,o.e.2.1,o.e.2.2,o.s,fun k hk=>o.h k (by omega) (h.own (Or.inl (by omega)))⟩
theorem q1f (w:World) (base:Nat) (v:Value) (l m:List (Nat×Nat)) (h:POwn w base v l) (hb:base≤w.heap.size) (a:Addr) (n c:Nat) (hnm:m.length=n) (hsrc:∀ j u,(pl m)[j]? =some u→w.cell? (a.add j)=some u) (hlen:l.length+m.length≤1000000) (hpos:0<m.length):
  ∃ v' w',(Builtin.append_ #[22,22] 22 #[v,.slice (some a) n c]).run Tryz.prog w= .ok v' w'∧POwn w' base v' (l++m)∧OntoP base v w w':=by
 subst hnm
 obtain⟨i,hi,hz,hs,hby⟩:=q7x
 have hl:(pl m).length=m.length*i.size:=by rw[q1L,hs]
 have mM:maxLen=9223372036854775807:=rfl
 have hnew:∀ (old:Nat) (b:Nat),b=w.heap.size→POwn (w.drew.alloc (.cells ((pl l).toArray++(pl m).toArray++Builtin.zeroCells (Value.agg #[.float .f64 0,.float .f64 0]).cells (grownCap w (l.length+m.length) old 32-(l.length+m.length))) 32)) base (.slice (some ⟨b,0,none⟩) (l.length+m.length) (grownCap w (l.length+m.length) old 32)) (l++m):=by
  intro old b hbb
  have hge:=grownCap_ge w (l.length+m.length) old 32
  refine Or.inr ⟨b,_,_,by rw[List.length_append],by omega,by rw[hbb];exact heap_alloc_new w.drew _,by rw[List.length_append];exact hge,grownCap_le_maxLen w _ old _ (by rw[mM];omega),?_,?_,?_⟩
  ·simp only[Array.size_append,List.size_toArray,size_zeroCells,q1L]
   show l.length*2+m.length*2+_*2=_
   omega
  ·rw[q9M]
   simp only[Array.toList_append]
   exact List.take_left' (by simp only[List.length_append,q1L];omega)
  ·intro x hx
   simp only[Array.toList_append,List.mem_append] at hx
   rcases hx with (hx|hx)|hx
   ·exact q35 _ hx
   ·exact q35 _ hx
   ·have hz1:(Value.agg #[.float .f64 0,.float .f64 0]).cells=#[.float .f64 0,.float .f64 0]:=rfl
    rw[hz1] at hx
    simp only[Builtin.zeroCells,Array.toList_map,List.mem_map] at hx
    obtain⟨k,-,rfl⟩:=hx
    have hk:k%(#[.float .f64 0,.float .f64 0]:Array Value).size<2:=Nat.mod_lt _ (by decide)
    generalize k%(#[.float .f64 0,.float .f64 0]:Array Value).size=k' at hk
    rcases k' with _|_|k'
    ·exact⟨0,rfl⟩
    ·exact⟨0,rfl⟩
    ·omega
 rcases h with ⟨rfl,rfl⟩|⟨g,cap,cur,rfl,h1,h2,h3,h4,h5,h6,h7⟩
 ·have hr:=run_append_nil (P:=Tryz.prog) w 22 22 32 i _ Tryz.underlying22 hi hz a m.length c (pl m) hl hsrc hpos (by omega) (by rw[hby];omega)
  have hn:=hnew 0 w.heap.size rfl
  simp only[pl,List.length_nil,Nat.zero_add,List.nil_append,Array.empty_append] at hn hr
  exact⟨_,_,hr,hn,q1o ((G.refl _).drew.alloc _)⟩
 ·by_cases hroom:l.length+m.length≤cap
  ·have hr:=run_append_room (P:=Tryz.prog) w 22 22 32 i Tryz.underlying22 hi g l.length cap cur h2 a m.length c (pl m) hl hsrc (by
    intro u hu
    obtain⟨b,rfl⟩:=q35 u hu
    rfl) hroom (by rw[hs,h5];simp only[q1L];omega)
   rw[hs,q1L] at hr
   refine⟨_,_,hr,Or.inr ⟨g,cap,_,by rw[List.length_append],h1,setRow_heap w g cur _ _ _ h2,by rw[List.length_append];exact hroom,h4,?_,?_,?_⟩,?_⟩
   ·simp only[List.size_toArray,List.length_append,List.length_take,List.length_drop,Array.length_toList,q1L]
    omega
   ·rw[h6,← q9M]
    exact List.take_left' (by rw[q1L])
   ·intro x hx
    simp only[List.mem_append] at hx
    rcases hx with (hx|hx)|hx
    ·exact h7 x (List.mem_of_mem_take hx)
    ·exact q35 _ hx
    ·exact h7 x (List.mem_of_mem_drop hx)
   ·refine⟨fun k hk hne=>setRow_other w g k _ (by intro e;exact hne (by rw[e];rfl)),by simp,⟨rfl,rfl,rfl⟩,fun w0 h0 hg=> ?_⟩
    obtain⟨g1,g2,g3,g4,g5⟩:=hg
    refine⟨g1,g2,g3,by simpa using g4,fun k hk=> ?_⟩
    rw[setRow_other w g k _ (by omega)]
    exact g5 k hk
  ·have holds:∀ j u,(pl l)[j]? =some u→w.cell? ((⟨g,0,none⟩:Addr).add j)=some u:=by
    intro j u hu
    have hj:j<l.length*2:=by rw[← q1L l];exact(List.getElem?_eq_some_iff.1 hu).1
    have hadd:(⟨g,0,none⟩:Addr).add j=⟨g,j,none⟩:=by unfold Addr.add;split<;>simp_all
    rw[hadd]
    simp only[World.cell?,h2]
    rw[← h6,List.getElem?_take,if_pos hj] at hu
    simpa using hu
   have hr:=run_append_grow (P:=Tryz.prog) w 22 22 32 i _ Tryz.underlying22 hi hz ⟨g,0,none⟩ l.length cap (pl l) (by rw[q1L,hs]) holds a m.length c (pl m) hl hsrc (by omega) (by omega) (growslice_fits (by omega) (by rw[hby];omega))
   exact⟨_,_,hr,hnew cap w.heap.size rfl,q1o ((G.refl _).drew.alloc _)⟩
end Go.Proofs.YtdidnnbpdcanlaaGreatDoor.EN
