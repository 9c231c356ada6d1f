/- What is proved here: the reference's far (which of two points is farther from a third), over this seat's translation. -/
import Derived.Test.YtdidnnbpdcanlaaGreatDoorC47
import Derived.Test.YtdidnnbpdcanlaaGreatDoorC41
import Derived.Test.YtdidnnbpdcanlaaGreatDoorC37
import Derived.Test.YtdidnnbpdcanlaaGreatDoorC40
namespace Go.Proofs.YtdidnnbpdcanlaaGreatDoor.EN
open Go.ChangeShapes Go.WideShapes Go.ChangeAt Go.RowKit
theorem qbM (w:World) (u v:Value) (x y:Rat) (K:Nat) (hK:K≤40000) (qx:QB x K) (qy:QB y K) (hu:PR w u x) (hv:PR w v y):
  Calls Tryz.prog 36 #[u,v] w fun e w'=>e= .returned (.int .i64 (x.num*y.den-y.num*x.den).sign)∧G w w':=by
 obtain⟨bx,rfl,hbx,hx⟩:=hu
 obtain⟨b2,rfl,hby,hy⟩:=hv
 exact qbA w bx b2 x y K hK qx qy hbx hby (Or.inl hx) (Or.inl hy)
/-- The square of how far p is from a. -/
def q1s (a p:Nat×Nat):Rat:=Uz (fz p.1-fz a.1)*Uz (fz p.1-fz a.1)+Uz (fz p.2-fz a.2)*Uz (fz p.2-fz a.2)
theorem q8B:∃ K,K≤40000∧∀ a p:Nat×Nat,QB (q1s a p) K:=by
 have hs:∃ M:Nat,M≤100∧∀ x y:Nat,QB (Uz (fz x-fz y)) M:=⟨80,by omega,fun x y=>q15 x y⟩
 obtain⟨M,hM,hs⟩:=hs
 refine⟨M+M+(M+M)+1,by omega,fun a p=> ?_⟩
 have h:=qbD (q23 (hs p.1 a.1) (hs p.1 a.1)) (q23 (hs p.2 a.2) (hs p.2 a.2))
 unfold q1s
 exact h
theorem q80 (a p q:Nat×Nat):((q1s a q).num*(q1s a p).den-(q1s a p).num*(q1s a q).den).sign=(Hull.dist (z2 a) (z2 q)-Hull.dist (z2 a) (z2 p)).sign:=by
 obtain⟨D,hD,hm⟩:=q9C
 have e:∀ p,q1s a p=mkRat (Hull.dist (z2 a) (z2 p)) D:=fun p=>by
  unfold q1s
  rw[hm,hm,q4j hD]
  rfl
 rw[qau,e,e,q5w hD,q3i hD]
theorem q9D (w:World) (px py dx dy bd:Nat) (h1:px<2^64) (h2:py<2^64) (h3:dx<2^64) (h4:dy<2^64) (f1:fex px<2047) (f2:fex py<2047) (f3:fex dx<2047) (f4:fex dy<2047)
  (hd:Rec w bd [.float .f64 dx,.float .f64 dy]):
  Calls Tryz.prog 31 #[.agg #[.float .f64 px,.float .f64 py],.pointer (some ⟨bd,0,none⟩)] w (RetP w (q1s (dx,dy) (px,py))):=by
 have HR1:Hid (∀ w1,_):=fun w1=>q2I w1 px h1 f1
 have HR2:Hid (∀ w1,_):=fun w1=>q2I w1 py h2 f2
 have HR3:Hid (∀ w1,_):=fun w1=>q2I w1 dx h3 f3
 have HR4:Hid (∀ w1,_):=fun w1=>q2I w1 dy h4 f4
 have b1:=q3p px
 have b2:=q3p py
 have b3:=q3p dx
 have b4:=q3p dy
 have b5:=q15 px dx
 have b6:=q15 py dy
 have e1:=q8o (fz px) (fz dx)
 have e2:=q8o (fz py) (fz dy)
 have HD:Hid (Rec w bd [.float .f64 dx,.float .f64 dy]):=hd
 unfold q1s
 dsimp only
 clear hd h1 h2 h3 h4 f1 f2 f3 f4
 generalize Uz (fz px-fz dx)=x at *
 generalize Uz (fz py-fz dy)=y at *
 generalize Uz (fz px)=p1 at *
 generalize Uz (fz py)=p2 at *
 generalize Uz (fz dx)=q1 at *
 generalize Uz (fz dy)=q2 at *
 have mV:Hid (∀ w1 u v,PR w1 u p1→PR w1 v q1→Calls Tryz.prog 32 #[u,v] w1 (RetP w1 x)):=fun w1 u v h k=>by rw[← e1];exact q7X w1 u v p1 q1 80 (by omega) b1 b3 h k
 have HS2:Hid (∀ w1 u v,PR w1 u p2→PR w1 v q2→Calls Tryz.prog 32 #[u,v] w1 (RetP w1 y)):=fun w1 u v h k=>by rw[← e2];exact q7X w1 u v p2 q2 80 (by omega) b2 b4 h k
 have lL:Hid (∀ w1 u v,PR w1 u x→PR w1 v x→_):=fun w1 u v h k=>q5x w1 u v x x 80 (by omega) b5 b5 h k
 have jI:Hid (∀ w1 u v,PR w1 u y→PR w1 v y→_):=fun w1 u v h k=>q5x w1 u v y y 80 (by omega) b6 b6 h k
 have HA:Hid (∀ w1 u v,PR w1 u (x*x)→PR w1 v (y*y)→_):=fun w1 u v h k=>q7k w1 u v (x*x) (y*y) (80+80) (by omega) (q23 b5 b5) (q23 b6 b6) h k
 clear b1 b2 b3 b4 b5 b6 e1 e2
 generalize x*x+y*y=r at *
 generalize x*x=m1 at *
 generalize y*y=m2 at *
 go_enter Tryz.func31,Tryz.ntmps31
 go_wp2_with fail
 obtain⟨w0,aL,g0,hz0,R0⟩:=q0B w [.float .f64 px,.float .f64 py] 32
 rw[aL]
 clear aL
 have HD0:Hid (Rec w0 bd [.float .f64 dx,.float .f64 dy]):=Rec.G HD.out g0
 clear HD
 refine region_each 16 0 #[true,true,true,true,true,true,true,true,true,true,true,true,true,true,true,true] [.is (.pointer (some ⟨w.heap.size,0,none⟩)),.is (.float .f64 px),.any (fun v w'=>PR w' v p1),.is (.pointer (some ⟨bd,0,none⟩)),.is (.float .f64 dx),.any (fun v w'=>PR w' v q1),.any (fun v w'=>PR w' v x),.is (.pointer (some ⟨w.heap.size,1,none⟩)),.is (.float .f64 py),.any (fun v w'=>PR w' v p2),.is (.pointer (some ⟨bd,1,none⟩)),.is (.float .f64 dy),.any (fun v w'=>PR w' v q2),.any (fun v w'=>PR w' v y),.any (fun v w'=>PR w' v x),.any (fun v w'=>PR w' v y)] [some 6,some 7,some 8,some 9,some 10,some 11,some 12,some 13,some 14,some 15,some 16,some 17,some 18,some 19,some 4,some 5] (by kernel_rfl) (by kernel_rfl) rfl (by kernel_rfl) (by repeat (first|exact trivial|refine⟨fun _ _ _ g h=>by first|exact h.G g|exact fun w3 g3=>h w3 (G.trans g g3),?_⟩)) (by kernel_rfl) (by kernel_rfl) ?_
 refine Letters.is ?_
 refine Letters.is ?_
 refine Letters.any fun v2=> ?_
 refine Letters.is ?_
 refine Letters.is ?_
 refine Letters.any fun v5=> ?_
 refine Letters.any fun v6=> ?_
 refine Letters.is ?_
 refine Letters.is ?_
 refine Letters.any fun v9=> ?_
 refine Letters.is ?_
 refine Letters.is ?_
 refine Letters.any fun v12=> ?_
 refine Letters.any fun v13=> ?_
 refine Letters.any fun v14=> ?_
 refine Letters.any fun v15=> ?_
 refine Letters.nil ?_
 intro A hA
 simp only[q0N,Act.put,List.setIfInBounds_toArray,List.set_cons_zero,List.set_cons_succ] at hA
 subst hA
 refine⟨?_,?_⟩
 ·skip
  refine Eaches.cons rfl ?dW (Eaches.cons rfl ?eU (Eaches.cons rfl ?fB (Eaches.cons rfl ?dZ (Eaches.cons rfl ?iA (Eaches.cons rfl ?iB (Eaches.cons rfl ?iC (Eaches.cons rfl ?gT (Eaches.cons rfl ?iD (Eaches.cons rfl ?lK (Eaches.cons rfl ?ja (Eaches.cons rfl ?kU (Eaches.cons rfl ?qM (Eaches.cons rfl ?wz (Eaches.cons rfl ?F9 (Eaches.cons rfl ?Oj (Eaches.nil))))))))))))))))
  case dW|dZ|gT|ja=>
   intro W hW hD K hK
   clear hD
   go_simp
   exact hK.out _ _ ⟨_,rfl,G.refl _,rfl⟩
  case eU|iA|iD|kU=>
   intro W hW hD K hK
   clear hD
   have hR0:=Rec.f2 (Rec.G R0.out hW)
   have ed:=hR0.1
   have ek:=hR0.2.1
   clear hR0
   have Ad:=Rec.f2 (Rec.G HD0.out hW)
   have Ls:=Ad.1
   have Lt:=Ad.2.1
   clear Ad
   go_simp
   exact hK.out _ _ ⟨_,rfl,G.refl _,rfl⟩
  ·intro W hW hD K hK
   clear hD
   go_simp
   go_wp2_with (go_at_call 33;refine Calls.mono (P:=Tryz.prog) (HR1.out W) ?_;intro e w9 hs;obtain⟨u9,rfl,g9,aH⟩:=hs)
   exact hK.out _ _ ⟨_,rfl,g9,aH⟩
  ·intro W hW hD K hK
   clear hD
   go_simp
   go_wp2_with (go_at_call 33;refine Calls.mono (P:=Tryz.prog) (HR3.out W) ?_;intro e w9 hs;obtain⟨u9,rfl,g9,aH⟩:=hs)
   exact hK.out _ _ ⟨_,rfl,g9,aH⟩
  ·intro W hW hD K hK
   have h2:=Deps.get (v:=v2) 2 hD rfl rfl (by kernel_rfl)
   have h5:=Deps.get (v:=v5) 5 hD rfl rfl (by kernel_rfl)
   clear hD
   go_simp
   go_wp2_with (go_at_call 32;refine Calls.mono (P:=Tryz.prog) (mV.out W v2 v5 h2 h5) ?_;intro e w9 hs;obtain⟨u9,rfl,g9,aH⟩:=hs)
   exact hK.out _ _ ⟨_,rfl,g9,aH⟩
  ·intro W hW hD K hK
   clear hD
   go_simp
   go_wp2_with (go_at_call 33;refine Calls.mono (P:=Tryz.prog) (HR2.out W) ?_;intro e w9 hs;obtain⟨u9,rfl,g9,aH⟩:=hs)
   exact hK.out _ _ ⟨_,rfl,g9,aH⟩
  ·intro W hW hD K hK
   clear hD
   go_simp
   go_wp2_with (go_at_call 33;refine Calls.mono (P:=Tryz.prog) (HR4.out W) ?_;intro e w9 hs;obtain⟨u9,rfl,g9,aH⟩:=hs)
   exact hK.out _ _ ⟨_,rfl,g9,aH⟩
  ·intro W hW hD K hK
   have h9:=Deps.get (v:=v9) 9 hD rfl rfl (by kernel_rfl)
   have h12:=Deps.get (v:=v12) 12 hD rfl rfl (by kernel_rfl)
   clear hD
   go_simp
   go_wp2_with (go_at_call 32;refine Calls.mono (P:=Tryz.prog) (HS2.out W v9 v12 h9 h12) ?_;intro e w9 hs;obtain⟨u9,rfl,g9,aH⟩:=hs)
   exact hK.out _ _ ⟨_,rfl,g9,aH⟩
  ·intro W hW hD K hK
   have h6:=Deps.get (v:=v6) 6 hD rfl rfl (by kernel_rfl)
   clear hD
   go_simp
   exact hK.out _ _ ⟨_,rfl,G.refl _,h6⟩
  ·intro W hW hD K hK
   have wD:=Deps.get (v:=v13) 13 hD rfl rfl (by kernel_rfl)
   clear hD
   go_simp
   exact hK.out _ _ ⟨_,rfl,G.refl _,wD⟩
 intro w1 g1 hH
 have Gs:=Helds.get (v:=v14) 14 hH rfl rfl
 have Ol:=Helds.get (v:=v15) 15 hH rfl rfl
 clear hH
 refine wpAny_done (by kernel_rfl) ?_ _
 have fG:=G.trans g0 g1
 have HX:Hid (PR w1 v14 x):=Gs
 have HY:Hid (PR w1 v15 y):=Ol
 clear Gs Ol HD0 R0 g0 g1 hz0
 go_wp2_with fail
 refine Calls.mono (P:=Tryz.prog) (lL.out w1 v14 v14 HX.out HX.out) ?_
 rintro e2 w2 ⟨u2,rfl,g2,k2⟩
 have kF:Hid (PR w2 u2 m1):=k2
 clear k2
 go_wp2_with fail
 refine Calls.mono (P:=Tryz.prog) (jI.out w2 v15 v15 (HY.out.G g2) (HY.out.G g2)) ?_
 rintro e3 w3 ⟨u3,rfl,g3,k3⟩
 have Om:Hid (PR w3 u3 m2):=k3
 clear k3
 go_wp2_with fail
 refine Calls.mono (P:=Tryz.prog) (HA.out w3 u2 u3 (kF.out.G g3) Om.out) ?_
 rintro e4 w4 ⟨u4,rfl,g4,k4⟩
 have uZ:Hid (PR w4 u4 r):=k4
 have g14:=G.trans fG (G.trans g2 (G.trans g3 g4))
 clear k4 g2 g3 g4 HX HY kF Om HA lL jI
 go_wp2_with fail
 go_ret
 exact⟨_,rfl,g14,uZ.out⟩
theorem qcj (w:World) (a p q:Nat×Nat) (ha:PtOk a) (hp:PtOk p) (hq:PtOk q):
  Calls Tryz.prog 30 #[.agg #[.float .f64 a.1,.float .f64 a.2],.agg #[.float .f64 p.1,.float .f64 p.2],.agg #[.float .f64 q.1,.float .f64 q.2]] w fun e w'=>e= .returned (.bool (decide (Hull.dist (z2 a) (z2 p)<Hull.dist (z2 a) (z2 q))))∧G w w':=by
 have H1:Hid (∀ w1 b,Rec w1 b [.float .f64 a.1,.float .f64 a.2]→_):=fun w1 b h=>q9D w1 p.1 p.2 a.1 a.2 b hp.1 hp.2.1 ha.1 ha.2.1 hp.2.2.1 hp.2.2.2 ha.2.2.1 ha.2.2.2 h
 have H2:Hid (∀ w1 b,Rec w1 b [.float .f64 a.1,.float .f64 a.2]→_):=fun w1 b h=>q9D w1 q.1 q.2 a.1 a.2 b hq.1 hq.2.1 ha.1 ha.2.1 hq.2.2.1 hq.2.2.2 ha.2.2.1 ha.2.2.2 h
 obtain⟨KQ,Oo,qw⟩:=q8B
 have HC:Hid (∀ w1 u v,PR w1 u (q1s a q)→PR w1 v (q1s a p)→_):=fun w1 u v h k=>qbM w1 u v _ _ KQ Oo (qw _ _) (qw _ _) h k
 clear qw Oo
 have hr:Hid (decide (0<((q1s a q).num*(q1s a p).den-(q1s a p).num*(q1s a q).den).sign)=decide (Hull.dist (z2 a) (z2 p)<Hull.dist (z2 a) (z2 q))):=by
  show _=_
  rw[q80,decide_eq_decide]
  rw[Int.sign_pos_iff]
  omega
 rw[← hr.out]
 clear hr ha hp hq
 generalize ((q1s a q).num*(q1s a p).den-(q1s a p).num*(q1s a q).den).sign=z at *
 obtain⟨ax,ay⟩:=a
 obtain⟨px,py⟩:=p
 obtain⟨qx,qy⟩:=q
 dsimp only at *
 generalize q1s (ax,ay) (px,py)=d1 at *
 generalize q1s (ax,ay) (qx,qy)=d2 at *
 go_enter Tryz.func30,Tryz.ntmps30
 go_wp2_with fail
 obtain⟨w0,aL,g0,hz0,R0,R1,R2⟩:=q1t w [.float .f64 ax,.float .f64 ay] [.float .f64 px,.float .f64 py] [.float .f64 qx,.float .f64 qy] 32 32 32
 rw[aL]
 clear aL
 refine region_each 7 2 #[true,true,true,true,true,true,true,false,false] [.is (.func (.func 31) #[] #[.pointer (some ⟨w.heap.size,0,none⟩)]),.is (.agg #[.float .f64 qx,.float .f64 qy]),.any (fun v w'=>PR w' v d2),.is (.func (.func 31) #[] #[.pointer (some ⟨w.heap.size,0,none⟩)]),.is (.agg #[.float .f64 px,.float .f64 py]),.any (fun v w'=>PR w' v d1),.is (.int .i64 z)] [some 9,some 10,some 11,some 12,some 13,some 14,some 15] (by kernel_rfl) (by kernel_rfl) rfl (by kernel_rfl) (by repeat (first|exact trivial|refine⟨fun _ _ _ g h=>by first|exact h.G g|exact fun w3 g3=>h w3 (G.trans g g3),?_⟩)) (by kernel_rfl) (by kernel_rfl) ?_
 refine Letters.is ?_
 refine Letters.is ?_
 refine Letters.any fun v2=> ?_
 refine Letters.is ?_
 refine Letters.is ?_
 refine Letters.any fun v5=> ?_
 refine Letters.is ?_
 refine Letters.nil ?_
 intro A hA
 simp only[q0N,Act.put,List.setIfInBounds_toArray,List.set_cons_zero,List.set_cons_succ] at hA
 subst hA
 refine⟨?_,?_⟩
 ·skip
  refine Eaches.cons rfl ?gN (Eaches.cons rfl ?iU (Eaches.cons rfl ?iV (Eaches.cons rfl ?iW (Eaches.cons rfl ?iX (Eaches.cons rfl ?kH (Eaches.cons rfl ?kI (Eaches.nil)))))))
  case gN|iW=>
   intro W hW hD K hK
   clear hD
   go_simp
   exact hK.out _ _ ⟨_,rfl,G.refl _,rfl⟩
  case iU|iX=>
   intro W hW hD K hK
   clear hD
   have hR0:=Rec.f2 (Rec.G R0.out hW)
   have ed:=hR0.1
   have ek:=hR0.2.1
   clear hR0
   have eu:=Rec.f2 (Rec.G R1.out hW)
   have jb:=eu.1
   have jc:=eu.2.1
   clear eu
   have hR2:=Rec.f2 (Rec.G R2.out hW)
   have wV:=hR2.1
   have wW:=hR2.2.1
   clear hR2
   go_simp
   exact hK.out _ _ ⟨_,rfl,G.refl _,rfl⟩
  ·intro W hW hD K hK
   clear hD
   go_simp
   go_wp2_with (go_at_call 31;refine Calls.mono (P:=Tryz.prog) (H2.out W _ (Rec.G R0.out hW)) ?_;intro e w9 hs;obtain⟨u9,rfl,g9,aH⟩:=hs)
   exact hK.out _ _ ⟨_,rfl,g9,aH⟩
  ·intro W hW hD K hK
   clear hD
   go_simp
   go_wp2_with (go_at_call 31;refine Calls.mono (P:=Tryz.prog) (H1.out W _ (Rec.G R0.out hW)) ?_;intro e w9 hs;obtain⟨u9,rfl,g9,aH⟩:=hs)
   exact hK.out _ _ ⟨_,rfl,g9,aH⟩
  ·intro W hW hD K hK
   have h2:=Deps.get (v:=v2) 2 hD rfl rfl (by kernel_rfl)
   have h5:=Deps.get (v:=v5) 5 hD rfl rfl (by kernel_rfl)
   clear hD
   go_simp
   go_wp2_with (go_at_call 36;refine Calls.mono (P:=Tryz.prog) (HC.out W v2 v5 h2 h5) ?_;intro e w9 hs;obtain⟨rfl,g9⟩:=hs)
   exact hK.out _ _ ⟨_,rfl,g9,rfl⟩
 intro w1 g1 hH
 clear hH
 refine wpAny_ready (rs:=[7]) (by kernel_rfl) (by simp) ?_
 refine AllReady.cons rfl (fun K hK=> ?_) AllReady.nil
 go_simp
 refine hK _ _ ?_
 clear hK K
 refine wpAny_ready (rs:=[8]) (by kernel_rfl) (by simp) ?_
 refine AllReady.cons rfl (fun K hK=> ?_) AllReady.nil
 go_simp
 refine hK _ _ ?_
 clear hK K
 refine wpAny_done (by kernel_rfl) ?_ _
 go_wp2_with fail
 go_ret
 exact⟨rfl,G.trans g0 g1⟩
end Go.Proofs.YtdidnnbpdcanlaaGreatDoor.EN
