/- What is proved here: the reference's sums, differences and products of fractions of any size, over this seat's translation.
What is proved here: contracts of the reference: Left, over this seat's translation.
What is proved here: where a way has a point's height, and on which side the point lies, in units, over this seat's translation (no program).
What is proved here: contracts of the law's helpers: Lend, over this seat's translation. -/
import Derived.Test.YtdidnnbpdcanlaaGreatDoorC40
import Derived.Test.YtdidnnbpdcanlaaGreatDoorC34
import Derived.Test.YtdidnnbpdcanlaaGreatDoorC34
import Derived.Test.YtdidnnbpdcanlaaGreatDoorC2
import Derived.Test.YtdidnnbpdcanlaaGreatDoorC33
import Derived.Test.YtdidnnbpdcanlaaGreatDoorC1
import Derived.Test.YtdidnnbpdcanlaaGreatDoorC9
import Derived.Test.YtdidnnbpdcanlaaGreatDoorC1
import Derived.Test.YtdidnnbpdcanlaaGreatDoorC34
import Derived.Deep.Upon
import Derived.Test.YtdidnnbpdcanlaaGreatDoorC32
import Derived.Test.YtdidnnbpdcanlaaGreatDoorC18
import Derived.Test.YtdidnnbpdcanlaaGreatDoorC34
import Derived.Test.YtdidnnbpdcanlaaGreatDoorC20
namespace Go.Proofs.YtdidnnbpdcanlaaGreatDoor.EN
open Go.ChangeShapes Go.WideShapes Go.ChangeAt Go.RowKit
/-- A pointer to a fraction. -/
def PR (w:World) (v:Value) (q:Rat):Prop:=∃ p,v= .pointer (some ⟨p,0,none⟩)∧p<w.heap.size∧RIs w p q
theorem PR.G {w w':World} {v:Value} {q:Rat} (h:PR w v q) (g:G w w'):PR w' v q:=by
 obtain⟨p,e,h1,h2⟩:=h
 exact⟨p,e,G.lt g h1,h2.G h1 g⟩
def RetP (w:World) (q:Rat) (e:Ending) (w':World):Prop:=∃ v,e= .returned v∧G w w'∧PR w' v q
theorem RetRat.p {w:World} {q:Rat} {e:Ending} {w':World} (h:RetRat w q e w'):RetP w q e w':=by
 obtain⟨p,e1,g,-,h1,h2⟩:=h
 exact⟨_,e1,g,p,rfl,h1,h2⟩
theorem q2I (w:World) (b:Nat) (h:b<2^64) (hf:fex b<2047):Calls Tryz.prog 33 #[.float .f64 b] w (RetP w (Uz (fz b))):=
 (qbF w b h hf).mono fun _ _ h=>RetRat.p h
theorem q7k (w:World) (u v:Value) (x y:Rat) (K:Nat) (hK:K≤40000) (qx:QB x K) (qy:QB y K) (hu:PR w u x) (hv:PR w v y):Calls Tryz.prog 34 #[u,v] w (RetP w (x+y)):=by
 obtain⟨bx,rfl,hbx,hx⟩:=hu
 obtain⟨b2,rfl,hby,hy⟩:=hv
 have HS:Hid (∀ w1 p,G w w1→p<w1.heap.size→RatIs w1 p 0 0→_):=fun w1 p g hp hr=>qbG w1 p bx b2 0 0 x y K hK qx qy hp (G.lt g hbx) (G.lt g hby) hr (hx.G hbx g) (hy.G hby g)
 generalize x+y=q at *
 clear qx qy hx hy
 go_enter Tryz.func34,Tryz.ntmps34
 go_wp2_with fail
 have hr0:=q3N w 85
 have hga:=(G.refl w).alloc (.cells #[.bool false,.slice none 0 0,.bool false,.slice none 0 0] 85)
 have hzs:w.heap.size<(w.alloc (.cells #[.bool false,.slice none 0 0,.bool false,.slice none 0 0] 85)).heap.size:=by simp
 have hz0:w.heap.size≤w.heap.size:=Nat.le_refl _
 generalize w.alloc (.cells #[.bool false,.slice none 0 0,.bool false,.slice none 0 0] 85)=w3 at *
 refine Calls.mono (P:=Tryz.prog) (HS.out w3 _ hga hzs hr0) ?_
 intro e w4 hs
 obtain⟨p,rfl,k1,k2,k3,k4⟩:=SetRat.ret hga hz0 hzs hs
 have uZ:Hid (RIs w4 p q):=k4
 clear hs k4 HS
 go_wp2_with fail
 go_ret
 exact⟨_,rfl,k1,p,rfl,k3,uZ.out⟩
theorem q7X (w:World) (u v:Value) (x y:Rat) (K:Nat) (hK:K≤40000) (qx:QB x K) (qy:QB y K) (hu:PR w u x) (hv:PR w v y):Calls Tryz.prog 32 #[u,v] w (RetP w (x-y)):=by
 obtain⟨bx,rfl,hbx,hx⟩:=hu
 obtain⟨b2,rfl,hby,hy⟩:=hv
 have HS:Hid (∀ w1 p,G w w1→p<w1.heap.size→RatIs w1 p 0 0→_):=fun w1 p g hp hr=>qb4 w1 p bx b2 0 0 x y K hK qx qy hp (G.lt g hbx) (G.lt g hby) hr (hx.G hbx g) (hy.G hby g)
 generalize x-y=q at *
 clear qx qy hx hy
 go_enter Tryz.func32,Tryz.ntmps32
 go_wp2_with fail
 have hr0:=q3N w 85
 have hga:=(G.refl w).alloc (.cells #[.bool false,.slice none 0 0,.bool false,.slice none 0 0] 85)
 have hzs:w.heap.size<(w.alloc (.cells #[.bool false,.slice none 0 0,.bool false,.slice none 0 0] 85)).heap.size:=by simp
 have hz0:w.heap.size≤w.heap.size:=Nat.le_refl _
 generalize w.alloc (.cells #[.bool false,.slice none 0 0,.bool false,.slice none 0 0] 85)=w3 at *
 refine Calls.mono (P:=Tryz.prog) (HS.out w3 _ hga hzs hr0) ?_
 intro e w4 hs
 obtain⟨p,rfl,k1,k2,k3,k4⟩:=SetRat.ret hga hz0 hzs hs
 have uZ:Hid (RIs w4 p q):=k4
 clear hs k4 HS
 go_wp2_with fail
 go_ret
 exact⟨_,rfl,k1,p,rfl,k3,uZ.out⟩
theorem q5x (w:World) (u v:Value) (x y:Rat) (K:Nat) (hK:K≤40000) (qx:QB x K) (qy:QB y K) (hu:PR w u x) (hv:PR w v y):Calls Tryz.prog 35 #[u,v] w (RetP w (x*y)):=by
 obtain⟨bx,rfl,hbx,hx⟩:=hu
 obtain⟨b2,rfl,hby,hy⟩:=hv
 have HS:Hid (∀ w1 p,G w w1→p<w1.heap.size→RatIs w1 p 0 0→_):=fun w1 p g hp hr=>qbJ w1 p bx b2 0 0 x y K hK qx qy hp (G.lt g hbx) (G.lt g hby) hr (hx.G hbx g) (hy.G hby g)
 generalize x*y=q at *
 clear qx qy hx hy
 go_enter Tryz.func35,Tryz.ntmps35
 go_wp2_with fail
 have hr0:=q3N w 85
 have hga:=(G.refl w).alloc (.cells #[.bool false,.slice none 0 0,.bool false,.slice none 0 0] 85)
 have hzs:w.heap.size<(w.alloc (.cells #[.bool false,.slice none 0 0,.bool false,.slice none 0 0] 85)).heap.size:=by simp
 have hz0:w.heap.size≤w.heap.size:=Nat.le_refl _
 generalize w.alloc (.cells #[.bool false,.slice none 0 0,.bool false,.slice none 0 0] 85)=w3 at *
 refine Calls.mono (P:=Tryz.prog) (HS.out w3 _ hga hzs hr0) ?_
 intro e w4 hs
 obtain⟨p,rfl,k1,k2,k3,k4⟩:=SetRat.ret hga hz0 hzs hs
 have uZ:Hid (RIs w4 p q):=k4
 clear hs k4 HS
 go_wp2_with fail
 go_ret
 exact⟨_,rfl,k1,p,rfl,k3,uZ.out⟩
theorem qaa (w:World) (u:Value) (x:Rat) (hu:PR w u x):Calls Tryz.prog 54 #[u] w fun e w'=>e= .returned (.int .i64 x.num.sign)∧G w w':=by
 obtain⟨b,rfl,hb,hx⟩:=hu
 exact qaz w b x.num x.den hx
theorem q7q (w:World) (px py qx qy:Nat) (h1:px<2^64) (h2:py<2^64) (h3:qx<2^64) (h4:qy<2^64) (f1:fex px<2047) (f2:fex py<2047) (f3:fex qx<2047) (f4:fex qy<2047):
  Calls Tryz.prog 79 #[.agg #[.float .f64 px,.float .f64 py],.agg #[.float .f64 qx,.float .f64 qy]] w (RetP w (Uz (fz px)*Uz (fz qy)-Uz (fz qx)*Uz (fz py))):=by
 have HR1:Hid (∀ w1,_):=fun w1=>q2I w1 px h1 f1
 have HR2:Hid (∀ w1,_):=fun w1=>q2I w1 py h2 f2
 have HR3:Hid (∀ w1,_):=fun w1=>q2I w1 qx h3 f3
 have HR4:Hid (∀ w1,_):=fun w1=>q2I w1 qy h4 f4
 have b1:=q3p px
 have b2:=q3p py
 have b3:=q3p qx
 have b4:=q3p qy
 clear h1 h2 h3 h4 f1 f2 f3 f4
 generalize Uz (fz px)=p1 at *
 generalize Uz (fz py)=p2 at *
 generalize Uz (fz qx)=q1 at *
 generalize Uz (fz qy)=q2 at *
 have lL:Hid (∀ w1 u v,PR w1 u p1→PR w1 v q2→_):=fun w1 u v h k=>q5x w1 u v p1 q2 80 (by omega) b1 b4 h k
 have jI:Hid (∀ w1 u v,PR w1 u q1→PR w1 v p2→_):=fun w1 u v h k=>q5x w1 u v q1 p2 80 (by omega) b3 b2 h k
 have HS:Hid (∀ w1 u v,PR w1 u (p1*q2)→PR w1 v (q1*p2)→_):=fun w1 u v h k=>q7X w1 u v (p1*q2) (q1*p2) (80+80) (by omega) (q23 b1 b4) (q23 b3 b2) h k
 clear b1 b2 b3 b4
 generalize p1*q2-q1*p2=r at *
 generalize p1*q2=m1 at *
 generalize q1*p2=m2 at *
 go_enter Tryz.func79,Tryz.ntmps79
 go_wp2_with fail
 obtain⟨w0,aL,g0,hz0,R0,R1⟩:=q2s w [.float .f64 px,.float .f64 py] [.float .f64 qx,.float .f64 qy] 32 32
 rw[aL]
 clear aL
 refine region_each 15 1 #[true,true,true,true,true,true,true,true,true,true,true,true,true,true,true,false] [.is (.pointer (some ⟨w.heap.size,0,none⟩)),.is (.float .f64 px),.any (fun v w'=>PR w' v p1),.is (.pointer (some ⟨w.heap.size+1,1,none⟩)),.is (.float .f64 qy),.any (fun v w'=>PR w' v q2),.any (fun v w'=>PR w' v m1),.is (.pointer (some ⟨w.heap.size+1,0,none⟩)),.is (.float .f64 qx),.any (fun v w'=>PR w' v q1),.is (.pointer (some ⟨w.heap.size,1,none⟩)),.is (.float .f64 py),.any (fun v w'=>PR w' v p2),.any (fun v w'=>PR w' v m2),.any (fun v w'=>PR w' v r)] [some 5,some 6,some 7,some 8,some 9,some 10,some 11,some 12,some 13,some 14,some 15,some 16,some 17,some 18,some 19] (by kernel_rfl) (by kernel_rfl) rfl (by kernel_rfl) (by repeat (first|exact trivial|refine⟨fun _ _ _ g h=>by first|exact h.G g|exact fun w3 g3=>h w3 (G.trans g g3),?_⟩)) (by kernel_rfl) (by kernel_rfl) ?_
 refine Letters.is ?_
 refine Letters.is ?_
 refine Letters.any fun v2=> ?_
 refine Letters.is ?_
 refine Letters.is ?_
 refine Letters.any fun v5=> ?_
 refine Letters.any fun v6=> ?_
 refine Letters.is ?_
 refine Letters.is ?_
 refine Letters.any fun v9=> ?_
 refine Letters.is ?_
 refine Letters.is ?_
 refine Letters.any fun v12=> ?_
 refine Letters.any fun v13=> ?_
 refine Letters.any fun v14=> ?_
 refine Letters.nil ?_
 intro A hA
 simp only[q0N,Act.put,List.setIfInBounds_toArray,List.set_cons_zero,List.set_cons_succ] at hA
 subst hA
 refine⟨?_,?_⟩
 ·skip
  refine Eaches.cons rfl ?dW (Eaches.cons rfl ?eU (Eaches.cons rfl ?fB (Eaches.cons rfl ?dZ (Eaches.cons rfl ?iA (Eaches.cons rfl ?iB (Eaches.cons rfl ?iC (Eaches.cons rfl ?gT (Eaches.cons rfl ?iD (Eaches.cons rfl ?lK (Eaches.cons rfl ?ja (Eaches.cons rfl ?kU (Eaches.cons rfl ?qM (Eaches.cons rfl ?wz (Eaches.cons rfl ?F9 (Eaches.nil)))))))))))))))
  case dW|dZ|gT|ja=>
   intro W hW hD K hK
   clear hD
   go_simp
   exact hK.out _ _ ⟨_,rfl,G.refl _,rfl⟩
  case eU|iA|iD|kU=>
   intro W hW hD K hK
   clear hD
   have hR0:=Rec.f2 (Rec.G R0.out hW)
   have ed:=hR0.1
   have ek:=hR0.2.1
   clear hR0
   have eu:=Rec.f2 (Rec.G R1.out hW)
   have jb:=eu.1
   have jc:=eu.2.1
   clear eu
   go_simp
   exact hK.out _ _ ⟨_,rfl,G.refl _,rfl⟩
  ·intro W hW hD K hK
   clear hD
   go_simp
   go_wp2_with (go_at_call 33;refine Calls.mono (P:=Tryz.prog) (HR1.out W) ?_;intro e w9 hs;obtain⟨u9,rfl,g9,aH⟩:=hs)
   exact hK.out _ _ ⟨_,rfl,g9,aH⟩
  ·intro W hW hD K hK
   clear hD
   go_simp
   go_wp2_with (go_at_call 33;refine Calls.mono (P:=Tryz.prog) (HR4.out W) ?_;intro e w9 hs;obtain⟨u9,rfl,g9,aH⟩:=hs)
   exact hK.out _ _ ⟨_,rfl,g9,aH⟩
  ·intro W hW hD K hK
   have h2:=Deps.get (v:=v2) 2 hD rfl rfl (by kernel_rfl)
   have h5:=Deps.get (v:=v5) 5 hD rfl rfl (by kernel_rfl)
   clear hD
   go_simp
   go_wp2_with (go_at_call 35;refine Calls.mono (P:=Tryz.prog) (lL.out W v2 v5 h2 h5) ?_;intro e w9 hs;obtain⟨u9,rfl,g9,aH⟩:=hs)
   exact hK.out _ _ ⟨_,rfl,g9,aH⟩
  ·intro W hW hD K hK
   clear hD
   go_simp
   go_wp2_with (go_at_call 33;refine Calls.mono (P:=Tryz.prog) (HR3.out W) ?_;intro e w9 hs;obtain⟨u9,rfl,g9,aH⟩:=hs)
   exact hK.out _ _ ⟨_,rfl,g9,aH⟩
  ·intro W hW hD K hK
   clear hD
   go_simp
   go_wp2_with (go_at_call 33;refine Calls.mono (P:=Tryz.prog) (HR2.out W) ?_;intro e w9 hs;obtain⟨u9,rfl,g9,aH⟩:=hs)
   exact hK.out _ _ ⟨_,rfl,g9,aH⟩
  ·intro W hW hD K hK
   have h9:=Deps.get (v:=v9) 9 hD rfl rfl (by kernel_rfl)
   have h12:=Deps.get (v:=v12) 12 hD rfl rfl (by kernel_rfl)
   clear hD
   go_simp
   go_wp2_with (go_at_call 35;refine Calls.mono (P:=Tryz.prog) (jI.out W v9 v12 h9 h12) ?_;intro e w9 hs;obtain⟨u9,rfl,g9,aH⟩:=hs)
   exact hK.out _ _ ⟨_,rfl,g9,aH⟩
  ·intro W hW hD K hK
   have h6:=Deps.get (v:=v6) 6 hD rfl rfl (by kernel_rfl)
   have wD:=Deps.get (v:=v13) 13 hD rfl rfl (by kernel_rfl)
   clear hD
   go_simp
   go_wp2_with (go_at_call 32;refine Calls.mono (P:=Tryz.prog) (HS.out W v6 v13 h6 wD) ?_;intro e w9 hs;obtain⟨u9,rfl,g9,aH⟩:=hs)
   exact hK.out _ _ ⟨_,rfl,g9,aH⟩
 intro w1 g1 hH
 have Gs:=Helds.get (v:=v14) 14 hH rfl rfl
 clear hH
 refine wpAny_ready (rs:=[15]) (by kernel_rfl) (by simp) ?_
 refine AllReady.cons rfl (fun K hK=> ?_) AllReady.nil
 go_simp
 refine hK _ _ ?_
 clear hK K
 refine wpAny_done (by kernel_rfl) ?_ _
 go_wp2_with fail
 go_ret
 exact⟨v14,rfl,G.trans g0 g1,Gs⟩
theorem qbo (a b c d e f:Int):a*d-c*b+(c*f-e*d+(e*b-a*f))=(c-a)*(f-b)-(d-b)*(e-a):=by grind
theorem q6B (a b c d e f:Int) {F:Nat} (hF:F≤2100) (ha:a.natAbs<2^F) (hb:b.natAbs<2^F) (hc:c.natAbs<2^F) (hd:d.natAbs<2^F) (he:e.natAbs<2^F) (hf:f.natAbs<2^F):
  QB (Uz a*Uz d-Uz c*Uz b) 80∧QB (Uz c*Uz f-Uz e*Uz d) 80∧QB (Uz e*Uz b-Uz a*Uz f) 80∧QB (Uz c*Uz f-Uz e*Uz d+(Uz e*Uz b-Uz a*Uz f)) 80∧
  (Uz a*Uz d-Uz c*Uz b+(Uz c*Uz f-Uz e*Uz d+(Uz e*Uz b-Uz a*Uz f))).num.sign=((c-a)*(f-b)-(d-b)*(e-a)).sign:=by
 obtain⟨D,E,hE,hD,Fa,hm⟩:=q7p
 rw[← qbo]
 simp only[hm,q4j hD,q5w hD]
 have x1:=q1k (q0e ha hd) (q0e hc hb)
 have x2:=q1k (q0e hc hf) (q0e he hd)
 have x3:=q1k (q0e he hb) (q0e ha hf)
 have x4:=q1D x2 x3
 generalize a*d-c*b=X1 at *
 generalize c*f-e*d=X2 at *
 generalize e*b-a*f=X3 at *
 obtain⟨M,hM⟩:∃ M:Nat,M=F+F+1+1:=⟨_,rfl⟩
 have up:∀ z:Int,z.natAbs<2^(F+F+1)→z.natAbs<2^M:=fun z hz=>Nat.lt_of_lt_of_le hz (Nat.pow_le_pow_right (by omega) (by omega))
 rw[← hM] at x4
 obtain⟨K,hK⟩:∃ K:Nat,K=80:=⟨_,rfl⟩
 rw[← hK]
 have q1:∀ z:Int,z.natAbs<2^M→QB (mkRat z D) K:=fun z hz=>
  q6r hD rfl (Nat.lt_of_lt_of_le hz (Nat.pow_le_pow_right (by omega) (by omega))) (Nat.lt_of_lt_of_le Fa (Nat.pow_le_pow_right (by omega) (by omega)))
 exact⟨q1 _ (up _ x1),q1 _ (up _ x2),q1 _ (up _ x3),q1 _ x4,q3i hD _⟩
theorem qb8 (w:World) (ax ay bx b2 cx cy:Nat) (h1:ax<2^64) (h2:ay<2^64) (h3:bx<2^64) (h4:b2<2^64) (h5:cx<2^64) (h6:cy<2^64)
  (f1:fex ax<2047) (f2:fex ay<2047) (f3:fex bx<2047) (f4:fex b2<2047) (f5:fex cx<2047) (f6:fex cy<2047):
  Calls Tryz.prog 37 #[.agg #[.float .f64 ax,.float .f64 ay],.agg #[.float .f64 bx,.float .f64 b2],.agg #[.float .f64 cx,.float .f64 cy]] w fun e w'=>e= .returned (.int .i64 (q2O ax ay bx b2 cx cy).sign)∧G w w':=by
 have HA1:Hid (∀ w1,_):=fun w1=>q7q w1 ax ay bx b2 h1 h2 h3 h4 f1 f2 f3 f4
 have HA2:Hid (∀ w1,_):=fun w1=>q7q w1 bx b2 cx cy h3 h4 h5 h6 f3 f4 f5 f6
 have uY:Hid (∀ w1,_):=fun w1=>q7q w1 cx cy ax ay h5 h6 h1 h2 f5 f6 f1 f2
 obtain⟨k1,k2,k3,k4,k5⟩:=q6B (fz ax) (fz ay) (fz bx) (fz b2) (fz cx) (fz cy) (F:=2099) (by omega) (q33 _) (q33 _) (q33 _) (q33 _) (q33 _) (q33 _)
 clear h1 h2 h3 h4 h5 h6 f1 f2 f3 f4 f5 f6
 unfold q2O
 generalize ((fz bx-fz ax)*(fz cy-fz ay)-(fz b2-fz ay)*(fz cx-fz ax)).sign=z at *
 generalize Uz (fz ax)*Uz (fz b2)-Uz (fz bx)*Uz (fz ay)=p at *
 generalize Uz (fz bx)*Uz (fz cy)-Uz (fz cx)*Uz (fz b2)=q at *
 generalize Uz (fz cx)*Uz (fz ay)-Uz (fz ax)*Uz (fz cy)=r at *
 have mV:Hid (∀ w1 u v,PR w1 u q→PR w1 v r→_):=fun w1 u v h k=>q7k w1 u v q r 80 (by omega) k2 k3 h k
 have HS2:Hid (∀ w1 u v,PR w1 u p→PR w1 v (q+r)→_):=fun w1 u v h k=>q7k w1 u v p (q+r) 80 (by omega) k1 k4 h k
 have Bo:Hid (∀ w1 v,PR w1 v (p+(q+r))→Calls Tryz.prog 54 #[v] w1 fun e w'=>e= .returned (.int .i64 z)∧G w1 w'):=fun w1 v h=>by
  have k:=qaa w1 v _ h
  rw[k5] at k
  exact k
 clear k1 k2 k3 k4 k5
 generalize p+(q+r)=s2 at *
 generalize q+r=s1 at *
 go_enter Tryz.func37,Tryz.ntmps37
 go_wp2_with fail
 obtain⟨w0,aL,g0,hz0,R0,R1,R2⟩:=q1t w [.float .f64 ax,.float .f64 ay] [.float .f64 bx,.float .f64 b2] [.float .f64 cx,.float .f64 cy] 32 32 32
 rw[aL]
 clear aL
 refine region_each 15 1 #[true,true,true,true,true,true,true,true,true,true,true,true,true,true,true,false] [.is (.func (.func 79) #[] #[]),.is (.agg #[.float .f64 ax,.float .f64 ay]),.is (.agg #[.float .f64 bx,.float .f64 b2]),.any (fun v w'=>PR w' v p),.is (.func (.func 79) #[] #[]),.is (.agg #[.float .f64 bx,.float .f64 b2]),.is (.agg #[.float .f64 cx,.float .f64 cy]),.any (fun v w'=>PR w' v q),.is (.func (.func 79) #[] #[]),.is (.agg #[.float .f64 cx,.float .f64 cy]),.is (.agg #[.float .f64 ax,.float .f64 ay]),.any (fun v w'=>PR w' v r),.any (fun v w'=>PR w' v s1),.any (fun v w'=>PR w' v s2),.is (.int .i64 z)] [some 8,some 9,some 10,some 11,some 12,some 13,some 14,some 15,some 16,some 17,some 18,some 19,some 20,some 21,some 22] (by kernel_rfl) (by kernel_rfl) rfl (by kernel_rfl) (by repeat (first|exact trivial|refine⟨fun _ _ _ g h=>by first|exact h.G g|exact fun w3 g3=>h w3 (G.trans g g3),?_⟩)) (by kernel_rfl) (by kernel_rfl) ?_
 refine Letters.is ?_
 refine Letters.is ?_
 refine Letters.is ?_
 refine Letters.any fun v3=> ?_
 refine Letters.is ?_
 refine Letters.is ?_
 refine Letters.is ?_
 refine Letters.any fun v7=> ?_
 refine Letters.is ?_
 refine Letters.is ?_
 refine Letters.is ?_
 refine Letters.any fun v11=> ?_
 refine Letters.any fun v12=> ?_
 refine Letters.any fun v13=> ?_
 refine Letters.is ?_
 refine Letters.nil ?_
 intro A hA
 simp only[q0N,Act.put,List.setIfInBounds_toArray,List.set_cons_zero,List.set_cons_succ] at hA
 subst hA
 refine⟨?_,?_⟩
 ·skip
  refine Eaches.cons rfl ?gN (Eaches.cons rfl ?iU (Eaches.cons rfl ?iV (Eaches.cons rfl ?iW (Eaches.cons rfl ?iX (Eaches.cons rfl ?kH (Eaches.cons rfl ?kI (Eaches.cons rfl ?pR (Eaches.cons rfl ?qL (Eaches.cons rfl ?xN (Eaches.cons rfl ?wE (Eaches.cons rfl ?BS (Eaches.cons rfl ?Oq (Eaches.cons rfl ?Ot (Eaches.cons rfl ?Ou (Eaches.nil)))))))))))))))
  case gN|iX|qL=>
   intro W hW hD K hK
   clear hD
   go_simp
   exact hK.out _ _ ⟨_,rfl,G.refl _,rfl⟩
  case iU|iV|kH|kI|xN|wE=>
   intro W hW hD K hK
   clear hD
   have hR0:=Rec.f2 (Rec.G R0.out hW)
   have ed:=hR0.1
   have ek:=hR0.2.1
   clear hR0
   have eu:=Rec.f2 (Rec.G R1.out hW)
   have jb:=eu.1
   have jc:=eu.2.1
   clear eu
   have hR2:=Rec.f2 (Rec.G R2.out hW)
   have wV:=hR2.1
   have wW:=hR2.2.1
   clear hR2
   go_simp
   exact hK.out _ _ ⟨_,rfl,G.refl _,rfl⟩
  ·intro W hW hD K hK
   clear hD
   go_simp
   go_wp2_with (go_at_call 79;refine Calls.mono (P:=Tryz.prog) (HA1.out W) ?_;intro e w9 hs;obtain⟨u9,rfl,g9,aH⟩:=hs)
   exact hK.out _ _ ⟨_,rfl,g9,aH⟩
  ·intro W hW hD K hK
   clear hD
   go_simp
   go_wp2_with (go_at_call 79;refine Calls.mono (P:=Tryz.prog) (HA2.out W) ?_;intro e w9 hs;obtain⟨u9,rfl,g9,aH⟩:=hs)
   exact hK.out _ _ ⟨_,rfl,g9,aH⟩
  ·intro W hW hD K hK
   clear hD
   go_simp
   go_wp2_with (go_at_call 79;refine Calls.mono (P:=Tryz.prog) (uY.out W) ?_;intro e w9 hs;obtain⟨u9,rfl,g9,aH⟩:=hs)
   exact hK.out _ _ ⟨_,rfl,g9,aH⟩
  ·intro W hW hD K hK
   have h7:=Deps.get (v:=v7) 7 hD rfl rfl (by kernel_rfl)
   have h11:=Deps.get (v:=v11) 11 hD rfl rfl (by kernel_rfl)
   clear hD
   go_simp
   go_wp2_with (go_at_call 34;refine Calls.mono (P:=Tryz.prog) (mV.out W v7 v11 h7 h11) ?_;intro e w9 hs;obtain⟨u9,rfl,g9,aH⟩:=hs)
   exact hK.out _ _ ⟨_,rfl,g9,aH⟩
  ·intro W hW hD K hK
   have h3:=Deps.get (v:=v3) 3 hD rfl rfl (by kernel_rfl)
   have h12:=Deps.get (v:=v12) 12 hD rfl rfl (by kernel_rfl)
   clear hD
   go_simp
   go_wp2_with (go_at_call 34;refine Calls.mono (P:=Tryz.prog) (HS2.out W v3 v12 h3 h12) ?_;intro e w9 hs;obtain⟨u9,rfl,g9,aH⟩:=hs)
   exact hK.out _ _ ⟨_,rfl,g9,aH⟩
  ·intro W hW hD K hK
   have wD:=Deps.get (v:=v13) 13 hD rfl rfl (by kernel_rfl)
   clear hD
   go_simp
   go_wp2_with (go_at_call 54;refine Calls.mono (P:=Tryz.prog) (Bo.out W v13 wD) ?_;intro e w9 hs;obtain⟨rfl,g9⟩:=hs)
   exact hK.out _ _ ⟨_,rfl,g9,rfl⟩
 intro w1 g1 hH
 clear hH
 refine wpAny_ready (rs:=[15]) (by kernel_rfl) (by simp) ?_
 refine AllReady.cons rfl (fun K hK=> ?_) AllReady.nil
 go_simp
 refine hK _ _ ?_
 clear hK K
 refine wpAny_done (by kernel_rfl) ?_ _
 go_wp2_with fail
 go_ret
 exact⟨rfl,G.trans g0 g1⟩
/-- What Cmp tells. -/
theorem qau (p q:Rat):(p.num*q.den-q.num*p.den).sign=(p-q).num.sign:=by
 rw[Rat.sub_def',q3i (Nat.mul_pos p.den_pos q.den_pos)]
/-- A list that was lent: its own block, three marks behind it. -/
def Lent (w:World) (base:Nat) (v:Value) (l:List Nat) (m:Nat):Prop:=∃ g cap,v= .slice (some ⟨g,0,none⟩) l.length cap∧FOwn w base (.slice (some ⟨g,0,none⟩) (l.length+3) cap) (l++[m,m,m])
theorem Lent.G {w w':World} {base m:Nat} {v:Value} {l:List Nat} (h:Lent w base v l m) (g:G w w'):Lent w' base v l m:=by
 obtain⟨b,cap,e,h⟩:=h
 exact⟨b,cap,e,FOwn.G h g⟩
end Go.Proofs.YtdidnnbpdcanlaaGreatDoor.EN
