/- What is proved here: contracts of the reference: a row of Round4's, over this seat's translation.
What is proved here: contracts of the reference: Round4, over this seat's translation. -/
import Derived.Test.YtljkfjjchkehaaaGreatDoorC37
import Derived.Test.YtljkfjjchkehaaaGreatDoorC38
import Derived.Test.YtljkfjjchkehaaaGreatDoorC29
namespace Go.Proofs.YtljkfjjchkehaaaGreatDoor.EN
open Go.ChangeShapes Go.WideShapes Go.ChangeAt Go.RowKit
/-- A row of three fractions. -/
def Row3 (w:World) (v:Value) (x y n:Rat):Prop:=∃ a b c,v= .agg #[a,b,c]∧PR w a x∧PR w b y∧PR w c n
theorem Row3.G {w w':World} {v:Value} {x y n:Rat} (h:Row3 w v x y n) (g:G w w'):Row3 w' v x y n:=by
 obtain⟨a,b,c,e,h1,h2,h3⟩:=h
 exact⟨a,b,c,e,h1.G g,h2.G g,h3.G g⟩
def q9F (w:World) (x y n:Rat) (e:Ending) (w':World):Prop:=∃ v,e= .returned v∧G w w'∧Row3 w' v x y n
/-- A value that is a pointer. -/
def isP (x:Value):Prop:=∃ a,x= .pointer a
theorem isP.of (a:Option Addr):isP (.pointer a):=⟨a,rfl⟩
theorem IntIs.other {w:World} {b o:Nat} {s:Int} {p:Addr} {u u':Value} (h:IntIs w b o s) (hp:w.cell? p=some u) (hu:isP u):IntIs (w.setCell p u') b o s:=by
 obtain⟨a,rfl⟩:=hu
 obtain⟨n,v,m,⟨c1,c2,c3,c4⟩,hn,h5,h6⟩:=h
 have hv:∀ a,v≠ .pointer a:=by
  obtain⟨l,hs,-⟩:=hn
  obtain⟨_,⟨-,a,c,rfl⟩|⟨_,_,_,rfl,-⟩⟩:=hs
  all_goals (intro a e;cases e)
 refine⟨n,v,m,⟨?_,?_,by rw[World.frozen?_setCell];exact c3,by rw[World.frozen?_setCell];exact c4⟩,Go.Proofs.YtljkfjjchkehaaaGreatDoor.num_other hn hp (fun z e=>by cases e),h5,h6⟩
 ·rw[World.cell?_setCell_other _ _ _ _ (by intro e;rw[e,c1] at hp;cases hp)];exact c1
 ·rw[World.cell?_setCell_other _ _ _ _ (by intro e;rw[e,c2] at hp;exact hv _ (Option.some.inj hp))];exact c2
theorem PR.other {w:World} {v:Value} {q:Rat} {p:Addr} {u u':Value} (h:PR w v q) (hp:w.cell? p=some u) (hu:isP u):PR (w.setCell p u') v q:=by
 obtain⟨b,e,h1,h2⟩:=h
 exact⟨b,e,by simpa [World.setCell] using h1,IntIs.other h2.1 hp hu,IntIs.other h2.2 hp hu⟩
/-- Cells written one behind the other. -/
def setL (w:World) (b:Nat):Nat→List Value→World
 |_,[]=>w
 |i,y::ys=>setL (w.setCell ⟨b,i,none⟩ y) b (i+1) ys
theorem q3H {v:Value} {q:Rat} {b:Nat}:∀ (ys:List Value) (i:Nat) (w:World) (l:List Value),PR w v q→Rec w b l→(∀ x∈l,isP x)→i+ys.length≤l.length→(∀ y∈ys,isP y)→PR (setL w b i ys) v q:=by
 intro ys
 induction ys with
 |nil=>intro i w l h _ _ _ _;exact h
 |cons y ys ih=>
  intro i w l h r hl hi hy
  rw[List.length_cons] at hi
  have hc:=r.cell i
  rw[List.getElem?_eq_getElem (by omega)] at hc
  refine ih (i+1) _ (l.set i y) (h.other hc (hl _ (List.getElem_mem _))) (r.set i y) (fun x hx=> ?_) (by rw[List.length_set];omega) (fun x hx=>hy x (List.mem_cons_of_mem _ hx))
  rcases List.mem_or_eq_of_mem_set hx with hx|rfl
  ·exact hl x hx
  ·exact hy _ List.mem_cons_self
theorem q9Y {b:Nat} {w0:World} (hb:w0.heap.size≤b):∀ (ys:List Value) (i:Nat) (w:World),G w0 w→G w0 (setL w b i ys):=by
 intro ys
 induction ys with
 |nil=>intro i w g;exact g
 |cons y ys ih=>intro i w g;exact ih _ _ (g.setCell (p:=⟨b,i,none⟩) hb y)
theorem q8g {b:Nat}:∀ (ys l:List Value) (xs:List Value) (w:World),Rec w b (xs++l)→l.length=ys.length→Rec (setL w b xs.length ys) b (xs++ys):=by
 intro ys
 induction ys with
 |nil=>
  intro l xs w r h
  rw[List.length_eq_zero_iff.1 h] at r
  exact r
 |cons y ys ih=>
  intro l xs w r h
  match l,h with
  |x::l,h=>
   have k:=r.set xs.length y
   rw[List.set_append_right _ _ (Nat.le_refl _),Nat.sub_self,List.set_cons_zero] at k
   have k2:=ih l (xs++[y]) _ (by rw[List.append_assoc];exact k) (by rw[List.length_cons,List.length_cons] at h;omega)
   rw[List.length_append,List.append_assoc] at k2
   exact k2
theorem qav {x y:Rat} {K L:Nat} (hx:QB x K) (hy:QB y L):QB (x+y) (K+L+1):=by
 obtain⟨h1,h2⟩:=hx
 obtain⟨h3,h4⟩:=hy
 have e:x+y=mkRat (x.num*y.den+y.num*x.den) (x.den*y.den):=by
  have e1:=Rat.mkRat_self x
  have e2:=Rat.mkRat_self y
  have hx:=x.den_pos
  have hy:=y.den_pos
  generalize x.den=d at *
  generalize y.den=f at *
  generalize x.num=a at *
  generalize y.num=b at *
  rw[← e1,← e2]
  exact Rat.mkRat_add_mkRat _ _ (by omega) (by omega)
 have p1:(x.num*y.den).natAbs<2^(64*(K+L)):=by
  rw[Int.natAbs_mul,Nat.mul_add,Nat.pow_add]
  exact Nat.mul_lt_mul'' h1 h4
 have p2:(y.num*x.den).natAbs<2^(64*(K+L)):=by
  rw[Int.natAbs_mul,Nat.mul_comm,Nat.mul_add,Nat.pow_add]
  exact Nat.mul_lt_mul'' h2 h3
 have p3:x.den*y.den<2^(64*(K+L)):=by
  rw[Nat.mul_add,Nat.pow_add]
  exact Nat.mul_lt_mul'' h2 h4
 have p4:2^(64*(K+L))+2^(64*(K+L))≤2^(64*(K+L+1)):=by
  rw[← Nat.two_mul,← Nat.pow_succ']
  exact Nat.pow_le_pow_right (by omega) (by omega)
 have p5:=Int.natAbs_add_le (x.num*y.den) (y.num*x.den)
 exact q67 (Nat.mul_pos x.den_pos y.den_pos) e (by omega) (by omega)
theorem q9q (w:World) (px py dx dy bd:Nat) (h1:px<2^64) (h2:py<2^64) (h3:dx<2^64) (h4:dy<2^64) (f1:fex px<2047) (f2:fex py<2047) (f3:fex dx<2047) (f4:fex dy<2047)
  (hd:Rec w bd [.float .f64 dx,.float .f64 dy]):
  Calls Tryz.prog 74 #[.agg #[.float .f64 px,.float .f64 py],.pointer (some ⟨bd,0,none⟩)] w (q9F w (Uz (fz px-fz dx)) (Uz (fz py-fz dy)) (Uz (fz px-fz dx)*Uz (fz px-fz dx)+Uz (fz py-fz dy)*Uz (fz py-fz dy))):=by
 have HR1:Hid (∀ w1,_):=fun w1=>q2F w1 px h1 f1
 have HR2:Hid (∀ w1,_):=fun w1=>q2F w1 py h2 f2
 have HR3:Hid (∀ w1,_):=fun w1=>q2F w1 dx h3 f3
 have HR4:Hid (∀ w1,_):=fun w1=>q2F w1 dy h4 f4
 have b1:=q3e px
 have b2:=q3e py
 have b3:=q3e dx
 have b4:=q3e dy
 have b5:=q0H px dx
 have b6:=q0H py dy
 have e1:=q7s (fz px) (fz dx)
 have e2:=q7s (fz py) (fz dy)
 have HD:Hid (Rec w bd [.float .f64 dx,.float .f64 dy]):=hd
 clear hd h1 h2 h3 h4 f1 f2 f3 f4
 generalize Uz (fz px-fz dx)=x at *
 generalize Uz (fz py-fz dy)=y at *
 generalize Uz (fz px)=p1 at *
 generalize Uz (fz py)=p2 at *
 generalize Uz (fz dx)=q1 at *
 generalize Uz (fz dy)=q2 at *
 have kr:Hid (∀ w1 u v,PR w1 u p1→PR w1 v q1→Calls Tryz.prog 47 #[u,v] w1 (RetP w1 x)):=fun w1 u v h k=>by rw[← e1];exact q6P w1 u v p1 q1 80 (by omega) b1 b3 h k
 have HS2:Hid (∀ w1 u v,PR w1 u p2→PR w1 v q2→Calls Tryz.prog 47 #[u,v] w1 (RetP w1 y)):=fun w1 u v h k=>by rw[← e2];exact q6P w1 u v p2 q2 80 (by omega) b2 b4 h k
 have j6:Hid (∀ w1 u v,PR w1 u x→PR w1 v x→_):=fun w1 u v h k=>q2Q w1 u v x x 80 (by omega) b5 b5 h k
 have gZ:Hid (∀ w1 u v,PR w1 u y→PR w1 v y→_):=fun w1 u v h k=>q2Q w1 u v y y 80 (by omega) b6 b6 h k
 have HA:Hid (∀ w1 u v,PR w1 u (x*x)→PR w1 v (y*y)→_):=fun w1 u v h k=>q77 w1 u v (x*x) (y*y) (80+80) (by omega) (q1k b5 b5) (q1k b6 b6) h k
 clear b1 b2 b3 b4 b5 b6 e1 e2
 generalize x*x+y*y=r at *
 generalize x*x=m1 at *
 generalize y*y=m2 at *
 go_enter Tryz.func74,Tryz.ntmps74
 go_wp2_with fail
 obtain⟨w0,aH,g0,hz0,R0,R1⟩:=q2k w [.float .f64 px,.float .f64 py] [.pointer none,.pointer none,.pointer none] 66 116
 rw[aH]
 clear aH
 have HD0:Hid (Rec w0 bd [.float .f64 dx,.float .f64 dy]):=Rec.G HD.out g0
 clear HD
 refine region_each 16 0 #[true,true,true,true,true,true,true,true,true,true,true,true,true,true,true,true] [.is (.pointer (some ⟨w.heap.size,0,none⟩)),.is (.float .f64 px),.any (fun v w'=>PR w' v p1),.is (.pointer (some ⟨bd,0,none⟩)),.is (.float .f64 dx),.any (fun v w'=>PR w' v q1),.any (fun v w'=>PR w' v x),.is (.pointer (some ⟨w.heap.size,1,none⟩)),.is (.float .f64 py),.any (fun v w'=>PR w' v p2),.is (.pointer (some ⟨bd,1,none⟩)),.is (.float .f64 dy),.any (fun v w'=>PR w' v q2),.any (fun v w'=>PR w' v y),.any (fun v w'=>PR w' v x),.any (fun v w'=>PR w' v y)] [some 6,some 7,some 8,some 9,some 10,some 11,some 12,some 13,some 14,some 15,some 16,some 17,some 18,some 19,some 4,some 5] (by kernel_rfl) (by kernel_rfl) rfl (by kernel_rfl) (by repeat (first|exact trivial|refine⟨fun _ _ _ g h=>by first|exact h.G g|exact fun w3 g3=>h w3 (G.trans g g3),?_⟩)) (by kernel_rfl) (by kernel_rfl) ?_
 refine Letters.is ?_
 refine Letters.is ?_
 refine Letters.any fun v2=> ?_
 refine Letters.is ?_
 refine Letters.is ?_
 refine Letters.any fun v5=> ?_
 refine Letters.any fun v6=> ?_
 refine Letters.is ?_
 refine Letters.is ?_
 refine Letters.any fun v9=> ?_
 refine Letters.is ?_
 refine Letters.is ?_
 refine Letters.any fun v12=> ?_
 refine Letters.any fun v13=> ?_
 refine Letters.any fun v14=> ?_
 refine Letters.any fun v15=> ?_
 refine Letters.nil ?_
 intro A hA
 simp only[q0K,Act.put,List.setIfInBounds_toArray,List.set_cons_zero,List.set_cons_succ] at hA
 subst hA
 refine⟨?_,?_⟩
 ·skip
  refine Eaches.cons rfl ?dH (Eaches.cons rfl ?dL (Eaches.cons rfl ?eD (Eaches.cons rfl ?dM (Eaches.cons rfl ?fE (Eaches.cons rfl ?fV (Eaches.cons rfl ?fq (Eaches.cons rfl ?eF (Eaches.cons rfl ?fF (Eaches.cons rfl ?jf (Eaches.cons rfl ?fZ (Eaches.cons rfl ?jq (Eaches.cons rfl ?om (Eaches.cons rfl ?sD (Eaches.cons rfl ?BD (Eaches.cons rfl ?MX (Eaches.nil))))))))))))))))
  case dH|dM|eF|fZ=>
   intro W hW hD K hK
   clear hD
   go_simp
   exact hK.out _ _ ⟨_,rfl,G.refl _,rfl⟩
  case dL|fE|fF|jq=>
   intro W hW hD K hK
   clear hD
   have hR0:=Rec.f2 (Rec.G R0.out hW)
   have dE:=hR0.1
   have dF:=hR0.2.1
   clear hR0
   have wD:=Rec.f2 (Rec.G HD0.out hW)
   have JU:=wD.1
   have JV:=wD.2.1
   clear wD
   go_simp
   exact hK.out _ _ ⟨_,rfl,G.refl _,rfl⟩
  ·intro W hW hD K hK
   clear hD
   go_simp
   go_wp2_with (go_at_call 30;refine Calls.mono (P:=Tryz.prog) (HR1.out W) ?_;intro e w9 hs;obtain⟨u9,rfl,g9,aD⟩:=hs)
   exact hK.out _ _ ⟨_,rfl,g9,aD⟩
  ·intro W hW hD K hK
   clear hD
   go_simp
   go_wp2_with (go_at_call 30;refine Calls.mono (P:=Tryz.prog) (HR3.out W) ?_;intro e w9 hs;obtain⟨u9,rfl,g9,aD⟩:=hs)
   exact hK.out _ _ ⟨_,rfl,g9,aD⟩
  ·intro W hW hD K hK
   have h2:=Deps.get (v:=v2) 2 hD rfl rfl (by kernel_rfl)
   have h5:=Deps.get (v:=v5) 5 hD rfl rfl (by kernel_rfl)
   clear hD
   go_simp
   go_wp2_with (go_at_call 47;refine Calls.mono (P:=Tryz.prog) (kr.out W v2 v5 h2 h5) ?_;intro e w9 hs;obtain⟨u9,rfl,g9,aD⟩:=hs)
   exact hK.out _ _ ⟨_,rfl,g9,aD⟩
  ·intro W hW hD K hK
   clear hD
   go_simp
   go_wp2_with (go_at_call 30;refine Calls.mono (P:=Tryz.prog) (HR2.out W) ?_;intro e w9 hs;obtain⟨u9,rfl,g9,aD⟩:=hs)
   exact hK.out _ _ ⟨_,rfl,g9,aD⟩
  ·intro W hW hD K hK
   clear hD
   go_simp
   go_wp2_with (go_at_call 30;refine Calls.mono (P:=Tryz.prog) (HR4.out W) ?_;intro e w9 hs;obtain⟨u9,rfl,g9,aD⟩:=hs)
   exact hK.out _ _ ⟨_,rfl,g9,aD⟩
  ·intro W hW hD K hK
   have h9:=Deps.get (v:=v9) 9 hD rfl rfl (by kernel_rfl)
   have h12:=Deps.get (v:=v12) 12 hD rfl rfl (by kernel_rfl)
   clear hD
   go_simp
   go_wp2_with (go_at_call 47;refine Calls.mono (P:=Tryz.prog) (HS2.out W v9 v12 h9 h12) ?_;intro e w9 hs;obtain⟨u9,rfl,g9,aD⟩:=hs)
   exact hK.out _ _ ⟨_,rfl,g9,aD⟩
  ·intro W hW hD K hK
   have h6:=Deps.get (v:=v6) 6 hD rfl rfl (by kernel_rfl)
   clear hD
   go_simp
   exact hK.out _ _ ⟨_,rfl,G.refl _,h6⟩
  ·intro W hW hD K hK
   have sF:=Deps.get (v:=v13) 13 hD rfl rfl (by kernel_rfl)
   clear hD
   go_simp
   exact hK.out _ _ ⟨_,rfl,G.refl _,sF⟩
 intro w1 g1 hH
 have Db:=Helds.get (v:=v14) 14 hH rfl rfl
 have MZ:=Helds.get (v:=v15) 15 hH rfl rfl
 clear hH
 refine wpAny_done (by kernel_rfl) ?_ _
 have RR:Hid (Rec w1 (w.heap.size+1) [.pointer none,.pointer none,.pointer none]):=Rec.G R1.out g1
 have dN:=G.trans g0 g1
 have HX:Hid (PR w1 v14 x):=Db
 have HY:Hid (PR w1 v15 y):=MZ
 clear Db MZ HD0 R0 R1 g0 g1 hz0
 go_wp2_with fail
 refine Calls.mono (P:=Tryz.prog) (j6.out w1 v14 v14 HX.out HX.out) ?_
 rintro e2 w2 ⟨u2,rfl,g2,k2⟩
 have jb:Hid (PR w2 u2 m1):=k2
 clear k2
 go_wp2_with fail
 refine Calls.mono (P:=Tryz.prog) (gZ.out w2 v15 v15 (HY.out.G g2) (HY.out.G g2)) ?_
 rintro e3 w3 ⟨u3,rfl,g3,k3⟩
 have N7:Hid (PR w3 u3 m2):=k3
 clear k3
 go_wp2_with fail
 refine Calls.mono (P:=Tryz.prog) (HA.out w3 u2 u3 (jb.out.G g3) N7.out) ?_
 rintro e4 w4 ⟨u4,rfl,g4,k4⟩
 have mX:Hid (PR w4 u4 r):=k4
 have g14:=G.trans g2 (G.trans g3 g4)
 have yf:Hid (PR w4 v14 x):=HX.out.G g14
 have yg:Hid (PR w4 v15 y):=HY.out.G g14
 clear k4 g2 g3 g4 HX HY jb N7 HA j6 gZ
 obtain⟨pa,rfl,-,-⟩:=yf.out
 obtain⟨pb,rfl,-,-⟩:=yg.out
 obtain⟨pc,rfl,-,-⟩:=mX.out
 have R4:Rec w4 (w.heap.size+1) [.pointer none,.pointer none,.pointer none]:=Rec.G RR.out g14
 have hpz:∀ x∈[Value.pointer none,.pointer none,.pointer none],isP x:=by simp [isP]
 have hpn:∀ x∈[Value.pointer (some ⟨pa,0,none⟩),.pointer (some ⟨pb,0,none⟩),.pointer (some ⟨pc,0,none⟩)],isP x:=by simp [isP]
 have HZ:Hid (Row3 (setL w4 (w.heap.size+1) 0 [Value.pointer (some ⟨pa,0,none⟩),.pointer (some ⟨pb,0,none⟩),.pointer (some ⟨pc,0,none⟩)]) (.agg #[.pointer (some ⟨pa,0,none⟩),.pointer (some ⟨pb,0,none⟩),.pointer (some ⟨pc,0,none⟩)]) x y r):=
  ⟨_,_,_,rfl,q3H _ _ _ _ yf.out R4 hpz (by simp) hpn,q3H _ _ _ _ yg.out R4 hpz (by simp) hpn,q3H _ _ _ _ mX.out R4 hpz (by simp) hpn⟩
 unfold setL setL setL setL at HZ
 clear R4 hpz hpn yf yg mX
 have lX:=Rec.f3 (Rec.G RR.out (g14))
 have wE:=lX.1
 have wF:=lX.2.1
 have wG:=lX.2.2.1
 have wH:=lX.2.2.2.1
 have wI:=lX.2.2.2.2.1
 have wJ:=lX.2.2.2.2.2
 clear lX
 go_wp2_with fail
 clear wE wF wG wH wI wJ
 go_wp2_with fail
 have hT:Hid (Rec (World.setCell (World.setCell (World.setCell w4 ⟨w.heap.size+1,0,none⟩ (.pointer (some ⟨pa,0,none⟩))) ⟨w.heap.size+1,1,none⟩ (.pointer (some ⟨pb,0,none⟩))) ⟨w.heap.size+1,2,none⟩ (.pointer (some ⟨pc,0,none⟩))) (w.heap.size+1) [.pointer (some ⟨pa,0,none⟩),.pointer (some ⟨pb,0,none⟩),.pointer (some ⟨pc,0,none⟩)]):=Rec.set3 (Rec.G RR.out (g14))
 have g9:=Rec.g3 (b:=w.heap.size+1) (u:= .pointer (some ⟨pa,0,none⟩)) (v:= .pointer (some ⟨pb,0,none⟩)) (x:= .pointer (some ⟨pc,0,none⟩)) (G.trans dN g14) (by omega)
 generalize (World.setCell (World.setCell (World.setCell w4 ⟨w.heap.size+1,0,none⟩ (.pointer (some ⟨pa,0,none⟩))) ⟨w.heap.size+1,1,none⟩ (.pointer (some ⟨pb,0,none⟩))) ⟨w.heap.size+1,2,none⟩ (.pointer (some ⟨pc,0,none⟩)))=w9 at *
 have hF:=Rec.f3 (Rec.G hT.out ((G.refl _)))
 have bP:=hF.1
 have bQ:=hF.2.1
 have bR:=hF.2.2.1
 have bS:=hF.2.2.2.1
 have gK:=hF.2.2.2.2.1
 have gL:=hF.2.2.2.2.2
 clear hF
 have je:=Rec.lt hT.out
 refine bodyPost_ret (v:= .agg #[.pointer (some ⟨pa,0,none⟩),.pointer (some ⟨pb,0,none⟩),.pointer (some ⟨pc,0,none⟩)]) (by simp [results,Tryz.results74,go_sem, *]) rfl ?_
 exact⟨_,rfl,g9,HZ.out⟩
end Go.Proofs.YtljkfjjchkehaaaGreatDoor.EN
namespace Go.Proofs.YtljkfjjchkehaaaGreatDoor
theorem Rec.new9 (w:World) (a b c d e f g h i:Value) (t:TypeId):Rec (w.alloc (.cells #[a,b,c,d,e,f,g,h,i] t)) w.heap.size [a,b,c,d,e,f,g,h,i]:=Rec.new w [a,b,c,d,e,f,g,h,i] t
theorem Rec.f9 {w:World} {b:Nat} {x0 x1 x2 x3 x4 x5 x6 x7 x8:Value} (h:Rec w b [x0,x1,x2,x3,x4,x5,x6,x7,x8]):
  (w.cell? ⟨b,0,none⟩=some x0∧w.cell? ⟨b,1,none⟩=some x1∧w.cell? ⟨b,2,none⟩=some x2∧w.cell? ⟨b,3,none⟩=some x3∧w.cell? ⟨b,4,none⟩=some x4∧w.cell? ⟨b,5,none⟩=some x5∧w.cell? ⟨b,6,none⟩=some x6∧w.cell? ⟨b,7,none⟩=some x7∧w.cell? ⟨b,8,none⟩=some x8)∧
  w.frozen? ⟨b,0,none⟩=false∧w.frozen? ⟨b,1,none⟩=false∧w.frozen? ⟨b,2,none⟩=false∧w.frozen? ⟨b,3,none⟩=false∧w.frozen? ⟨b,4,none⟩=false∧w.frozen? ⟨b,5,none⟩=false∧w.frozen? ⟨b,6,none⟩=false∧w.frozen? ⟨b,7,none⟩=false∧w.frozen? ⟨b,8,none⟩=false:=
 ⟨⟨h.cell 0,h.cell 1,h.cell 2,h.cell 3,h.cell 4,h.cell 5,h.cell 6,h.cell 7,h.cell 8⟩,h.frozen 0,h.frozen 1,h.frozen 2,h.frozen 3,h.frozen 4,h.frozen 5,h.frozen 6,h.frozen 7,h.frozen 8⟩
end Go.Proofs.YtljkfjjchkehaaaGreatDoor
namespace Go.Proofs.YtljkfjjchkehaaaGreatDoor.EN
open Go.ChangeShapes Go.WideShapes Go.ChangeAt Go.RowKit
theorem qaZ {q:Rat} {K L:Nat} (h:QB q K) (hl:K≤L):QB q L:=
 ⟨Nat.lt_of_lt_of_le h.1 (Nat.pow_le_pow_right (by omega) (by omega)),Nat.lt_of_lt_of_le h.2 (Nat.pow_le_pow_right (by omega) (by omega))⟩
theorem q53 (w:World) (n:Int) (hn: -9223372036854775808≤n∧n≤9223372036854775807):Calls Tryz.prog 75 #[.int .i64 n] w (RetP w (n:Rat)):=by
 have HN:Hid _:=q7y w n hn
 clear hn
 go_enter Tryz.func75,Tryz.ntmps75
 go_wp2_with fail
 refine Calls.mono (P:=Tryz.prog) HN.out ?_
 rintro e w1 ⟨r,rfl,k1,k2,k3,k4⟩
 have HK:Hid _:=k4
 clear k4
 go_wp2_with fail
 go_ret
 exact⟨_,rfl,k1,r,rfl,k3,HK.out⟩
/-- One of three. -/
def one3 {α:Type} (a b c:α):Nat→α
 |0=>a
 |1=>b
 |_=>c
/-- The rows of the determinant's sum. -/
def q1n:Nat→Nat×Nat×Nat×Int
 |0=>(0,1,2,1)
 |1=>(1,2,0,1)
 |2=>(2,0,1,1)
 |3=>(0,2,1,-1)
 |4=>(1,0,2,-1)
 |_=>(2,1,0,-1)
theorem q9P (k:Nat) (hk:k<6):∃ (p0 p1 p2:Nat) (s:Int),q1n k=(p0,p1,p2,s)∧p0<3∧p1<3∧p2<3∧(s=1∨s= -1)∧
  ∀ w,(Instr.index 120 (.agg #[.int .i64 0,.int .i64 1,.int .i64 2,.int .i64 1,.int .i64 1,.int .i64 2,.int .i64 0,.int .i64 1,.int .i64 2,.int .i64 0,.int .i64 1,.int .i64 1,.int .i64 0,.int .i64 2,.int .i64 1,.int .i64 (-1),.int .i64 1,.int .i64 0,.int .i64 2,.int .i64 (-1),.int .i64 2,.int .i64 1,.int .i64 0,.int .i64 (-1)]) (.int .i64 (k:Int))).run Tryz.prog w= .ok (.agg #[.int .i64 (p0:Int),.int .i64 (p1:Int),.int .i64 (p2:Int),.int .i64 s]) w:=by
 rcases k with _|_|_|_|_|_|k
 ·exact⟨0,1,2,1,rfl,by omega,by omega,by omega,by omega,fun w=>by kernel_rfl⟩
 ·exact⟨1,2,0,1,rfl,by omega,by omega,by omega,by omega,fun w=>by kernel_rfl⟩
 ·exact⟨2,0,1,1,rfl,by omega,by omega,by omega,by omega,fun w=>by kernel_rfl⟩
 ·exact⟨0,2,1,(-1),rfl,by omega,by omega,by omega,by omega,fun w=>by kernel_rfl⟩
 ·exact⟨1,0,2,(-1),rfl,by omega,by omega,by omega,by omega,fun w=>by kernel_rfl⟩
 ·exact⟨2,1,0,(-1),rfl,by omega,by omega,by omega,by omega,fun w=>by kernel_rfl⟩
 ·omega
def sum4 (t:Nat→Rat):Nat→Rat
 |0=>0
 |k+1=>sum4 t k+t k
theorem q9t {t:Nat→Rat} {K:Nat} (h:∀ k,QB (t k) K):∀ k,QB (sum4 t k) ((K+1)*k+1):=by
 intro k
 induction k with
 |zero=>exact q9b (by omega)
 |succ k ih=>exact qaZ (qav ih (h k)) (by rw[Nat.mul_succ];omega)
/-- Nine fractions. -/
def Mat9 (w:World) (b:Nat) (q:Nat→Nat→Rat):Prop:=∃ p:Nat→Nat→Nat,Rec w b [.pointer (some ⟨p 0 0,0,none⟩),.pointer (some ⟨p 0 1,0,none⟩),.pointer (some ⟨p 0 2,0,none⟩),.pointer (some ⟨p 1 0,0,none⟩),.pointer (some ⟨p 1 1,0,none⟩),.pointer (some ⟨p 1 2,0,none⟩),.pointer (some ⟨p 2 0,0,none⟩),.pointer (some ⟨p 2 1,0,none⟩),.pointer (some ⟨p 2 2,0,none⟩)]∧∀ i j,PR w (.pointer (some ⟨p i j,0,none⟩)) (q i j)
theorem Mat9.G {w w':World} {b:Nat} {q:Nat→Nat→Rat} (h:Mat9 w b q) (g:G w w'):Mat9 w' b q:=by
 obtain⟨p,r,h⟩:=h
 exact⟨p,Rec.G r g,fun i j=>(h i j).G g⟩
def Nine (w:World) (v:Value) (q:Nat→Nat→Rat):Prop:=∃ p:Nat→Nat→Nat,v= .agg #[.pointer (some ⟨p 0 0,0,none⟩),.pointer (some ⟨p 0 1,0,none⟩),.pointer (some ⟨p 0 2,0,none⟩),.pointer (some ⟨p 1 0,0,none⟩),.pointer (some ⟨p 1 1,0,none⟩),.pointer (some ⟨p 1 2,0,none⟩),.pointer (some ⟨p 2 0,0,none⟩),.pointer (some ⟨p 2 1,0,none⟩),.pointer (some ⟨p 2 2,0,none⟩)]∧∀ i j,PR w (.pointer (some ⟨p i j,0,none⟩)) (q i j)
theorem Nine.G {w w':World} {v:Value} {q:Nat→Nat→Rat} (h:Nine w v q) (g:G w w'):Nine w' v q:=by
 obtain⟨p,e,h⟩:=h
 exact⟨p,e,fun i j=>(h i j).G g⟩
theorem PR.at {w:World} {v:Value} {q:Rat} (h:PR w v q):∃ p,v= .pointer (some ⟨p,0,none⟩)∧PR w (.pointer (some ⟨p,0,none⟩)) q:=by
 obtain⟨p,rfl,h1,h2⟩:=h
 exact⟨p,rfl,p,rfl,h1,h2⟩
theorem q9N {w:World} {a1 b1 c1 a2 b2 c2 a3 b3 c3:Value} {x1 y1 n1 x2 y2 n2 x3 y3 n3:Rat} (h1:PR w a1 x1) (h2:PR w b1 y1) (h3:PR w c1 n1) (h4:PR w a2 x2) (h5:PR w b2 y2) (h6:PR w c2 n2) (h7:PR w a3 x3) (h8:PR w b3 y3) (h9:PR w c3 n3):
  Nine w (.agg #[a1,b1,c1,a2,b2,c2,a3,b3,c3]) (fun i j=>one3 (one3 x1 y1 n1 j) (one3 x2 y2 n2 j) (one3 x3 y3 n3 j) i):=by
 obtain⟨p1,rfl,k1⟩:=h1.at
 obtain⟨p2,rfl,k2⟩:=h2.at
 obtain⟨p3,rfl,k3⟩:=h3.at
 obtain⟨p4,rfl,k4⟩:=h4.at
 obtain⟨p5,rfl,k5⟩:=h5.at
 obtain⟨p6,rfl,k6⟩:=h6.at
 obtain⟨p7,rfl,k7⟩:=h7.at
 obtain⟨p8,rfl,k8⟩:=h8.at
 obtain⟨p9,rfl,k9⟩:=h9.at
 clear h1 h2 h3 h4 h5 h6 h7 h8 h9
 refine⟨fun i j=>one3 (one3 p1 p2 p3 j) (one3 p4 p5 p6 j) (one3 p7 p8 p9 j) i,rfl,fun i j=> ?_⟩
 rcases i with _|_|i<;>rcases j with _|_|j<;>assumption
theorem q7h (xa ya xb yb xc yc:Rat):sum4 (fun k=>one3 xa ya (xa*xa+ya*ya) (q1n k).1*one3 xb yb (xb*xb+yb*yb) (q1n k).2.1*one3 xc yc (xc*xc+yc*yc) (q1n k).2.2.1*(((q1n k).2.2.2:Int):Rat)) 6=
  (xa*xa+ya*ya)*(xb*yc-yb*xc)+(xb*xb+yb*yb)*(xc*ya-yc*xa)+(xc*xc+yc*yc)*(xa*yb-ya*xb):=by
 simp only[sum4,q1n,one3]
 rw[show ((1:Int):Rat)=1 from rfl,show ((-1:Int):Rat)= -1 from rfl]
 grind
end Go.Proofs.YtljkfjjchkehaaaGreatDoor.EN
