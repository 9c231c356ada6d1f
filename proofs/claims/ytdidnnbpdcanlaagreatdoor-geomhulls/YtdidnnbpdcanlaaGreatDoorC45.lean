/- What is proved here: contracts of package geom: Circle, over this seat's translation. -/
import Derived.Test.YtdidnnbpdcanlaaGreatDoorC34
namespace Go.Proofs.YtdidnnbpdcanlaaGreatDoor
theorem Rec.new8 (w:World) (a b c d e f g h:Value) (t:TypeId):Rec (w.alloc (.cells #[a,b,c,d,e,f,g,h] t)) w.heap.size [a,b,c,d,e,f,g,h]:=Rec.new w [a,b,c,d,e,f,g,h] t
end Go.Proofs.YtdidnnbpdcanlaaGreatDoor
namespace Go.Proofs.YtdidnnbpdcanlaaGreatDoor.EN
open Go.ChangeShapes Go.WideShapes Go.ChangeAt Go.RowKit
theorem q1K {w:World} {b c:Nat} {l:List Value} {x0 x1 x2 x3 x4 x5:Value} (h:Rec w b l) (hne:c≠b):Rec (set6 w c x0 x1 x2 x3 x4 x5) b l:=
 Rec.oth (Rec.oth (Rec.oth (Rec.oth (Rec.oth (Rec.oth h _ hne) _ hne) _ hne) _ hne) _ hne) _ hne
theorem StepAt.set6 {w:World} {b c:Nat} {p q:Rat} {x0 x1 x2 x3 x4 x5:Value} (h:StepAt w b p q) (r:Rec w c [.bool false,.slice none 0 0,.slice none 0 0,.bool false,.slice none 0 0,.slice none 0 0]) (hne:c≠b):StepAt (EN.set6 w c x0 x1 x2 x3 x4 x5) b p q:=by
 obtain⟨t,a,k,c',a',k',c2,t2,b1,j,d,b',j',d',h1,h2⟩:=h
 exact⟨t,a,k,c',a',k',c2,t2,b1,j,d,b',j',d',q1K h1 hne,h2.set6 r⟩
set_option maxRecDepth 10000 in
set_option maxHeartbeats 4000000 in
theorem q9i (w:World) (ax ay bx b2 cx cy dx dy:Nat) (hT:Tab w) (h1:ax<2^64) (h2:ay<2^64) (h3:bx<2^64) (h4:b2<2^64) (h5:cx<2^64) (h6:cy<2^64) (h7:dx<2^64) (h8:dy<2^64):
  Calls Tryz.prog 27 #[.agg #[.float .f64 ax,.float .f64 ay],.agg #[.float .f64 bx,.float .f64 b2],.agg #[.float .f64 cx,.float .f64 cy],.agg #[.float .f64 dx,.float .f64 dy]] w (q7l w [(ax,ay),(bx,b2),(cx,cy),(dx,dy)] (q7n (fz ax-fz dx) (fz ay-fz dy) (fz bx-fz dx) (fz b2-fz dy) (fz cx-fz dx) (fz cy-fz dy)).sign):=by
 have HU:Hid (∀ w1 v,PSl w1 v [(ax,ay),(bx,b2),(cx,cy),(dx,dy)]→_):=fun w1 v h=>q2x w1 v _ h (fun i hi=>by
  rcases i with _|_|_|_|i
  ·exact⟨h1,h2⟩
  ·exact⟨h3,h4⟩
  ·exact⟨h5,h6⟩
  ·exact⟨h7,h8⟩
  ·simp at hi;omega) (by simp)
 have FK:Hid (FinL [(ax,ay),(bx,b2),(cx,cy),(dx,dy)]→∀ w1,G w w1→_):=fun f w1 g=>q1P w1 dx dy ax ay (hT.G g) h7 h8 h1 h2 (f 3 (by simp)).1 (f 3 (by simp)).2 (f 0 (by simp)).1 (f 0 (by simp)).2
 have FM:Hid (FinL [(ax,ay),(bx,b2),(cx,cy),(dx,dy)]→∀ w1,G w w1→_):=fun f w1 g=>q1P w1 dx dy bx b2 (hT.G g) h7 h8 h3 h4 (f 3 (by simp)).1 (f 3 (by simp)).2 (f 1 (by simp)).1 (f 1 (by simp)).2
 have Ov:Hid (FinL [(ax,ay),(bx,b2),(cx,cy),(dx,dy)]→∀ w1,G w w1→_):=fun f w1 g=>q1P w1 dx dy cx cy (hT.G g) h7 h8 h5 h6 (f 3 (by simp)).1 (f 3 (by simp)).2 (f 2 (by simp)).1 (f 2 (by simp)).2
 obtain⟨k1,k2,k3,k4,k5,k6,k7,k8,k9,k10,k11⟩:=q6J (fz ax-fz dx) (fz ay-fz dy) (fz bx-fz dx) (fz b2-fz dy) (fz cx-fz dx) (fz cy-fz dy) (Nat.le_refl _) (q2w _ _) (q2w _ _) (q2w _ _) (q2w _ _) (q2w _ _) (q2w _ _)
 have b1:=q15 ax dx
 have b2':=q15 ay dy
 have b3:=q15 bx dx
 have b4:=q15 b2 dy
 have b5:=q15 cx dx
 have b6:=q15 cy dy
 generalize (q7n (fz ax-fz dx) (fz ay-fz dy) (fz bx-fz dx) (fz b2-fz dy) (fz cx-fz dx) (fz cy-fz dy)).sign=z at *
 generalize Uz (fz ax-fz dx)=p1 at *
 generalize Uz (fz ay-fz dy)=p2 at *
 generalize Uz (fz bx-fz dx)=q1 at *
 generalize Uz (fz b2-fz dy)=q2 at *
 generalize Uz (fz cx-fz dx)=r1 at *
 generalize Uz (fz cy-fz dy)=r2 at *
 have oW:Hid (Tab w):=hT
 have Ow:Hid (∀ w1 v,G w w1→StepIs w1 v p1 p2→_):=fun w1 v g h=>q5n w1 v p1 p2 80 (by omega) (by omega) (oW.out.G g) h b1 b2'
 have Ox:Hid (∀ w1 v,G w w1→StepIs w1 v q1 q2→_):=fun w1 v g h=>q5n w1 v q1 q2 80 (by omega) (by omega) (oW.out.G g) h b3 b4
 have Oy:Hid (∀ w1 v,G w w1→StepIs w1 v r1 r2→_):=fun w1 v g h=>q5n w1 v r1 r2 80 (by omega) (by omega) (oW.out.G g) h b5 b6
 have Oz:Hid (∀ w1 v u,G w w1→StepIs w1 v q1 q2→StepIs w1 u r1 r2→_):=fun w1 v u g h k=>q3Z w1 v u q1 q2 r1 r2 80 (by omega) (by omega) (oW.out.G g) h k b3 b4 b5 b6
 have OA:Hid (∀ w1 v u,G w w1→StepIs w1 v r1 r2→StepIs w1 u p1 p2→_):=fun w1 v u g h k=>q3Z w1 v u r1 r2 p1 p2 80 (by omega) (by omega) (oW.out.G g) h k b5 b6 b1 b2'
 have OB:Hid (∀ w1 v u,G w w1→StepIs w1 v p1 p2→StepIs w1 u q1 q2→_):=fun w1 v u g h k=>q3Z w1 v u p1 p2 q1 q2 80 (by omega) (by omega) (oW.out.G g) h k b1 b2' b3 b4
 have OC:Hid (∀ w1 v u,G w w1→QIs w1 v (p1*p1+p2*p2)→QIs w1 u (q1*r2-q2*r1)→_):=fun w1 v u g h k=>q36 w1 v u _ _ 80 (by omega) (by omega) (oW.out.G g) h k k1 k4
 have OD:Hid (∀ w1 v u,G w w1→QIs w1 v (q1*q1+q2*q2)→QIs w1 u (r1*p2-r2*p1)→_):=fun w1 v u g h k=>q36 w1 v u _ _ 80 (by omega) (by omega) (oW.out.G g) h k k2 k5
 have Df:Hid (∀ w1 v u,G w w1→QIs w1 v (r1*r1+r2*r2)→QIs w1 u (p1*q2-p2*q1)→_):=fun w1 v u g h k=>q36 w1 v u _ _ 80 (by omega) (by omega) (oW.out.G g) h k k3 k6
 have OE:Hid (∀ w1 v u,G w w1→QIs w1 v ((p1*p1+p2*p2)*(q1*r2-q2*r1))→QIs w1 u ((q1*q1+q2*q2)*(r1*p2-r2*p1))→_):=fun w1 v u g h k=>q8c w1 v u _ _ 160 (by omega) (by omega) (oW.out.G g) h k k7 k8
 have OG:Hid (∀ w1 v u,G w w1→QIs w1 v ((p1*p1+p2*p2)*(q1*r2-q2*r1)+(q1*q1+q2*q2)*(r1*p2-r2*p1))→QIs w1 u ((r1*r1+r2*r2)*(p1*q2-p2*q1))→_):=fun w1 v u g h k=>q8c w1 v u _ _ 160 (by omega) (by omega) (oW.out.G g) h k k10 k9
 have Bo:Hid (∀ w1 v,QIs w1 v ((p1*p1+p2*p2)*(q1*r2-q2*r1)+(q1*q1+q2*q2)*(r1*p2-r2*p1)+(r1*r1+r2*r2)*(p1*q2-p2*q1))→Calls Tryz.prog 67 #[v] w1 fun e w'=>e= .returned (.int .i64 z)∧G w1 w'):=fun w1 v h=>by
  have k:=q7c w1 v _ h
  rw[k11] at k
  exact k
 clear oW hT h1 h2 h3 h4 h5 h6 h7 h8 k1 k2 k3 k4 k5 k6 k7 k8 k9 k10 k11 b1 b2' b3 b4 b5 b6
 generalize (p1*p1+p2*p2)*(q1*r2-q2*r1)+(q1*q1+q2*q2)*(r1*p2-r2*p1)+(r1*r1+r2*r2)*(p1*q2-p2*q1)=s3 at *
 generalize (p1*p1+p2*p2)*(q1*r2-q2*r1)+(q1*q1+q2*q2)*(r1*p2-r2*p1)=s2 at *
 generalize (p1*p1+p2*p2)*(q1*r2-q2*r1)=s1 at *
 generalize (q1*q1+q2*q2)*(r1*p2-r2*p1)=y2 at *
 generalize (r1*r1+r2*r2)*(p1*q2-p2*q1)=y3 at *
 generalize p1*p1+p2*p2=n1 at *
 generalize q1*q1+q2*q2=n2 at *
 generalize r1*r1+r2*r2=n3 at *
 generalize q1*r2-q2*r1=x1 at *
 generalize r1*p2-r2*p1=x2 at *
 generalize p1*q2-p2*q1=x3 at *
 go_enter Tryz.func27,Tryz.ntmps27
 go_wp2_with fail
 obtain⟨w0,aL,g0,hz0,R0,R1,R2,R3,R4⟩:=qaN w [.float .f64 ax,.float .f64 ay] [.float .f64 bx,.float .f64 b2] [.float .f64 cx,.float .f64 cy] [.float .f64 dx,.float .f64 dy] [.int .i64 0,.int .i64 0] 32 32 32 32 26
 rw[aL]
 clear aL
 have pq:Rec (w0.alloc (.cells #[.float .f64 ax,.float .f64 ay,.float .f64 bx,.float .f64 b2,.float .f64 cx,.float .f64 cy,.float .f64 dx,.float .f64 dy] 32)) w0.heap.size _:=Rec.new8 w0 _ _ _ _ _ _ _ _ _
 have uE:G w0 (w0.alloc (.cells #[.float .f64 ax,.float .f64 ay,.float .f64 bx,.float .f64 b2,.float .f64 cx,.float .f64 cy,.float .f64 dx,.float .f64 dy] 32)):=(G.refl w0).alloc _
 rw[show w.heap.size+1+1+1+1+1=w0.heap.size from by omega]
 have hP:PSl (w0.alloc (.cells #[.float .f64 ax,.float .f64 ay,.float .f64 bx,.float .f64 b2,.float .f64 cx,.float .f64 cy,.float .f64 dx,.float .f64 dy] 32)) (.slice (some ⟨w0.heap.size,0,none⟩) 4 4) [(ax,ay),(bx,b2),(cx,cy),(dx,dy)]:=by
  refine⟨_,_,rfl,Nat.le_refl _,fun i hi=>⟨_,_,rfl,pq.lt,?_⟩⟩
  rcases i with _|_|_|_|i
  ·exact⟨pq.cell 0,pq.cell 1⟩
  ·exact⟨pq.cell 2,pq.cell 3⟩
  ·exact⟨pq.cell 4,pq.cell 5⟩
  ·exact⟨pq.cell 6,pq.cell 7⟩
  ·simp at hi;omega
 refine Calls.mono (P:=Tryz.prog) (HU.out _ _ hP) ?_
 intro e1 w1 hs
 obtain⟨c,a,rfl,g1,hv⟩:=hs
 have HV:Hid (q27 [(ax,ay),(bx,b2),(cx,cy),(dx,dy)] c a):=hv
 have fG:=G.trans uE g1
 clear hv g1 pq uE hP HU
 have S0:Hid (Rec _ _ _):=Rec.G R0.out (fG)
 have S1:Hid (Rec _ _ _):=Rec.G R1.out (fG)
 have S2:Hid (Rec _ _ _):=Rec.G R2.out (fG)
 have S3:Hid (Rec _ _ _):=Rec.G R3.out (fG)
 have S4:Hid (Rec _ _ _):=Rec.G R4.out (fG)
 have mI:=G.trans g0 fG
 have hlt1:=S4.out.lt
 clear R0 R1 R2 R3 R4 g0 hz0 fG
 by_cases hc:c=0
 ·subst hc
  have HF:Hid (FinL [(ax,ay),(bx,b2),(cx,cy),(dx,dy)]∧a=0):=by
   rcases HV.out with ⟨-,h1,h2⟩|⟨i,h1,-⟩
   ·exact⟨h2,h1⟩
   ·omega
  have HB1:Hid _:=FK.out HF.out.1
  have HB2:Hid _:=FM.out HF.out.1
  have HB3:Hid _:=Ov.out HF.out.1
  clear FK FM Ov
  go_wp2_with fail
  obtain⟨w2,aL,g2,hz2,R0⟩:=q0B w1 [.int .i64 0,.int .i64 a] 26
  rw[aL]
  clear aL
  have T0:Hid (Rec _ _ _):=Rec.G S0.out (g2)
  have T1:Hid (Rec _ _ _):=Rec.G S1.out (g2)
  have T2:Hid (Rec _ _ _):=Rec.G S2.out (g2)
  have T3:Hid (Rec _ _ _):=Rec.G S3.out (g2)
  have T4:Hid (Rec _ _ _):=Rec.G S4.out (g2)
  have Gt:=G.trans mI g2
  clear S0 S1 S2 S3 S4 R0 hz2 g2 mI hlt1
  refine RN.region_each 12 3 #[true,true,true,true,true,true,true,true,true,true,true,true,false,false,false] [.is (.agg #[.float .f64 dx,.float .f64 dy]),.is (.agg #[.float .f64 ax,.float .f64 ay]),.any (fun v w'=>StepIs w' v p1 p2),.is (.agg #[.float .f64 dx,.float .f64 dy]),.is (.agg #[.float .f64 bx,.float .f64 b2]),.any (fun v w'=>StepIs w' v q1 q2),.is (.agg #[.float .f64 dx,.float .f64 dy]),.is (.agg #[.float .f64 cx,.float .f64 cy]),.any (fun v w'=>StepIs w' v r1 r2),.fresh (fun v w'=>NewRec w2 w' v ([.bool false,.slice none 0 0,.slice none 0 0,.bool false,.slice none 0 0,.slice none 0 0])),.fresh (fun v w'=>NewRec w2 w' v ([.bool false,.slice none 0 0,.slice none 0 0,.bool false,.slice none 0 0,.slice none 0 0])),.fresh (fun v w'=>NewRec w2 w' v ([.bool false,.slice none 0 0,.slice none 0 0,.bool false,.slice none 0 0,.slice none 0 0]))] [some 25,some 26,some 27,some 28,some 29,some 30,some 31,some 32,some 33,some 11,some 12,some 13] (by kernel_rfl) (by kernel_rfl) rfl (by kernel_rfl) (by repeat (first|exact trivial|refine⟨fun _ _ _ g h=>by first|exact h.G g|exact fun w3 g3=>h w3 (G.trans g g3),?_⟩)) (by kernel_rfl) (by kernel_rfl) ?_
  refine RN.Letters.is ?_
  refine RN.Letters.is ?_
  refine RN.Letters.any fun v2=> ?_
  refine RN.Letters.is ?_
  refine RN.Letters.is ?_
  refine RN.Letters.any fun v5=> ?_
  refine RN.Letters.is ?_
  refine RN.Letters.is ?_
  refine RN.Letters.any fun v8=> ?_
  refine RN.Letters.fresh fun v9=> ?_
  refine RN.Letters.fresh fun v10=> ?_
  refine RN.Letters.fresh fun v11=> ?_
  refine RN.Letters.nil ?_
  intro A hA
  simp only[q0N,Act.put,List.setIfInBounds_toArray,List.set_cons_zero,List.set_cons_succ] at hA
  subst hA
  refine⟨?_,?_⟩
  ·skip
   refine RN.Eaches.cons rfl ?dW (RN.Eaches.cons rfl ?eU (RN.Eaches.cons rfl ?fB (RN.Eaches.cons rfl ?dZ (RN.Eaches.cons rfl ?iA (RN.Eaches.cons rfl ?iB (RN.Eaches.cons rfl ?iC (RN.Eaches.cons rfl ?gT (RN.Eaches.cons rfl ?iD (RN.Eaches.cons rfl ?lK (RN.Eaches.cons rfl ?ja (RN.Eaches.cons rfl ?kU (RN.Eaches.nil))))))))))))
   case dW|eU|dZ|iA|iC|gT=>
    intro W hW hD K hK
    clear hD
    have hT0:=Rec.f2 (Rec.G T0.out hW)
    have wF:=hT0.1
    have wG:=hT0.2.1
    clear hT0
    have hT1:=Rec.f2 (Rec.G T1.out hW)
    have wH:=hT1.1
    have wI:=hT1.2.1
    clear hT1
    have Lv:=Rec.f2 (Rec.G T2.out hW)
    have OH:=Lv.1
    have OI:=Lv.2.1
    clear Lv
    have Lx:=Rec.f2 (Rec.G T3.out hW)
    have OJ:=Lx.1
    have OL:=Lx.2.1
    clear Lx
    go_simp
    exact hK.out _ _ ⟨_,rfl,G.refl _,rfl⟩
   ·intro W hW hD K hK
    clear hD
    go_simp
    go_wp2_with (go_at_call 62;refine Calls.mono (P:=Tryz.prog) (HB1.out W (G.trans Gt hW)) ?_;intro e w9 hs;obtain⟨u9,rfl,g9,aH⟩:=hs)
    exact hK.out _ _ ⟨_,rfl,g9,aH⟩
   ·intro W hW hD K hK
    clear hD
    go_simp
    go_wp2_with (go_at_call 62;refine Calls.mono (P:=Tryz.prog) (HB2.out W (G.trans Gt hW)) ?_;intro e w9 hs;obtain⟨u9,rfl,g9,aH⟩:=hs)
    exact hK.out _ _ ⟨_,rfl,g9,aH⟩
   ·intro W hW hD K hK
    clear hD
    go_simp
    go_wp2_with (go_at_call 62;refine Calls.mono (P:=Tryz.prog) (HB3.out W (G.trans Gt hW)) ?_;intro e w9 hs;obtain⟨u9,rfl,g9,aH⟩:=hs)
    exact hK.out _ _ ⟨_,rfl,g9,aH⟩
   ·intro W hW hD K hK
    clear hD
    go_simp
    exact hK.out _ _ ⟨_,rfl,(G.refl _).alloc _,⟨_,rfl,hW.size,Rec.new6 _ _ _ _ _ _ _ _⟩,_,rfl,Nat.le_refl _,by simp⟩
   ·intro W hW hD K hK
    clear hD
    go_simp
    exact hK.out _ _ ⟨_,rfl,(G.refl _).alloc _,⟨_,rfl,hW.size,Rec.new6 _ _ _ _ _ _ _ _⟩,_,rfl,Nat.le_refl _,by simp⟩
   ·intro W hW hD K hK
    clear hD
    go_simp
    exact hK.out _ _ ⟨_,rfl,(G.refl _).alloc _,⟨_,rfl,hW.size,Rec.new6 _ _ _ _ _ _ _ _⟩,_,rfl,Nat.le_refl _,by simp⟩
  intro w3 g3 hH Gu
  have h2:=RN.Helds.get (v:=v2) 2 hH rfl rfl
  have h5:=RN.Helds.get (v:=v5) 5 hH rfl rfl
  have h8:=RN.Helds.get (v:=v8) 8 hH rfl rfl
  have h9:=RN.Helds.getF (v:=v9) 9 hH rfl rfl
  have h10:=RN.Helds.getF (v:=v10) 10 hH rfl rfl
  have h11:=RN.Helds.getF (v:=v11) 11 hH rfl rfl
  have xy:v9≠v10:=Gu 9 10 _ _ _ _ (by decide) rfl rfl trivial trivial rfl rfl
  have xz:v9≠v11:=Gu 9 11 _ _ _ _ (by decide) rfl rfl trivial trivial rfl rfl
  have sP:v10≠v11:=Gu 10 11 _ _ _ _ (by decide) rfl rfl trivial trivial rfl rfl
  clear hH Gu
  clear HB1 HB2 HB3
  obtain⟨np,rfl,rE,rp⟩:=h9
  obtain⟨nq,rfl,hnq,rq⟩:=h10
  obtain⟨nr,rfl,hnr,rr⟩:=h11
  have hpq:np≠nq:=fun e=>xy (by rw[e])
  have hpr:np≠nr:=fun e=>xz (by rw[e])
  have LA:nq≠nr:=fun e=>sP (by rw[e])
  have IP:Hid (StepIs w3 v2 p1 p2):=h2
  have IQ:Hid (StepIs w3 v5 q1 q2):=h5
  have IR:Hid (StepIs w3 v8 r1 r2):=h8
  obtain⟨tP,aP,kP,cP,dP,eP,fP,gP,hP,iP,jP,lP,mP,nP,rfl,-,-⟩:=h2
  obtain⟨tQ,aQ,kQ,cQ,dQ,eQ,fQ,gQ,hQ,iQ,jQ,lQ,mQ,nQ,rfl,-,-⟩:=h5
  obtain⟨tR,aR,kR,cR,dR,eR,fR,gR,hR,iR,jR,lR,mR,nR,rfl,-,-⟩:=h8
  have T4':Hid (Rec w3 _ _):=Rec.G T4.out g3
  have hlow:Hid (w.heap.size+4<w2.heap.size):=T4.out.lt
  clear xy xz sP T0 T1 T2 T3 T4
  have Zp:Hid (Rec w3 np [.bool false,.slice none 0 0,.slice none 0 0,.bool false,.slice none 0 0,.slice none 0 0]):=rp
  have Zq:Hid (Rec w3 nq [.bool false,.slice none 0 0,.slice none 0 0,.bool false,.slice none 0 0,.slice none 0 0]):=rq
  have Zr:Hid (Rec w3 nr [.bool false,.slice none 0 0,.slice none 0 0,.bool false,.slice none 0 0,.slice none 0 0]):=rr
  have xA:np≠w.heap.size+4:=by have:=hlow.out;omega
  have xB:nq≠w.heap.size+4:=by have:=hlow.out;omega
  have xC:nr≠w.heap.size+4:=by have:=hlow.out;omega
  clear rp rq rr
  have QP:Hid (StepAt (set6 w3 np (.bool tP) (.slice aP kP cP) (.slice dP eP fP) (.bool gP) (.slice hP iP jP) (.slice lP mP nP)) np p1 p2):=⟨_,_,_,_,_,_,_,_,_,_,_,_,_,_,q2S Zp.out,StepIs.set6 IP.out Zp.out⟩
  have JQ:Hid (StepIs (set6 w3 np (.bool tP) (.slice aP kP cP) (.slice dP eP fP) (.bool gP) (.slice hP iP jP) (.slice lP mP nP)) _ q1 q2):=StepIs.set6 IQ.out Zp.out
  have JR:Hid (StepIs (set6 w3 np (.bool tP) (.slice aP kP cP) (.slice dP eP fP) (.bool gP) (.slice hP iP jP) (.slice lP mP nP)) _ r1 r2):=StepIs.set6 IR.out Zp.out
  have Yq:Hid (Rec (set6 w3 np (.bool tP) (.slice aP kP cP) (.slice dP eP fP) (.bool gP) (.slice hP iP jP) (.slice lP mP nP)) nq [.bool false,.slice none 0 0,.slice none 0 0,.bool false,.slice none 0 0,.slice none 0 0]):=q1K Zq.out hpq
  have Yr:Hid (Rec (set6 w3 np (.bool tP) (.slice aP kP cP) (.slice dP eP fP) (.bool gP) (.slice hP iP jP) (.slice lP mP nP)) nr [.bool false,.slice none 0 0,.slice none 0 0,.bool false,.slice none 0 0,.slice none 0 0]):=q1K Zr.out hpr
  have sQ:Hid (Rec (set6 w3 np (.bool tP) (.slice aP kP cP) (.slice dP eP fP) (.bool gP) (.slice hP iP jP) (.slice lP mP nP)) (w.heap.size+4) _):=q1K T4'.out xA
  have gn:G w2 (set6 w3 np (.bool tP) (.slice aP kP cP) (.slice dP eP fP) (.bool gP) (.slice hP iP jP) (.slice lP mP nP)):=q5A g3 rE
  obtain⟨hc0,hc1,hc2,hc3,hc4,qC,hf0,hf1,hf2,hf3,tL,rF⟩:=Zp.out.f6
  refine wpAny_ready (rs:=[12]) (by kernel_rfl) (by simp) ?_
  refine AllReady.cons rfl (fun K hK=> ?_) AllReady.nil
  go_simp
  refine hK _ _ ?_
  clear hK K hc0 hc1 hc2 hc3 hc4 qC hf0 hf1 hf2 hf3 tL rF
  unfold set6 at QP sQ gn JQ JR Yq Yr
  generalize (World.setCell (World.setCell (World.setCell (World.setCell (World.setCell (World.setCell w3 ⟨np,0,none⟩ (.bool tP)) ⟨np,1,none⟩ (.slice aP kP cP)) ⟨np,2,none⟩ (.slice dP eP fP)) ⟨np,3,none⟩ (.bool gP)) ⟨np,4,none⟩ (.slice hP iP jP)) ⟨np,5,none⟩ (.slice lP mP nP))=w4 at *
  clear Zp T4' g3 IP IQ IR Zq Zr
  have IQ:Hid _:=JQ
  clear JQ
  have IR:Hid _:=JR
  clear JR
  have Zq:Hid _:=Yq
  clear Yq
  have Zr:Hid _:=Yr
  clear Yr
  have T4':Hid _:=sQ
  have g4:=gn
  clear sQ gn
  have QQ:Hid (StepAt (set6 w4 nq (.bool tQ) (.slice aQ kQ cQ) (.slice dQ eQ fQ) (.bool gQ) (.slice hQ iQ jQ) (.slice lQ mQ nQ)) nq q1 q2):=⟨_,_,_,_,_,_,_,_,_,_,_,_,_,_,q2S Zq.out,StepIs.set6 IQ.out Zq.out⟩
  have JR:Hid (StepIs (set6 w4 nq (.bool tQ) (.slice aQ kQ cQ) (.slice dQ eQ fQ) (.bool gQ) (.slice hQ iQ jQ) (.slice lQ mQ nQ)) _ r1 r2):=StepIs.set6 IR.out Zq.out
  have Yr:Hid (Rec (set6 w4 nq (.bool tQ) (.slice aQ kQ cQ) (.slice dQ eQ fQ) (.bool gQ) (.slice hQ iQ jQ) (.slice lQ mQ nQ)) nr [.bool false,.slice none 0 0,.slice none 0 0,.bool false,.slice none 0 0,.slice none 0 0]):=q1K Zr.out LA
  have OP:Hid (StepAt (set6 w4 nq (.bool tQ) (.slice aQ kQ cQ) (.slice dQ eQ fQ) (.bool gQ) (.slice hQ iQ jQ) (.slice lQ mQ nQ)) np p1 p2):=StepAt.set6 QP.out Zq.out hpq.symm
  have sQ:Hid (Rec (set6 w4 nq (.bool tQ) (.slice aQ kQ cQ) (.slice dQ eQ fQ) (.bool gQ) (.slice hQ iQ jQ) (.slice lQ mQ nQ)) (w.heap.size+4) _):=q1K T4'.out xB
  have gn:G w2 (set6 w4 nq (.bool tQ) (.slice aQ kQ cQ) (.slice dQ eQ fQ) (.bool gQ) (.slice hQ iQ jQ) (.slice lQ mQ nQ)):=q5A g4 hnq
  obtain⟨hc0,hc1,hc2,hc3,hc4,qC,hf0,hf1,hf2,hf3,tL,rF⟩:=Zq.out.f6
  refine wpAny_ready (rs:=[13]) (by kernel_rfl) (by simp) ?_
  refine AllReady.cons rfl (fun K hK=> ?_) AllReady.nil
  go_simp
  refine hK _ _ ?_
  clear hK K hc0 hc1 hc2 hc3 hc4 qC hf0 hf1 hf2 hf3 tL rF
  unfold set6 at QQ sQ gn JR Yr OP
  generalize (World.setCell (World.setCell (World.setCell (World.setCell (World.setCell (World.setCell w4 ⟨nq,0,none⟩ (.bool tQ)) ⟨nq,1,none⟩ (.slice aQ kQ cQ)) ⟨nq,2,none⟩ (.slice dQ eQ fQ)) ⟨nq,3,none⟩ (.bool gQ)) ⟨nq,4,none⟩ (.slice hQ iQ jQ)) ⟨nq,5,none⟩ (.slice lQ mQ nQ))=w5 at *
  clear Zq T4' g4 IQ IR Zr QP
  have IR:Hid _:=JR
  clear JR
  have Zr:Hid _:=Yr
  clear Yr
  have QP:Hid _:=OP
  clear OP
  have T4':Hid _:=sQ
  have g5:=gn
  clear sQ gn
  have QR:Hid (StepAt (set6 w5 nr (.bool tR) (.slice aR kR cR) (.slice dR eR fR) (.bool gR) (.slice hR iR jR) (.slice lR mR nR)) nr r1 r2):=⟨_,_,_,_,_,_,_,_,_,_,_,_,_,_,q2S Zr.out,StepIs.set6 IR.out Zr.out⟩
  have OP:Hid (StepAt (set6 w5 nr (.bool tR) (.slice aR kR cR) (.slice dR eR fR) (.bool gR) (.slice hR iR jR) (.slice lR mR nR)) np p1 p2):=StepAt.set6 QP.out Zr.out hpr.symm
  have OQ:Hid (StepAt (set6 w5 nr (.bool tR) (.slice aR kR cR) (.slice dR eR fR) (.bool gR) (.slice hR iR jR) (.slice lR mR nR)) nq q1 q2):=StepAt.set6 QQ.out Zr.out LA.symm
  have sQ:Hid (Rec (set6 w5 nr (.bool tR) (.slice aR kR cR) (.slice dR eR fR) (.bool gR) (.slice hR iR jR) (.slice lR mR nR)) (w.heap.size+4) _):=q1K T4'.out xC
  have gn:G w2 (set6 w5 nr (.bool tR) (.slice aR kR cR) (.slice dR eR fR) (.bool gR) (.slice hR iR jR) (.slice lR mR nR)):=q5A g5 hnr
  obtain⟨hc0,hc1,hc2,hc3,hc4,qC,hf0,hf1,hf2,hf3,tL,rF⟩:=Zr.out.f6
  refine wpAny_ready (rs:=[14]) (by kernel_rfl) (by simp) ?_
  refine AllReady.cons rfl (fun K hK=> ?_) AllReady.nil
  go_simp
  refine hK _ _ ?_
  clear hK K hc0 hc1 hc2 hc3 hc4 qC hf0 hf1 hf2 hf3 tL rF
  unfold set6 at QR sQ gn OP OQ
  generalize (World.setCell (World.setCell (World.setCell (World.setCell (World.setCell (World.setCell w5 ⟨nr,0,none⟩ (.bool tR)) ⟨nr,1,none⟩ (.slice aR kR cR)) ⟨nr,2,none⟩ (.slice dR eR fR)) ⟨nr,3,none⟩ (.bool gR)) ⟨nr,4,none⟩ (.slice hR iR jR)) ⟨nr,5,none⟩ (.slice lR mR nR))=w6 at *
  clear Zr T4' g5 IR QP QQ
  have QP:Hid _:=OP
  clear OP
  have QQ:Hid _:=OQ
  clear OQ
  have T4':Hid _:=sQ
  have g6:=gn
  clear sQ gn
  refine wpAny_done (by kernel_rfl) ?_ _
  go_wp2_with fail
  obtain⟨tP,aP,kP,cP,dP,eP,fP,gP,hP,iP,jP,lP,mP,nP,hr,hi⟩:=QP.out
  have EP:Hid (Rec w6 np [.bool tP,.slice aP kP cP,.slice dP eP fP,.bool gP,.slice hP iP jP,.slice lP mP nP]):=hr
  have SP:Hid (StepIs w6 (.agg #[.bool tP,.slice aP kP cP,.slice dP eP fP,.bool gP,.slice hP iP jP,.slice lP mP nP]) p1 p2):=hi
  clear QP hr hi
  obtain⟨tQ,aQ,kQ,cQ,dQ,eQ,fQ,gQ,hQ,iQ,jQ,lQ,mQ,nQ,hr,hi⟩:=QQ.out
  have EQ:Hid (Rec w6 nq [.bool tQ,.slice aQ kQ cQ,.slice dQ eQ fQ,.bool gQ,.slice hQ iQ jQ,.slice lQ mQ nQ]):=hr
  have SQ:Hid (StepIs w6 (.agg #[.bool tQ,.slice aQ kQ cQ,.slice dQ eQ fQ,.bool gQ,.slice hQ iQ jQ,.slice lQ mQ nQ]) q1 q2):=hi
  clear QQ hr hi
  obtain⟨tR,aR,kR,cR,dR,eR,fR,gR,hR,iR,jR,lR,mR,nR,hr,hi⟩:=QR.out
  have ER:Hid (Rec w6 nr [.bool tR,.slice aR kR cR,.slice dR eR fR,.bool gR,.slice hR iR jR,.slice lR mR nR]):=hr
  have SR:Hid (StepIs w6 (.agg #[.bool tR,.slice aR kR cR,.slice dR eR fR,.bool gR,.slice hR iR jR,.slice lR mR nR]) r1 r2):=hi
  clear QR hr hi
  have Af:=G.trans Gt g6
  clear xA xB xC hpq hpr LA rE hnq hnr
  refine region_each 7 1 #[true,true,true,true,true,true,true,false] [.is (.agg #[.bool tP,.slice aP kP cP,.slice dP eP fP,.bool gP,.slice hP iP jP,.slice lP mP nP]),.any (fun v w'=>QIs w' v (n1)),.is (.agg #[.bool tQ,.slice aQ kQ cQ,.slice dQ eQ fQ,.bool gQ,.slice hQ iQ jQ,.slice lQ mQ nQ]),.is (.agg #[.bool tR,.slice aR kR cR,.slice dR eR fR,.bool gR,.slice hR iR jR,.slice lR mR nR]),.any (fun v w'=>QIs w' v (x1)),.any (fun v w'=>QIs w' v (s1)),.any (fun v w'=>NewRec w6 w' v ([.bool false,.slice none 0 0,.slice none 0 0]))] [some 34,some 35,some 36,some 37,some 38,some 39,some 14] (by kernel_rfl) (by kernel_rfl) rfl (by kernel_rfl) (by repeat (first|exact trivial|refine⟨fun _ _ _ g h=>by first|exact h.G g|exact fun w3 g3=>h w3 (G.trans g g3),?_⟩)) (by kernel_rfl) (by kernel_rfl) ?_
  refine Letters.is ?_
  refine Letters.any fun v1=> ?_
  refine Letters.is ?_
  refine Letters.is ?_
  refine Letters.any fun v4=> ?_
  refine Letters.any fun v5=> ?_
  refine Letters.any fun v6=> ?_
  refine Letters.nil ?_
  intro A hA
  simp only[q0N,Act.put,List.setIfInBounds_toArray,List.set_cons_zero,List.set_cons_succ] at hA
  subst hA
  refine⟨?_,?_⟩
  ·skip
   refine Eaches.cons rfl ?gN (Eaches.cons rfl ?iU (Eaches.cons rfl ?iV (Eaches.cons rfl ?iW (Eaches.cons rfl ?iX (Eaches.cons rfl ?kH (Eaches.cons rfl ?kI (Eaches.nil)))))))
   case gN|iV|iW=>
    intro W hW hD K hK
    clear hD
    have Ag:=Rec.f6 (Rec.G EP.out hW)
    have OM:=Ag.1
    have OO:=Ag.2.1
    have OT:=Ag.2.2.1
    have OU:=Ag.2.2.2.1
    have OV:=Ag.2.2.2.2.1
    have OW:=Ag.2.2.2.2.2.1
    clear Ag
    have Ah:=Rec.f6 (Rec.G EQ.out hW)
    have OX:=Ah.1
    have OY:=Ah.2.1
    have OZ:=Ah.2.2.1
    have P5:=Ah.2.2.2.1
    have P6:=Ah.2.2.2.2.1
    have P7:=Ah.2.2.2.2.2.1
    clear Ah
    have Ai:=Rec.f6 (Rec.G ER.out hW)
    have P8:=Ai.1
    have P9:=Ai.2.1
    have Pb:=Ai.2.2.1
    have Pd:=Ai.2.2.2.1
    have Pe:=Ai.2.2.2.2.1
    have Pf:=Ai.2.2.2.2.2.1
    clear Ai
    go_simp
    exact hK.out _ _ ⟨_,rfl,G.refl _,rfl⟩
   ·intro W hW hD K hK
    clear hD
    go_simp
    go_wp2_with (go_at_call 63;refine Calls.mono (P:=Tryz.prog) (Ow.out W _ (G.trans Af hW) (StepIs.G SP.out hW)) ?_;intro e w9 hs;obtain⟨u9,rfl,g9,aH⟩:=hs)
    exact hK.out _ _ ⟨_,rfl,g9,aH⟩
   ·intro W hW hD K hK
    clear hD
    go_simp
    go_wp2_with (go_at_call 65;refine Calls.mono (P:=Tryz.prog) (Oz.out W _ _ (G.trans Af hW) (StepIs.G SQ.out hW) (StepIs.G SR.out hW)) ?_;intro e w9 hs;obtain⟨u9,rfl,g9,aH⟩:=hs)
    exact hK.out _ _ ⟨_,rfl,g9,aH⟩
   ·intro W hW hD K hK
    have h1:=Deps.get (v:=v1) 1 hD rfl rfl (by kernel_rfl)
    have h4:=Deps.get (v:=v4) 4 hD rfl rfl (by kernel_rfl)
    clear hD
    go_simp
    go_wp2_with (go_at_call 64;refine Calls.mono (P:=Tryz.prog) (OC.out W v1 v4 (G.trans Af hW) h1 h4) ?_;intro e w9 hs;obtain⟨u9,rfl,g9,aH⟩:=hs)
    exact hK.out _ _ ⟨_,rfl,g9,aH⟩
   ·intro W hW hD K hK
    clear hD
    go_simp
    exact hK.out _ _ ⟨_,rfl,(G.refl _).alloc _,_,rfl,hW.size,Rec.new3 _ _ _ _ _⟩
  intro w7 g7 hH
  have h5:=Helds.get (v:=v5) 5 hH rfl rfl
  have h6:=Helds.get (v:=v6) 6 hH rfl rfl
  clear hH
  clear Ow Oz OC
  obtain⟨nb,rfl,hnb,hrb⟩:=h6
  have N0:Hid (Rec w7 nb [.bool false,.slice none 0 0,.slice none 0 0]):=hrb
  clear hrb
  obtain⟨Ax,Kx,Cx,Bx,Ix,Dx,rfl,fA,dh⟩:=h5
  obtain⟨ux,sS⟩:∃ t,t=decide (s1.num<0):=⟨_,rfl⟩
  have hQ:QIs w7 (.agg #[.bool ux,.slice Ax Kx Cx,.slice Bx Ix Dx]) s1:=⟨Ax,Kx,Cx,Bx,Ix,Dx,by rw[sS],fA,dh⟩
  rw[← sS]
  have Pg:Hid _:=hQ.set3 (u1:= .bool ux) (u2:= .slice Ax Kx Cx) (u3:= .slice Bx Ix Dx) N0.out trivial trivial trivial
  clear fA dh sS hQ
  have hS:=Rec.f3 (Rec.G N0.out ((G.refl _)))
  have bJ:=hS.1
  have bK:=hS.2.1
  have bL:=hS.2.2.1
  have bM:=hS.2.2.2.1
  have dM:=hS.2.2.2.2.1
  have dN:=hS.2.2.2.2.2
  clear hS
  refine wpAny_ready (rs:=[7]) (by kernel_rfl) (by simp) ?_
  refine AllReady.cons rfl (fun K hK=> ?_) AllReady.nil
  go_simp
  refine hK _ _ ?_
  clear hK K bJ bK bL bM dM dN
  refine wpAny_done (by kernel_rfl) ?_ _
  have N1:Hid (Rec _ nb [.bool ux,.slice Ax Kx Cx,.slice Bx Ix Dx]):=Rec.set3 N0.out
  have wo:=Rec.g3 (b:=nb) (u:= .bool ux) (v:= .slice Ax Kx Cx) (x:= .slice Bx Ix Dx) g7 hnb
  generalize (((w7.setCell ⟨nb,0,none⟩ (.bool ux)).setCell ⟨nb,1,none⟩ (.slice Ax Kx Cx)).setCell ⟨nb,2,none⟩ (.slice Bx Ix Dx))=w8 at *
  clear N0 g7
  have Fb:Hid (Rec _ _ _):=Rec.G EP.out wo
  have Fe:Hid (StepIs _ _ _ _):=StepIs.G SP.out wo
  have Ff:Hid (Rec _ _ _):=Rec.G EQ.out wo
  have Fg:Hid (StepIs _ _ _ _):=StepIs.G SQ.out wo
  have Fh:Hid (Rec _ _ _):=Rec.G ER.out wo
  have Fj:Hid (StepIs _ _ _ _):=StepIs.G SR.out wo
  have sU:=G.trans Af wo
  go_wp2_with fail
  refine region_each 8 1 #[true,true,true,true,true,true,true,true,false] [.is (.agg #[.bool ux,.slice Ax Kx Cx,.slice Bx Ix Dx]),.is (.agg #[.bool tQ,.slice aQ kQ cQ,.slice dQ eQ fQ,.bool gQ,.slice hQ iQ jQ,.slice lQ mQ nQ]),.any (fun v w'=>QIs w' v (n2)),.is (.agg #[.bool tR,.slice aR kR cR,.slice dR eR fR,.bool gR,.slice hR iR jR,.slice lR mR nR]),.is (.agg #[.bool tP,.slice aP kP cP,.slice dP eP fP,.bool gP,.slice hP iP jP,.slice lP mP nP]),.any (fun v w'=>QIs w' v (x2)),.any (fun v w'=>QIs w' v (y2)),.any (fun v w'=>QIs w' v (s2))] [some 40,some 41,some 42,some 43,some 44,some 45,some 46,some 47] (by kernel_rfl) (by kernel_rfl) rfl (by kernel_rfl) (by repeat (first|exact trivial|refine⟨fun _ _ _ g h=>by first|exact h.G g|exact fun w3 g3=>h w3 (G.trans g g3),?_⟩)) (by kernel_rfl) (by kernel_rfl) ?_
  refine Letters.is ?_
  refine Letters.is ?_
  refine Letters.any fun v2=> ?_
  refine Letters.is ?_
  refine Letters.is ?_
  refine Letters.any fun v5=> ?_
  refine Letters.any fun v6=> ?_
  refine Letters.any fun v7=> ?_
  refine Letters.nil ?_
  intro A hA
  simp only[q0N,Act.put,List.setIfInBounds_toArray,List.set_cons_zero,List.set_cons_succ] at hA
  subst hA
  refine⟨?_,?_⟩
  ·skip
   refine Eaches.cons rfl ?nZ (Eaches.cons rfl ?pU (Eaches.cons rfl ?pV (Eaches.cons rfl ?pW (Eaches.cons rfl ?pX (Eaches.cons rfl ?qU (Eaches.cons rfl ?qV (Eaches.cons rfl ?uo (Eaches.nil))))))))
   case nZ|pU|pW|pX=>
    intro W hW hD K hK
    clear hD
    have hN1:=Rec.f3 (Rec.G N1.out hW)
    have Ph:=hN1.1
    have Pj:=hN1.2.1
    have Pk:=hN1.2.2.1
    clear hN1
    have ig:=Rec.f6 (Rec.G Fb.out hW)
    have Aj:=ig.1
    have Ak:=ig.2.1
    have Al:=ig.2.2.1
    have Am:=ig.2.2.2.1
    have Ao:=ig.2.2.2.2.1
    have Ap:=ig.2.2.2.2.2.1
    clear ig
    have ik:=Rec.f6 (Rec.G Ff.out hW)
    have Aq:=ik.1
    have Ar:=ik.2.1
    have Au:=ik.2.2.1
    have Av:=ik.2.2.2.1
    have Aw:=ik.2.2.2.2.1
    have AA:=ik.2.2.2.2.2.1
    clear ik
    have il:=Rec.f6 (Rec.G Fh.out hW)
    have AB:=il.1
    have AJ:=il.2.1
    have AL:=il.2.2.1
    have AO:=il.2.2.2.1
    have AP:=il.2.2.2.2.1
    have AQ:=il.2.2.2.2.2.1
    clear il
    go_simp
    exact hK.out _ _ ⟨_,rfl,G.refl _,rfl⟩
   ·intro W hW hD K hK
    clear hD
    go_simp
    go_wp2_with (go_at_call 63;refine Calls.mono (P:=Tryz.prog) (Ox.out W _ (G.trans sU hW) (StepIs.G Fg.out hW)) ?_;intro e w9 hs;obtain⟨u9,rfl,g9,aH⟩:=hs)
    exact hK.out _ _ ⟨_,rfl,g9,aH⟩
   ·intro W hW hD K hK
    clear hD
    go_simp
    go_wp2_with (go_at_call 65;refine Calls.mono (P:=Tryz.prog) (OA.out W _ _ (G.trans sU hW) (StepIs.G Fj.out hW) (StepIs.G Fe.out hW)) ?_;intro e w9 hs;obtain⟨u9,rfl,g9,aH⟩:=hs)
    exact hK.out _ _ ⟨_,rfl,g9,aH⟩
   ·intro W hW hD K hK
    have h2:=Deps.get (v:=v2) 2 hD rfl rfl (by kernel_rfl)
    have h5:=Deps.get (v:=v5) 5 hD rfl rfl (by kernel_rfl)
    clear hD
    go_simp
    go_wp2_with (go_at_call 64;refine Calls.mono (P:=Tryz.prog) (OD.out W v2 v5 (G.trans sU hW) h2 h5) ?_;intro e w9 hs;obtain⟨u9,rfl,g9,aH⟩:=hs)
    exact hK.out _ _ ⟨_,rfl,g9,aH⟩
   ·intro W hW hD K hK
    have h6:=Deps.get (v:=v6) 6 hD rfl rfl (by kernel_rfl)
    clear hD
    go_simp
    go_wp2_with (go_at_call 66;refine Calls.mono (P:=Tryz.prog) (OE.out W _ v6 (G.trans sU hW) (QIs.G Pg.out hW) h6) ?_;intro e w9 hs;obtain⟨u9,rfl,g9,aH⟩:=hs)
    exact hK.out _ _ ⟨_,rfl,g9,aH⟩
  intro w9 g9 hH
  have h7:=Helds.get (v:=v7) 7 hH rfl rfl
  clear hH
  clear Ox OA OD OE Fb Ff Fh Fe Fg Fj Pg
  have N2:Hid (Rec w9 nb _):=Rec.G N1.out g9
  have Pm:=G.trans wo g9
  clear N1 wo g9 sU
  obtain⟨Ay,Ky,Cy,By,Iy,Dy,rfl,fA,dh⟩:=h7
  obtain⟨uy,sS⟩:∃ t,t=decide (s2.num<0):=⟨_,rfl⟩
  have hQ:QIs w9 (.agg #[.bool uy,.slice Ay Ky Cy,.slice By Iy Dy]) s2:=⟨Ay,Ky,Cy,By,Iy,Dy,by rw[sS],fA,dh⟩
  rw[← sS]
  have Pn:Hid _:=hQ.set3 (u1:= .bool uy) (u2:= .slice Ay Ky Cy) (u3:= .slice By Iy Dy) N2.out trivial trivial trivial
  clear fA dh sS hQ
  have hS:=Rec.f3 (Rec.G N2.out ((G.refl _)))
  have bJ:=hS.1
  have bK:=hS.2.1
  have bL:=hS.2.2.1
  have bM:=hS.2.2.2.1
  have dM:=hS.2.2.2.2.1
  have dN:=hS.2.2.2.2.2
  clear hS
  refine wpAny_ready (rs:=[8]) (by kernel_rfl) (by simp) ?_
  refine AllReady.cons rfl (fun K hK=> ?_) AllReady.nil
  go_simp
  refine hK _ _ ?_
  clear hK K bJ bK bL bM dM dN
  refine wpAny_done (by kernel_rfl) ?_ _
  have N3:Hid (Rec _ nb [.bool uy,.slice Ay Ky Cy,.slice By Iy Dy]):=Rec.set3 N2.out
  have mF:=Rec.g3 (b:=nb) (u:= .bool uy) (v:= .slice Ay Ky Cy) (x:= .slice By Iy Dy) Pm hnb
  generalize (((w9.setCell ⟨nb,0,none⟩ (.bool uy)).setCell ⟨nb,1,none⟩ (.slice Ay Ky Cy)).setCell ⟨nb,2,none⟩ (.slice By Iy Dy))=aS at *
  clear N2 Pm
  have Fb:Hid (Rec _ _ _):=Rec.G EP.out mF
  have Fe:Hid (StepIs _ _ _ _):=StepIs.G SP.out mF
  have Ff:Hid (Rec _ _ _):=Rec.G EQ.out mF
  have Fg:Hid (StepIs _ _ _ _):=StepIs.G SQ.out mF
  have Fh:Hid (Rec _ _ _):=Rec.G ER.out mF
  have Fj:Hid (StepIs _ _ _ _):=StepIs.G SR.out mF
  have sU:=G.trans Af mF
  go_wp2_with fail
  refine region_each 8 1 #[true,true,true,true,true,true,true,true,false] [.is (.agg #[.bool uy,.slice Ay Ky Cy,.slice By Iy Dy]),.is (.agg #[.bool tR,.slice aR kR cR,.slice dR eR fR,.bool gR,.slice hR iR jR,.slice lR mR nR]),.any (fun v w'=>QIs w' v (n3)),.is (.agg #[.bool tP,.slice aP kP cP,.slice dP eP fP,.bool gP,.slice hP iP jP,.slice lP mP nP]),.is (.agg #[.bool tQ,.slice aQ kQ cQ,.slice dQ eQ fQ,.bool gQ,.slice hQ iQ jQ,.slice lQ mQ nQ]),.any (fun v w'=>QIs w' v (x3)),.any (fun v w'=>QIs w' v (y3)),.any (fun v w'=>QIs w' v (s3))] [some 48,some 49,some 50,some 51,some 52,some 53,some 54,some 55] (by kernel_rfl) (by kernel_rfl) rfl (by kernel_rfl) (by repeat (first|exact trivial|refine⟨fun _ _ _ g h=>by first|exact h.G g|exact fun w3 g3=>h w3 (G.trans g g3),?_⟩)) (by kernel_rfl) (by kernel_rfl) ?_
  refine Letters.is ?_
  refine Letters.is ?_
  refine Letters.any fun v2=> ?_
  refine Letters.is ?_
  refine Letters.is ?_
  refine Letters.any fun v5=> ?_
  refine Letters.any fun v6=> ?_
  refine Letters.any fun v7=> ?_
  refine Letters.nil ?_
  intro A hA
  simp only[q0N,Act.put,List.setIfInBounds_toArray,List.set_cons_zero,List.set_cons_succ] at hA
  subst hA
  refine⟨?_,?_⟩
  ·skip
   refine Eaches.cons rfl ?qW (Eaches.cons rfl ?qX (Eaches.cons rfl ?uq (Eaches.cons rfl ?uu (Eaches.cons rfl ?qY (Eaches.cons rfl ?uw (Eaches.cons rfl ?Cb (Eaches.cons rfl ?Cc (Eaches.nil))))))))
   case qW|qX|uu|qY=>
    intro W hW hD K hK
    clear hD
    have l8:=Rec.f3 (Rec.G N3.out hW)
    have Po:=l8.1
    have Pp:=l8.2.1
    have Pq:=l8.2.2.1
    clear l8
    have ig:=Rec.f6 (Rec.G Fb.out hW)
    have Aj:=ig.1
    have Ak:=ig.2.1
    have Al:=ig.2.2.1
    have Am:=ig.2.2.2.1
    have Ao:=ig.2.2.2.2.1
    have Ap:=ig.2.2.2.2.2.1
    clear ig
    have ik:=Rec.f6 (Rec.G Ff.out hW)
    have Aq:=ik.1
    have Ar:=ik.2.1
    have Au:=ik.2.2.1
    have Av:=ik.2.2.2.1
    have Aw:=ik.2.2.2.2.1
    have AA:=ik.2.2.2.2.2.1
    clear ik
    have il:=Rec.f6 (Rec.G Fh.out hW)
    have AB:=il.1
    have AJ:=il.2.1
    have AL:=il.2.2.1
    have AO:=il.2.2.2.1
    have AP:=il.2.2.2.2.1
    have AQ:=il.2.2.2.2.2.1
    clear il
    go_simp
    exact hK.out _ _ ⟨_,rfl,G.refl _,rfl⟩
   ·intro W hW hD K hK
    clear hD
    go_simp
    go_wp2_with (go_at_call 63;refine Calls.mono (P:=Tryz.prog) (Oy.out W _ (G.trans sU hW) (StepIs.G Fj.out hW)) ?_;intro e w9 hs;obtain⟨u9,rfl,g9,aH⟩:=hs)
    exact hK.out _ _ ⟨_,rfl,g9,aH⟩
   ·intro W hW hD K hK
    clear hD
    go_simp
    go_wp2_with (go_at_call 65;refine Calls.mono (P:=Tryz.prog) (OB.out W _ _ (G.trans sU hW) (StepIs.G Fe.out hW) (StepIs.G Fg.out hW)) ?_;intro e w9 hs;obtain⟨u9,rfl,g9,aH⟩:=hs)
    exact hK.out _ _ ⟨_,rfl,g9,aH⟩
   ·intro W hW hD K hK
    have h2:=Deps.get (v:=v2) 2 hD rfl rfl (by kernel_rfl)
    have h5:=Deps.get (v:=v5) 5 hD rfl rfl (by kernel_rfl)
    clear hD
    go_simp
    go_wp2_with (go_at_call 64;refine Calls.mono (P:=Tryz.prog) (Df.out W v2 v5 (G.trans sU hW) h2 h5) ?_;intro e w9 hs;obtain⟨u9,rfl,g9,aH⟩:=hs)
    exact hK.out _ _ ⟨_,rfl,g9,aH⟩
   ·intro W hW hD K hK
    have h6:=Deps.get (v:=v6) 6 hD rfl rfl (by kernel_rfl)
    clear hD
    go_simp
    go_wp2_with (go_at_call 66;refine Calls.mono (P:=Tryz.prog) (OG.out W _ v6 (G.trans sU hW) (QIs.G Pn.out hW) h6) ?_;intro e w9 hs;obtain⟨u9,rfl,g9,aH⟩:=hs)
    exact hK.out _ _ ⟨_,rfl,g9,aH⟩
  intro dE g11 hH
  have h7:=Helds.get (v:=v7) 7 hH rfl rfl
  clear hH
  clear Oy OB Df OG Fb Ff Fh Fe Fg Fj Pn EP EQ ER SP SQ SR
  have N4:Hid (Rec dE nb _):=Rec.G N3.out g11
  have Fp:=G.trans mF g11
  clear N3 mF g11 sU
  obtain⟨Az,Kz,Cz,Bz,Iz,Dz,rfl,fA,dh⟩:=h7
  obtain⟨uz,sS⟩:∃ t,t=decide (s3.num<0):=⟨_,rfl⟩
  have hQ:QIs dE (.agg #[.bool uz,.slice Az Kz Cz,.slice Bz Iz Dz]) s3:=⟨Az,Kz,Cz,Bz,Iz,Dz,by rw[sS],fA,dh⟩
  rw[← sS]
  have Ps:Hid _:=hQ.set3 (u1:= .bool uz) (u2:= .slice Az Kz Cz) (u3:= .slice Bz Iz Dz) N4.out trivial trivial trivial
  clear fA dh sS hQ
  have hS:=Rec.f3 (Rec.G N4.out ((G.refl _)))
  have bJ:=hS.1
  have bK:=hS.2.1
  have bL:=hS.2.2.1
  have bM:=hS.2.2.2.1
  have dM:=hS.2.2.2.2.1
  have dN:=hS.2.2.2.2.2
  clear hS
  refine wpAny_ready (rs:=[8]) (by kernel_rfl) (by simp) ?_
  refine AllReady.cons rfl (fun K hK=> ?_) AllReady.nil
  go_simp
  refine hK _ _ ?_
  clear hK K bJ bK bL bM dM dN
  refine wpAny_done (by kernel_rfl) ?_ _
  have N5:Hid (Rec _ nb [.bool uz,.slice Az Kz Cz,.slice Bz Iz Dz]):=Rec.set3 N4.out
  have AR:=Rec.g3 (b:=nb) (u:= .bool uz) (v:= .slice Az Kz Cz) (x:= .slice Bz Iz Dz) Fp hnb
  generalize (((dE.setCell ⟨nb,0,none⟩ (.bool uz)).setCell ⟨nb,1,none⟩ (.slice Az Kz Cz)).setCell ⟨nb,2,none⟩ (.slice Bz Iz Dz))=kv at *
  clear N4 Fp
  have LB:=G.trans Af AR
  have T5:Hid (Rec kv (w.heap.size+4) _):=Rec.G T4'.out AR
  clear T4' Af AR hnb
  have oV:=Rec.f3 (Rec.G N5.out (G.refl _))
  have AU:=oV.1
  have AV:=oV.2.1
  have AX:=oV.2.2.1
  have AY:=oV.2.2.2.1
  have AZ:=oV.2.2.2.2.1
  have Ba:=oV.2.2.2.2.2
  clear oV
  go_wp2_with fail
  clear AU AV AX AY AZ Ba
  refine Calls.mono (P:=Tryz.prog) (Bo.out kv _ Ps.out) ?_
  rintro e13 kz ⟨rfl,g13⟩
  have LC:=G.trans LB g13
  clear Bo Ps N5
  have sV:=Rec.f2 (Rec.G T5.out (g13))
  have LD:=sV.1
  have LF:=sV.2.1
  have LG:=sV.2.2.1
  have LH:=sV.2.2.2
  clear sV
  go_wp2_with fail
  go_wp2_with fail
  have hT:Hid (Rec (World.setCell (World.setCell kz ⟨w.heap.size+4,0,none⟩ (.int .i64 0)) ⟨w.heap.size+4,1,none⟩ (.int .i64 0)) (w.heap.size+4) [.int .i64 0,.int .i64 0]):=Rec.set2 (Rec.G T5.out (g13))
  have g20:=Rec.g2 (b:=w.heap.size+4) (u:= .int .i64 0) (v:= .int .i64 0) (LC) (by omega)
  generalize (World.setCell (World.setCell kz ⟨w.heap.size+4,0,none⟩ (.int .i64 0)) ⟨w.heap.size+4,1,none⟩ (.int .i64 0))=Uf at *
  have hF:=Rec.f2 (Rec.G hT.out ((G.refl _)))
  have bR:=hF.1
  have bU:=hF.2.1
  have bV:=hF.2.2.1
  have bW:=hF.2.2.2
  clear hF
  refine bodyPost_ret (v:= .tuple #[.int .i64 z,.agg #[.int .i64 0,.int .i64 0]]) (by simp [results,Tryz.results27,go_sem, *]) rfl ?_
  exact⟨0,0,z,rfl,g20,.inl ⟨rfl,rfl,HF.out.1⟩,rfl⟩
 ·have hcf:(c==0)=false:=by simpa using hc
  have sW:=Rec.f2 (Rec.G S4.out (G.refl _))
  have LJ:=sW.1
  have LK:=sW.2.1
  have LM:=sW.2.2.1
  have LP:=sW.2.2.2
  clear sW
  go_wp2_with fail
  go_region
  go_wp2_with fail
  have hT:Hid (Rec (World.setCell (World.setCell w1 ⟨w.heap.size+4,0,none⟩ (.int .i64 c)) ⟨w.heap.size+4,1,none⟩ (.int .i64 a)) (w.heap.size+4) [.int .i64 c,.int .i64 a]):=Rec.set2 (Rec.G S4.out (G.refl _))
  have g9:=Rec.g2 (b:=w.heap.size+4) (u:= .int .i64 c) (v:= .int .i64 a) (mI) (by omega)
  generalize (World.setCell (World.setCell w1 ⟨w.heap.size+4,0,none⟩ (.int .i64 c)) ⟨w.heap.size+4,1,none⟩ (.int .i64 a))=w9 at *
  have hF:=Rec.f2 (Rec.G hT.out ((G.refl _)))
  have bR:=hF.1
  have bU:=hF.2.1
  have bV:=hF.2.2.1
  have bW:=hF.2.2.2
  clear hF
  have iG:=Rec.lt hT.out
  refine bodyPost_ret (v:= .tuple #[.int .i64 0,.agg #[.int .i64 c,.int .i64 a]]) (by simp [results,Tryz.results27,go_sem, *]) rfl ?_
  exact⟨c,a,0,rfl,(g9.alloc _).drew,HV.out,by rw[if_neg hc]⟩
end Go.Proofs.YtdidnnbpdcanlaaGreatDoor.EN
