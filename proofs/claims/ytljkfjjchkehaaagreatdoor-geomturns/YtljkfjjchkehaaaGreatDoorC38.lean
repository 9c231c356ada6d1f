/- What is proved here: contracts of package geom: Circle, over this seat's translation. -/
import Derived.Test.YtljkfjjchkehaaaGreatDoorC35
namespace Go.Proofs.YtljkfjjchkehaaaGreatDoor
theorem Rec.new8 (w:World) (a b c d e f g h:Value) (t:TypeId):Rec (w.alloc (.cells #[a,b,c,d,e,f,g,h] t)) w.heap.size [a,b,c,d,e,f,g,h]:=Rec.new w [a,b,c,d,e,f,g,h] t
end Go.Proofs.YtljkfjjchkehaaaGreatDoor
namespace Go.Proofs.YtljkfjjchkehaaaGreatDoor.EN
open Go.ChangeShapes Go.WideShapes Go.ChangeAt Go.RowKit
theorem q1D {w:World} {b c:Nat} {l:List Value} {x0 x1 x2 x3 x4 x5:Value} (h:Rec w b l) (hne:c≠b):Rec (set6 w c x0 x1 x2 x3 x4 x5) b l:=
 Rec.oth (Rec.oth (Rec.oth (Rec.oth (Rec.oth (Rec.oth h _ hne) _ hne) _ hne) _ hne) _ hne) _ hne
theorem StepAt.set6 {w:World} {b c:Nat} {p q:Rat} {x0 x1 x2 x3 x4 x5:Value} (h:StepAt w b p q) (r:Rec w c [.bool false,.slice none 0 0,.slice none 0 0,.bool false,.slice none 0 0,.slice none 0 0]) (hne:c≠b):StepAt (EN.set6 w c x0 x1 x2 x3 x4 x5) b p q:=by
 obtain⟨t,a,k,c',a',k',c2,t2,b1,j,d,b',j',d',h1,h2⟩:=h
 exact⟨t,a,k,c',a',k',c2,t2,b1,j,d,b',j',d',q1D h1 hne,h2.set6 r⟩
set_option maxRecDepth 10000 in
set_option maxHeartbeats 4000000 in
theorem q5x (w:World) (ax ay bx b2 cx cy dx dy:Nat) (hT:Tab w) (h1:ax<2^64) (h2:ay<2^64) (h3:bx<2^64) (h4:b2<2^64) (h5:cx<2^64) (h6:cy<2^64) (h7:dx<2^64) (h8:dy<2^64):
  Calls Tryz.prog 40 #[.agg #[.float .f64 ax,.float .f64 ay],.agg #[.float .f64 bx,.float .f64 b2],.agg #[.float .f64 cx,.float .f64 cy],.agg #[.float .f64 dx,.float .f64 dy]] w (q78 w [(ax,ay),(bx,b2),(cx,cy),(dx,dy)] (q4s (fz ax-fz dx) (fz ay-fz dy) (fz bx-fz dx) (fz b2-fz dy) (fz cx-fz dx) (fz cy-fz dy)).sign):=by
 have HU:Hid (∀ w1 v,PSl w1 v [(ax,ay),(bx,b2),(cx,cy),(dx,dy)]→_):=fun w1 v h=>q4Y w1 v _ h (fun i hi=>by
  rcases i with _|_|_|_|i
  ·exact⟨h1,h2⟩
  ·exact⟨h3,h4⟩
  ·exact⟨h5,h6⟩
  ·exact⟨h7,h8⟩
  ·simp at hi;omega) (by simp)
 have Cm:Hid (FinL [(ax,ay),(bx,b2),(cx,cy),(dx,dy)]→∀ w1,G w w1→_):=fun f w1 g=>q1H w1 dx dy ax ay (hT.G g) h7 h8 h1 h2 (f 3 (by simp)).1 (f 3 (by simp)).2 (f 0 (by simp)).1 (f 0 (by simp)).2
 have Cq:Hid (FinL [(ax,ay),(bx,b2),(cx,cy),(dx,dy)]→∀ w1,G w w1→_):=fun f w1 g=>q1H w1 dx dy bx b2 (hT.G g) h7 h8 h3 h4 (f 3 (by simp)).1 (f 3 (by simp)).2 (f 1 (by simp)).1 (f 1 (by simp)).2
 have N8:Hid (FinL [(ax,ay),(bx,b2),(cx,cy),(dx,dy)]→∀ w1,G w w1→_):=fun f w1 g=>q1H w1 dx dy cx cy (hT.G g) h7 h8 h5 h6 (f 3 (by simp)).1 (f 3 (by simp)).2 (f 2 (by simp)).1 (f 2 (by simp)).2
 obtain⟨k1,k2,k3,k4,k5,k6,k7,k8,k9,k10,k11⟩:=q3u (fz ax-fz dx) (fz ay-fz dy) (fz bx-fz dx) (fz b2-fz dy) (fz cx-fz dx) (fz cy-fz dy) (Nat.le_refl _) (q19 _ _) (q19 _ _) (q19 _ _) (q19 _ _) (q19 _ _) (q19 _ _)
 have b1:=q0H ax dx
 have b2':=q0H ay dy
 have b3:=q0H bx dx
 have b4:=q0H b2 dy
 have b5:=q0H cx dx
 have b6:=q0H cy dy
 generalize (q4s (fz ax-fz dx) (fz ay-fz dy) (fz bx-fz dx) (fz b2-fz dy) (fz cx-fz dx) (fz cy-fz dy)).sign=z at *
 generalize Uz (fz ax-fz dx)=p1 at *
 generalize Uz (fz ay-fz dy)=p2 at *
 generalize Uz (fz bx-fz dx)=q1 at *
 generalize Uz (fz b2-fz dy)=q2 at *
 generalize Uz (fz cx-fz dx)=r1 at *
 generalize Uz (fz cy-fz dy)=r2 at *
 have nH:Hid (Tab w):=hT
 have N9:Hid (∀ w1 v,G w w1→StepIs w1 v p1 p2→_):=fun w1 v g h=>q4Q w1 v p1 p2 80 (by omega) (by omega) (nH.out.G g) h b1 b2'
 have Na:Hid (∀ w1 v,G w w1→StepIs w1 v q1 q2→_):=fun w1 v g h=>q4Q w1 v q1 q2 80 (by omega) (by omega) (nH.out.G g) h b3 b4
 have Nb:Hid (∀ w1 v,G w w1→StepIs w1 v r1 r2→_):=fun w1 v g h=>q4Q w1 v r1 r2 80 (by omega) (by omega) (nH.out.G g) h b5 b6
 have Nc:Hid (∀ w1 v u,G w w1→StepIs w1 v q1 q2→StepIs w1 u r1 r2→_):=fun w1 v u g h k=>q3Q w1 v u q1 q2 r1 r2 80 (by omega) (by omega) (nH.out.G g) h k b3 b4 b5 b6
 have Nf:Hid (∀ w1 v u,G w w1→StepIs w1 v r1 r2→StepIs w1 u p1 p2→_):=fun w1 v u g h k=>q3Q w1 v u r1 r2 p1 p2 80 (by omega) (by omega) (nH.out.G g) h k b5 b6 b1 b2'
 have Ng:Hid (∀ w1 v u,G w w1→StepIs w1 v p1 p2→StepIs w1 u q1 q2→_):=fun w1 v u g h k=>q3Q w1 v u p1 p2 q1 q2 80 (by omega) (by omega) (nH.out.G g) h k b1 b2' b3 b4
 have Nh:Hid (∀ w1 v u,G w w1→QIs w1 v (p1*p1+p2*p2)→QIs w1 u (q1*r2-q2*r1)→_):=fun w1 v u g h k=>q37 w1 v u _ _ 80 (by omega) (by omega) (nH.out.G g) h k k1 k4
 have Ni:Hid (∀ w1 v u,G w w1→QIs w1 v (q1*q1+q2*q2)→QIs w1 u (r1*p2-r2*p1)→_):=fun w1 v u g h k=>q37 w1 v u _ _ 80 (by omega) (by omega) (nH.out.G g) h k k2 k5
 have zV:Hid (∀ w1 v u,G w w1→QIs w1 v (r1*r1+r2*r2)→QIs w1 u (p1*q2-p2*q1)→_):=fun w1 v u g h k=>q37 w1 v u _ _ 80 (by omega) (by omega) (nH.out.G g) h k k3 k6
 have Nj:Hid (∀ w1 v u,G w w1→QIs w1 v ((p1*p1+p2*p2)*(q1*r2-q2*r1))→QIs w1 u ((q1*q1+q2*q2)*(r1*p2-r2*p1))→_):=fun w1 v u g h k=>q79 w1 v u _ _ 160 (by omega) (by omega) (nH.out.G g) h k k7 k8
 have Nk:Hid (∀ w1 v u,G w w1→QIs w1 v ((p1*p1+p2*p2)*(q1*r2-q2*r1)+(q1*q1+q2*q2)*(r1*p2-r2*p1))→QIs w1 u ((r1*r1+r2*r2)*(p1*q2-p2*q1))→_):=fun w1 v u g h k=>q79 w1 v u _ _ 160 (by omega) (by omega) (nH.out.G g) h k k10 k9
 have qN:Hid (∀ w1 v,QIs w1 v ((p1*p1+p2*p2)*(q1*r2-q2*r1)+(q1*q1+q2*q2)*(r1*p2-r2*p1)+(r1*r1+r2*r2)*(p1*q2-p2*q1))→Calls Tryz.prog 81 #[v] w1 fun e w'=>e= .returned (.int .i64 z)∧G w1 w'):=fun w1 v h=>by
  have k:=q6N w1 v _ h
  rw[k11] at k
  exact k
 clear nH hT h1 h2 h3 h4 h5 h6 h7 h8 k1 k2 k3 k4 k5 k6 k7 k8 k9 k10 k11 b1 b2' b3 b4 b5 b6
 generalize (p1*p1+p2*p2)*(q1*r2-q2*r1)+(q1*q1+q2*q2)*(r1*p2-r2*p1)+(r1*r1+r2*r2)*(p1*q2-p2*q1)=s3 at *
 generalize (p1*p1+p2*p2)*(q1*r2-q2*r1)+(q1*q1+q2*q2)*(r1*p2-r2*p1)=s2 at *
 generalize (p1*p1+p2*p2)*(q1*r2-q2*r1)=s1 at *
 generalize (q1*q1+q2*q2)*(r1*p2-r2*p1)=y2 at *
 generalize (r1*r1+r2*r2)*(p1*q2-p2*q1)=y3 at *
 generalize p1*p1+p2*p2=n1 at *
 generalize q1*q1+q2*q2=n2 at *
 generalize r1*r1+r2*r2=n3 at *
 generalize q1*r2-q2*r1=x1 at *
 generalize r1*p2-r2*p1=x2 at *
 generalize p1*q2-p2*q1=x3 at *
 go_enter Tryz.func40,Tryz.ntmps40
 go_wp2_with fail
 obtain⟨w0,aH,g0,hz0,R0,R1,R2,R3,R4⟩:=qa6 w [.float .f64 ax,.float .f64 ay] [.float .f64 bx,.float .f64 b2] [.float .f64 cx,.float .f64 cy] [.float .f64 dx,.float .f64 dy] [.int .i64 0,.int .i64 0] 66 66 66 66 29
 rw[aH]
 clear aH
 have mq:Rec (w0.alloc (.cells #[.float .f64 ax,.float .f64 ay,.float .f64 bx,.float .f64 b2,.float .f64 cx,.float .f64 cy,.float .f64 dx,.float .f64 dy] 66)) w0.heap.size _:=Rec.new8 w0 _ _ _ _ _ _ _ _ _
 have qZ:G w0 (w0.alloc (.cells #[.float .f64 ax,.float .f64 ay,.float .f64 bx,.float .f64 b2,.float .f64 cx,.float .f64 cy,.float .f64 dx,.float .f64 dy] 66)):=(G.refl w0).alloc _
 rw[show w.heap.size+1+1+1+1+1=w0.heap.size from by omega]
 have hP:PSl (w0.alloc (.cells #[.float .f64 ax,.float .f64 ay,.float .f64 bx,.float .f64 b2,.float .f64 cx,.float .f64 cy,.float .f64 dx,.float .f64 dy] 66)) (.slice (some ⟨w0.heap.size,0,none⟩) 4 4) [(ax,ay),(bx,b2),(cx,cy),(dx,dy)]:=by
  refine⟨_,_,rfl,Nat.le_refl _,fun i hi=>⟨_,_,rfl,mq.lt,?_⟩⟩
  rcases i with _|_|_|_|i
  ·exact⟨mq.cell 0,mq.cell 1⟩
  ·exact⟨mq.cell 2,mq.cell 3⟩
  ·exact⟨mq.cell 4,mq.cell 5⟩
  ·exact⟨mq.cell 6,mq.cell 7⟩
  ·simp at hi;omega
 refine Calls.mono (P:=Tryz.prog) (HU.out _ _ hP) ?_
 intro e1 w1 hs
 obtain⟨c,a,rfl,g1,hv⟩:=hs
 have HV:Hid (q1M [(ax,ay),(bx,b2),(cx,cy),(dx,dy)] c a):=hv
 have dN:=G.trans qZ g1
 clear hv g1 mq qZ hP HU
 have S0:Hid (Rec _ _ _):=Rec.G R0.out (dN)
 have S1:Hid (Rec _ _ _):=Rec.G R1.out (dN)
 have S2:Hid (Rec _ _ _):=Rec.G R2.out (dN)
 have S3:Hid (Rec _ _ _):=Rec.G R3.out (dN)
 have S4:Hid (Rec _ _ _):=Rec.G R4.out (dN)
 have qM:=G.trans g0 dN
 have hlt1:=S4.out.lt
 clear R0 R1 R2 R3 R4 g0 hz0 dN
 by_cases hc:c=0
 ·subst hc
  have HF:Hid (FinL [(ax,ay),(bx,b2),(cx,cy),(dx,dy)]∧a=0):=by
   rcases HV.out with ⟨-,h1,h2⟩|⟨i,h1,-⟩
   ·exact⟨h2,h1⟩
   ·omega
  have HB1:Hid _:=Cm.out HF.out.1
  have HB2:Hid _:=Cq.out HF.out.1
  have HB3:Hid _:=N8.out HF.out.1
  clear Cm Cq N8
  go_wp2_with fail
  obtain⟨w2,aH,g2,hz2,R0⟩:=q0x w1 [.int .i64 0,.int .i64 a] 29
  rw[aH]
  clear aH
  have T0:Hid (Rec _ _ _):=Rec.G S0.out (g2)
  have T1:Hid (Rec _ _ _):=Rec.G S1.out (g2)
  have T2:Hid (Rec _ _ _):=Rec.G S2.out (g2)
  have T3:Hid (Rec _ _ _):=Rec.G S3.out (g2)
  have T4:Hid (Rec _ _ _):=Rec.G S4.out (g2)
  have Dc:=G.trans qM g2
  clear S0 S1 S2 S3 S4 R0 hz2 g2 qM hlt1
  refine RN.region_each 12 3 #[true,true,true,true,true,true,true,true,true,true,true,true,false,false,false] [.is (.agg #[.float .f64 dx,.float .f64 dy]),.is (.agg #[.float .f64 ax,.float .f64 ay]),.any (fun v w'=>StepIs w' v p1 p2),.is (.agg #[.float .f64 dx,.float .f64 dy]),.is (.agg #[.float .f64 bx,.float .f64 b2]),.any (fun v w'=>StepIs w' v q1 q2),.is (.agg #[.float .f64 dx,.float .f64 dy]),.is (.agg #[.float .f64 cx,.float .f64 cy]),.any (fun v w'=>StepIs w' v r1 r2),.fresh (fun v w'=>NewRec w2 w' v ([.bool false,.slice none 0 0,.slice none 0 0,.bool false,.slice none 0 0,.slice none 0 0])),.fresh (fun v w'=>NewRec w2 w' v ([.bool false,.slice none 0 0,.slice none 0 0,.bool false,.slice none 0 0,.slice none 0 0])),.fresh (fun v w'=>NewRec w2 w' v ([.bool false,.slice none 0 0,.slice none 0 0,.bool false,.slice none 0 0,.slice none 0 0]))] [some 25,some 26,some 27,some 28,some 29,some 30,some 31,some 32,some 33,some 11,some 12,some 13] (by kernel_rfl) (by kernel_rfl) rfl (by kernel_rfl) (by repeat (first|exact trivial|refine⟨fun _ _ _ g h=>by first|exact h.G g|exact fun w3 g3=>h w3 (G.trans g g3),?_⟩)) (by kernel_rfl) (by kernel_rfl) ?_
  refine RN.Letters.is ?_
  refine RN.Letters.is ?_
  refine RN.Letters.any fun v2=> ?_
  refine RN.Letters.is ?_
  refine RN.Letters.is ?_
  refine RN.Letters.any fun v5=> ?_
  refine RN.Letters.is ?_
  refine RN.Letters.is ?_
  refine RN.Letters.any fun v8=> ?_
  refine RN.Letters.fresh fun v9=> ?_
  refine RN.Letters.fresh fun v10=> ?_
  refine RN.Letters.fresh fun v11=> ?_
  refine RN.Letters.nil ?_
  intro A hA
  simp only[q0K,Act.put,List.setIfInBounds_toArray,List.set_cons_zero,List.set_cons_succ] at hA
  subst hA
  refine⟨?_,?_⟩
  ·skip
   refine RN.Eaches.cons rfl ?dH (RN.Eaches.cons rfl ?dL (RN.Eaches.cons rfl ?eD (RN.Eaches.cons rfl ?dM (RN.Eaches.cons rfl ?fE (RN.Eaches.cons rfl ?fV (RN.Eaches.cons rfl ?fq (RN.Eaches.cons rfl ?eF (RN.Eaches.cons rfl ?fF (RN.Eaches.cons rfl ?jf (RN.Eaches.cons rfl ?fZ (RN.Eaches.cons rfl ?jq (RN.Eaches.nil))))))))))))
   case dH|dL|dM|fE|fq|eF=>
    intro W hW hD K hK
    clear hD
    have hT0:=Rec.f2 (Rec.G T0.out hW)
    have rY:=hT0.1
    have rZ:=hT0.2.1
    clear hT0
    have hT1:=Rec.f2 (Rec.G T1.out hW)
    have si:=hT1.1
    have sj:=hT1.2.1
    clear hT1
    have JY:=Rec.f2 (Rec.G T2.out hW)
    have Nl:=JY.1
    have Nn:=JY.2.1
    clear JY
    have JZ:=Rec.f2 (Rec.G T3.out hW)
    have Np:=JZ.1
    have Nq:=JZ.2.1
    clear JZ
    go_simp
    exact hK.out _ _ ⟨_,rfl,G.refl _,rfl⟩
   ·intro W hW hD K hK
    clear hD
    go_simp
    go_wp2_with (go_at_call 78;refine Calls.mono (P:=Tryz.prog) (HB1.out W (G.trans Dc hW)) ?_;intro e w9 hs;obtain⟨u9,rfl,g9,aD⟩:=hs)
    exact hK.out _ _ ⟨_,rfl,g9,aD⟩
   ·intro W hW hD K hK
    clear hD
    go_simp
    go_wp2_with (go_at_call 78;refine Calls.mono (P:=Tryz.prog) (HB2.out W (G.trans Dc hW)) ?_;intro e w9 hs;obtain⟨u9,rfl,g9,aD⟩:=hs)
    exact hK.out _ _ ⟨_,rfl,g9,aD⟩
   ·intro W hW hD K hK
    clear hD
    go_simp
    go_wp2_with (go_at_call 78;refine Calls.mono (P:=Tryz.prog) (HB3.out W (G.trans Dc hW)) ?_;intro e w9 hs;obtain⟨u9,rfl,g9,aD⟩:=hs)
    exact hK.out _ _ ⟨_,rfl,g9,aD⟩
   ·intro W hW hD K hK
    clear hD
    go_simp
    exact hK.out _ _ ⟨_,rfl,(G.refl _).alloc _,⟨_,rfl,hW.size,Rec.new6 _ _ _ _ _ _ _ _⟩,_,rfl,Nat.le_refl _,by simp⟩
   ·intro W hW hD K hK
    clear hD
    go_simp
    exact hK.out _ _ ⟨_,rfl,(G.refl _).alloc _,⟨_,rfl,hW.size,Rec.new6 _ _ _ _ _ _ _ _⟩,_,rfl,Nat.le_refl _,by simp⟩
   ·intro W hW hD K hK
    clear hD
    go_simp
    exact hK.out _ _ ⟨_,rfl,(G.refl _).alloc _,⟨_,rfl,hW.size,Rec.new6 _ _ _ _ _ _ _ _⟩,_,rfl,Nat.le_refl _,by simp⟩
  intro w3 g3 hH De
  have h2:=RN.Helds.get (v:=v2) 2 hH rfl rfl
  have h5:=RN.Helds.get (v:=v5) 5 hH rfl rfl
  have h8:=RN.Helds.get (v:=v8) 8 hH rfl rfl
  have h9:=RN.Helds.getF (v:=v9) 9 hH rfl rfl
  have h10:=RN.Helds.getF (v:=v10) 10 hH rfl rfl
  have h11:=RN.Helds.getF (v:=v11) 11 hH rfl rfl
  have tN:v9≠v10:=De 9 10 _ _ _ _ (by decide) rfl rfl trivial trivial rfl rfl
  have tO:v9≠v11:=De 9 11 _ _ _ _ (by decide) rfl rfl trivial trivial rfl rfl
  have pU:v10≠v11:=De 10 11 _ _ _ _ (by decide) rfl rfl trivial trivial rfl rfl
  clear hH De
  clear HB1 HB2 HB3
  obtain⟨np,rfl,oL,rp⟩:=h9
  obtain⟨nq,rfl,hnq,rq⟩:=h10
  obtain⟨nr,rfl,hnr,rr⟩:=h11
  have hpq:np≠nq:=fun e=>tN (by rw[e])
  have hpr:np≠nr:=fun e=>tO (by rw[e])
  have K4:nq≠nr:=fun e=>pU (by rw[e])
  have IP:Hid (StepIs w3 v2 p1 p2):=h2
  have IQ:Hid (StepIs w3 v5 q1 q2):=h5
  have IR:Hid (StepIs w3 v8 r1 r2):=h8
  obtain⟨tP,aP,kP,cP,dP,eP,fP,gP,hP,iP,jP,lP,mP,nP,rfl,-,-⟩:=h2
  obtain⟨tQ,aQ,kQ,cQ,dQ,eQ,fQ,gQ,hQ,iQ,jQ,lQ,mQ,nQ,rfl,-,-⟩:=h5
  obtain⟨tR,aR,kR,cR,dR,eR,fR,gR,hR,iR,jR,lR,mR,nR,rfl,-,-⟩:=h8
  have T4':Hid (Rec w3 _ _):=Rec.G T4.out g3
  have hlow:Hid (w.heap.size+4<w2.heap.size):=T4.out.lt
  clear tN tO pU T0 T1 T2 T3 T4
  have Zp:Hid (Rec w3 np [.bool false,.slice none 0 0,.slice none 0 0,.bool false,.slice none 0 0,.slice none 0 0]):=rp
  have Zq:Hid (Rec w3 nq [.bool false,.slice none 0 0,.slice none 0 0,.bool false,.slice none 0 0,.slice none 0 0]):=rq
  have Zr:Hid (Rec w3 nr [.bool false,.slice none 0 0,.slice none 0 0,.bool false,.slice none 0 0,.slice none 0 0]):=rr
  have tT:np≠w.heap.size+4:=by have:=hlow.out;omega
  have tX:nq≠w.heap.size+4:=by have:=hlow.out;omega
  have tY:nr≠w.heap.size+4:=by have:=hlow.out;omega
  clear rp rq rr
  have QP:Hid (StepAt (set6 w3 np (.bool tP) (.slice aP kP cP) (.slice dP eP fP) (.bool gP) (.slice hP iP jP) (.slice lP mP nP)) np p1 p2):=⟨_,_,_,_,_,_,_,_,_,_,_,_,_,_,q2H Zp.out,StepIs.set6 IP.out Zp.out⟩
  have JQ:Hid (StepIs (set6 w3 np (.bool tP) (.slice aP kP cP) (.slice dP eP fP) (.bool gP) (.slice hP iP jP) (.slice lP mP nP)) _ q1 q2):=StepIs.set6 IQ.out Zp.out
  have JR:Hid (StepIs (set6 w3 np (.bool tP) (.slice aP kP cP) (.slice dP eP fP) (.bool gP) (.slice hP iP jP) (.slice lP mP nP)) _ r1 r2):=StepIs.set6 IR.out Zp.out
  have Yq:Hid (Rec (set6 w3 np (.bool tP) (.slice aP kP cP) (.slice dP eP fP) (.bool gP) (.slice hP iP jP) (.slice lP mP nP)) nq [.bool false,.slice none 0 0,.slice none 0 0,.bool false,.slice none 0 0,.slice none 0 0]):=q1D Zq.out hpq
  have Yr:Hid (Rec (set6 w3 np (.bool tP) (.slice aP kP cP) (.slice dP eP fP) (.bool gP) (.slice hP iP jP) (.slice lP mP nP)) nr [.bool false,.slice none 0 0,.slice none 0 0,.bool false,.slice none 0 0,.slice none 0 0]):=q1D Zr.out hpr
  have pV:Hid (Rec (set6 w3 np (.bool tP) (.slice aP kP cP) (.slice dP eP fP) (.bool gP) (.slice hP iP jP) (.slice lP mP nP)) (w.heap.size+4) _):=q1D T4'.out tT
  have gn:G w2 (set6 w3 np (.bool tP) (.slice aP kP cP) (.slice dP eP fP) (.bool gP) (.slice hP iP jP) (.slice lP mP nP)):=q5j g3 oL
  obtain⟨hc0,hc1,hc2,hc3,hc4,nU,hf0,hf1,hf2,hf3,kW,mD⟩:=Zp.out.f6
  refine wpAny_ready (rs:=[12]) (by kernel_rfl) (by simp) ?_
  refine AllReady.cons rfl (fun K hK=> ?_) AllReady.nil
  go_simp
  refine hK _ _ ?_
  clear hK K hc0 hc1 hc2 hc3 hc4 nU hf0 hf1 hf2 hf3 kW mD
  unfold set6 at QP pV gn JQ JR Yq Yr
  generalize (World.setCell (World.setCell (World.setCell (World.setCell (World.setCell (World.setCell w3 ⟨np,0,none⟩ (.bool tP)) ⟨np,1,none⟩ (.slice aP kP cP)) ⟨np,2,none⟩ (.slice dP eP fP)) ⟨np,3,none⟩ (.bool gP)) ⟨np,4,none⟩ (.slice hP iP jP)) ⟨np,5,none⟩ (.slice lP mP nP))=w4 at *
  clear Zp T4' g3 IP IQ IR Zq Zr
  have IQ:Hid _:=JQ
  clear JQ
  have IR:Hid _:=JR
  clear JR
  have Zq:Hid _:=Yq
  clear Yq
  have Zr:Hid _:=Yr
  clear Yr
  have T4':Hid _:=pV
  have g4:=gn
  clear pV gn
  have QQ:Hid (StepAt (set6 w4 nq (.bool tQ) (.slice aQ kQ cQ) (.slice dQ eQ fQ) (.bool gQ) (.slice hQ iQ jQ) (.slice lQ mQ nQ)) nq q1 q2):=⟨_,_,_,_,_,_,_,_,_,_,_,_,_,_,q2H Zq.out,StepIs.set6 IQ.out Zq.out⟩
  have JR:Hid (StepIs (set6 w4 nq (.bool tQ) (.slice aQ kQ cQ) (.slice dQ eQ fQ) (.bool gQ) (.slice hQ iQ jQ) (.slice lQ mQ nQ)) _ r1 r2):=StepIs.set6 IR.out Zq.out
  have Yr:Hid (Rec (set6 w4 nq (.bool tQ) (.slice aQ kQ cQ) (.slice dQ eQ fQ) (.bool gQ) (.slice hQ iQ jQ) (.slice lQ mQ nQ)) nr [.bool false,.slice none 0 0,.slice none 0 0,.bool false,.slice none 0 0,.slice none 0 0]):=q1D Zr.out K4
  have OP:Hid (StepAt (set6 w4 nq (.bool tQ) (.slice aQ kQ cQ) (.slice dQ eQ fQ) (.bool gQ) (.slice hQ iQ jQ) (.slice lQ mQ nQ)) np p1 p2):=StepAt.set6 QP.out Zq.out hpq.symm
  have pV:Hid (Rec (set6 w4 nq (.bool tQ) (.slice aQ kQ cQ) (.slice dQ eQ fQ) (.bool gQ) (.slice hQ iQ jQ) (.slice lQ mQ nQ)) (w.heap.size+4) _):=q1D T4'.out tX
  have gn:G w2 (set6 w4 nq (.bool tQ) (.slice aQ kQ cQ) (.slice dQ eQ fQ) (.bool gQ) (.slice hQ iQ jQ) (.slice lQ mQ nQ)):=q5j g4 hnq
  obtain⟨hc0,hc1,hc2,hc3,hc4,nU,hf0,hf1,hf2,hf3,kW,mD⟩:=Zq.out.f6
  refine wpAny_ready (rs:=[13]) (by kernel_rfl) (by simp) ?_
  refine AllReady.cons rfl (fun K hK=> ?_) AllReady.nil
  go_simp
  refine hK _ _ ?_
  clear hK K hc0 hc1 hc2 hc3 hc4 nU hf0 hf1 hf2 hf3 kW mD
  unfold set6 at QQ pV gn JR Yr OP
  generalize (World.setCell (World.setCell (World.setCell (World.setCell (World.setCell (World.setCell w4 ⟨nq,0,none⟩ (.bool tQ)) ⟨nq,1,none⟩ (.slice aQ kQ cQ)) ⟨nq,2,none⟩ (.slice dQ eQ fQ)) ⟨nq,3,none⟩ (.bool gQ)) ⟨nq,4,none⟩ (.slice hQ iQ jQ)) ⟨nq,5,none⟩ (.slice lQ mQ nQ))=w5 at *
  clear Zq T4' g4 IQ IR Zr QP
  have IR:Hid _:=JR
  clear JR
  have Zr:Hid _:=Yr
  clear Yr
  have QP:Hid _:=OP
  clear OP
  have T4':Hid _:=pV
  have g5:=gn
  clear pV gn
  have QR:Hid (StepAt (set6 w5 nr (.bool tR) (.slice aR kR cR) (.slice dR eR fR) (.bool gR) (.slice hR iR jR) (.slice lR mR nR)) nr r1 r2):=⟨_,_,_,_,_,_,_,_,_,_,_,_,_,_,q2H Zr.out,StepIs.set6 IR.out Zr.out⟩
  have OP:Hid (StepAt (set6 w5 nr (.bool tR) (.slice aR kR cR) (.slice dR eR fR) (.bool gR) (.slice hR iR jR) (.slice lR mR nR)) np p1 p2):=StepAt.set6 QP.out Zr.out hpr.symm
  have OQ:Hid (StepAt (set6 w5 nr (.bool tR) (.slice aR kR cR) (.slice dR eR fR) (.bool gR) (.slice hR iR jR) (.slice lR mR nR)) nq q1 q2):=StepAt.set6 QQ.out Zr.out K4.symm
  have pV:Hid (Rec (set6 w5 nr (.bool tR) (.slice aR kR cR) (.slice dR eR fR) (.bool gR) (.slice hR iR jR) (.slice lR mR nR)) (w.heap.size+4) _):=q1D T4'.out tY
  have gn:G w2 (set6 w5 nr (.bool tR) (.slice aR kR cR) (.slice dR eR fR) (.bool gR) (.slice hR iR jR) (.slice lR mR nR)):=q5j g5 hnr
  obtain⟨hc0,hc1,hc2,hc3,hc4,nU,hf0,hf1,hf2,hf3,kW,mD⟩:=Zr.out.f6
  refine wpAny_ready (rs:=[14]) (by kernel_rfl) (by simp) ?_
  refine AllReady.cons rfl (fun K hK=> ?_) AllReady.nil
  go_simp
  refine hK _ _ ?_
  clear hK K hc0 hc1 hc2 hc3 hc4 nU hf0 hf1 hf2 hf3 kW mD
  unfold set6 at QR pV gn OP OQ
  generalize (World.setCell (World.setCell (World.setCell (World.setCell (World.setCell (World.setCell w5 ⟨nr,0,none⟩ (.bool tR)) ⟨nr,1,none⟩ (.slice aR kR cR)) ⟨nr,2,none⟩ (.slice dR eR fR)) ⟨nr,3,none⟩ (.bool gR)) ⟨nr,4,none⟩ (.slice hR iR jR)) ⟨nr,5,none⟩ (.slice lR mR nR))=w6 at *
  clear Zr T4' g5 IR QP QQ
  have QP:Hid _:=OP
  clear OP
  have QQ:Hid _:=OQ
  clear OQ
  have T4':Hid _:=pV
  have g6:=gn
  clear pV gn
  refine wpAny_done (by kernel_rfl) ?_ _
  go_wp2_with fail
  obtain⟨tP,aP,kP,cP,dP,eP,fP,gP,hP,iP,jP,lP,mP,nP,hr,hi⟩:=QP.out
  have EP:Hid (Rec w6 np [.bool tP,.slice aP kP cP,.slice dP eP fP,.bool gP,.slice hP iP jP,.slice lP mP nP]):=hr
  have SP:Hid (StepIs w6 (.agg #[.bool tP,.slice aP kP cP,.slice dP eP fP,.bool gP,.slice hP iP jP,.slice lP mP nP]) p1 p2):=hi
  clear QP hr hi
  obtain⟨tQ,aQ,kQ,cQ,dQ,eQ,fQ,gQ,hQ,iQ,jQ,lQ,mQ,nQ,hr,hi⟩:=QQ.out
  have EQ:Hid (Rec w6 nq [.bool tQ,.slice aQ kQ cQ,.slice dQ eQ fQ,.bool gQ,.slice hQ iQ jQ,.slice lQ mQ nQ]):=hr
  have SQ:Hid (StepIs w6 (.agg #[.bool tQ,.slice aQ kQ cQ,.slice dQ eQ fQ,.bool gQ,.slice hQ iQ jQ,.slice lQ mQ nQ]) q1 q2):=hi
  clear QQ hr hi
  obtain⟨tR,aR,kR,cR,dR,eR,fR,gR,hR,iR,jR,lR,mR,nR,hr,hi⟩:=QR.out
  have ER:Hid (Rec w6 nr [.bool tR,.slice aR kR cR,.slice dR eR fR,.bool gR,.slice hR iR jR,.slice lR mR nR]):=hr
  have SR:Hid (StepIs w6 (.agg #[.bool tR,.slice aR kR cR,.slice dR eR fR,.bool gR,.slice hR iR jR,.slice lR mR nR]) r1 r2):=hi
  clear QR hr hi
  have xg:=G.trans Dc g6
  clear tT tX tY hpq hpr K4 oL hnq hnr
  refine region_each 7 1 #[true,true,true,true,true,true,true,false] [.is (.agg #[.bool tP,.slice aP kP cP,.slice dP eP fP,.bool gP,.slice hP iP jP,.slice lP mP nP]),.any (fun v w'=>QIs w' v (n1)),.is (.agg #[.bool tQ,.slice aQ kQ cQ,.slice dQ eQ fQ,.bool gQ,.slice hQ iQ jQ,.slice lQ mQ nQ]),.is (.agg #[.bool tR,.slice aR kR cR,.slice dR eR fR,.bool gR,.slice hR iR jR,.slice lR mR nR]),.any (fun v w'=>QIs w' v (x1)),.any (fun v w'=>QIs w' v (s1)),.any (fun v w'=>NewRec w6 w' v ([.bool false,.slice none 0 0,.slice none 0 0]))] [some 34,some 35,some 36,some 37,some 38,some 39,some 14] (by kernel_rfl) (by kernel_rfl) rfl (by kernel_rfl) (by repeat (first|exact trivial|refine⟨fun _ _ _ g h=>by first|exact h.G g|exact fun w3 g3=>h w3 (G.trans g g3),?_⟩)) (by kernel_rfl) (by kernel_rfl) ?_
  refine Letters.is ?_
  refine Letters.any fun v1=> ?_
  refine Letters.is ?_
  refine Letters.is ?_
  refine Letters.any fun v4=> ?_
  refine Letters.any fun v5=> ?_
  refine Letters.any fun v6=> ?_
  refine Letters.nil ?_
  intro A hA
  simp only[q0K,Act.put,List.setIfInBounds_toArray,List.set_cons_zero,List.set_cons_succ] at hA
  subst hA
  refine⟨?_,?_⟩
  ·skip
   refine Eaches.cons rfl ?fG (Eaches.cons rfl ?il (Eaches.cons rfl ?gu (Eaches.cons rfl ?gN (Eaches.cons rfl ?iq (Eaches.cons rfl ?iJ (Eaches.cons rfl ?jg (Eaches.nil)))))))
   case fG|gu|gN=>
    intro W hW hD K hK
    clear hD
    have xh:=Rec.f6 (Rec.G EP.out hW)
    have Nr:=xh.1
    have Ns:=xh.2.1
    have Nt:=xh.2.2.1
    have Nu:=xh.2.2.2.1
    have Nv:=xh.2.2.2.2.1
    have Nw:=xh.2.2.2.2.2.1
    clear xh
    have xk:=Rec.f6 (Rec.G EQ.out hW)
    have Ny:=xk.1
    have Nz:=xk.2.1
    have NA:=xk.2.2.1
    have NB:=xk.2.2.2.1
    have NC:=xk.2.2.2.2.1
    have ND:=xk.2.2.2.2.2.1
    clear xk
    have xm:=Rec.f6 (Rec.G ER.out hW)
    have NF:=xm.1
    have NG:=xm.2.1
    have NH:=xm.2.2.1
    have NJ:=xm.2.2.2.1
    have NK:=xm.2.2.2.2.1
    have NL:=xm.2.2.2.2.2.1
    clear xm
    go_simp
    exact hK.out _ _ ⟨_,rfl,G.refl _,rfl⟩
   ·intro W hW hD K hK
    clear hD
    go_simp
    go_wp2_with (go_at_call 79;refine Calls.mono (P:=Tryz.prog) (N9.out W _ (G.trans xg hW) (StepIs.G SP.out hW)) ?_;intro e w9 hs;obtain⟨u9,rfl,g9,aD⟩:=hs)
    exact hK.out _ _ ⟨_,rfl,g9,aD⟩
   ·intro W hW hD K hK
    clear hD
    go_simp
    go_wp2_with (go_at_call 80;refine Calls.mono (P:=Tryz.prog) (Nc.out W _ _ (G.trans xg hW) (StepIs.G SQ.out hW) (StepIs.G SR.out hW)) ?_;intro e w9 hs;obtain⟨u9,rfl,g9,aD⟩:=hs)
    exact hK.out _ _ ⟨_,rfl,g9,aD⟩
   ·intro W hW hD K hK
    have h1:=Deps.get (v:=v1) 1 hD rfl rfl (by kernel_rfl)
    have h4:=Deps.get (v:=v4) 4 hD rfl rfl (by kernel_rfl)
    clear hD
    go_simp
    go_wp2_with (go_at_call 56;refine Calls.mono (P:=Tryz.prog) (Nh.out W v1 v4 (G.trans xg hW) h1 h4) ?_;intro e w9 hs;obtain⟨u9,rfl,g9,aD⟩:=hs)
    exact hK.out _ _ ⟨_,rfl,g9,aD⟩
   ·intro W hW hD K hK
    clear hD
    go_simp
    exact hK.out _ _ ⟨_,rfl,(G.refl _).alloc _,_,rfl,hW.size,Rec.new3 _ _ _ _ _⟩
  intro w7 g7 hH
  have h5:=Helds.get (v:=v5) 5 hH rfl rfl
  have h6:=Helds.get (v:=v6) 6 hH rfl rfl
  clear hH
  clear N9 Nc Nh
  obtain⟨nb,rfl,hnb,hrb⟩:=h6
  have N0:Hid (Rec w7 nb [.bool false,.slice none 0 0,.slice none 0 0]):=hrb
  clear hrb
  obtain⟨Ax,Kx,Cx,Bx,Ix,Dx,rfl,ed,bX⟩:=h5
  obtain⟨ux,pW⟩:∃ t,t=decide (s1.num<0):=⟨_,rfl⟩
  have hQ:QIs w7 (.agg #[.bool ux,.slice Ax Kx Cx,.slice Bx Ix Dx]) s1:=⟨Ax,Kx,Cx,Bx,Ix,Dx,by rw[pW],ed,bX⟩
  rw[← pW]
  have NM:Hid _:=hQ.set3 (u1:= .bool ux) (u2:= .slice Ax Kx Cx) (u3:= .slice Bx Ix Dx) N0.out trivial trivial trivial
  clear ed bX pW hQ
  have hS:=Rec.f3 (Rec.G N0.out ((G.refl _)))
  have bD:=hS.1
  have bE:=hS.2.1
  have bF:=hS.2.2.1
  have bG:=hS.2.2.2.1
  have dn:=hS.2.2.2.2.1
  have dw:=hS.2.2.2.2.2
  clear hS
  refine wpAny_ready (rs:=[7]) (by kernel_rfl) (by simp) ?_
  refine AllReady.cons rfl (fun K hK=> ?_) AllReady.nil
  go_simp
  refine hK _ _ ?_
  clear hK K bD bE bF bG dn dw
  refine wpAny_done (by kernel_rfl) ?_ _
  have N1:Hid (Rec _ nb [.bool ux,.slice Ax Kx Cx,.slice Bx Ix Dx]):=Rec.set3 N0.out
  have rT:=Rec.g3 (b:=nb) (u:= .bool ux) (v:= .slice Ax Kx Cx) (x:= .slice Bx Ix Dx) g7 hnb
  generalize (((w7.setCell ⟨nb,0,none⟩ (.bool ux)).setCell ⟨nb,1,none⟩ (.slice Ax Kx Cx)).setCell ⟨nb,2,none⟩ (.slice Bx Ix Dx))=w8 at *
  clear N0 g7
  have BG:Hid (Rec _ _ _):=Rec.G EP.out rT
  have BH:Hid (StepIs _ _ _ _):=StepIs.G SP.out rT
  have BI:Hid (Rec _ _ _):=Rec.G EQ.out rT
  have BJ:Hid (StepIs _ _ _ _):=StepIs.G SQ.out rT
  have BL:Hid (Rec _ _ _):=Rec.G ER.out rT
  have BM:Hid (StepIs _ _ _ _):=StepIs.G SR.out rT
  have pX:=G.trans xg rT
  go_wp2_with fail
  refine region_each 8 1 #[true,true,true,true,true,true,true,true,false] [.is (.agg #[.bool ux,.slice Ax Kx Cx,.slice Bx Ix Dx]),.is (.agg #[.bool tQ,.slice aQ kQ cQ,.slice dQ eQ fQ,.bool gQ,.slice hQ iQ jQ,.slice lQ mQ nQ]),.any (fun v w'=>QIs w' v (n2)),.is (.agg #[.bool tR,.slice aR kR cR,.slice dR eR fR,.bool gR,.slice hR iR jR,.slice lR mR nR]),.is (.agg #[.bool tP,.slice aP kP cP,.slice dP eP fP,.bool gP,.slice hP iP jP,.slice lP mP nP]),.any (fun v w'=>QIs w' v (x2)),.any (fun v w'=>QIs w' v (y2)),.any (fun v w'=>QIs w' v (s2))] [some 40,some 41,some 42,some 43,some 44,some 45,some 46,some 47] (by kernel_rfl) (by kernel_rfl) rfl (by kernel_rfl) (by repeat (first|exact trivial|refine⟨fun _ _ _ g h=>by first|exact h.G g|exact fun w3 g3=>h w3 (G.trans g g3),?_⟩)) (by kernel_rfl) (by kernel_rfl) ?_
  refine Letters.is ?_
  refine Letters.is ?_
  refine Letters.any fun v2=> ?_
  refine Letters.is ?_
  refine Letters.is ?_
  refine Letters.any fun v5=> ?_
  refine Letters.any fun v6=> ?_
  refine Letters.any fun v7=> ?_
  refine Letters.nil ?_
  intro A hA
  simp only[q0K,Act.put,List.setIfInBounds_toArray,List.set_cons_zero,List.set_cons_succ] at hA
  subst hA
  refine⟨?_,?_⟩
  ·skip
   refine Eaches.cons rfl ?jG (Eaches.cons rfl ?kv (Eaches.cons rfl ?ky (Eaches.cons rfl ?kz (Eaches.cons rfl ?kC (Eaches.cons rfl ?mG (Eaches.cons rfl ?mH (Eaches.cons rfl ?o5 (Eaches.nil))))))))
   case jG|kv|kz|kC=>
    intro W hW hD K hK
    clear hD
    have hN1:=Rec.f3 (Rec.G N1.out hW)
    have NP:=hN1.1
    have NQ:=hN1.2.1
    have NR:=hN1.2.2.1
    clear hN1
    have fO:=Rec.f6 (Rec.G BG.out hW)
    have xq:=fO.1
    have xu:=fO.2.1
    have xw:=fO.2.2.1
    have xx:=fO.2.2.2.1
    have xy:=fO.2.2.2.2.1
    have xz:=fO.2.2.2.2.2.1
    clear fO
    have fT:=Rec.f6 (Rec.G BI.out hW)
    have xA:=fT.1
    have xB:=fT.2.1
    have xC:=fT.2.2.1
    have xD:=fT.2.2.2.1
    have xE:=fT.2.2.2.2.1
    have xG:=fT.2.2.2.2.2.1
    clear fT
    have fU:=Rec.f6 (Rec.G BL.out hW)
    have xH:=fU.1
    have xI:=fU.2.1
    have xJ:=fU.2.2.1
    have xK:=fU.2.2.2.1
    have xL:=fU.2.2.2.2.1
    have xM:=fU.2.2.2.2.2.1
    clear fU
    go_simp
    exact hK.out _ _ ⟨_,rfl,G.refl _,rfl⟩
   ·intro W hW hD K hK
    clear hD
    go_simp
    go_wp2_with (go_at_call 79;refine Calls.mono (P:=Tryz.prog) (Na.out W _ (G.trans pX hW) (StepIs.G BJ.out hW)) ?_;intro e w9 hs;obtain⟨u9,rfl,g9,aD⟩:=hs)
    exact hK.out _ _ ⟨_,rfl,g9,aD⟩
   ·intro W hW hD K hK
    clear hD
    go_simp
    go_wp2_with (go_at_call 80;refine Calls.mono (P:=Tryz.prog) (Nf.out W _ _ (G.trans pX hW) (StepIs.G BM.out hW) (StepIs.G BH.out hW)) ?_;intro e w9 hs;obtain⟨u9,rfl,g9,aD⟩:=hs)
    exact hK.out _ _ ⟨_,rfl,g9,aD⟩
   ·intro W hW hD K hK
    have h2:=Deps.get (v:=v2) 2 hD rfl rfl (by kernel_rfl)
    have h5:=Deps.get (v:=v5) 5 hD rfl rfl (by kernel_rfl)
    clear hD
    go_simp
    go_wp2_with (go_at_call 56;refine Calls.mono (P:=Tryz.prog) (Ni.out W v2 v5 (G.trans pX hW) h2 h5) ?_;intro e w9 hs;obtain⟨u9,rfl,g9,aD⟩:=hs)
    exact hK.out _ _ ⟨_,rfl,g9,aD⟩
   ·intro W hW hD K hK
    have h6:=Deps.get (v:=v6) 6 hD rfl rfl (by kernel_rfl)
    clear hD
    go_simp
    go_wp2_with (go_at_call 62;refine Calls.mono (P:=Tryz.prog) (Nj.out W _ v6 (G.trans pX hW) (QIs.G NM.out hW) h6) ?_;intro e w9 hs;obtain⟨u9,rfl,g9,aD⟩:=hs)
    exact hK.out _ _ ⟨_,rfl,g9,aD⟩
  intro w9 g9 hH
  have h7:=Helds.get (v:=v7) 7 hH rfl rfl
  clear hH
  clear Na Nf Ni Nj BG BI BL BH BJ BM NM
  have N2:Hid (Rec w9 nb _):=Rec.G N1.out g9
  have NS:=G.trans rT g9
  clear N1 rT g9 pX
  obtain⟨Ay,Ky,Cy,By,Iy,Dy,rfl,ed,bX⟩:=h7
  obtain⟨uy,pW⟩:∃ t,t=decide (s2.num<0):=⟨_,rfl⟩
  have hQ:QIs w9 (.agg #[.bool uy,.slice Ay Ky Cy,.slice By Iy Dy]) s2:=⟨Ay,Ky,Cy,By,Iy,Dy,by rw[pW],ed,bX⟩
  rw[← pW]
  have NT:Hid _:=hQ.set3 (u1:= .bool uy) (u2:= .slice Ay Ky Cy) (u3:= .slice By Iy Dy) N2.out trivial trivial trivial
  clear ed bX pW hQ
  have hS:=Rec.f3 (Rec.G N2.out ((G.refl _)))
  have bD:=hS.1
  have bE:=hS.2.1
  have bF:=hS.2.2.1
  have bG:=hS.2.2.2.1
  have dn:=hS.2.2.2.2.1
  have dw:=hS.2.2.2.2.2
  clear hS
  refine wpAny_ready (rs:=[8]) (by kernel_rfl) (by simp) ?_
  refine AllReady.cons rfl (fun K hK=> ?_) AllReady.nil
  go_simp
  refine hK _ _ ?_
  clear hK K bD bE bF bG dn dw
  refine wpAny_done (by kernel_rfl) ?_ _
  have N3:Hid (Rec _ nb [.bool uy,.slice Ay Ky Cy,.slice By Iy Dy]):=Rec.set3 N2.out
  have jZ:=Rec.g3 (b:=nb) (u:= .bool uy) (v:= .slice Ay Ky Cy) (x:= .slice By Iy Dy) NS hnb
  generalize (((w9.setCell ⟨nb,0,none⟩ (.bool uy)).setCell ⟨nb,1,none⟩ (.slice Ay Ky Cy)).setCell ⟨nb,2,none⟩ (.slice By Iy Dy))=aX at *
  clear N2 NS
  have BG:Hid (Rec _ _ _):=Rec.G EP.out jZ
  have BH:Hid (StepIs _ _ _ _):=StepIs.G SP.out jZ
  have BI:Hid (Rec _ _ _):=Rec.G EQ.out jZ
  have BJ:Hid (StepIs _ _ _ _):=StepIs.G SQ.out jZ
  have BL:Hid (Rec _ _ _):=Rec.G ER.out jZ
  have BM:Hid (StepIs _ _ _ _):=StepIs.G SR.out jZ
  have pX:=G.trans xg jZ
  go_wp2_with fail
  refine region_each 8 1 #[true,true,true,true,true,true,true,true,false] [.is (.agg #[.bool uy,.slice Ay Ky Cy,.slice By Iy Dy]),.is (.agg #[.bool tR,.slice aR kR cR,.slice dR eR fR,.bool gR,.slice hR iR jR,.slice lR mR nR]),.any (fun v w'=>QIs w' v (n3)),.is (.agg #[.bool tP,.slice aP kP cP,.slice dP eP fP,.bool gP,.slice hP iP jP,.slice lP mP nP]),.is (.agg #[.bool tQ,.slice aQ kQ cQ,.slice dQ eQ fQ,.bool gQ,.slice hQ iQ jQ,.slice lQ mQ nQ]),.any (fun v w'=>QIs w' v (x3)),.any (fun v w'=>QIs w' v (y3)),.any (fun v w'=>QIs w' v (s3))] [some 48,some 49,some 50,some 51,some 52,some 53,some 54,some 55] (by kernel_rfl) (by kernel_rfl) rfl (by kernel_rfl) (by repeat (first|exact trivial|refine⟨fun _ _ _ g h=>by first|exact h.G g|exact fun w3 g3=>h w3 (G.trans g g3),?_⟩)) (by kernel_rfl) (by kernel_rfl) ?_
  refine Letters.is ?_
  refine Letters.is ?_
  refine Letters.any fun v2=> ?_
  refine Letters.is ?_
  refine Letters.is ?_
  refine Letters.any fun v5=> ?_
  refine Letters.any fun v6=> ?_
  refine Letters.any fun v7=> ?_
  refine Letters.nil ?_
  intro A hA
  simp only[q0K,Act.put,List.setIfInBounds_toArray,List.set_cons_zero,List.set_cons_succ] at hA
  subst hA
  refine⟨?_,?_⟩
  ·skip
   refine Eaches.cons rfl ?o9 (Eaches.cons rfl ?og (Eaches.cons rfl ?qQ (Eaches.cons rfl ?qR (Eaches.cons rfl ?oh (Eaches.cons rfl ?qU (Eaches.cons rfl ?yP (Eaches.cons rfl ?yQ (Eaches.nil))))))))
   case o9|og|qR|oh=>
    intro W hW hD K hK
    clear hD
    have jC:=Rec.f3 (Rec.G N3.out hW)
    have NU:=jC.1
    have NV:=jC.2.1
    have NW:=jC.2.2.1
    clear jC
    have fO:=Rec.f6 (Rec.G BG.out hW)
    have xq:=fO.1
    have xu:=fO.2.1
    have xw:=fO.2.2.1
    have xx:=fO.2.2.2.1
    have xy:=fO.2.2.2.2.1
    have xz:=fO.2.2.2.2.2.1
    clear fO
    have fT:=Rec.f6 (Rec.G BI.out hW)
    have xA:=fT.1
    have xB:=fT.2.1
    have xC:=fT.2.2.1
    have xD:=fT.2.2.2.1
    have xE:=fT.2.2.2.2.1
    have xG:=fT.2.2.2.2.2.1
    clear fT
    have fU:=Rec.f6 (Rec.G BL.out hW)
    have xH:=fU.1
    have xI:=fU.2.1
    have xJ:=fU.2.2.1
    have xK:=fU.2.2.2.1
    have xL:=fU.2.2.2.2.1
    have xM:=fU.2.2.2.2.2.1
    clear fU
    go_simp
    exact hK.out _ _ ⟨_,rfl,G.refl _,rfl⟩
   ·intro W hW hD K hK
    clear hD
    go_simp
    go_wp2_with (go_at_call 79;refine Calls.mono (P:=Tryz.prog) (Nb.out W _ (G.trans pX hW) (StepIs.G BM.out hW)) ?_;intro e w9 hs;obtain⟨u9,rfl,g9,aD⟩:=hs)
    exact hK.out _ _ ⟨_,rfl,g9,aD⟩
   ·intro W hW hD K hK
    clear hD
    go_simp
    go_wp2_with (go_at_call 80;refine Calls.mono (P:=Tryz.prog) (Ng.out W _ _ (G.trans pX hW) (StepIs.G BH.out hW) (StepIs.G BJ.out hW)) ?_;intro e w9 hs;obtain⟨u9,rfl,g9,aD⟩:=hs)
    exact hK.out _ _ ⟨_,rfl,g9,aD⟩
   ·intro W hW hD K hK
    have h2:=Deps.get (v:=v2) 2 hD rfl rfl (by kernel_rfl)
    have h5:=Deps.get (v:=v5) 5 hD rfl rfl (by kernel_rfl)
    clear hD
    go_simp
    go_wp2_with (go_at_call 56;refine Calls.mono (P:=Tryz.prog) (zV.out W v2 v5 (G.trans pX hW) h2 h5) ?_;intro e w9 hs;obtain⟨u9,rfl,g9,aD⟩:=hs)
    exact hK.out _ _ ⟨_,rfl,g9,aD⟩
   ·intro W hW hD K hK
    have h6:=Deps.get (v:=v6) 6 hD rfl rfl (by kernel_rfl)
    clear hD
    go_simp
    go_wp2_with (go_at_call 62;refine Calls.mono (P:=Tryz.prog) (Nk.out W _ v6 (G.trans pX hW) (QIs.G NT.out hW) h6) ?_;intro e w9 hs;obtain⟨u9,rfl,g9,aD⟩:=hs)
    exact hK.out _ _ ⟨_,rfl,g9,aD⟩
  intro bC g11 hH
  have h7:=Helds.get (v:=v7) 7 hH rfl rfl
  clear hH
  clear Nb Ng zV Nk BG BI BL BH BJ BM NT EP EQ ER SP SQ SR
  have N4:Hid (Rec bC nb _):=Rec.G N3.out g11
  have BO:=G.trans jZ g11
  clear N3 jZ g11 pX
  obtain⟨Az,Kz,Cz,Bz,Iz,Dz,rfl,ed,bX⟩:=h7
  obtain⟨uz,pW⟩:∃ t,t=decide (s3.num<0):=⟨_,rfl⟩
  have hQ:QIs bC (.agg #[.bool uz,.slice Az Kz Cz,.slice Bz Iz Dz]) s3:=⟨Az,Kz,Cz,Bz,Iz,Dz,by rw[pW],ed,bX⟩
  rw[← pW]
  have NY:Hid _:=hQ.set3 (u1:= .bool uz) (u2:= .slice Az Kz Cz) (u3:= .slice Bz Iz Dz) N4.out trivial trivial trivial
  clear ed bX pW hQ
  have hS:=Rec.f3 (Rec.G N4.out ((G.refl _)))
  have bD:=hS.1
  have bE:=hS.2.1
  have bF:=hS.2.2.1
  have bG:=hS.2.2.2.1
  have dn:=hS.2.2.2.2.1
  have dw:=hS.2.2.2.2.2
  clear hS
  refine wpAny_ready (rs:=[8]) (by kernel_rfl) (by simp) ?_
  refine AllReady.cons rfl (fun K hK=> ?_) AllReady.nil
  go_simp
  refine hK _ _ ?_
  clear hK K bD bE bF bG dn dw
  refine wpAny_done (by kernel_rfl) ?_ _
  have N5:Hid (Rec _ nb [.bool uz,.slice Az Kz Cz,.slice Bz Iz Dz]):=Rec.set3 N4.out
  have xN:=Rec.g3 (b:=nb) (u:= .bool uz) (v:= .slice Az Kz Cz) (x:= .slice Bz Iz Dz) BO hnb
  generalize (((bC.setCell ⟨nb,0,none⟩ (.bool uz)).setCell ⟨nb,1,none⟩ (.slice Az Kz Cz)).setCell ⟨nb,2,none⟩ (.slice Bz Iz Dz))=dK at *
  clear N4 BO
  have K5:=G.trans xg xN
  have T5:Hid (Rec dK (w.heap.size+4) _):=Rec.G T4'.out xN
  clear T4' xg xN hnb
  have lY:=Rec.f3 (Rec.G N5.out (G.refl _))
  have xO:=lY.1
  have xP:=lY.2.1
  have xQ:=lY.2.2.1
  have xR:=lY.2.2.2.1
  have xS:=lY.2.2.2.2.1
  have xU:=lY.2.2.2.2.2
  clear lY
  go_wp2_with fail
  clear xO xP xQ xR xS xU
  refine Calls.mono (P:=Tryz.prog) (qN.out dK _ NY.out) ?_
  rintro e13 cB ⟨rfl,g13⟩
  have K6:=G.trans K5 g13
  clear qN NY N5
  have pY:=Rec.f2 (Rec.G T5.out (g13))
  have K7:=pY.1
  have K8:=pY.2.1
  have K9:=pY.2.2.1
  have Ka:=pY.2.2.2
  clear pY
  go_wp2_with fail
  go_wp2_with fail
  have hT:Hid (Rec (World.setCell (World.setCell cB ⟨w.heap.size+4,0,none⟩ (.int .i64 0)) ⟨w.heap.size+4,1,none⟩ (.int .i64 0)) (w.heap.size+4) [.int .i64 0,.int .i64 0]):=Rec.set2 (Rec.G T5.out (g13))
  have g20:=Rec.g2 (b:=w.heap.size+4) (u:= .int .i64 0) (v:= .int .i64 0) (K6) (by omega)
  generalize (World.setCell (World.setCell cB ⟨w.heap.size+4,0,none⟩ (.int .i64 0)) ⟨w.heap.size+4,1,none⟩ (.int .i64 0))=TS at *
  have hF:=Rec.f2 (Rec.G hT.out ((G.refl _)))
  have bP:=hF.1
  have bQ:=hF.2.1
  have bR:=hF.2.2.1
  have bS:=hF.2.2.2
  clear hF
  refine bodyPost_ret (v:= .tuple #[.int .i64 z,.agg #[.int .i64 0,.int .i64 0]]) (by simp [results,Tryz.results40,go_sem, *]) rfl ?_
  exact⟨0,0,z,rfl,g20,.inl ⟨rfl,rfl,HF.out.1⟩,rfl⟩
 ·have hcf:(c==0)=false:=by simpa using hc
  have qc:=Rec.f2 (Rec.G S4.out (G.refl _))
  have Kb:=qc.1
  have Kc:=qc.2.1
  have Ke:=qc.2.2.1
  have Kg:=qc.2.2.2
  clear qc
  go_wp2_with fail
  go_region
  go_wp2_with fail
  have hT:Hid (Rec (World.setCell (World.setCell w1 ⟨w.heap.size+4,0,none⟩ (.int .i64 c)) ⟨w.heap.size+4,1,none⟩ (.int .i64 a)) (w.heap.size+4) [.int .i64 c,.int .i64 a]):=Rec.set2 (Rec.G S4.out (G.refl _))
  have g9:=Rec.g2 (b:=w.heap.size+4) (u:= .int .i64 c) (v:= .int .i64 a) (qM) (by omega)
  generalize (World.setCell (World.setCell w1 ⟨w.heap.size+4,0,none⟩ (.int .i64 c)) ⟨w.heap.size+4,1,none⟩ (.int .i64 a))=w9 at *
  have hF:=Rec.f2 (Rec.G hT.out ((G.refl _)))
  have bP:=hF.1
  have bQ:=hF.2.1
  have bR:=hF.2.2.1
  have bS:=hF.2.2.2
  clear hF
  have je:=Rec.lt hT.out
  refine bodyPost_ret (v:= .tuple #[.int .i64 0,.agg #[.int .i64 c,.int .i64 a]]) (by simp [results,Tryz.results40,go_sem, *]) rfl ?_
  exact⟨c,a,0,rfl,(g9.alloc _).drew,HV.out,by rw[if_neg hc]⟩
end Go.Proofs.YtljkfjjchkehaaaGreatDoor.EN
