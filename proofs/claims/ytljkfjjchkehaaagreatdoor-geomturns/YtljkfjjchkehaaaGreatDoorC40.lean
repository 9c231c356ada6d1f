/- What is proved here: the contract of the reference's Round4, over this seat's translation. -/
import Derived.Test.YtljkfjjchkehaaaGreatDoorC39
namespace Go.Proofs.YtljkfjjchkehaaaGreatDoor.EN
open Go.ChangeShapes Go.WideShapes Go.ChangeAt Go.RowKit
theorem q7F (w:World) (p:Nat) (q:Rat) (h:RV w p q):Calls Tryz.prog 32 #[.pointer (some ⟨p,0,none⟩)] w fun e w'=>e= .returned (.int .i64 q.num.sign)∧G w w':=by
 rcases h with h|⟨rfl,h⟩
 ·exact q4T w p _ _ h
 ·exact q4T w p _ _ h
set_option maxRecDepth 10000 in
set_option maxHeartbeats 4000000 in
theorem q81 (w:World) (ax ay bx b2 cx cy dx dy:Nat) (h1:ax<2^64) (h2:ay<2^64) (h3:bx<2^64) (h4:b2<2^64) (h5:cx<2^64) (h6:cy<2^64) (h7:dx<2^64) (h8:dy<2^64)
  (f1:fex ax<2047) (f2:fex ay<2047) (f3:fex bx<2047) (f4:fex b2<2047) (f5:fex cx<2047) (f6:fex cy<2047) (f7:fex dx<2047) (f8:fex dy<2047):
  Calls Tryz.prog 38 #[.agg #[.float .f64 ax,.float .f64 ay],.agg #[.float .f64 bx,.float .f64 b2],.agg #[.float .f64 cx,.float .f64 cy],.agg #[.float .f64 dx,.float .f64 dy]] w fun e w'=>
   e= .returned (.int .i64 (q4s (fz ax-fz dx) (fz ay-fz dy) (fz bx-fz dx) (fz b2-fz dy) (fz cx-fz dx) (fz cy-fz dy)).sign)∧G w w':=by
 have Cn:Hid (∀ w1 bd,Rec w1 bd [.float .f64 dx,.float .f64 dy]→_):=fun w1 bd r=>q9q w1 ax ay dx dy bd h1 h2 h7 h8 f1 f2 f7 f8 r
 have Cr:Hid (∀ w1 bd,Rec w1 bd [.float .f64 dx,.float .f64 dy]→_):=fun w1 bd r=>q9q w1 bx b2 dx dy bd h3 h4 h7 h8 f3 f4 f7 f8 r
 have MH:Hid (∀ w1 bd,Rec w1 bd [.float .f64 dx,.float .f64 dy]→_):=fun w1 bd r=>q9q w1 cx cy dx dy bd h5 h6 h7 h8 f5 f6 f7 f8 r
 obtain⟨k1,k2,k3,-,-,-,-,-,-,-,k11⟩:=q3u (fz ax-fz dx) (fz ay-fz dy) (fz bx-fz dx) (fz b2-fz dy) (fz cx-fz dx) (fz cy-fz dy) (Nat.le_refl _) (q19 _ _) (q19 _ _) (q19 _ _) (q19 _ _) (q19 _ _) (q19 _ _)
 have b1:=q0H ax dx
 have b2':=q0H ay dy
 have b3:=q0H bx dx
 have b4:=q0H b2 dy
 have b5:=q0H cx dx
 have b6:=q0H cy dy
 generalize (q4s (fz ax-fz dx) (fz ay-fz dy) (fz bx-fz dx) (fz b2-fz dy) (fz cx-fz dx) (fz cy-fz dy)).sign=z at *
 generalize Uz (fz ax-fz dx)=xa at *
 generalize Uz (fz ay-fz dy)=ya at *
 generalize Uz (fz bx-fz dx)=xb at *
 generalize Uz (fz b2-fz dy)=yb at *
 generalize Uz (fz cx-fz dx)=xc at *
 generalize Uz (fz cy-fz dy)=yc at *
 rw[← q7h] at k11
 generalize xa*xa+ya*ya=na at *
 generalize xb*xb+yb*yb=nb at *
 generalize xc*xc+yc*yc=nc at *
 have hq:∀ i j,QB (one3 (one3 xa ya na j) (one3 xb yb nb j) (one3 xc yc nc j) i) 80:=by
  intro i j
  rcases i with _|_|i<;>rcases j with _|_|j<;>assumption
 obtain⟨q,eq⟩:∃ q:Nat→Nat→Rat,q=fun i j=>one3 (one3 xa ya na j) (one3 xb yb nb j) (one3 xc yc nc j) i:=⟨_,rfl⟩
 have HQ:Hid (∀ i j,QB (q i j) 80):=by rw[eq];exact hq
 obtain⟨t,et⟩:∃ t:Nat→Rat,t=fun k=>q 0 (q1n k).1*q 1 (q1n k).2.1*q 2 (q1n k).2.2.1*(((q1n k).2.2.2:Int):Rat):=⟨_,rfl⟩
 have k11:(sum4 t 6).num.sign=z:=by rw[et,eq];exact k11
 have HN:Hid (∀ w1 a1 b1 c1 a2 b2 c2 a3 b3 c3,_):=fun w1 a1 b1 c1 a2 b2 c2 a3 b3 c3=> @q9N w1 a1 b1 c1 a2 b2 c2 a3 b3 c3 xa ya na xb yb nb xc yc nc
 rw[← eq] at HN
 have HZ:Hid ((sum4 t 6).num.sign=z):=k11
 have HT:Hid (∀ k,t k=q 0 (q1n k).1*q 1 (q1n k).2.1*q 2 (q1n k).2.2.1*(((q1n k).2.2.2:Int):Rat)):=fun k=>by rw[et]
 have I4:Hid (∀ k,QB (sum4 t k) ((241+1)*k+1)):=q9t fun k=>by
  have e:t k=q 0 (q1n k).1*q 1 (q1n k).2.1*q 2 (q1n k).2.2.1*(((q1n k).2.2.2:Int):Rat):=HT.out k
  have h4:QB (((q1n k).2.2.2:Int):Rat) 1:=by
   rcases k with _|_|_|_|_|k<;>first|exact q6k (by decide) (by decide)|(show QB ((-1:Int):Rat) 1;exact q6k (by decide) (by decide))
  have h5:=q1k (q1k (q1k (HQ.out 0 (q1n k).1) (HQ.out 1 (q1n k).2.1)) (HQ.out 2 (q1n k).2.2.1)) h4
  rw[← e] at h5
  exact h5.mono (by omega)
 clear k11 hq eq et h1 h2 h3 h4 h5 h6 h7 h8 f1 f2 f3 f4 f5 f6 f7 f8 k1 k2 k3 b1 b2' b3 b4 b5 b6
 go_enter Tryz.func38,Tryz.ntmps38
 go_wp2_with fail
 obtain⟨w0,aH,g0,hz0,R0,R1,R2,R3⟩:=q5D w [.float .f64 ax,.float .f64 ay] [.float .f64 bx,.float .f64 b2] [.float .f64 cx,.float .f64 cy] [.float .f64 dx,.float .f64 dy] 66 66 66 66
 rw[aH]
 clear aH
 refine region_each 11 1 #[true,true,true,true,true,true,true,true,true,true,true,false] [.is (.func (.func 74) #[] #[.pointer (some ⟨w.heap.size+3,0,none⟩)]),.is (.agg #[.float .f64 ax,.float .f64 ay]),.any (fun v w'=>Row3 w' v xa ya na),.is (.func (.func 74) #[] #[.pointer (some ⟨w.heap.size+3,0,none⟩)]),.is (.agg #[.float .f64 bx,.float .f64 b2]),.any (fun v w'=>Row3 w' v xb yb nb),.is (.func (.func 74) #[] #[.pointer (some ⟨w.heap.size+3,0,none⟩)]),.is (.agg #[.float .f64 cx,.float .f64 cy]),.any (fun v w'=>Row3 w' v xc yc nc),.any (fun v w'=>Nine w' v q),.any (fun v w'=>NewRec w0 w' v ([.pointer none,.pointer none,.pointer none,.pointer none,.pointer none,.pointer none,.pointer none,.pointer none,.pointer none]))] [some 16,some 17,some 18,some 19,some 20,some 21,some 22,some 23,some 24,some 25,some 10] (by kernel_rfl) (by kernel_rfl) rfl (by kernel_rfl) (by repeat (first|exact trivial|refine⟨fun _ _ _ g h=>by first|exact h.G g|exact fun w3 g3=>h w3 (G.trans g g3),?_⟩)) (by kernel_rfl) (by kernel_rfl) ?_
 refine Letters.is ?_
 refine Letters.is ?_
 refine Letters.any fun v2=> ?_
 refine Letters.is ?_
 refine Letters.is ?_
 refine Letters.any fun v5=> ?_
 refine Letters.is ?_
 refine Letters.is ?_
 refine Letters.any fun v8=> ?_
 refine Letters.any fun v9=> ?_
 refine Letters.any fun v10=> ?_
 refine Letters.nil ?_
 intro A hA
 simp only[q0K,Act.put,List.setIfInBounds_toArray,List.set_cons_zero,List.set_cons_succ] at hA
 subst hA
 refine⟨?_,?_⟩
 ·skip
  refine Eaches.cons rfl ?dH (Eaches.cons rfl ?dL (Eaches.cons rfl ?eD (Eaches.cons rfl ?dM (Eaches.cons rfl ?fE (Eaches.cons rfl ?fV (Eaches.cons rfl ?fq (Eaches.cons rfl ?eF (Eaches.cons rfl ?fF (Eaches.cons rfl ?jf (Eaches.cons rfl ?fZ (Eaches.nil)))))))))))
  case dH|dM|fq=>
   intro W hW hD K hK
   clear hD
   go_simp
   exact hK.out _ _ ⟨_,rfl,G.refl _,rfl⟩
  case dL|fE|eF=>
   intro W hW hD K hK
   clear hD
   have hR0:=Rec.f2 (Rec.G R0.out hW)
   have dE:=hR0.1
   have dF:=hR0.2.1
   clear hR0
   have dC:=Rec.f2 (Rec.G R1.out hW)
   have gp:=dC.1
   have gq:=dC.2.1
   clear dC
   have hR2:=Rec.f2 (Rec.G R2.out hW)
   have nS:=hR2.1
   have nT:=hR2.2.1
   clear hR2
   go_simp
   exact hK.out _ _ ⟨_,rfl,G.refl _,rfl⟩
  ·intro W hW hD K hK
   clear hD
   go_simp
   go_wp2_with (go_at_call 74;refine Calls.mono (P:=Tryz.prog) (Cn.out W (w.heap.size+3) (Rec.G R3.out hW)) ?_;intro e w9 hs;obtain⟨u9,rfl,g9,aD⟩:=hs)
   exact hK.out _ _ ⟨_,rfl,g9,aD⟩
  ·intro W hW hD K hK
   clear hD
   go_simp
   go_wp2_with (go_at_call 74;refine Calls.mono (P:=Tryz.prog) (Cr.out W (w.heap.size+3) (Rec.G R3.out hW)) ?_;intro e w9 hs;obtain⟨u9,rfl,g9,aD⟩:=hs)
   exact hK.out _ _ ⟨_,rfl,g9,aD⟩
  ·intro W hW hD K hK
   clear hD
   go_simp
   go_wp2_with (go_at_call 74;refine Calls.mono (P:=Tryz.prog) (MH.out W (w.heap.size+3) (Rec.G R3.out hW)) ?_;intro e w9 hs;obtain⟨u9,rfl,g9,aD⟩:=hs)
   exact hK.out _ _ ⟨_,rfl,g9,aD⟩
  ·intro W hW hD K hK
   have h2:=Deps.get (v:=v2) 2 hD rfl rfl (by kernel_rfl)
   have h5:=Deps.get (v:=v5) 5 hD rfl rfl (by kernel_rfl)
   have h8:=Deps.get (v:=v8) 8 hD rfl rfl (by kernel_rfl)
   clear hD
   have hR0:=Rec.f2 (Rec.G R0.out hW)
   have dE:=hR0.1
   have dF:=hR0.2.1
   clear hR0
   have dC:=Rec.f2 (Rec.G R1.out hW)
   have gp:=dC.1
   have gq:=dC.2.1
   clear dC
   have hR2:=Rec.f2 (Rec.G R2.out hW)
   have nS:=hR2.1
   have nT:=hR2.2.1
   clear hR2
   go_simp
   (obtain⟨a1,m1,c1,rfl,p1,p2,p3⟩:=h2;obtain⟨a2,m2,c2,rfl,p4,p5,p6⟩:=h5;obtain⟨a3,m3,c3,rfl,p7,p8,p9⟩:=h8;have hnn:=HN.out _ _ _ _ _ _ _ _ _ _ p1 p2 p3 p4 p5 p6 p7 p8 p9;clear p1 p2 p3 p4 p5 p6 p7 p8 p9;go_simp;exact hK.out _ _ ⟨_,rfl,G.refl _,hnn⟩)
  ·intro W hW hD K hK
   clear hD
   go_simp
   exact hK.out _ _ ⟨_,rfl,(G.refl _).alloc _,_,rfl,hW.size,Rec.new9 _ _ _ _ _ _ _ _ _ _ _⟩
 intro w1 g1 hH
 have h9:=Helds.get (v:=v9) 9 hH rfl rfl
 have h10:=Helds.get (v:=v10) 10 hH rfl rfl
 clear hH
 obtain⟨p,rfl,hu⟩:=h9
 obtain⟨np,rfl,oL,rp⟩:=h10
 have hM:Hid (Mat9 (setL w1 np 0 [.pointer (some ⟨p 0 0,0,none⟩),.pointer (some ⟨p 0 1,0,none⟩),.pointer (some ⟨p 0 2,0,none⟩),.pointer (some ⟨p 1 0,0,none⟩),.pointer (some ⟨p 1 1,0,none⟩),.pointer (some ⟨p 1 2,0,none⟩),.pointer (some ⟨p 2 0,0,none⟩),.pointer (some ⟨p 2 1,0,none⟩),.pointer (some ⟨p 2 2,0,none⟩)]) np q):=⟨p,q8g [.pointer (some ⟨p 0 0,0,none⟩),.pointer (some ⟨p 0 1,0,none⟩),.pointer (some ⟨p 0 2,0,none⟩),.pointer (some ⟨p 1 0,0,none⟩),.pointer (some ⟨p 1 1,0,none⟩),.pointer (some ⟨p 1 2,0,none⟩),.pointer (some ⟨p 2 0,0,none⟩),.pointer (some ⟨p 2 1,0,none⟩),.pointer (some ⟨p 2 2,0,none⟩)] _ [] w1 rp rfl,fun i j=>q3H _ _ _ _ (hu i j) rp (by simp [isP]) (by simp) (by simp [isP])⟩
 have gM:G w (setL w1 np 0 [.pointer (some ⟨p 0 0,0,none⟩),.pointer (some ⟨p 0 1,0,none⟩),.pointer (some ⟨p 0 2,0,none⟩),.pointer (some ⟨p 1 0,0,none⟩),.pointer (some ⟨p 1 1,0,none⟩),.pointer (some ⟨p 1 2,0,none⟩),.pointer (some ⟨p 2 0,0,none⟩),.pointer (some ⟨p 2 1,0,none⟩),.pointer (some ⟨p 2 2,0,none⟩)]):=q9Y (by have:=g0.size;omega) _ _ _ (G.trans g0 g1)
 simp only[setL,Nat.zero_add,Nat.reduceAdd] at hM gM
 obtain⟨⟨hc0,hc1,hc2,hc3,hc4,nU,hc6,Hm,hc8⟩,hf0,hf1,hf2,hf3,kW,mD,AZ,CO,Sr⟩:=rp.f9
 clear hu oL rp Cn Cr MH HN R0 R1 R2 R3 hz0 g0 g1
 refine wpAny_ready (rs:=[11]) (by kernel_rfl) (by simp) ?_
 refine AllReady.cons rfl (fun K hK=> ?_) AllReady.nil
 go_simp
 refine hK _ _ ?_
 clear hK K hc0 hc1 hc2 hc3 hc4 nU hc6 Hm hc8 hf0 hf1 hf2 hf3 kW mD AZ CO Sr
 generalize (World.setCell (World.setCell (World.setCell (World.setCell (World.setCell (World.setCell (World.setCell (World.setCell (World.setCell w1 ⟨np,0,none⟩ (.pointer (some ⟨p 0 0,0,none⟩))) ⟨np,1,none⟩ (.pointer (some ⟨p 0 1,0,none⟩))) ⟨np,2,none⟩ (.pointer (some ⟨p 0 2,0,none⟩))) ⟨np,3,none⟩ (.pointer (some ⟨p 1 0,0,none⟩))) ⟨np,4,none⟩ (.pointer (some ⟨p 1 1,0,none⟩))) ⟨np,5,none⟩ (.pointer (some ⟨p 1 2,0,none⟩))) ⟨np,6,none⟩ (.pointer (some ⟨p 2 0,0,none⟩))) ⟨np,7,none⟩ (.pointer (some ⟨p 2 1,0,none⟩))) ⟨np,8,none⟩ (.pointer (some ⟨p 2 2,0,none⟩)))=w2 at *
 refine wpAny_done (by kernel_rfl) ?_ _
 go_wp2_with fail
 have hr0:=q2t w2 40
 have hga:=(G.refl w2).alloc (.cells #[.bool false,.slice none 0 0,.bool false,.slice none 0 0] 40)
 have hzs:w2.heap.size<(w2.alloc (.cells #[.bool false,.slice none 0 0,.bool false,.slice none 0 0] 40)).heap.size:=by simp
 obtain⟨pz,hpz⟩:∃ p,p=w2.heap.size:=⟨_,rfl⟩
 have Su:Hid (pz=w2.heap.size):=hpz
 rw[← hpz] at hr0 hzs ⊢
 generalize w2.alloc (.cells #[.bool false,.slice none 0 0,.bool false,.slice none 0 0] 40)=w3 at *
 have Cu:Hid (RatIs w3 pz 0 0):=hr0
 clear hr0 hpz
 go_loopw [34] (fun vk wr=>∃ k:Nat,k≤6∧vk= .int .i64 k∧RV wr pz (sum4 t k)∧G w2 wr∧pz<wr.heap.size) (fun vk _=>6-(intOf vk).toNat)
 case atStart=>exact⟨0,Nat.zero_le _,rfl,Or.inr ⟨rfl,Cu.out⟩,hga,hzs⟩
 case round=>
  obtain⟨k,hk,rfl,hv,hG,hp⟩:=hrel
  have HV:Hid (RV _ _ _):=hv
  clear hv Cu hga hzs
  by_cases MI:k<6
  ·obtain⟨p0,p1,p2,s,hrw,hp0,hp1,hp2,hs,hix⟩:=q9P k MI
   have Sv:Hid (t k=q 0 p0*q 1 p1*q 2 p2*(s:Rat)):=by
    have h1:=HT.out k
    rw[hrw] at h1
    exact h1
   obtain⟨m,rm,hpr⟩:=Mat9.G hM.out hG
   have hc0:wr.cell? ⟨np,p0,none⟩=some (.pointer (some ⟨m 0 p0,0,none⟩)):=by
    rcases p0 with _|_|_|p0
    ·exact rm.cell 0
    ·exact rm.cell 1
    ·exact rm.cell 2
    ·omega
   have hc1:wr.cell? ⟨np,3+p1,none⟩=some (.pointer (some ⟨m 1 p1,0,none⟩)):=by
    rcases p1 with _|_|_|p1
    ·exact rm.cell 3
    ·exact rm.cell 4
    ·exact rm.cell 5
    ·omega
   have hc2:wr.cell? ⟨np,6+p2,none⟩=some (.pointer (some ⟨m 2 p2,0,none⟩)):=by
    rcases p2 with _|_|_|p2
    ·exact rm.cell 6
    ·exact rm.cell 7
    ·exact rm.cell 8
    ·omega
   have MJ:Hid (PR wr (.pointer (some ⟨m 0 p0,0,none⟩)) (q 0 p0)):=hpr 0 p0
   have ic:Hid (PR wr (.pointer (some ⟨m 1 p1,0,none⟩)) (q 1 p1)):=hpr 1 p1
   have ig:Hid (PR wr (.pointer (some ⟨m 2 p2,0,none⟩)) (q 2 p2)):=hpr 2 p2
   have CU:Hid (QB (q 0 p0) 80):=HQ.out 0 p0
   have CV:Hid (QB (q 1 p1) 80):=HQ.out 1 p1
   have qL:Hid (QB (q 2 p2) 80):=HQ.out 2 p2
   have hnl:=rm.lt
   clear rm hpr hrw
   generalize m 0 p0=a0 at *
   generalize m 1 p1=a1 at *
   generalize m 2 p2=a2 at *
   generalize q 0 p0=x0 at *
   generalize q 1 p1=x1 at *
   generalize q 2 p2=x2 at *
   have j6:Hid (∀ w1,G wr w1→_):=fun w1 g=>q2Q w1 _ _ x0 x1 80 (by omega) CU.out CV.out (MJ.out.G g) (ic.out.G g)
   have gZ:Hid (∀ w1 u,G wr w1→PR w1 u (x0*x1)→_):=fun w1 u g h=>q2Q w1 u _ (x0*x1) x2 (80+80) (by omega) (q1k CU.out CV.out) (qL.out.mono (by omega)) h (ig.out.G g)
   have tq:Hid (QB (x0*x1*x2) (80+80+80)):=q1k (q1k CU.out CV.out) qL.out
   clear MJ ic ig CU CV qL
   generalize x0*x1*x2=y3 at *
   generalize x0*x1=y2 at *
   have RB:Hid (Rec (wr.alloc (.cells #[.int .i64 (p0:Int),.int .i64 (p1:Int),.int .i64 (p2:Int),.int .i64 s] 119)) wr.heap.size [.int .i64 (p0:Int),.int .i64 (p1:Int),.int .i64 (p2:Int),.int .i64 s]):=Rec.new wr [.int .i64 (p0:Int),.int .i64 (p1:Int),.int .i64 (p2:Int),.int .i64 s] _
   have gB:G wr (wr.alloc (.cells #[.int .i64 (p0:Int),.int .i64 (p1:Int),.int .i64 (p2:Int),.int .i64 s] 119)):=(G.refl wr).alloc _
   go_wp2_with fail
   generalize wr.alloc (.cells #[.int .i64 (p0:Int),.int .i64 (p1:Int),.int .i64 (p2:Int),.int .i64 s] 119)=wB at *
   rw[show decide ((k:Int)<6)=true from decide_eq_true (by omega)]
   have hc0:=gB.cell (p:=⟨np,p0,none⟩) hnl hc0
   have hc1:=gB.cell (p:=⟨np,3+p1,none⟩) hnl hc1
   have hc2:=gB.cell (p:=⟨np,6+p2,none⟩) hnl hc2
   have Sw:=G.lt gB hnl
   have hi0:(p0:Int)<3:=by omega
   have hi1:(p1:Int)<3:=by omega
   have hi2:(p2:Int)<3:=by omega
   refine region_each 18 0 #[true,true,true,true,true,true,true,true,true,true,true,true,true,true,true,true,true,true] [.is (.pointer (some ⟨wr.heap.size,0,none⟩)),.is (.int .i64 (p0:Int)),.is (.pointer (some ⟨np,0,none⟩)),.is (.pointer (some ⟨np,p0,none⟩)),.is (.pointer (some ⟨a0,0,none⟩)),.is (.pointer (some ⟨wr.heap.size,1,none⟩)),.is (.int .i64 (p1:Int)),.is (.pointer (some ⟨np,3,none⟩)),.is (.pointer (some ⟨np,3+p1,none⟩)),.is (.pointer (some ⟨a1,0,none⟩)),.any (fun v w'=>PR w' v y2),.is (.pointer (some ⟨wr.heap.size,2,none⟩)),.is (.int .i64 (p2:Int)),.is (.pointer (some ⟨np,6,none⟩)),.is (.pointer (some ⟨np,6+p2,none⟩)),.is (.pointer (some ⟨a2,0,none⟩)),.any (fun v w'=>PR w' v y3),.any (fun v w'=>PR w' v y3)] [some 37,some 38,some 39,some 40,some 41,some 42,some 43,some 44,some 45,some 46,some 47,some 48,some 49,some 50,some 51,some 52,some 53,some 14] (by kernel_rfl) (by kernel_rfl) rfl (by kernel_rfl) (by repeat (first|exact trivial|refine⟨fun _ _ _ g h=>by first|exact h.G g|exact fun w3 g3=>h w3 (G.trans g g3),?_⟩)) (by kernel_rfl) (by kernel_rfl) ?_
   refine Letters.is ?_
   refine Letters.is ?_
   refine Letters.is ?_
   refine Letters.is ?_
   refine Letters.is ?_
   refine Letters.is ?_
   refine Letters.is ?_
   refine Letters.is ?_
   refine Letters.is ?_
   refine Letters.is ?_
   refine Letters.any fun v10=> ?_
   refine Letters.is ?_
   refine Letters.is ?_
   refine Letters.is ?_
   refine Letters.is ?_
   refine Letters.is ?_
   refine Letters.any fun v16=> ?_
   refine Letters.any fun v17=> ?_
   refine Letters.nil ?_
   intro A hA
   simp only[q0K,Act.put,List.setIfInBounds_toArray,List.set_cons_zero,List.set_cons_succ] at hA
   subst hA
   refine⟨?_,?_⟩
   ·skip
    refine Eaches.cons rfl ?fG (Eaches.cons rfl ?il (Eaches.cons rfl ?gu (Eaches.cons rfl ?gN (Eaches.cons rfl ?iq (Eaches.cons rfl ?iJ (Eaches.cons rfl ?jg (Eaches.cons rfl ?l9 (Eaches.cons rfl ?mE (Eaches.cons rfl ?nV (Eaches.cons rfl ?oq (Eaches.cons rfl ?ou (Eaches.cons rfl ?tJ (Eaches.cons rfl ?tK (Eaches.cons rfl ?tL (Eaches.cons rfl ?BB (Eaches.cons rfl ?MK (Eaches.cons rfl ?ML (Eaches.nil))))))))))))))))))
    case fG|gu|gN|iJ|l9|mE|ou|tK|tL=>
     intro W hW hD K hK
     clear hD
     go_simp
     exact hK.out _ _ ⟨_,rfl,G.refl _,rfl⟩
    case il|iq|jg|nV|tJ|BB=>
     intro W hW hD K hK
     clear hD
     have BC:=Rec.f4 (Rec.G RB.out hW)
     have MM:=BC.1
     have MN:=BC.2.1
     have MO:=BC.2.2.1
     have MP:=BC.2.2.2.1
     clear BC
     have hq3:=G.cell (p:=⟨np,p0,none⟩) (v:= .pointer (some ⟨a0,0,none⟩)) hW (by first|assumption|(simp;done)|(simp;omega)|omega) (by assumption)
     have hq4:=G.cell (p:=⟨np,3+p1,none⟩) (v:= .pointer (some ⟨a1,0,none⟩)) hW (by first|assumption|(simp;done)|(simp;omega)|omega) (by assumption)
     have lF:=G.cell (p:=⟨np,6+p2,none⟩) (v:= .pointer (some ⟨a2,0,none⟩)) hW (by first|assumption|(simp;done)|(simp;omega)|omega) (by assumption)
     go_simp
     exact hK.out _ _ ⟨_,rfl,G.refl _,rfl⟩
    ·intro W hW hD K hK
     clear hD
     go_simp
     go_wp2_with (go_at_call 73;refine Calls.mono (P:=Tryz.prog) (j6.out W (G.trans gB hW)) ?_;intro e w9 hs;obtain⟨u9,rfl,g9,aD⟩:=hs)
     exact hK.out _ _ ⟨_,rfl,g9,aD⟩
    ·intro W hW hD K hK
     have h10:=Deps.get (v:=v10) 10 hD rfl rfl (by kernel_rfl)
     clear hD
     go_simp
     go_wp2_with (go_at_call 73;refine Calls.mono (P:=Tryz.prog) (gZ.out W v10 (G.trans gB hW) h10) ?_;intro e w9 hs;obtain⟨u9,rfl,g9,aD⟩:=hs)
     exact hK.out _ _ ⟨_,rfl,g9,aD⟩
    ·intro W hW hD K hK
     have h16:=Deps.get (v:=v16) 16 hD rfl rfl (by kernel_rfl)
     clear hD
     go_simp
     exact hK.out _ _ ⟨_,rfl,G.refl _,h16⟩
   intro w4 g4 hH
   have MQ:=Helds.get (v:=v17) 17 hH rfl rfl
   clear hH
   refine wpAny_done (by kernel_rfl) ?_ _
   have MR:Hid (PR w4 v17 y3):=MQ
   have Sy:Hid (Rec w4 wr.heap.size [.int .i64 (p0:Int),.int .i64 (p1:Int),.int .i64 (p2:Int),.int .i64 s]):=Rec.G RB.out g4
   have MS:=G.trans gB g4
   have MU:Hid (QB (s:Rat) 1):=q6k (by omega) (by omega)
   have Sz:Hid (QB (sum4 t k) 2000):=(I4.out k).mono (by omega)
   clear hi0 hi1 hi2 MQ hc0 hc1 hc2 Sw hnl hp0 hp1 hp2 RB gB g4 hix j6 gZ
   have gI:=Rec.f4 (Rec.G Sy.out (G.refl _))
   have CW:=gI.1
   have CX:=gI.2.1
   have CY:=gI.2.2.1
   have CZ:=gI.2.2.2.1
   have D7:=gI.2.2.2.2.1
   have D8:=gI.2.2.2.2.2.1
   have D9:=gI.2.2.2.2.2.2.1
   have Da:=gI.2.2.2.2.2.2.2
   clear gI
   go_wp2_with fail
   refine Calls.mono (P:=Tryz.prog) (q53 w4 s (by omega)) ?_
   rintro e5 w5 ⟨u5,rfl,g5,k5⟩
   have MV:Hid (PR w5 u5 (s:Rat)):=k5
   have HV5:Hid (PR w5 v17 y3):=MR.out.G g5
   clear k5 MR
   go_wp2_with fail
   refine Calls.mono (P:=Tryz.prog) (q2Q w5 v17 u5 y3 (s:Rat) 240 (by omega) tq.out (MU.out.mono (by omega)) HV5.out MV.out) ?_
   rintro e6 w6 ⟨u6,rfl,g6,k6⟩
   obtain⟨p6,rfl,SC,MW⟩:=k6
   have g16:=G.trans MS (G.trans g5 g6)
   have HA:Hid _:=qar w6 pz p6 (sum4 t k) (y3*(s:Rat)) 2000 (by omega) Sz.out ((q1k tq.out MU.out).mono (by omega)) (Nat.lt_of_lt_of_le hp g16.size) SC (RV.G HV.out hp g16) MW
   clear MW MV HV5 g5 g6 MS
   go_wp2_with fail
   refine Calls.mono (P:=Tryz.prog) HA.out ?_
   rintro e7 w7 ⟨rfl,g7,hr⟩
   have SE:Hid (RIs _ _ _):=hr
   clear hr HA
   go_wp2_with fail
   refine⟨⟨k+1,MI,by go_num,Or.inl (by rw[show sum4 t (k+1)=sum4 t k+t k from rfl,Sv.out];exact SE.out),GX.fresh (G.trans hG g16) g7 (Nat.le_of_eq Su.out.symm),Nat.lt_of_lt_of_le hp (Nat.le_trans g16.size g7.size)⟩,?_⟩
   simp only[intOf]
   go_num
  ·obtain rfl:k=6:=by omega
   have qN:Hid _:=q7F wr pz _ HV.out
   rw[HZ.out] at qN
   go_wp2_with fail
   refine Calls.mono (P:=Tryz.prog) qN.out ?_
   rintro e3 w4 ⟨rfl,g4⟩
   go_wp2_with fail
   go_ret
   exact⟨rfl,G.trans gM (G.trans hG g4)⟩
end Go.Proofs.YtljkfjjchkehaaaGreatDoor.EN
