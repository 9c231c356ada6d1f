/- What is proved here: the law ExpanTells: its walk where neither list is refused, over this seat's translation. -/
import Derived.Test.YtljkfjjchkehaaaGreatDoorC39
import Derived.Test.YtljkfjjchkehaaaGreatDoorC37
import Derived.Test.YtljkfjjchkehaaaGreatDoorC35
namespace Go.Proofs.YtljkfjjchkehaaaGreatDoor.EN
open Go.ChangeShapes Go.WideShapes Go.ChangeAt Go.RowKit
set_option maxHeartbeats 40000000 in
set_option maxRecDepth 10000 in
theorem q6E (w:World) (v u:Value) (l m:List Nat) (hT:Tab w) (h:FSl w v l) (hu:FSl w u m) (hl:∀ b∈l,b<2^64) (hm:∀ b∈m,b<2^64)
  (hn:l.length≤2000) (jY:l.length≤300∨(2000<l.length∧l.length<5000)) (hfl:Fin l) (hkk:m.length≤2000) (hk:m.length≤300∨(2000<m.length∧m.length<5000)) (hfm:Fin m) (hla:Listed l 0 0) (sU:Listed m 0 0):
  Calls Tryz.prog 3 #[v,u] w fun e w'=>e= .returned (.bool true)∧G w w':=by
 obtain⟨L,o,hF,hL⟩:=q9r hn
 obtain⟨LA,ga,hret,vZ,Nf,hoa⟩:=q4i (hF 1048576 (by omega)) hL
 obtain⟨L2,o2,hF2,hL2,Ui⟩:=qab hn hkk
 obtain⟨LM,gm,zG,zH,Uj,PX⟩:=q4i (hF2 1048576 (by omega)) hL2
 have HS:Hid _:=q2j w hT
 have HE:Hid (∀ w1,_):=fun w1=>q1j w1 l.length
 have HE2:Hid (∀ w1,_):=fun w1=>q1j w1 m.length
 rw[decide_eq_true jY] at HE
 rw[decide_eq_true hk] at HE2
 have zy:Hid (∀ w1,G w w1→_):=fun w1 g=>q3D w1 v l 13845050416955392000 (h.G g) (by omega)
 have HL2:Hid (∀ w1,G w w1→_):=fun w1 g=>q3D w1 u m 13845050416955392000 (hu.G g) (by omega)
 have mg:Hid (∀ w1,G w w1→Calls Tryz.prog 10 #[v] w1 fun e w'=>e= .returned (.agg #[.int .i64 0,.int .i64 0])∧G w1 w'):=fun w1 g=>(q1f w1 v l (h.G g) hl (by omega)).mono (by
  rintro e w' ⟨c2,a2,rfl,g2,h2⟩
  obtain⟨rfl,rfl⟩:=q0q hla h2
  exact⟨rfl,g2⟩)
 have jk:Hid (∀ w1,G w w1→Calls Tryz.prog 10 #[u] w1 fun e w'=>e= .returned (.agg #[.int .i64 0,.int .i64 0])∧G w1 w'):=fun w1 g=>(q1f w1 u m (hu.G g) hm (by omega)).mono (by
  rintro e w' ⟨c2,a2,rfl,g2,h2⟩
  obtain⟨rfl,rfl⟩:=q0q sU h2
  exact⟨rfl,g2⟩)
 have ow:Hid (∀ w1 x,G w w1→FSl w1 x l→Calls Tryz.prog 16 #[x] w1 (RetO w1 LA ga 0)):=fun w1 x g hx=>(q9B w1 x l L o (hT.G g) hx hl hn (by omega) hfl (hF _ (by omega))).mono (hret w1)
 have HMul:Hid (∀ w1 x y,G w w1→FSl w1 x l→FSl w1 y m→Calls Tryz.prog 17 #[x,y] w1 (RetO w1 LM gm 0)):=fun w1 x y g hx hy=>(qcm w1 x y l m (hT.G g) hx hy hl hm hn hkk hfl hfm L2 o2 (by omega) (hF2 _ (by omega))).mono (zG w1)
 have gF:Hid (∀ w1 x y,G w w1→FSl w1 x l→FSl w1 y m→Calls Tryz.prog 18 #[x,y] w1 fun e w'=>e= .returned (.tuple #[.int .i64 ((l.map fz).sum-(m.map fz).sum).sign,.agg #[.int .i64 0,.int .i64 0]])∧G w1 w'):=fun w1 x y g hx hy=>q5m w1 x y l m (hT.G g) hx hy hl hm hn hkk hfl hfm
 have hq1:=q1D hn l.length
 rw[List.take_of_length_le (by rw[List.length_map];exact Nat.le_refl _)] at hq1
 have hq2:=q1D hkk m.length
 rw[List.take_of_length_le (by rw[List.length_map];exact Nat.le_refl _)] at hq2
 have zI:Hid (∀ w1,G w w1→_):=fun w1 g=>q2H w1 u m (hu.G g) hm hfm hkk (fun k=>q1D hkk k) (fun b=>qan b)
 have Ga:Hid (∀ w1 bz p q,bz<w1.heap.size→p<w1.heap.size→q<w1.heap.size→RatIs w1 bz 0 0→RV w1 p (Uz (l.map fz).sum)→RV w1 q (Uz (m.map fz).sum)→_):=fun w1 bz p q h1 h2 h3 h4 h5 h6=>qaW w1 bz p q 0 0 _ _ 80 (by omega) hq1 hq2 h1 h2 h3 h4 h5 h6
 have Gb:Hid (∀ w1 p q,p<w1.heap.size→q<w1.heap.size→RV w1 p (Uz (l.map fz).sum)→RV w1 q (Uz (m.map fz).sum)→Calls Tryz.prog 15 #[.pointer (some ⟨p,0,none⟩),.pointer (some ⟨q,0,none⟩)] w1 fun e w'=>e= .returned (.int .i64 ((l.map fz).sum-(m.map fz).sum).sign)∧G w1 w'):=fun w1 p q h2 h3 h5 h6=>by
  have h:=qbc w1 p q _ _ 80 (by omega) hq1 hq2 h2 h3 h5 h6
  rw[q9E] at h
  exact h
 have Gc:Hid (∀ w1 p,p<w1.heap.size→RV w1 p (Uz (l.map fz).sum*Uz (m.map fz).sum)→_):=fun w1 p hp hr=>q46 w1 p _ L2 o2 (hF2 _ (by omega)) (by omega) hp hr
 have wh:Hid (∀ w1,G w w1→_):=fun w1 g=>q2H w1 v l (h.G g) hl hfl hn (fun k=>q1D hn k) (fun b=>qan b)
 have wm:Hid (∀ w1 p,p<w1.heap.size→RV w1 p (Uz (l.map fz).sum)→_):=fun w1 p hp hr=>q46 w1 p _ L o (hF _ (by omega)) (by omega) hp hr
 have rO:Hid (∀ i,i<LA.length→(FloatKind.f64.format.order (LA.getD i 0) (LA.getD i 0)==some .eq)=true):=vZ
 have iK:Hid (∀ i,i<LM.length→(FloatKind.f64.format.order (LM.getD i 0) (LM.getD i 0)==some .eq)=true):=zH
 have Ad:Hid (LA.length≤100000∧LM.length≤100000):=⟨by omega,by omega⟩
 have Uk:Hid _:=PX
 have Ng:Hid _:=hoa
 have xV:Hid (FSl w v l):=h
 have HK:Hid (l.length<5000∧m.length<5000):=⟨by omega,by omega⟩
 have xW:Hid (FSl w u m):=hu
 obtain⟨U8,U9,rfl,-,-⟩:=h
 obtain⟨Ua,Ub,rfl,-,-⟩:=hu
 generalize Uz (l.map fz).sum*Uz (m.map fz).sum=Q at *
 generalize Uz (l.map fz).sum=X at *
 generalize Uz (m.map fz).sum=Y at *
 generalize ((l.map fz).sum-(m.map fz).sum).sign=d at *
 clear hl hm hn jY hk hkk hT hla sU hF hL hret vZ Nf hoa hfl hfm hF2 hL2 zG zH Uj PX Ui hq1 hq2
 go_enter Tryz.func3,Tryz.ntmps3
 go_wp2_with fail
 refine Calls.mono (P:=Tryz.prog) HS.out ?_
 rintro e1 w1 ⟨rfl,g1⟩
 go_wp2_with fail
 refine Calls.mono (P:=Tryz.prog) (HE.out w1) ?_
 rintro e2 w2 ⟨rfl,g2⟩
 go_wp2_with fail
 refine Calls.mono (P:=Tryz.prog) (HE2.out w2) ?_
 rintro e3 w3 ⟨rfl,g3⟩
 have kR:=G.trans g1 (G.trans g2 g3)
 clear g1 g2 g3 HS HE HE2
 go_wp2_with fail
 refine Calls.mono (P:=Tryz.prog) (zy.out w3 kR) ?_
 rintro e4 w4 ⟨x4,rfl,g4,hx4⟩
 have zz:Hid (Lent w4 _ x4 l _):=hx4
 have mE:=G.trans kR g4
 clear hx4 zy
 go_wp2_with fail
 refine Calls.mono (P:=Tryz.prog) (HL2.out w4 mE) ?_
 rintro e5 w5 ⟨x5,rfl,g5,hx5⟩
 have D7:Hid (Lent w5 _ x5 m _):=hx5
 have tN:Hid (Lent w5 _ x4 l _):=zz.out.G g5
 have l5:=G.trans mE g5
 clear hx5 HL2 zz
 go_wp2_with fail
 refine Calls.mono (P:=Tryz.prog) (mg.out w5 l5) ?_
 rintro e6 w6 ⟨rfl,g6⟩
 go_wp2_with fail
 refine Calls.mono (P:=Tryz.prog) (jk.out w6 (G.trans l5 g6)) ?_
 rintro e7 w7 ⟨rfl,g7⟩
 have uj:=G.trans g6 g7
 clear mg jk g6 g7
 go_wp2_with fail
 obtain⟨w8,aB,g8,pU,R0,R1,R2⟩:=q1o w7 [.int .i64 0,.int .i64 0] [.int .i64 0,.int .i64 0] [.int .i64 0,.int .i64 0] 29 29 29
 rw[aB]
 clear aB
 have Cq:=G.trans uj g8
 apply share
 ·intro LS
  have bW:=Rec.f2 (Rec.G R0.out (G.refl _))
  have eB:=bW.1
  have eD:=bW.2.1
  have eF:=bW.2.2.1
  have eG:=bW.2.2.2
  clear bW
  have iR:=Rec.f2 (Rec.G R2.out (G.refl _))
  have iT:=iR.1
  have iU:=iR.2.1
  have iV:=iR.2.2.1
  have iW:=iR.2.2.2
  clear iR
  go_region
  ·clear eB eD eF eG iT iU iV iW
   have n1:Rec (w8.alloc (.cells #[.int .i64 0,.int .i64 0] 29)) w8.heap.size _:=Rec.new2 w8 _ _ _
   have n2:Rec ((w8.alloc (.cells #[.int .i64 0,.int .i64 0] 29)).alloc (.cells #[.int .i64 0,.int .i64 0] 29)) (w8.alloc (.cells #[.int .i64 0,.int .i64 0] 29)).heap.size _:=Rec.new2 _ _ _ _
   have hs2:(w8.alloc (.cells #[.int .i64 0,.int .i64 0] 29)).heap.size=w7.heap.size+3+1:=by simp [pU]
   rw[hs2] at n2
   rw[pU] at n1
   have n3:=Rec.G n1 ((G.refl _).alloc (.cells #[.int .i64 0,.int .i64 0] 29)).drew
   have n4:=Rec.G n2 (G.refl _).drew
   have kC:G w8 ((w8.alloc (.cells #[.int .i64 0,.int .i64 0] 29)).alloc (.cells #[.int .i64 0,.int .i64 0] 29)).drew:=(((G.refl w8).alloc _).alloc _).drew
   have Cr:Hid (Rec ((w8.alloc (.cells #[.int .i64 0,.int .i64 0] 29)).alloc (.cells #[.int .i64 0,.int .i64 0] 29)).drew (w7.heap.size+2) _):=Rec.G R2.out kC
   have Cs:Hid (Rec ((w8.alloc (.cells #[.int .i64 0,.int .i64 0] 29)).alloc (.cells #[.int .i64 0,.int .i64 0] 29)).drew w7.heap.size _):=Rec.G R0.out kC
   have lG:G w5 ((w8.alloc (.cells #[.int .i64 0,.int .i64 0] 29)).alloc (.cells #[.int .i64 0,.int .i64 0] 29)).drew:=G.trans Cq kC
   clear n1 n2 hs2 kC
   generalize ((w8.alloc (.cells #[.int .i64 0,.int .i64 0] 29)).alloc (.cells #[.int .i64 0,.int .i64 0] 29)).drew=w9 at *
   have wo:Hid (Rec w9 (w7.heap.size+3) _):=n3
   have wu:Hid (Rec w9 (w7.heap.size+3+1) _):=n4
   clear n3 n4
   have hq1:w7.heap.size+2<w7.heap.size+3:=by omega
   have hq2:w7.heap.size+2<w7.heap.size+3+1:=by omega
   have hq3:w7.heap.size+3≠w7.heap.size+3+1:=by omega
   generalize hq4:w7.heap.size+3+1=pb at hq2 hq3 wu ⊢
   generalize ma:w7.heap.size+3=pa at hq1 hq3 wo ⊢
   have KK:Hid (w7.heap.size+2<pa∧w7.heap.size+2<pb∧pa≠pb):=⟨by omega,by omega,by omega⟩
   clear hq1 hq2 hq3 hq4 ma
   revert lG;revert Cs;revert Cr;revert wu;revert wo;revert KK
   revert w9;revert pb;revert pa
   exact LS.out
  ·clear eB eD eF eG iT iU iV iW
   have n1:Rec (w8.alloc (.cells #[.int .i64 0,.int .i64 0] 29)) w8.heap.size _:=Rec.new2 w8 _ _ _
   have n2:Rec ((w8.alloc (.cells #[.int .i64 0,.int .i64 0] 29)).alloc (.cells #[.int .i64 0,.int .i64 0] 29)) (w8.alloc (.cells #[.int .i64 0,.int .i64 0] 29)).heap.size _:=Rec.new2 _ _ _ _
   have hs2:(w8.alloc (.cells #[.int .i64 0,.int .i64 0] 29)).heap.size=w7.heap.size+3+1:=by simp [pU]
   rw[hs2] at n2
   rw[pU] at n1
   have n3:=Rec.G n1 ((G.refl _).alloc (.cells #[.int .i64 0,.int .i64 0] 29)).drew
   have n4:=Rec.G n2 (G.refl _).drew
   have kC:G w8 ((w8.alloc (.cells #[.int .i64 0,.int .i64 0] 29)).alloc (.cells #[.int .i64 0,.int .i64 0] 29)).drew:=(((G.refl w8).alloc _).alloc _).drew
   have Cr:Hid (Rec ((w8.alloc (.cells #[.int .i64 0,.int .i64 0] 29)).alloc (.cells #[.int .i64 0,.int .i64 0] 29)).drew (w7.heap.size+2) _):=Rec.G R2.out kC
   have Cs:Hid (Rec ((w8.alloc (.cells #[.int .i64 0,.int .i64 0] 29)).alloc (.cells #[.int .i64 0,.int .i64 0] 29)).drew w7.heap.size _):=Rec.G R0.out kC
   have lG:G w5 ((w8.alloc (.cells #[.int .i64 0,.int .i64 0] 29)).alloc (.cells #[.int .i64 0,.int .i64 0] 29)).drew:=G.trans Cq kC
   clear n1 n2 hs2 kC
   generalize ((w8.alloc (.cells #[.int .i64 0,.int .i64 0] 29)).alloc (.cells #[.int .i64 0,.int .i64 0] 29)).drew=w9 at *
   have wu:Hid (Rec w9 (w7.heap.size+3) _):=n3
   have wo:Hid (Rec w9 (w7.heap.size+3+1) _):=n4
   clear n3 n4
   have hq1:w7.heap.size+2<w7.heap.size+3:=by omega
   have hq2:w7.heap.size+2<w7.heap.size+3+1:=by omega
   have hq3:w7.heap.size+3≠w7.heap.size+3+1:=by omega
   generalize hq4:w7.heap.size+3+1=pa at hq2 hq3 wo ⊢
   generalize ma:w7.heap.size+3=pb at hq1 hq3 wu ⊢
   have KK:Hid (w7.heap.size+2<pa∧w7.heap.size+2<pb∧pa≠pb):=⟨by omega,by omega,by omega⟩
   clear hq1 hq2 hq3 hq4 ma
   revert lG;revert Cs;revert Cr;revert wu;revert wo;revert KK
   revert w9;revert pb;revert pa
   exact LS.out
 refine Later.mk ?_
 intro pa pb w9 KK RA RB RC RD lG
 clear R0 R1 R2
 have h57:w5.heap.size≤w7.heap.size:=uj.size
 clear pU uj Cq g8
 have pK:=G.trans l5 lG
 have eQ:=Rec.f2 (Rec.G RD.out (G.refl _))
 have jF:=eQ.1
 have jG:=eQ.2.1
 have jH:=eQ.2.2.1
 have jI:=eQ.2.2.2
 clear eQ
 go_wp2_with fail
 clear jF jG jH jI
 refine Calls.mono (P:=Tryz.prog) (wh.out w9 pK) ?_
 intro e10 aS hs
 obtain⟨CV,rfl,g10,-,wy,fK⟩:=hs
 have HL:Hid _:=wm.out aS CV wy fK
 clear fK wm
 go_wp2_with fail
 refine Calls.mono (P:=Tryz.prog) HL.out ?_
 intro e11 bR hs
 obtain⟨v11,rfl,g11,rG⟩:=hs
 obtain⟨a1,c1,rfl⟩:=rG.len
 have kT:Hid (FSl bR _ L):=rG.fsl
 have lW:=G.trans g10 g11
 clear rG HL g10 g11 wy
 have wz:Hid (Rec bR (w7.heap.size+2) _):=Rec.G RC.out lW
 have yB:Hid (Rec bR pb _):=Rec.G RB.out lW
 have yC:Hid (Rec bR pa _):=Rec.G RA.out lW
 have nO:=G.trans lG lW
 clear RA RB RC RD lW lG
 rcases Ng.out with ⟨ho,hl,hg⟩|⟨ho,hl,hg⟩
 case' inl=>
  subst ho
  have Nl:Hid (Rec bR pa [.int .i64 ga,.int .i64 0]):=by rw[hg];exact yC.out
  have uW:Hid (FSl bR (.slice a1 L.length c1) LA):=by rw[hl];exact kT.out
  clear yC kT hl hg
  have jc:=Rec.f2 (Rec.G wz.out (G.refl _))
  have nP:=jc.1
  have nQ:=jc.2.1
  have nS:=jc.2.2.1
  have nT:=jc.2.2.2
  clear jc
  go_wp2_with fail
  clear nP nQ nS nT
  have Nn:Hid _:=yB
  have Np:Hid _:=wz
  have yD:=nO
  obtain⟨um,Nq⟩:∃ x,x=bR:=⟨_,rfl⟩
  subst Nq
  obtain⟨bz,hbz⟩:∃ x,x=um.heap.size:=⟨_,rfl⟩
  have wI:=hbz.symm
  rw[← hbz]
  clear yB wz nO hbz
 case' inr=>
  subst ho
  go_wp2_with fail
  refine Calls.mono (P:=Tryz.prog) (q66 bR 3 0) ?_
  rintro e12 dQ ⟨rfl,g12⟩
  have Ct:Hid (Rec dQ pa _):=Rec.G yC.out g12
  have Cu:Hid (Rec dQ (w7.heap.size+2) _):=Rec.G wz.out g12
  have G5:Hid (Rec dQ pb _):=Rec.G yB.out g12
  have wD:=G.trans nO g12
  clear yC yB wz nO g12
  have hne:pa≠w7.heap.size+1+1:=by have:=KK.out.1;omega
  have jd:=Rec.f2 (Rec.G Ct.out (G.refl _))
  have nU:=jd.1
  have nV:=jd.2.1
  have nW:=jd.2.2.1
  have nX:=jd.2.2.2
  clear jd
  have je:=Rec.f2 (Rec.G Cu.out (G.refl _))
  have nY:=je.1
  have nZ:=je.2.1
  have o5:=je.2.2.1
  have o6:=je.2.2.2
  clear je
  go_wp2_with fail
  clear nU nV nW nX nY nZ o5 o6
  have Nl:Hid (Rec ((dQ.setCell ⟨pa,0,none⟩ (.int .i64 3)).setCell ⟨pa,1,none⟩ (.int .i64 0)) pa [.int .i64 ga,.int .i64 0]):=by rw[hg];exact Rec.set2 Ct.out
  have Nn:Hid (Rec ((dQ.setCell ⟨pa,0,none⟩ (.int .i64 3)).setCell ⟨pa,1,none⟩ (.int .i64 0)) pb _):=Rec.oth (Rec.oth G5.out _ KK.out.2.2) _ KK.out.2.2
  have Np:Hid (Rec ((dQ.setCell ⟨pa,0,none⟩ (.int .i64 3)).setCell ⟨pa,1,none⟩ (.int .i64 0)) (w7.heap.size+2) _):=Rec.oth (Rec.oth Cu.out _ hne) _ hne
  have wE:w5.heap.size≤pa:=by have:=KK.out.1;omega
  have yD:=Rec.g2 (b:=pa) (u:= .int .i64 3) (v:= .int .i64 0) wD wE
  have wI:((dQ.setCell ⟨pa,0,none⟩ (.int .i64 3)).setCell ⟨pa,1,none⟩ (.int .i64 0)).heap.size=dQ.heap.size:=by simp
  generalize ((dQ.setCell ⟨pa,0,none⟩ (.int .i64 3)).setCell ⟨pa,1,none⟩ (.int .i64 0))=um at *
  generalize dQ.heap.size=bz at *
  clear Ct G5 Cu wD wE hne kT
  have uW:Hid (FSl um (.slice none 0 0) LA):=by rw[hl];exact q1b _ _ _
  clear hl hg
 all_goals
  have Cw:=G.trans l5 yD
  have hr0:=q45 um 40
  have hga:=(G.refl um).alloc (.cells #[.bool false,.slice none 0 0,.bool false,.slice none 0 0] 40)
  have hzs:um.heap.size<(um.alloc (.cells #[.bool false,.slice none 0 0,.bool false,.slice none 0 0] 40)).heap.size:=by simp
  generalize um.alloc (.cells #[.bool false,.slice none 0 0,.bool false,.slice none 0 0] 40)=wC at *
  refine Calls.mono (P:=Tryz.prog) (wh.out wC (G.trans Cw hga)) ?_
  intro e13 jg hs
  obtain⟨PY,rfl,g13,-,Cx,Gd⟩:=hs
  have Gf:Hid (RV jg PY X):=Gd
  have Gg:Hid (RatIs jg bz 0 0):=by have h:=hr0.G hzs g13;rw[wI] at h;exact h
  have sK:=G.lt g13 hzs
  rw[wI] at sK
  have Cy:=G.trans hga g13
  clear Gd hr0 hzs hga g13
  go_wp2_with fail
  refine Calls.mono (P:=Tryz.prog) (zI.out jg (G.trans Cw Cy)) ?_
  intro e14 fU hs
  obtain⟨Ul,rfl,g14,-,Gh,Gi⟩:=hs
  have wJ:=G.lt g14 sK
  have Gj:Hid _:=Ga.out fU bz PY Ul wJ (G.lt g14 Cx) Gh (Gg.out.G sK g14) (RV.G Gf.out Cx g14) Gi
  have Gl:=G.trans Cy g14
  clear Gi Gf Gg Cx Gh Cy g14 sK
  go_wp2_with fail
  refine Calls.mono (P:=Tryz.prog) Gj.out ?_
  intro e15 vG hs
  obtain⟨Um,rfl,g15,-,Gm,Gn⟩:=SetRat.ret Gl (Nat.le_of_eq wI) wJ hs
  have Gp:Hid _:=Gc.out vG Um Gm (Or.inl Gn)
  clear hs Gn Gj Gl wJ
  go_wp2_with fail
  refine Calls.mono (P:=Tryz.prog) Gp.out ?_
  intro e16 w16 hs
  obtain⟨v16,rfl,g16,Cz⟩:=hs
  obtain⟨a2,c2,rfl⟩:=Cz.len
  have Nr:Hid (FSl w16 _ L2):=Cz.fsl
  have mK:=G.trans g15 g16
  clear Cz Gp g15 g16 Gm
  have Im:Hid (Rec w16 pa _):=Rec.G Nl.out mK
  have uk:Hid (Rec w16 pb _):=Rec.G Nn.out mK
  have Io:Hid (Rec w16 (w7.heap.size+2) _):=Rec.G Np.out mK
  have kV:Hid (FSl w16 _ LA):=FSl.G uW.out mK
  have yE:=G.trans yD mK
  clear Nl Nn Np uW mK yD Cw wI
  rcases Uk.out with ⟨ho,hl,hg⟩|⟨ho,hl,hg⟩
  case' inl=>
   subst ho
   go_wp2_with fail
   have Ns:Hid _:=Im
   have Nt:Hid (Rec w16 pb [.int .i64 gm,.int .i64 0]):=by rw[hg];exact uk.out
   have Nu:Hid _:=Io
   have dB:Hid _:=kV
   have AB:Hid (FSl w16 (.slice a2 L2.length c2) LM):=by rw[hl];exact Nr.out
   have yF:=yE
   obtain⟨nH,Nv⟩:∃ x,x=w16:=⟨_,rfl⟩
   subst Nv
   clear Im uk Io kV Nr yE hl hg
  case' inr=>
   subst ho
   go_wp2_with fail
   refine Calls.mono (P:=Tryz.prog) (q66 w16 3 0) ?_
   rintro e17 kM ⟨rfl,g17⟩
   have Ip:Hid (Rec kM pb _):=Rec.G uk.out g17
   have PZ:Hid (Rec kM pa _):=Rec.G Im.out g17
   have wV:Hid (Rec kM (w7.heap.size+2) _):=Rec.G Io.out g17
   have dz:Hid (FSl kM _ LA):=FSl.G kV.out g17
   have Gq:=G.trans yE g17
   clear Im uk Io kV Nr g17 yE
   have pF:=Rec.f2 (Rec.G Ip.out (G.refl _))
   have yG:=pF.1
   have yH:=pF.2.1
   have yI:=pF.2.2.1
   have yJ:=pF.2.2.2
   clear pF
   go_wp2_with fail
   clear yG yH yI yJ
   have Nt:Hid (Rec ((kM.setCell ⟨pb,0,none⟩ (.int .i64 3)).setCell ⟨pb,1,none⟩ (.int .i64 0)) pb [.int .i64 gm,.int .i64 0]):=by rw[hg];exact Rec.set2 Ip.out
   have Ns:Hid (Rec ((kM.setCell ⟨pb,0,none⟩ (.int .i64 3)).setCell ⟨pb,1,none⟩ (.int .i64 0)) pa _):=Rec.oth (Rec.oth PZ.out _ KK.out.2.2.symm) _ KK.out.2.2.symm
   have CB:pb≠w7.heap.size+2:=by have:=KK.out.2.1;omega
   have Nu:Hid (Rec ((kM.setCell ⟨pb,0,none⟩ (.int .i64 3)).setCell ⟨pb,1,none⟩ (.int .i64 0)) (w7.heap.size+2) _):=Rec.oth (Rec.oth wV.out _ CB) _ CB
   have dB:Hid (FSl ((kM.setCell ⟨pb,0,none⟩ (.int .i64 3)).setCell ⟨pb,1,none⟩ (.int .i64 0)) _ LA):=FSl.flt dz.out Ip.out
   have Gr:w5.heap.size≤pb:=by have:=KK.out.2.1;omega
   have yF:=Rec.g2 (b:=pb) (u:= .int .i64 3) (v:= .int .i64 0) Gq Gr
   generalize ((kM.setCell ⟨pb,0,none⟩ (.int .i64 3)).setCell ⟨pb,1,none⟩ (.int .i64 0))=nH at *
   have AB:Hid (FSl nH (.slice none 0 0) LM):=by rw[hl];exact q1b _ _ _
   clear PZ Ip wV dz Gq Gr CB hl hg
 all_goals as_aux_lemma=>
  have CE:=G.trans l5 yF
  refine Calls.mono (P:=Tryz.prog) (wh.out nH CE) ?_
  intro e21 Q4 hs
  obtain⟨Q5,rfl,g21,-,CF,Gs⟩:=hs
  have Gt:Hid (RV Q4 Q5 X):=Gs
  clear Gs
  go_wp2_with fail
  refine Calls.mono (P:=Tryz.prog) (zI.out Q4 (G.trans CE g21)) ?_
  intro e22 Un hs
  obtain⟨Uo,rfl,g22,-,Gu,Gv⟩:=hs
  have Gw:Hid _:=Gb.out Un Q5 Uo (G.lt g22 CF) Gu (RV.G Gt.out CF g22) Gv
  have zJ:=G.trans g21 g22
  clear Gv Gt CF Gu g21 g22
  go_wp2_with fail
  refine Calls.mono (P:=Tryz.prog) Gw.out ?_
  rintro e23 D9 ⟨rfl,g23⟩
  have lY:=G.trans zJ g23
  clear Gw zJ g23
  go_wp2_with fail
  have RA:Hid (Rec D9 pa _):=Rec.G Ns.out lY
  have RB:Hid (Rec D9 pb _):=Rec.G Nt.out lY
  have RC:Hid (Rec D9 (w7.heap.size+2) _):=Rec.G Nu.out lY
  have HA:Hid (FSl D9 _ LA):=FSl.G dB.out lY
  have HM:Hid (FSl D9 _ LM):=FSl.G AB.out lY
  have zD:=G.trans yF lY
  have Nh:=G.trans l5 zD
  clear Ns Nt Nu dB AB lY yF CE
  go_loopw [83] (fun vk wr=>∃ k:Nat,k≤2∧vk= .int .i64 k∧G D9 wr) (fun vk _=>2-(intOf vk).toNat)
  case atStart=>exact⟨0,Nat.zero_le _,rfl,G.refl _⟩
  case round=>
   obtain⟨k,hk,rfl,hG⟩:=hrel
   have X4:Hid (Lent wr _ x4 l _):=tN.out.G (G.trans zD hG)
   have X5:Hid (Lent wr _ x5 m _):=D7.out.G (G.trans zD hG)
   have lI:=G.trans Nh hG
   by_cases hkn:k<2
   ·have hlt2:decide ((k:Int)<2)=true:=decide_eq_true (by omega)
    go_wp2_with fail
    refine Calls.mono (P:=Tryz.prog) (ow.out wr x4 lI X4.out.fsl) ?_
    intro e10 aS hs
    obtain⟨v10,rfl,g10,rH⟩:=hs
    obtain⟨b1,d1,rfl⟩:=rH.len
    have rJ:Hid (FOwn aS wr.heap.size _ _):=rH
    clear rH
    go_wp2_with fail
    have kL:=G.trans lI g10
    obtain⟨bR,aB,g11,rz,R0⟩:=q0e aS [.int .i64 ga,.int .i64 0] 29
    rw[aB]
    clear aB
    have vM:Hid (Rec _ _ _):=R0
    have lX:=g11.size
    clear R0 rz
    refine Calls.mono (P:=Tryz.prog) (HMul.out bR x4 x5 (G.trans kL g11) (Lent.G X4.out (G.trans g10 g11)).fsl (Lent.G X5.out (G.trans g10 g11)).fsl) ?_
    intro e12 dQ hs
    obtain⟨v12,rfl,g12,o9⟩:=hs
    obtain⟨b2,d2,rfl⟩:=o9.len
    have wF:Hid (FOwn dQ bR.heap.size _ _):=o9
    have Ni:Hid _:=FOwn.apart rJ.out o9 lX
    clear o9
    have vN:=G.trans g11 g12
    go_wp2_with fail
    obtain⟨jg,aB,g13,rA,R0⟩:=q0e dQ [.int .i64 gm,.int .i64 0] 29
    rw[aB]
    clear aB
    have vO:Hid (Rec _ _ _):=R0
    clear R0 rA
    have lJ:=G.trans vN g13
    refine Calls.mono (P:=Tryz.prog) (gF.out jg x4 x5 (G.trans kL lJ) (Lent.G X4.out (G.trans g10 lJ)).fsl (Lent.G X5.out (G.trans g10 lJ)).fsl) ?_
    rintro e14 fU ⟨rfl,g14⟩
    have n5:Rec (fU.alloc (.cells #[.int .i64 0,.int .i64 0] 29)) fU.heap.size [.int .i64 0,.int .i64 0]:=Rec.new2 fU _ _ _
    have g15:G fU (fU.alloc (.cells #[.int .i64 0,.int .i64 0] 29)):=(G.refl fU).alloc _
    have kg:=G.trans lJ g14
    have wG:wr.heap.size≤bR.heap.size:=Nat.le_trans g10.size lX
    have pg:Hid (FOwn (fU.alloc (.cells #[.int .i64 0,.int .i64 0] 29)) wr.heap.size _ _):=FOwn.G rJ.out (G.trans kg g15)
    have pE:Hid (FOwn (fU.alloc (.cells #[.int .i64 0,.int .i64 0] 29)) wr.heap.size _ _):=FOwn.base (FOwn.G wF.out (G.trans g13 (G.trans g14 g15))) wG
    have vP:Hid (Rec _ _ _):=Rec.G RA.out (G.trans hG (G.trans g10 (G.trans kg g15)))
    have vQ:Hid (Rec _ _ _):=Rec.G RB.out (G.trans hG (G.trans g10 (G.trans kg g15)))
    have vR:Hid (Rec _ _ _):=Rec.G RC.out (G.trans hG (G.trans g10 (G.trans kg g15)))
    have lK:Hid (Rec _ _ _):=Rec.G vM.out (G.trans g12 (G.trans g13 (G.trans g14 g15)))
    have lL:Hid (Rec _ _ _):=Rec.G vO.out (G.trans g14 g15)
    have vS:Hid (Rec _ _ _):=n5
    clear rJ wF
    have cu:=Rec.f2 (Rec.G vP.out (G.refl _))
    have gH:=cu.1
    have gI:=cu.2.1
    have gJ:=cu.2.2.1
    have gK:=cu.2.2.2
    clear cu
    have cB:=Rec.f2 (Rec.G vQ.out (G.refl _))
    have gL:=cB.1
    have gM:=cB.2.1
    have gN:=cB.2.2.1
    have gP:=cB.2.2.2
    clear cB
    have cK:=Rec.f2 (Rec.G vR.out (G.refl _))
    have gQ:=cK.1
    have gT:=cK.2.1
    have gU:=cK.2.2.1
    have gV:=cK.2.2.2
    clear cK
    have aU:=Rec.f2 (Rec.G lK.out (G.refl _))
    have eT:=aU.1
    have eU:=aU.2.1
    have eX:=aU.2.2.1
    have eY:=aU.2.2.2
    clear aU
    have aV:=Rec.f2 (Rec.G lL.out (G.refl _))
    have eZ:=aV.1
    have fe:=aV.2.1
    have fo:=aV.2.2.1
    have fq:=aV.2.2.2
    clear aV
    have cO:=Rec.f2 (Rec.G vS.out (G.refl _))
    have gW:=cO.1
    have gX:=cO.2.1
    have gY:=cO.2.2.1
    have gZ:=cO.2.2.2
    clear cO
    clear n5
    go_wp2_with fail
    clear gH gI gJ gK gL gM gN gP gQ gT gU gV eT eU eX eY eZ fe fo fq gW gX gY gZ
    generalize fU.alloc (.cells #[.int .i64 0,.int .i64 0] 29)=vG at *
    have Nb:=G.trans kL (G.trans kg g15)
    have gf:=G.trans g10 (G.trans kg g15)
    clear vP lK vM vO lJ vN g11 g12 g13 g14 g15 kg kL g10 lX wG
    refine Calls.mono (P:=Tryz.prog) (q0K vG _ _ LA rO.out pg.out.fsl (FSl.G HA.out (G.trans hG gf)) Ad.out.1) ?_
    rintro e16 w16 ⟨rfl,g16⟩
    have uk:Hid (Rec _ _ _):=Rec.G vQ.out g16
    have rC:Hid (Rec _ _ _):=Rec.G lL.out g16
    have cZ:=Rec.f2 (Rec.G uk.out (G.refl _))
    have ic:=cZ.1
    have ig:=cZ.2.1
    have ik:=cZ.2.2.1
    have il:=cZ.2.2.2
    clear cZ
    have aW:=Rec.f2 (Rec.G rC.out (G.refl _))
    have fu:=aW.1
    have fw:=aW.2.1
    have fA:=aW.2.2.1
    have fB:=aW.2.2.2
    clear aW
    go_wp2_with fail
    clear ic ig ik il fu fw fA fB
    refine Calls.mono (P:=Tryz.prog) (q0K w16 _ _ LM iK.out (FOwn.G pE.out g16).fsl (FSl.G HM.out (G.trans hG (G.trans gf g16))) Ad.out.2) ?_
    rintro e17 kM ⟨rfl,g17⟩
    have wV:Hid (Rec _ _ _):=Rec.G vR.out (G.trans g16 g17)
    have rD:Hid (Rec _ _ _):=Rec.G vS.out (G.trans g16 g17)
    have df:=Rec.f2 (Rec.G wV.out (G.refl _))
    have iq:=df.1
    have iw:=df.2.1
    have iy:=df.2.2.1
    have iA:=df.2.2.2
    clear df
    have aX:=Rec.f2 (Rec.G rD.out (G.refl _))
    have fC:=aX.1
    have fD:=aX.2.1
    have fE:=aX.2.2.1
    have fF:=aX.2.2.2
    clear aX
    go_wp2_with fail
    clear iq iw iy iA fC fD fE fF
    have Cv:=G.trans g16 g17
    refine Calls.mono (P:=Tryz.prog) (q1U kM wr.heap.size _ LA (FOwn.G pg.out Cv)) ?_
    rintro e18 nH ⟨rfl,iX⟩
    have g18:=iX.g wr (Nat.le_refl _) (G.trans gf Cv)
    have wH:Hid (FOwn nH wr.heap.size _ _):=FOwn.spoilt (FOwn.G pE.out Cv) iX Ni.out
    clear iX
    go_wp2_with fail
    refine Calls.mono (P:=Tryz.prog) (q1U nH wr.heap.size _ LM wH.out) ?_
    rintro e19 um ⟨rfl,ko⟩
    have g19:=ko.g wr (Nat.le_refl _) g18
    clear ko
    have hGn:=G.trans hG g19
    go_wp2_with fail
    go_roundw
    case rel=>exact⟨k+1,by omega,by go_num,hGn⟩
    case measure=>simp only[intOf];omega
   ·have hlt2:decide ((k:Int)<2)=false:=decide_eq_false (by omega)
    go_wp2_with fail
    refine Calls.mono (P:=Tryz.prog) (q1W wr _ x4 _ l _ X4.out (FSl.G xV.out lI) HK.out.1) ?_
    rintro e11 bR ⟨rfl,g11⟩
    go_wp2_with fail
    refine Calls.mono (P:=Tryz.prog) (q1W bR _ x5 _ m _ (Lent.G X5.out g11) (FSl.G xW.out (G.trans lI g11)) HK.out.2) ?_
    rintro e12 dQ ⟨rfl,g12⟩
    go_wp2_with fail
    go_ret
    exact⟨rfl,G.trans lI (G.trans g11 g12)⟩
end Go.Proofs.YtljkfjjchkehaaaGreatDoor.EN
