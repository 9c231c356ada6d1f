/- What is proved here: the law ExpanTells: its walk where neither list is refused, over this seat's translation. -/
import Derived.Test.YtljkfjjchkehaaaGreatDoorC36
import Derived.Test.YtljkfjjchkehaaaGreatDoorC35
import Derived.Test.YtljkfjjchkehaaaGreatDoorC33
namespace Go.Proofs.YtljkfjjchkehaaaGreatDoor.EN
open Go.ChangeShapes Go.WideShapes Go.ChangeAt Go.RowKit
set_option maxHeartbeats 40000000 in
set_option maxRecDepth 10000 in
theorem q6N (w:World) (v u:Value) (l m:List Nat) (hT:Tab w) (h:FSl w v l) (hu:FSl w u m) (hl:∀ b∈l,b<2^64) (hm:∀ b∈m,b<2^64)
  (hn:l.length≤2000) (hn3:l.length≤300∨(2000<l.length∧l.length<5000)) (hfl:Fin l) (hkk:m.length≤2000) (hk:m.length≤300∨(2000<m.length∧m.length<5000)) (hfm:Fin m) (hla:Listed l 0 0) (hma:Listed m 0 0):
  Calls Tryz.prog 3 #[v,u] w fun e w'=>e= .returned (.bool true)∧G w w':=by
 obtain⟨L,o,hF,hL⟩:=q9F hn
 obtain⟨LA,ga,hret,hord,hLA,hoa⟩:=q4d (hF 1048576 (by omega)) hL
 obtain⟨L2,o2,hF2,hL2,hqp⟩:=qak hn hkk
 obtain⟨LM,gm,hret2,hord2,hLM,hob⟩:=q4d (hF2 1048576 (by omega)) hL2
 have HS:Hid _:=q2n w hT
 have HE:Hid (∀ w1,_):=fun w1=>q1i w1 l.length
 have HE2:Hid (∀ w1,_):=fun w1=>q1i w1 m.length
 rw[decide_eq_true hn3] at HE
 rw[decide_eq_true hk] at HE2
 have HL1:Hid (∀ w1,G w w1→_):=fun w1 g=>q3I w1 v l 13845050416955392000 (h.G g) (by omega)
 have HL2:Hid (∀ w1,G w w1→_):=fun w1 g=>q3I w1 u m 13845050416955392000 (hu.G g) (by omega)
 have HC1:Hid (∀ w1,G w w1→Calls Tryz.prog 10 #[v] w1 fun e w'=>e= .returned (.agg #[.int .i64 0,.int .i64 0])∧G w1 w'):=fun w1 g=>(q1d w1 v l (h.G g) hl (by omega)).mono (by
  rintro e w' ⟨c2,a2,rfl,g2,h2⟩
  obtain⟨rfl,rfl⟩:=q0r hla h2
  exact⟨rfl,g2⟩)
 have HC2:Hid (∀ w1,G w w1→Calls Tryz.prog 10 #[u] w1 fun e w'=>e= .returned (.agg #[.int .i64 0,.int .i64 0])∧G w1 w'):=fun w1 g=>(q1d w1 u m (hu.G g) hm (by omega)).mono (by
  rintro e w' ⟨c2,a2,rfl,g2,h2⟩
  obtain⟨rfl,rfl⟩:=q0r hma h2
  exact⟨rfl,g2⟩)
 have HOf:Hid (∀ w1 x,G w w1→FSl w1 x l→Calls Tryz.prog 16 #[x] w1 (RetO w1 LA ga 0)):=fun w1 x g hx=>(q9p w1 x l L o (hT.G g) hx hl hn (by omega) hfl (hF _ (by omega))).mono (hret w1)
 have HMul:Hid (∀ w1 x y,G w w1→FSl w1 x l→FSl w1 y m→Calls Tryz.prog 17 #[x,y] w1 (RetO w1 LM gm 0)):=fun w1 x y g hx hy=>(qck w1 x y l m (hT.G g) hx hy hl hm hn hkk hfl hfm L2 o2 (by omega) (hF2 _ (by omega))).mono (hret2 w1)
 have HCmp:Hid (∀ w1 x y,G w w1→FSl w1 x l→FSl w1 y m→Calls Tryz.prog 18 #[x,y] w1 fun e w'=>e= .returned (.tuple #[.int .i64 ((l.map fz).sum-(m.map fz).sum).sign,.agg #[.int .i64 0,.int .i64 0]])∧G w1 w'):=fun w1 x y g hx hy=>q5C w1 x y l m (hT.G g) hx hy hl hm hn hkk hfl hfm
 have hq1:=q1D hn l.length
 rw[List.take_of_length_le (by rw[List.length_map];exact Nat.le_refl _)] at hq1
 have hq2:=q1D hkk m.length
 rw[List.take_of_length_le (by rw[List.length_map];exact Nat.le_refl _)] at hq2
 have HTot2:Hid (∀ w1,G w w1→_):=fun w1 g=>q2L w1 u m (hu.G g) hm hfm hkk (fun k=>q1D hkk k) (fun b=>qaL b)
 have HMulV:Hid (∀ w1 bz p q,bz<w1.heap.size→p<w1.heap.size→q<w1.heap.size→RatIs w1 bz 0 0→RV w1 p (Uz (l.map fz).sum)→RV w1 q (Uz (m.map fz).sum)→_):=fun w1 bz p q h1 h2 h3 h4 h5 h6=>qcb w1 bz p q 0 0 _ _ 80 (by omega) hq1 hq2 h1 h2 h3 h4 h5 h6
 have HCmpV:Hid (∀ w1 p q,p<w1.heap.size→q<w1.heap.size→RV w1 p (Uz (l.map fz).sum)→RV w1 q (Uz (m.map fz).sum)→Calls Tryz.prog 15 #[.pointer (some ⟨p,0,none⟩),.pointer (some ⟨q,0,none⟩)] w1 fun e w'=>e= .returned (.int .i64 ((l.map fz).sum-(m.map fz).sum).sign)∧G w1 w'):=fun w1 p q h2 h3 h5 h6=>by
  have h:=qbr w1 p q _ _ 80 (by omega) hq1 hq2 h2 h3 h5 h6
  rw[q9x] at h
  exact h
 have HLst2:Hid (∀ w1 p,p<w1.heap.size→RV w1 p (Uz (l.map fz).sum*Uz (m.map fz).sum)→_):=fun w1 p hp hr=>q3U w1 p _ L2 o2 (hF2 _ (by omega)) (by omega) hp hr
 have HTot:Hid (∀ w1,G w w1→_):=fun w1 g=>q2L w1 v l (h.G g) hl hfl hn (fun k=>q1D hn k) (fun b=>qaL b)
 have HLst:Hid (∀ w1 p,p<w1.heap.size→RV w1 p (Uz (l.map fz).sum)→_):=fun w1 p hp hr=>q3U w1 p _ L o (hF _ (by omega)) (by omega) hp hr
 have HO1:Hid (∀ i,i<LA.length→(FloatKind.f64.format.order (LA.getD i 0) (LA.getD i 0)==some .eq)=true):=hord
 have HO2:Hid (∀ i,i<LM.length→(FloatKind.f64.format.order (LM.getD i 0) (LM.getD i 0)==some .eq)=true):=hord2
 have HLL:Hid (LA.length≤100000∧LM.length≤100000):=⟨by omega,by omega⟩
 have HOB:Hid _:=hob
 have HOA:Hid _:=hoa
 have HF1:Hid (FSl w v l):=h
 have HK:Hid (l.length<5000∧m.length<5000):=⟨by omega,by omega⟩
 have HF2:Hid (FSl w u m):=hu
 obtain⟨pa0,ca0,rfl,-,-⟩:=h
 obtain⟨pb0,cb0,rfl,-,-⟩:=hu
 generalize Uz (l.map fz).sum*Uz (m.map fz).sum=Q at *
 generalize Uz (l.map fz).sum=X at *
 generalize Uz (m.map fz).sum=Y at *
 generalize ((l.map fz).sum-(m.map fz).sum).sign=d at *
 clear hl hm hn hn3 hk hkk hT hla hma hF hL hret hord hLA hoa hfl hfm hF2 hL2 hret2 hord2 hLM hob hqp hq1 hq2
 go_enter Tryz.func3,Tryz.ntmps3
 go_wp2_with fail
 refine Calls.mono (P:=Tryz.prog) HS.out ?_
 rintro e1 w1 ⟨rfl,g1⟩
 go_wp2_with fail
 refine Calls.mono (P:=Tryz.prog) (HE.out w1) ?_
 rintro e2 w2 ⟨rfl,g2⟩
 go_wp2_with fail
 refine Calls.mono (P:=Tryz.prog) (HE2.out w2) ?_
 rintro e3 w3 ⟨rfl,g3⟩
 have g03:=G.trans g1 (G.trans g2 g3)
 clear g1 g2 g3 HS HE HE2
 go_wp2_with fail
 refine Calls.mono (P:=Tryz.prog) (HL1.out w3 g03) ?_
 rintro e4 w4 ⟨x4,rfl,g4,hx4⟩
 have HX4:Hid (Lent w4 _ x4 l _):=hx4
 have g04:=G.trans g03 g4
 clear hx4 HL1
 go_wp2_with fail
 refine Calls.mono (P:=Tryz.prog) (HL2.out w4 g04) ?_
 rintro e5 w5 ⟨x5,rfl,g5,hx5⟩
 have HX5:Hid (Lent w5 _ x5 m _):=hx5
 have HX4':Hid (Lent w5 _ x4 l _):=HX4.out.G g5
 have g05:=G.trans g04 g5
 clear hx5 HL2 HX4
 go_wp2_with fail
 refine Calls.mono (P:=Tryz.prog) (HC1.out w5 g05) ?_
 rintro e6 w6 ⟨rfl,g6⟩
 go_wp2_with fail
 refine Calls.mono (P:=Tryz.prog) (HC2.out w6 (G.trans g05 g6)) ?_
 rintro e7 w7 ⟨rfl,g7⟩
 have g57:=G.trans g6 g7
 clear HC1 HC2 g6 g7
 go_wp2_with fail
 obtain⟨w8,hw_,g8,hz8,R0,R1,R2⟩:=q1o w7 [.int .i64 0,.int .i64 0] [.int .i64 0,.int .i64 0] [.int .i64 0,.int .i64 0] 29 29 29
 rw[hw_]
 clear hw_
 have g58:=G.trans g57 g8
 apply share
 ·intro LS
  have hSR0:=Rec.f2 (Rec.G R0.out (G.refl _))
  have hSR0_0:=hSR0.1
  have hSR0_1:=hSR0.2.1
  have hSR0_2:=hSR0.2.2.1
  have hSR0_3:=hSR0.2.2.2
  clear hSR0
  have hSR2:=Rec.f2 (Rec.G R2.out (G.refl _))
  have hSR2_0:=hSR2.1
  have hSR2_1:=hSR2.2.1
  have hSR2_2:=hSR2.2.2.1
  have hSR2_3:=hSR2.2.2.2
  clear hSR2
  go_region
  ·clear hSR0_0 hSR0_1 hSR0_2 hSR0_3 hSR2_0 hSR2_1 hSR2_2 hSR2_3
   have n1:Rec (w8.alloc (.cells #[.int .i64 0,.int .i64 0] 29)) w8.heap.size _:=Rec.new2 w8 _ _ _
   have n2:Rec ((w8.alloc (.cells #[.int .i64 0,.int .i64 0] 29)).alloc (.cells #[.int .i64 0,.int .i64 0] 29)) (w8.alloc (.cells #[.int .i64 0,.int .i64 0] 29)).heap.size _:=Rec.new2 _ _ _ _
   have hs2:(w8.alloc (.cells #[.int .i64 0,.int .i64 0] 29)).heap.size=w7.heap.size+3+1:=by simp [hz8]
   rw[hs2] at n2
   rw[hz8] at n1
   have n3:=Rec.G n1 ((G.refl _).alloc (.cells #[.int .i64 0,.int .i64 0] 29)).drew
   have n4:=Rec.G n2 (G.refl _).drew
   have g89:G w8 ((w8.alloc (.cells #[.int .i64 0,.int .i64 0] 29)).alloc (.cells #[.int .i64 0,.int .i64 0] 29)).drew:=(((G.refl w8).alloc _).alloc _).drew
   have RC9:Hid (Rec ((w8.alloc (.cells #[.int .i64 0,.int .i64 0] 29)).alloc (.cells #[.int .i64 0,.int .i64 0] 29)).drew (w7.heap.size+2) _):=Rec.G R2.out g89
   have RD9:Hid (Rec ((w8.alloc (.cells #[.int .i64 0,.int .i64 0] 29)).alloc (.cells #[.int .i64 0,.int .i64 0] 29)).drew w7.heap.size _):=Rec.G R0.out g89
   have g59:G w5 ((w8.alloc (.cells #[.int .i64 0,.int .i64 0] 29)).alloc (.cells #[.int .i64 0,.int .i64 0] 29)).drew:=G.trans g58 g89
   clear n1 n2 hs2 g89
   generalize ((w8.alloc (.cells #[.int .i64 0,.int .i64 0] 29)).alloc (.cells #[.int .i64 0,.int .i64 0] 29)).drew=w9 at *
   have RA9:Hid (Rec w9 (w7.heap.size+3) _):=n3
   have RB9:Hid (Rec w9 (w7.heap.size+3+1) _):=n4
   clear n3 n4
   have hq1:w7.heap.size+2<w7.heap.size+3:=by omega
   have hq2:w7.heap.size+2<w7.heap.size+3+1:=by omega
   have hq3:w7.heap.size+3≠w7.heap.size+3+1:=by omega
   generalize hq4:w7.heap.size+3+1=pb at hq2 hq3 RB9 ⊢
   generalize hq5:w7.heap.size+3=pa at hq1 hq3 RA9 ⊢
   have KK:Hid (w7.heap.size+2<pa∧w7.heap.size+2<pb∧pa≠pb):=⟨by omega,by omega,by omega⟩
   clear hq1 hq2 hq3 hq4 hq5
   revert g59;revert RD9;revert RC9;revert RB9;revert RA9;revert KK
   revert w9;revert pb;revert pa
   exact LS.out
  ·clear hSR0_0 hSR0_1 hSR0_2 hSR0_3 hSR2_0 hSR2_1 hSR2_2 hSR2_3
   have n1:Rec (w8.alloc (.cells #[.int .i64 0,.int .i64 0] 29)) w8.heap.size _:=Rec.new2 w8 _ _ _
   have n2:Rec ((w8.alloc (.cells #[.int .i64 0,.int .i64 0] 29)).alloc (.cells #[.int .i64 0,.int .i64 0] 29)) (w8.alloc (.cells #[.int .i64 0,.int .i64 0] 29)).heap.size _:=Rec.new2 _ _ _ _
   have hs2:(w8.alloc (.cells #[.int .i64 0,.int .i64 0] 29)).heap.size=w7.heap.size+3+1:=by simp [hz8]
   rw[hs2] at n2
   rw[hz8] at n1
   have n3:=Rec.G n1 ((G.refl _).alloc (.cells #[.int .i64 0,.int .i64 0] 29)).drew
   have n4:=Rec.G n2 (G.refl _).drew
   have g89:G w8 ((w8.alloc (.cells #[.int .i64 0,.int .i64 0] 29)).alloc (.cells #[.int .i64 0,.int .i64 0] 29)).drew:=(((G.refl w8).alloc _).alloc _).drew
   have RC9:Hid (Rec ((w8.alloc (.cells #[.int .i64 0,.int .i64 0] 29)).alloc (.cells #[.int .i64 0,.int .i64 0] 29)).drew (w7.heap.size+2) _):=Rec.G R2.out g89
   have RD9:Hid (Rec ((w8.alloc (.cells #[.int .i64 0,.int .i64 0] 29)).alloc (.cells #[.int .i64 0,.int .i64 0] 29)).drew w7.heap.size _):=Rec.G R0.out g89
   have g59:G w5 ((w8.alloc (.cells #[.int .i64 0,.int .i64 0] 29)).alloc (.cells #[.int .i64 0,.int .i64 0] 29)).drew:=G.trans g58 g89
   clear n1 n2 hs2 g89
   generalize ((w8.alloc (.cells #[.int .i64 0,.int .i64 0] 29)).alloc (.cells #[.int .i64 0,.int .i64 0] 29)).drew=w9 at *
   have RB9:Hid (Rec w9 (w7.heap.size+3) _):=n3
   have RA9:Hid (Rec w9 (w7.heap.size+3+1) _):=n4
   clear n3 n4
   have hq1:w7.heap.size+2<w7.heap.size+3:=by omega
   have hq2:w7.heap.size+2<w7.heap.size+3+1:=by omega
   have hq3:w7.heap.size+3≠w7.heap.size+3+1:=by omega
   generalize hq4:w7.heap.size+3+1=pa at hq2 hq3 RA9 ⊢
   generalize hq5:w7.heap.size+3=pb at hq1 hq3 RB9 ⊢
   have KK:Hid (w7.heap.size+2<pa∧w7.heap.size+2<pb∧pa≠pb):=⟨by omega,by omega,by omega⟩
   clear hq1 hq2 hq3 hq4 hq5
   revert g59;revert RD9;revert RC9;revert RB9;revert RA9;revert KK
   revert w9;revert pb;revert pa
   exact LS.out
 refine Later.mk ?_
 intro pa pb w9 KK RA RB RC RD g59
 clear R0 R1 R2
 have h57:w5.heap.size≤w7.heap.size:=g57.size
 clear hz8 g57 g58 g8
 have g09:=G.trans g05 g59
 have hSRD:=Rec.f2 (Rec.G RD.out (G.refl _))
 have hSRD_0:=hSRD.1
 have hSRD_1:=hSRD.2.1
 have hSRD_2:=hSRD.2.2.1
 have hSRD_3:=hSRD.2.2.2
 clear hSRD
 go_wp2_with fail
 clear hSRD_0 hSRD_1 hSRD_2 hSRD_3
 refine Calls.mono (P:=Tryz.prog) (HTot.out w9 g09) ?_
 intro e10 w10 hs
 obtain⟨p10,rfl,g10,-,hp10,hr10⟩:=hs
 have HL:Hid _:=HLst.out w10 p10 hp10 hr10
 clear hr10 HLst
 go_wp2_with fail
 refine Calls.mono (P:=Tryz.prog) HL.out ?_
 intro e11 w11 hs
 obtain⟨v11,rfl,g11,hv11⟩:=hs
 obtain⟨a1,c1,rfl⟩:=hv11.len
 have HA0:Hid (FSl w11 _ L):=hv11.fsl
 have g911:=G.trans g10 g11
 clear hv11 HL g10 g11 hp10
 have RC1:Hid (Rec w11 (w7.heap.size+2) _):=Rec.G RC.out g911
 have RB1:Hid (Rec w11 pb _):=Rec.G RB.out g911
 have RA1:Hid (Rec w11 pa _):=Rec.G RA.out g911
 have g511:=G.trans g59 g911
 clear RA RB RC RD g911 g59
 rcases HOA.out with ⟨ho,hl,hg⟩|⟨ho,hl,hg⟩
 case' inl=>
  subst ho
  have RA3:Hid (Rec w11 pa [.int .i64 ga,.int .i64 0]):=by rw[hg];exact RA1.out
  have HA3:Hid (FSl w11 (.slice a1 L.length c1) LA):=by rw[hl];exact HA0.out
  clear RA1 HA0 hl hg
  have hSRC1:=Rec.f2 (Rec.G RC1.out (G.refl _))
  have hSRC1_0:=hSRC1.1
  have hSRC1_1:=hSRC1.2.1
  have hSRC1_2:=hSRC1.2.2.1
  have hSRC1_3:=hSRC1.2.2.2
  clear hSRC1
  go_wp2_with fail
  clear hSRC1_0 hSRC1_1 hSRC1_2 hSRC1_3
  have RB3:Hid _:=RB1
  have RC3:Hid _:=RC1
  have g519:=g511
  obtain⟨w19,hw19⟩:∃ x,x=w11:=⟨_,rfl⟩
  subst hw19
  obtain⟨bz,hbz⟩:∃ x,x=w19.heap.size:=⟨_,rfl⟩
  have hA12:=hbz.symm
  rw[← hbz]
  clear RB1 RC1 g511 hbz
 case' inr=>
  subst ho
  go_wp2_with fail
  refine Calls.mono (P:=Tryz.prog) (q6b w11 3 0) ?_
  rintro e12 w12 ⟨rfl,g12⟩
  have RA2:Hid (Rec w12 pa _):=Rec.G RA1.out g12
  have RC2:Hid (Rec w12 (w7.heap.size+2) _):=Rec.G RC1.out g12
  have RB2:Hid (Rec w12 pb _):=Rec.G RB1.out g12
  have g512:=G.trans g511 g12
  clear RA1 RB1 RC1 g511 g12
  have hne:pa≠w7.heap.size+1+1:=by have:=KK.out.1;omega
  have hSRA2:=Rec.f2 (Rec.G RA2.out (G.refl _))
  have hSRA2_0:=hSRA2.1
  have hSRA2_1:=hSRA2.2.1
  have hSRA2_2:=hSRA2.2.2.1
  have hSRA2_3:=hSRA2.2.2.2
  clear hSRA2
  have hSRC2:=Rec.f2 (Rec.G RC2.out (G.refl _))
  have hSRC2_0:=hSRC2.1
  have hSRC2_1:=hSRC2.2.1
  have hSRC2_2:=hSRC2.2.2.1
  have hSRC2_3:=hSRC2.2.2.2
  clear hSRC2
  go_wp2_with fail
  clear hSRA2_0 hSRA2_1 hSRA2_2 hSRA2_3 hSRC2_0 hSRC2_1 hSRC2_2 hSRC2_3
  have RA3:Hid (Rec ((w12.setCell ⟨pa,0,none⟩ (.int .i64 3)).setCell ⟨pa,1,none⟩ (.int .i64 0)) pa [.int .i64 ga,.int .i64 0]):=by rw[hg];exact Rec.set2 RA2.out
  have RB3:Hid (Rec ((w12.setCell ⟨pa,0,none⟩ (.int .i64 3)).setCell ⟨pa,1,none⟩ (.int .i64 0)) pb _):=Rec.oth (Rec.oth RB2.out _ KK.out.2.2) _ KK.out.2.2
  have RC3:Hid (Rec ((w12.setCell ⟨pa,0,none⟩ (.int .i64 3)).setCell ⟨pa,1,none⟩ (.int .i64 0)) (w7.heap.size+2) _):=Rec.oth (Rec.oth RC2.out _ hne) _ hne
  have hpa5:w5.heap.size≤pa:=by have:=KK.out.1;omega
  have g519:=Rec.g2 (b:=pa) (u:= .int .i64 3) (v:= .int .i64 0) g512 hpa5
  have hA12:((w12.setCell ⟨pa,0,none⟩ (.int .i64 3)).setCell ⟨pa,1,none⟩ (.int .i64 0)).heap.size=w12.heap.size:=by simp
  generalize ((w12.setCell ⟨pa,0,none⟩ (.int .i64 3)).setCell ⟨pa,1,none⟩ (.int .i64 0))=w19 at *
  generalize w12.heap.size=bz at *
  clear RA2 RB2 RC2 g512 hpa5 hne HA0
  have HA3:Hid (FSl w19 (.slice none 0 0) LA):=by rw[hl];exact q18 _ _ _
  clear hl hg
 all_goals
  have g019:=G.trans g05 g519
  have hr0:=q4b w19 40
  have hga:=(G.refl w19).alloc (.cells #[.bool false,.slice none 0 0,.bool false,.slice none 0 0] 40)
  have hzs:w19.heap.size<(w19.alloc (.cells #[.bool false,.slice none 0 0,.bool false,.slice none 0 0] 40)).heap.size:=by simp
  generalize w19.alloc (.cells #[.bool false,.slice none 0 0,.bool false,.slice none 0 0] 40)=wC at *
  refine Calls.mono (P:=Tryz.prog) (HTot.out wC (G.trans g019 hga)) ?_
  intro e13 w13 hs
  obtain⟨p13,rfl,g13,-,hp13,hr13⟩:=hs
  have HR13:Hid (RV w13 p13 X):=hr13
  have HZ13:Hid (RatIs w13 bz 0 0):=by have h:=hr0.G hzs g13;rw[hA12] at h;exact h
  have hzs13:=G.lt g13 hzs
  rw[hA12] at hzs13
  have g13B:=G.trans hga g13
  clear hr13 hr0 hzs hga g13
  go_wp2_with fail
  refine Calls.mono (P:=Tryz.prog) (HTot2.out w13 (G.trans g019 g13B)) ?_
  intro e14 w14 hs
  obtain⟨p14,rfl,g14,-,hp14,hr14⟩:=hs
  have hzs14:=G.lt g14 hzs13
  have HM14:Hid _:=HMulV.out w14 bz p13 p14 hzs14 (G.lt g14 hp13) hp14 (HZ13.out.G hzs13 g14) (RV.G HR13.out hp13 g14) hr14
  have g14B:=G.trans g13B g14
  clear hr14 HR13 HZ13 hp13 hp14 g13B g14 hzs13
  go_wp2_with fail
  refine Calls.mono (P:=Tryz.prog) HM14.out ?_
  intro e15 w15 hs
  obtain⟨p15,rfl,g15,-,hp15,hr15⟩:=SetRat.ret g14B (Nat.le_of_eq hA12) hzs14 hs
  have HL15:Hid _:=HLst2.out w15 p15 hp15 (Or.inl hr15)
  clear hs hr15 HM14 g14B hzs14
  go_wp2_with fail
  refine Calls.mono (P:=Tryz.prog) HL15.out ?_
  intro e16 w16 hs
  obtain⟨v16,rfl,g16,hv16⟩:=hs
  obtain⟨a2,c2,rfl⟩:=hv16.len
  have HM0:Hid (FSl w16 _ L2):=hv16.fsl
  have g1516:=G.trans g15 g16
  clear hv16 HL15 g15 g16 hp15
  have RA6:Hid (Rec w16 pa _):=Rec.G RA3.out g1516
  have RB6:Hid (Rec w16 pb _):=Rec.G RB3.out g1516
  have RC6:Hid (Rec w16 (w7.heap.size+2) _):=Rec.G RC3.out g1516
  have HA6:Hid (FSl w16 _ LA):=FSl.G HA3.out g1516
  have g516:=G.trans g519 g1516
  clear RA3 RB3 RC3 HA3 g1516 g519 g019 hA12
  rcases HOB.out with ⟨ho,hl,hg⟩|⟨ho,hl,hg⟩
  case' inl=>
   subst ho
   go_wp2_with fail
   have RA8:Hid _:=RA6
   have RB8:Hid (Rec w16 pb [.int .i64 gm,.int .i64 0]):=by rw[hg];exact RB6.out
   have RC8:Hid _:=RC6
   have HA8:Hid _:=HA6
   have HM8:Hid (FSl w16 (.slice a2 L2.length c2) LM):=by rw[hl];exact HM0.out
   have g518:=g516
   obtain⟨w18,hw18⟩:∃ x,x=w16:=⟨_,rfl⟩
   subst hw18
   clear RA6 RB6 RC6 HA6 HM0 g516 hl hg
  case' inr=>
   subst ho
   go_wp2_with fail
   refine Calls.mono (P:=Tryz.prog) (q6b w16 3 0) ?_
   rintro e17 w17 ⟨rfl,g17⟩
   have RB7:Hid (Rec w17 pb _):=Rec.G RB6.out g17
   have RA7:Hid (Rec w17 pa _):=Rec.G RA6.out g17
   have RC7:Hid (Rec w17 (w7.heap.size+2) _):=Rec.G RC6.out g17
   have HA7:Hid (FSl w17 _ LA):=FSl.G HA6.out g17
   have g517:=G.trans g516 g17
   clear RA6 RB6 RC6 HA6 HM0 g17 g516
   have hSRB7:=Rec.f2 (Rec.G RB7.out (G.refl _))
   have hSRB7_0:=hSRB7.1
   have hSRB7_1:=hSRB7.2.1
   have hSRB7_2:=hSRB7.2.2.1
   have hSRB7_3:=hSRB7.2.2.2
   clear hSRB7
   go_wp2_with fail
   clear hSRB7_0 hSRB7_1 hSRB7_2 hSRB7_3
   have RB8:Hid (Rec ((w17.setCell ⟨pb,0,none⟩ (.int .i64 3)).setCell ⟨pb,1,none⟩ (.int .i64 0)) pb [.int .i64 gm,.int .i64 0]):=by rw[hg];exact Rec.set2 RB7.out
   have RA8:Hid (Rec ((w17.setCell ⟨pb,0,none⟩ (.int .i64 3)).setCell ⟨pb,1,none⟩ (.int .i64 0)) pa _):=Rec.oth (Rec.oth RA7.out _ KK.out.2.2.symm) _ KK.out.2.2.symm
   have hneb:pb≠w7.heap.size+2:=by have:=KK.out.2.1;omega
   have RC8:Hid (Rec ((w17.setCell ⟨pb,0,none⟩ (.int .i64 3)).setCell ⟨pb,1,none⟩ (.int .i64 0)) (w7.heap.size+2) _):=Rec.oth (Rec.oth RC7.out _ hneb) _ hneb
   have HA8:Hid (FSl ((w17.setCell ⟨pb,0,none⟩ (.int .i64 3)).setCell ⟨pb,1,none⟩ (.int .i64 0)) _ LA):=FSl.flt HA7.out RB7.out
   have hpb5:w5.heap.size≤pb:=by have:=KK.out.2.1;omega
   have g518:=Rec.g2 (b:=pb) (u:= .int .i64 3) (v:= .int .i64 0) g517 hpb5
   generalize ((w17.setCell ⟨pb,0,none⟩ (.int .i64 3)).setCell ⟨pb,1,none⟩ (.int .i64 0))=w18 at *
   have HM8:Hid (FSl w18 (.slice none 0 0) LM):=by rw[hl];exact q18 _ _ _
   clear RA7 RB7 RC7 HA7 g517 hpb5 hneb hl hg
 all_goals as_aux_lemma=>
  have g018:=G.trans g05 g518
  refine Calls.mono (P:=Tryz.prog) (HTot.out w18 g018) ?_
  intro e21 w21 hs
  obtain⟨p21,rfl,g21,-,hp21,hr21⟩:=hs
  have HR21:Hid (RV w21 p21 X):=hr21
  clear hr21
  go_wp2_with fail
  refine Calls.mono (P:=Tryz.prog) (HTot2.out w21 (G.trans g018 g21)) ?_
  intro e22 w22 hs
  obtain⟨p22,rfl,g22,-,hp22,hr22⟩:=hs
  have HC22:Hid _:=HCmpV.out w22 p21 p22 (G.lt g22 hp21) hp22 (RV.G HR21.out hp21 g22) hr22
  have g2122:=G.trans g21 g22
  clear hr22 HR21 hp21 hp22 g21 g22
  go_wp2_with fail
  refine Calls.mono (P:=Tryz.prog) HC22.out ?_
  rintro e23 w23 ⟨rfl,g23⟩
  have g2123:=G.trans g2122 g23
  clear HC22 g2122 g23
  go_wp2_with fail
  have RA:Hid (Rec w23 pa _):=Rec.G RA8.out g2123
  have RB:Hid (Rec w23 pb _):=Rec.G RB8.out g2123
  have RC:Hid (Rec w23 (w7.heap.size+2) _):=Rec.G RC8.out g2123
  have HA:Hid (FSl w23 _ LA):=FSl.G HA8.out g2123
  have HM:Hid (FSl w23 _ LM):=FSl.G HM8.out g2123
  have g5B:=G.trans g518 g2123
  have g0B:=G.trans g05 g5B
  clear RA8 RB8 RC8 HA8 HM8 g2123 g518 g018
  go_loopw [83] (fun vk wr=>∃ k:Nat,k≤2∧vk= .int .i64 k∧G w23 wr) (fun vk _=>2-(intOf vk).toNat)
  case atStart=>exact⟨0,Nat.zero_le _,rfl,G.refl _⟩
  case round=>
   obtain⟨k,hk,rfl,hG⟩:=hrel
   have X4:Hid (Lent wr _ x4 l _):=HX4'.out.G (G.trans g5B hG)
   have X5:Hid (Lent wr _ x5 m _):=HX5.out.G (G.trans g5B hG)
   have g0r:=G.trans g0B hG
   by_cases hkn:k<2
   ·have hlt2:decide ((k:Int)<2)=true:=decide_eq_true (by omega)
    go_wp2_with fail
    refine Calls.mono (P:=Tryz.prog) (HOf.out wr x4 g0r X4.out.fsl) ?_
    intro e10 w10 hs
    obtain⟨v10,rfl,g10,hv10⟩:=hs
    obtain⟨b1,d1,rfl⟩:=hv10.len
    have HV10:Hid (FOwn w10 wr.heap.size _ _):=hv10
    clear hv10
    go_wp2_with fail
    have g0a:=G.trans g0r g10
    obtain⟨w11,hw_,g11,hz11,R0⟩:=q0f w10 [.int .i64 ga,.int .i64 0] 29
    rw[hw_]
    clear hw_
    have R18:Hid (Rec _ _ _):=R0
    have hsz11:=g11.size
    clear R0 hz11
    refine Calls.mono (P:=Tryz.prog) (HMul.out w11 x4 x5 (G.trans g0a g11) (Lent.G X4.out (G.trans g10 g11)).fsl (Lent.G X5.out (G.trans g10 g11)).fsl) ?_
    intro e12 w12 hs
    obtain⟨v12,rfl,g12,hv12⟩:=hs
    obtain⟨b2,d2,rfl⟩:=hv12.len
    have HV12:Hid (FOwn w12 w11.heap.size _ _):=hv12
    have HAP:Hid _:=FOwn.apart HV10.out hv12 hsz11
    clear hv12
    have g1c:=G.trans g11 g12
    go_wp2_with fail
    obtain⟨w13,hw_,g13,hz13,R0⟩:=q0f w12 [.int .i64 gm,.int .i64 0] 29
    rw[hw_]
    clear hw_
    have R20:Hid (Rec _ _ _):=R0
    clear R0 hz13
    have gad:=G.trans g1c g13
    refine Calls.mono (P:=Tryz.prog) (HCmp.out w13 x4 x5 (G.trans g0a gad) (Lent.G X4.out (G.trans g10 gad)).fsl (Lent.G X5.out (G.trans g10 gad)).fsl) ?_
    rintro e14 w14 ⟨rfl,g14⟩
    have n5:Rec (w14.alloc (.cells #[.int .i64 0,.int .i64 0] 29)) w14.heap.size [.int .i64 0,.int .i64 0]:=Rec.new2 w14 _ _ _
    have g15:G w14 (w14.alloc (.cells #[.int .i64 0,.int .i64 0] 29)):=(G.refl w14).alloc _
    have gae:=G.trans gad g14
    have hszr:wr.heap.size≤w11.heap.size:=Nat.le_trans g10.size hsz11
    have HV105:Hid (FOwn (w14.alloc (.cells #[.int .i64 0,.int .i64 0] 29)) wr.heap.size _ _):=FOwn.G HV10.out (G.trans gae g15)
    have HV125:Hid (FOwn (w14.alloc (.cells #[.int .i64 0,.int .i64 0] 29)) wr.heap.size _ _):=FOwn.base (FOwn.G HV12.out (G.trans g13 (G.trans g14 g15))) hszr
    have RA5:Hid (Rec _ _ _):=Rec.G RA.out (G.trans hG (G.trans g10 (G.trans gae g15)))
    have RB5:Hid (Rec _ _ _):=Rec.G RB.out (G.trans hG (G.trans g10 (G.trans gae g15)))
    have RC5:Hid (Rec _ _ _):=Rec.G RC.out (G.trans hG (G.trans g10 (G.trans gae g15)))
    have R185:Hid (Rec _ _ _):=Rec.G R18.out (G.trans g12 (G.trans g13 (G.trans g14 g15)))
    have R205:Hid (Rec _ _ _):=Rec.G R20.out (G.trans g14 g15)
    have R22:Hid (Rec _ _ _):=n5
    clear HV10 HV12
    have hSRA5:=Rec.f2 (Rec.G RA5.out (G.refl _))
    have hSRA5_0:=hSRA5.1
    have hSRA5_1:=hSRA5.2.1
    have hSRA5_2:=hSRA5.2.2.1
    have hSRA5_3:=hSRA5.2.2.2
    clear hSRA5
    have hSRB5:=Rec.f2 (Rec.G RB5.out (G.refl _))
    have hSRB5_0:=hSRB5.1
    have hSRB5_1:=hSRB5.2.1
    have hSRB5_2:=hSRB5.2.2.1
    have hSRB5_3:=hSRB5.2.2.2
    clear hSRB5
    have hSRC5:=Rec.f2 (Rec.G RC5.out (G.refl _))
    have hSRC5_0:=hSRC5.1
    have hSRC5_1:=hSRC5.2.1
    have hSRC5_2:=hSRC5.2.2.1
    have hSRC5_3:=hSRC5.2.2.2
    clear hSRC5
    have hSR185:=Rec.f2 (Rec.G R185.out (G.refl _))
    have hSR185_0:=hSR185.1
    have hSR185_1:=hSR185.2.1
    have hSR185_2:=hSR185.2.2.1
    have hSR185_3:=hSR185.2.2.2
    clear hSR185
    have hSR205:=Rec.f2 (Rec.G R205.out (G.refl _))
    have hSR205_0:=hSR205.1
    have hSR205_1:=hSR205.2.1
    have hSR205_2:=hSR205.2.2.1
    have hSR205_3:=hSR205.2.2.2
    clear hSR205
    have hSR22:=Rec.f2 (Rec.G R22.out (G.refl _))
    have hSR22_0:=hSR22.1
    have hSR22_1:=hSR22.2.1
    have hSR22_2:=hSR22.2.2.1
    have hSR22_3:=hSR22.2.2.2
    clear hSR22
    clear n5
    go_wp2_with fail
    clear hSRA5_0 hSRA5_1 hSRA5_2 hSRA5_3 hSRB5_0 hSRB5_1 hSRB5_2 hSRB5_3 hSRC5_0 hSRC5_1 hSRC5_2 hSRC5_3 hSR185_0 hSR185_1 hSR185_2 hSR185_3 hSR205_0 hSR205_1 hSR205_2 hSR205_3 hSR22_0 hSR22_1 hSR22_2 hSR22_3
    generalize w14.alloc (.cells #[.int .i64 0,.int .i64 0] 29)=w15 at *
    have g0f:=G.trans g0a (G.trans gae g15)
    have gf:=G.trans g10 (G.trans gae g15)
    clear RA5 R185 R18 R20 gad g1c g11 g12 g13 g14 g15 gae g0a g10 hsz11 hszr
    refine Calls.mono (P:=Tryz.prog) (q0K w15 _ _ LA HO1.out HV105.out.fsl (FSl.G HA.out (G.trans hG gf)) HLL.out.1) ?_
    rintro e16 w16 ⟨rfl,g16⟩
    have RB6:Hid (Rec _ _ _):=Rec.G RB5.out g16
    have R206:Hid (Rec _ _ _):=Rec.G R205.out g16
    have hSRB6:=Rec.f2 (Rec.G RB6.out (G.refl _))
    have hSRB6_0:=hSRB6.1
    have hSRB6_1:=hSRB6.2.1
    have hSRB6_2:=hSRB6.2.2.1
    have hSRB6_3:=hSRB6.2.2.2
    clear hSRB6
    have hSR206:=Rec.f2 (Rec.G R206.out (G.refl _))
    have hSR206_0:=hSR206.1
    have hSR206_1:=hSR206.2.1
    have hSR206_2:=hSR206.2.2.1
    have hSR206_3:=hSR206.2.2.2
    clear hSR206
    go_wp2_with fail
    clear hSRB6_0 hSRB6_1 hSRB6_2 hSRB6_3 hSR206_0 hSR206_1 hSR206_2 hSR206_3
    refine Calls.mono (P:=Tryz.prog) (q0K w16 _ _ LM HO2.out (FOwn.G HV125.out g16).fsl (FSl.G HM.out (G.trans hG (G.trans gf g16))) HLL.out.2) ?_
    rintro e17 w17 ⟨rfl,g17⟩
    have RC7:Hid (Rec _ _ _):=Rec.G RC5.out (G.trans g16 g17)
    have R227:Hid (Rec _ _ _):=Rec.G R22.out (G.trans g16 g17)
    have hSRC7:=Rec.f2 (Rec.G RC7.out (G.refl _))
    have hSRC7_0:=hSRC7.1
    have hSRC7_1:=hSRC7.2.1
    have hSRC7_2:=hSRC7.2.2.1
    have hSRC7_3:=hSRC7.2.2.2
    clear hSRC7
    have hSR227:=Rec.f2 (Rec.G R227.out (G.refl _))
    have hSR227_0:=hSR227.1
    have hSR227_1:=hSR227.2.1
    have hSR227_2:=hSR227.2.2.1
    have hSR227_3:=hSR227.2.2.2
    clear hSR227
    go_wp2_with fail
    clear hSRC7_0 hSRC7_1 hSRC7_2 hSRC7_3 hSR227_0 hSR227_1 hSR227_2 hSR227_3
    have g67:=G.trans g16 g17
    refine Calls.mono (P:=Tryz.prog) (q1W w17 wr.heap.size _ LA (FOwn.G HV105.out g67)) ?_
    rintro e18 w18 ⟨rfl,hsp18⟩
    have g18:=hsp18.g wr (Nat.le_refl _) (G.trans gf g67)
    have HV128:Hid (FOwn w18 wr.heap.size _ _):=FOwn.spoilt (FOwn.G HV125.out g67) hsp18 HAP.out
    clear hsp18
    go_wp2_with fail
    refine Calls.mono (P:=Tryz.prog) (q1W w18 wr.heap.size _ LM HV128.out) ?_
    rintro e19 w19 ⟨rfl,hsp19⟩
    have g19:=hsp19.g wr (Nat.le_refl _) g18
    clear hsp19
    have hGn:=G.trans hG g19
    go_wp2_with fail
    go_roundw
    case rel=>exact⟨k+1,by omega,by go_num,hGn⟩
    case measure=>simp only[intOf];omega
   ·have hlt2:decide ((k:Int)<2)=false:=decide_eq_false (by omega)
    go_wp2_with fail
    refine Calls.mono (P:=Tryz.prog) (q1T wr _ x4 _ l _ X4.out (FSl.G HF1.out g0r) HK.out.1) ?_
    rintro e11 w11 ⟨rfl,g11⟩
    go_wp2_with fail
    refine Calls.mono (P:=Tryz.prog) (q1T w11 _ x5 _ m _ (Lent.G X5.out g11) (FSl.G HF2.out (G.trans g0r g11)) HK.out.2) ?_
    rintro e12 w12 ⟨rfl,g12⟩
    go_wp2_with fail
    go_ret
    exact⟨rfl,G.trans g0r (G.trans g11 g12)⟩
end Go.Proofs.YtljkfjjchkehaaaGreatDoor.EN
