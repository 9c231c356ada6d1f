/- What is proved here: the law GeomTurns holds, over this seat's translation. -/
import Derived.Test.YtljkfjjchkehaaaGreatDoorC35
import Derived.Test.YtljkfjjchkehaaaGreatDoorC40
import Derived.Test.YtljkfjjchkehaaaGreatDoorC36
import Derived.Test.YtljkfjjchkehaaaGreatDoorC44
namespace Go.Proofs.YtljkfjjchkehaaaGreatDoor.EN
open Go.ChangeShapes Go.WideShapes Go.ChangeAt Go.RowKit
attribute [local go_sem] q0d
theorem q1f {l:List (Nat×Nat)} {c a c' a':Int} (h:q1M l c a) (h':q1M l c' a'):c'=c∧a'=a:=by
 rcases h with ⟨rfl,rfl,hf⟩|⟨i,rfl,rfl,hi,hn,hb⟩
 ·exact q2b h' hf
 ·rcases h' with ⟨rfl,rfl,hf⟩|⟨j,rfl,rfl,hj,hm,hd⟩
  ·exact absurd (hf i hi) hn
  ·rcases Nat.lt_trichotomy i j with h|h|h
   ·exact absurd (hd i h) hn
   ·rw[h];exact⟨rfl,rfl⟩
   ·exact absurd (hb j h) hm
theorem q1G {k t:Nat} (h:(q1v k t).2=false):q1v k t=(0,false):=by
 unfold q1v at h ⊢
 split at h
 ·cases h
 ·rename_i h1
  rw[if_neg h1]
  split at h
  ·cases h
  ·rename_i h2
   rw[if_neg h2]
theorem q0U {x:Nat} (h:FT.rung x<FT.infR):fex x<2047:=(q2o x).2 h
set_option maxRecDepth 20000 in
set_option maxHeartbeats 4000000 in
theorem geomTurns_c (w:World) (ax ay bx b2 cx cy dx dy:Nat) (hT:Tab w) (h1:ax<2^64) (h2:ay<2^64) (h3:bx<2^64) (h4:b2<2^64) (h5:cx<2^64) (h6:cy<2^64) (h7:dx<2^64) (h8:dy<2^64):
  Calls Tryz.prog 5 #[.agg #[.float .f64 ax,.float .f64 ay],.agg #[.float .f64 bx,.float .f64 b2],.agg #[.float .f64 cx,.float .f64 cy],.agg #[.float .f64 dx,.float .f64 dy]] w fun e w'=>e= .returned (.bool true)∧G w w':=by
 have KL:Hid (∀ w1,G w w1→_):=fun w1 g=>q9W w1 (hT.G g)
 have KN:Hid (∀ w1 v,PSl w1 v [(ax,ay),(bx,b2),(cx,cy)]→_):=fun w1 v h=>q2m w1 v _ h (fun i hi=>by
  rcases i with _|_|_|i
  ·exact⟨h1,h2⟩
  ·exact⟨h3,h4⟩
  ·exact⟨h5,h6⟩
  ·simp at hi;omega) (by simp)
 have jE:Hid (∀ w1 v,PSl w1 v [(ax,ay),(bx,b2),(cx,cy),(dx,dy)]→_):=fun w1 v h=>q2m w1 v _ h (fun i hi=>by
  rcases i with _|_|_|_|i
  ·exact⟨h1,h2⟩
  ·exact⟨h3,h4⟩
  ·exact⟨h5,h6⟩
  ·exact⟨h7,h8⟩
  ·simp at hi;omega) (by simp)
 have HL:Hid (FinL [(ax,ay),(bx,b2),(cx,cy)]→∀ w1,_):=fun f w1=>qaG w1 ax ay bx b2 cx cy h1 h2 h3 h4 h5 h6 (f 0 (by simp)).1 (f 0 (by simp)).2 (f 1 (by simp)).1 (f 1 (by simp)).2 (f 2 (by simp)).1 (f 2 (by simp)).2
 have HO:Hid (FinL [(ax,ay),(bx,b2),(cx,cy),(dx,dy)]→∀ w1,_):=fun f w1=>q81 w1 ax ay bx b2 cx cy dx dy h1 h2 h3 h4 h5 h6 h7 h8 (f 0 (by simp)).1 (f 0 (by simp)).2 (f 1 (by simp)).1 (f 1 (by simp)).2 (f 2 (by simp)).1 (f 2 (by simp)).2 (f 3 (by simp)).1 (f 3 (by simp)).2
 have kV:Hid (∀ w1,G w w1→_):=fun w1 g=>q90 w1 ax ay bx b2 cx cy (hT.G g) h1 h2 h3 h4 h5 h6
 have qj:Hid (∀ w1,G w w1→_):=fun w1 g=>q5x w1 ax ay bx b2 cx cy dx dy (hT.G g) h1 h2 h3 h4 h5 h6 h7 h8
 have xY:Hid (∀ w1,_):=fun w1=>qaz w1 ax ay bx b2 cx cy
 have xZ:Hid (∀ d1 d2 l e1 e2 r s m k t,FastBy ax ay bx b2 cx cy d1 d2 l e1 e2 r s m k t→(q1v k t).2=true→FinL [(ax,ay),(bx,b2),(cx,cy)]∧q1v k t=((q2g ax ay bx b2 cx cy).sign,true)):=fun d1 d2 l e1 e2 r s m k t h hs=>by
  obtain⟨⟨k1,k2,k3,k4,k5,k6⟩,k7⟩:=q7l h1 h2 h3 h4 h5 h6 h hs
  refine⟨fun i hi=> ?_,Prod.ext k7 hs⟩
  rcases i with _|_|_|i
  ·exact⟨q0U k1,q0U k2⟩
  ·exact⟨q0U k3,q0U k4⟩
  ·exact⟨q0U k5,q0U k6⟩
  ·simp at hi;omega
 generalize (q2g ax ay bx b2 cx cy).sign=z1 at *
 generalize (q4s (fz ax-fz dx) (fz ay-fz dy) (fz bx-fz dx) (fz b2-fz dy) (fz cx-fz dx) (fz cy-fz dy)).sign=z2 at *
 clear hT h1 h2 h3 h4 h5 h6 h7 h8
 go_enter Tryz.func5,Tryz.ntmps5
 go_wp2_with fail
 obtain⟨w0,aH,g0,hz0,R0,R1,R2,R3⟩:=q5D w [.float .f64 ax,.float .f64 ay] [.float .f64 bx,.float .f64 b2] [.float .f64 cx,.float .f64 cy] [.float .f64 dx,.float .f64 dy] 66 66 66 66
 rw[aH]
 clear aH
 have P0:=R0
 have P1:=R1
 have P2:=R2
 have P3:=R3
 clear R0 R1 R2 R3
 refine Calls.mono (P:=Tryz.prog) (KL.out w0 g0) ?_
 rintro e1 w1 ⟨rfl,g1⟩
 replace P0:Hid (Rec w1 _ _):=Rec.G P0.out g1
 replace P1:Hid (Rec w1 _ _):=Rec.G P1.out g1
 replace P2:Hid (Rec w1 _ _):=Rec.G P2.out g1
 replace P3:Hid (Rec w1 _ _):=Rec.G P3.out g1
 have hg:=G.trans g0 g1
 obtain⟨fa1,Oz,-⟩:=(Rec.G P0.out (G.refl w1)).f2
 obtain⟨fa2,OA,-⟩:=(Rec.G P1.out (G.refl w1)).f2
 obtain⟨fa3,OB,-⟩:=(Rec.G P2.out (G.refl w1)).f2
 go_wp2_with fail
 clear fa1 Oz fa2 OA fa3 OB g0 g1 KL
 have hN:Rec (World.alloc w1 (.cells #[.float .f64 ax,.float .f64 ay,.float .f64 bx,.float .f64 b2,.float .f64 cx,.float .f64 cy] 66)) w1.heap.size _:=Rec.new6 w1 _ _ _ _ _ _ _
 have yE:G w1 (World.alloc w1 (.cells #[.float .f64 ax,.float .f64 ay,.float .f64 bx,.float .f64 b2,.float .f64 cx,.float .f64 cy] 66)):=(G.refl w1).alloc _
 have hP:PSl (World.alloc w1 (.cells #[.float .f64 ax,.float .f64 ay,.float .f64 bx,.float .f64 b2,.float .f64 cx,.float .f64 cy] 66)) (.slice (some ⟨w1.heap.size,0,none⟩) 3 3) [(ax,ay),(bx,b2),(cx,cy)]:=by
  refine⟨_,_,rfl,Nat.le_refl _,fun i hi=>⟨_,_,rfl,hN.lt,?_⟩⟩
  rcases i with _|_|_|i
  ·exact⟨hN.cell 0,hN.cell 1⟩
  ·exact⟨hN.cell 2,hN.cell 3⟩
  ·exact⟨hN.cell 4,hN.cell 5⟩
  ·simp at hi;omega
 refine Calls.mono (P:=Tryz.prog) (KN.out _ _ hP) ?_
 intro e2 w2 hs
 obtain⟨c,a,rfl,g2,hv⟩:=hs
 have HV:Hid (q1M [(ax,ay),(bx,b2),(cx,cy)] c a):=hv
 replace g2:=G.trans yE g2
 replace P0:Hid (Rec w2 _ _):=Rec.G P0.out g2
 replace P1:Hid (Rec w2 _ _):=Rec.G P1.out g2
 replace P2:Hid (Rec w2 _ _):=Rec.G P2.out g2
 replace P3:Hid (Rec w2 _ _):=Rec.G P3.out g2
 replace hg:=G.trans hg g2
 clear hv hN yE hP KN g2
 have bN:G w2 (w2.alloc (.cells #[.int .i64 c,.int .i64 a] 29)):=(G.refl w2).alloc _
 have hlt:=P3.out.lt
 obtain⟨fa4,OC,-⟩:=(Rec.G P0.out bN).f2
 obtain⟨fa5,OD,-⟩:=(Rec.G P1.out bN).f2
 obtain⟨fa6,OE,-⟩:=(Rec.G P2.out bN).f2
 obtain⟨fa7,OG,-⟩:=(Rec.G P3.out bN).f2
 go_wp2_with fail
 clear fa4 OC fa5 OD fa6 OE fa7 OG bN hlt
 obtain⟨w3,aH,g3,hz3,R0⟩:=q0x w2 [.int .i64 c,.int .i64 a] 29
 rw[aH]
 clear aH
 have RF:=R0
 clear R0
 replace P0:Hid (Rec w3 _ _):=Rec.G P0.out g3
 replace P1:Hid (Rec w3 _ _):=Rec.G P1.out g3
 replace P2:Hid (Rec w3 _ _):=Rec.G P2.out g3
 replace P3:Hid (Rec w3 _ _):=Rec.G P3.out g3
 replace hg:=G.trans hg g3
 have hN:Rec (World.alloc w3 (.cells #[.float .f64 ax,.float .f64 ay,.float .f64 bx,.float .f64 b2,.float .f64 cx,.float .f64 cy,.float .f64 dx,.float .f64 dy] 66)) w3.heap.size _:=Rec.new8 w3 _ _ _ _ _ _ _ _ _
 have yE:G w3 (World.alloc w3 (.cells #[.float .f64 ax,.float .f64 ay,.float .f64 bx,.float .f64 b2,.float .f64 cx,.float .f64 cy,.float .f64 dx,.float .f64 dy] 66)):=(G.refl w3).alloc _
 have hP:PSl (World.alloc w3 (.cells #[.float .f64 ax,.float .f64 ay,.float .f64 bx,.float .f64 b2,.float .f64 cx,.float .f64 cy,.float .f64 dx,.float .f64 dy] 66)) (.slice (some ⟨w3.heap.size,0,none⟩) 4 4) [(ax,ay),(bx,b2),(cx,cy),(dx,dy)]:=by
  refine⟨_,_,rfl,Nat.le_refl _,fun i hi=>⟨_,_,rfl,hN.lt,?_⟩⟩
  rcases i with _|_|_|_|i
  ·exact⟨hN.cell 0,hN.cell 1⟩
  ·exact⟨hN.cell 2,hN.cell 3⟩
  ·exact⟨hN.cell 4,hN.cell 5⟩
  ·exact⟨hN.cell 6,hN.cell 7⟩
  ·simp at hi;omega
 rw[show w2.heap.size+1=w3.heap.size from by omega]
 refine Calls.mono (P:=Tryz.prog) (jE.out _ _ hP) ?_
 intro e3 w4 hs
 obtain⟨d,b,rfl,g4,hv⟩:=hs
 have nu:Hid (q1M [(ax,ay),(bx,b2),(cx,cy),(dx,dy)] d b):=hv
 replace g4:=G.trans yE g4
 replace P0:Hid (Rec w4 _ _):=Rec.G P0.out g4
 replace P1:Hid (Rec w4 _ _):=Rec.G P1.out g4
 replace P2:Hid (Rec w4 _ _):=Rec.G P2.out g4
 replace P3:Hid (Rec w4 _ _):=Rec.G P3.out g4
 replace RF:Hid (Rec w4 _ _):=Rec.G RF.out g4
 replace hg:=G.trans hg g4
 clear hv hN yE hP jE g4 g3 hz3
 have hcd:d=0→c=0:=fun h=>by
  subst h
  rcases nu.out with ⟨-,-,hf⟩|⟨i,h,-⟩
  ·refine(q2b HV.out fun i hi=> ?_).1
   rcases i with _|_|_|i
   ·exact hf 0 (by simp)
   ·exact hf 1 (by simp)
   ·exact hf 2 (by simp)
   ·simp at hi;omega
  ·omega
 have hlt:=RF.out.lt
 by_cases hc:c=0
 ·subst hc
  have hf3:Hid (FinL [(ax,ay),(bx,b2),(cx,cy)]):=by
   rcases HV.out with ⟨-,-,h⟩|⟨i,h,-⟩
   ·exact h
   ·omega
  have bN:G w4 (w4.alloc (.cells #[.int .i64 d,.int .i64 b] 29)):=(G.refl w4).alloc _
  obtain⟨OH,OI,-⟩:=(Rec.G P0.out bN).f2
  obtain⟨OJ,OL,-⟩:=(Rec.G P1.out bN).f2
  obtain⟨Dt,Du,-⟩:=(Rec.G P2.out bN).f2
  obtain⟨Dv,Dw,-⟩:=(Rec.G RF.out bN).f2
  go_wp2_with fail
  clear OH OI OJ OL Dt Du Dv Dw bN hlt
  obtain⟨w5,aH,g5,DC,R0⟩:=q0x w4 [.int .i64 d,.int .i64 b] 29
  rw[aH]
  clear aH
  have RG:=R0
  clear R0
  replace P0:Hid (Rec w5 _ _):=Rec.G P0.out g5
  replace P1:Hid (Rec w5 _ _):=Rec.G P1.out g5
  replace P2:Hid (Rec w5 _ _):=Rec.G P2.out g5
  replace P3:Hid (Rec w5 _ _):=Rec.G P3.out g5
  replace RF:Hid (Rec w5 _ _):=Rec.G RF.out g5
  replace hg:=G.trans hg g5
  refine Calls.mono (P:=Tryz.prog) (HL.out hf3.out w5) ?_
  rintro e4 w6 ⟨rfl,g6⟩
  replace P0:Hid (Rec w6 _ _):=Rec.G P0.out g6
  replace P1:Hid (Rec w6 _ _):=Rec.G P1.out g6
  replace P2:Hid (Rec w6 _ _):=Rec.G P2.out g6
  replace P3:Hid (Rec w6 _ _):=Rec.G P3.out g6
  replace RF:Hid (Rec w6 _ _):=Rec.G RF.out g6
  replace RG:Hid (Rec w6 _ _):=Rec.G RG.out g6
  replace hg:=G.trans hg g6
  clear g5 g6 DC HL hf3 hcd
  by_cases hd:d=0
  ·subst hd
   have kW:Hid (FinL [(ax,ay),(bx,b2),(cx,cy),(dx,dy)]):=by
    rcases nu.out with ⟨-,-,h⟩|⟨i,h,-⟩
    ·exact h
    ·omega
   obtain⟨DF,DJ,-⟩:=(Rec.G P0.out (G.refl w6)).f2
   obtain⟨DK,DL,-⟩:=(Rec.G P1.out (G.refl w6)).f2
   obtain⟨DN,DR,-⟩:=(Rec.G P2.out (G.refl w6)).f2
   obtain⟨DT,DU,-⟩:=(Rec.G P3.out (G.refl w6)).f2
   obtain⟨DV,DW,-⟩:=(Rec.G RG.out (G.refl w6)).f2
   go_wp2_with fail
   clear DF DJ DK DL DN DR DT DU DV DW
   refine Calls.mono (P:=Tryz.prog) (HO.out kW.out w6) ?_
   rintro e4 w7 ⟨rfl,g7⟩
   replace P0:Hid (Rec w7 _ _):=Rec.G P0.out g7
   replace P1:Hid (Rec w7 _ _):=Rec.G P1.out g7
   replace P2:Hid (Rec w7 _ _):=Rec.G P2.out g7
   replace P3:Hid (Rec w7 _ _):=Rec.G P3.out g7
   replace RF:Hid (Rec w7 _ _):=Rec.G RF.out g7
   replace RG:Hid (Rec w7 _ _):=Rec.G RG.out g7
   replace hg:=G.trans hg g7
   clear g7 HO kW
   obtain⟨DX,DY,-⟩:=(Rec.G P0.out (G.refl w7)).f2
   obtain⟨DZ,E5,-⟩:=(Rec.G P1.out (G.refl w7)).f2
   obtain⟨E8,E9,-⟩:=(Rec.G P2.out (G.refl w7)).f2
   go_wp2_with fail
   clear DX DY DZ E5 E8 E9
   refine Calls.mono (P:=Tryz.prog) (kV.out w7 hg) ?_
   intro e5 bC hs
   obtain⟨c5,a5,t5,rfl,gA,hv5,nL⟩:=hs
   obtain⟨rfl,rfl⟩:=q1f hv5 HV.out
   rw[if_pos rfl] at nL
   subst nL
   replace P0:Hid (Rec bC _ _):=Rec.G P0.out gA
   replace P1:Hid (Rec bC _ _):=Rec.G P1.out gA
   replace P2:Hid (Rec bC _ _):=Rec.G P2.out gA
   replace P3:Hid (Rec bC _ _):=Rec.G P3.out gA
   replace RF:Hid (Rec bC _ _):=Rec.G RF.out gA
   replace RG:Hid (Rec bC _ _):=Rec.G RG.out gA
   replace hg:=G.trans hg gA
   have bN:G bC (bC.alloc (.cells #[.int .i64 0,.int .i64 a] 29)):=(G.refl bC).alloc _
   have hlt:=P3.out.lt
   obtain⟨Ea,Eb,-⟩:=(Rec.G P0.out bN).f2
   obtain⟨Ec,Ed,-⟩:=(Rec.G P1.out bN).f2
   obtain⟨Ee,Ef,-⟩:=(Rec.G P2.out bN).f2
   obtain⟨Eg,Eh,-⟩:=(Rec.G P3.out bN).f2
   go_wp2_with fail
   clear Ea Eb Ec Ed Ee Ef Eg Eh bN hv5 gA hlt
   obtain⟨dK,aH,g12,nM,R0⟩:=q0x bC [.int .i64 0,.int .i64 a] 29
   rw[aH]
   clear aH
   have RE:=R0
   clear R0 nM
   replace P0:Hid (Rec dK _ _):=Rec.G P0.out g12
   replace P1:Hid (Rec dK _ _):=Rec.G P1.out g12
   replace P2:Hid (Rec dK _ _):=Rec.G P2.out g12
   replace P3:Hid (Rec dK _ _):=Rec.G P3.out g12
   replace RF:Hid (Rec dK _ _):=Rec.G RF.out g12
   replace RG:Hid (Rec dK _ _):=Rec.G RG.out g12
   replace hg:=G.trans hg g12
   refine Calls.mono (P:=Tryz.prog) (qj.out dK hg) ?_
   intro e6 cB hs
   obtain⟨c6,a6,t6,rfl,gC,hv6,rW⟩:=hs
   obtain⟨rfl,rfl⟩:=q1f hv6 nu.out
   rw[if_pos rfl] at rW
   subst rW
   replace P0:Hid (Rec cB _ _):=Rec.G P0.out gC
   replace P1:Hid (Rec cB _ _):=Rec.G P1.out gC
   replace P2:Hid (Rec cB _ _):=Rec.G P2.out gC
   replace P3:Hid (Rec cB _ _):=Rec.G P3.out gC
   replace RF:Hid (Rec cB _ _):=Rec.G RF.out gC
   replace RG:Hid (Rec cB _ _):=Rec.G RG.out gC
   replace RE:Hid (Rec cB _ _):=Rec.G RE.out gC
   replace hg:=G.trans hg gC
   have bN:G cB (cB.alloc (.cells #[.int .i64 0,.int .i64 b] 29)):=(G.refl cB).alloc _
   have hlt:=P3.out.lt
   obtain⟨Ei,Ej,-⟩:=(Rec.G P0.out bN).f2
   obtain⟨El,Em,-⟩:=(Rec.G P1.out bN).f2
   obtain⟨En,Eo,-⟩:=(Rec.G P2.out bN).f2
   go_wp2_with fail
   clear Ei Ej El Em En Eo bN hv6 gC g12 hlt
   obtain⟨lZ,aH,g14,nN,R0⟩:=q0x cB [.int .i64 0,.int .i64 b] 29
   rw[aH]
   clear aH
   have RH:=R0
   clear R0 nN
   replace RE:Hid (Rec lZ _ _):=Rec.G RE.out g14
   replace RF:Hid (Rec lZ _ _):=Rec.G RF.out g14
   replace RG:Hid (Rec lZ _ _):=Rec.G RG.out g14
   replace hg:=G.trans hg g14
   refine Calls.mono (P:=Tryz.prog) (xY.out lZ) ?_
   intro e7 gX hs
   obtain⟨d1,d2,l,e1,e2,r,s,m,k,t,hf,rfl,gE⟩:=hs
   have ql:Hid _:=xZ.out d1 d2 l e1 e2 r s m k t hf
   replace RE:Hid (Rec gX _ _):=Rec.G RE.out gE
   replace RF:Hid (Rec gX _ _):=Rec.G RF.out gE
   replace RG:Hid (Rec gX _ _):=Rec.G RG.out gE
   replace RH:Hid (Rec gX _ _):=Rec.G RH.out gE
   replace hg:=G.trans hg gE
   clear hf gE g14 xZ xY kV qj P0 P1 P2 P3
   obtain⟨OM,OO,-⟩:=(Rec.G RE.out (G.refl gX)).f2
   obtain⟨OT,OU,-⟩:=(Rec.G RF.out (G.refl gX)).f2
   obtain⟨OV,OW,-⟩:=(Rec.G RG.out (G.refl gX)).f2
   obtain⟨OX,OY,-⟩:=(Rec.G RH.out (G.refl gX)).f2
   cases hsu:(q1v k t).2
   ·rw[q1G hsu]
    dsimp only
    clear ql
    go_wp2_with fail
    go_ret
    exact⟨by first|rfl|simp,hg⟩
   ·rw[(ql.out hsu).2]
    dsimp only
    clear ql hsu
    go_wp2_with fail
    go_ret
    exact⟨by first|rfl|simp,hg⟩
  ·clear HO
   obtain⟨Ep,Er,-⟩:=(Rec.G P0.out (G.refl w6)).f2
   obtain⟨Es,Et,-⟩:=(Rec.G P1.out (G.refl w6)).f2
   obtain⟨Eu,Ev,-⟩:=(Rec.G P2.out (G.refl w6)).f2
   obtain⟨Ew,Ex,-⟩:=(Rec.G RG.out (G.refl w6)).f2
   go_wp2_with fail
   clear Ep Er Es Et Eu Ev Ew Ex
   refine Calls.mono (P:=Tryz.prog) (kV.out w6 hg) ?_
   intro e5 bC hs
   obtain⟨c5,a5,t5,rfl,gA,hv5,nL⟩:=hs
   obtain⟨rfl,rfl⟩:=q1f hv5 HV.out
   rw[if_pos rfl] at nL
   subst nL
   replace P0:Hid (Rec bC _ _):=Rec.G P0.out gA
   replace P1:Hid (Rec bC _ _):=Rec.G P1.out gA
   replace P2:Hid (Rec bC _ _):=Rec.G P2.out gA
   replace P3:Hid (Rec bC _ _):=Rec.G P3.out gA
   replace RF:Hid (Rec bC _ _):=Rec.G RF.out gA
   replace RG:Hid (Rec bC _ _):=Rec.G RG.out gA
   replace hg:=G.trans hg gA
   have bN:G bC (bC.alloc (.cells #[.int .i64 0,.int .i64 a] 29)):=(G.refl bC).alloc _
   have hlt:=P3.out.lt
   obtain⟨Ey,Ez,-⟩:=(Rec.G P0.out bN).f2
   obtain⟨EB,EC,-⟩:=(Rec.G P1.out bN).f2
   obtain⟨ED,EE,-⟩:=(Rec.G P2.out bN).f2
   obtain⟨EF,EG,-⟩:=(Rec.G P3.out bN).f2
   go_wp2_with fail
   clear Ey Ez EB EC ED EE EF EG bN hv5 gA hlt
   obtain⟨dK,aH,g12,nM,R0⟩:=q0x bC [.int .i64 0,.int .i64 a] 29
   rw[aH]
   clear aH
   have RE:=R0
   clear R0 nM
   replace P0:Hid (Rec dK _ _):=Rec.G P0.out g12
   replace P1:Hid (Rec dK _ _):=Rec.G P1.out g12
   replace P2:Hid (Rec dK _ _):=Rec.G P2.out g12
   replace P3:Hid (Rec dK _ _):=Rec.G P3.out g12
   replace RF:Hid (Rec dK _ _):=Rec.G RF.out g12
   replace RG:Hid (Rec dK _ _):=Rec.G RG.out g12
   replace hg:=G.trans hg g12
   refine Calls.mono (P:=Tryz.prog) (qj.out dK hg) ?_
   intro e6 cB hs
   obtain⟨c6,a6,t6,rfl,gC,hv6,rW⟩:=hs
   obtain⟨rfl,rfl⟩:=q1f hv6 nu.out
   rw[if_neg hd] at rW
   subst rW
   replace P0:Hid (Rec cB _ _):=Rec.G P0.out gC
   replace P1:Hid (Rec cB _ _):=Rec.G P1.out gC
   replace P2:Hid (Rec cB _ _):=Rec.G P2.out gC
   replace P3:Hid (Rec cB _ _):=Rec.G P3.out gC
   replace RF:Hid (Rec cB _ _):=Rec.G RF.out gC
   replace RG:Hid (Rec cB _ _):=Rec.G RG.out gC
   replace RE:Hid (Rec cB _ _):=Rec.G RE.out gC
   replace hg:=G.trans hg gC
   have bN:G cB (cB.alloc (.cells #[.int .i64 d,.int .i64 b] 29)):=(G.refl cB).alloc _
   have hlt:=P3.out.lt
   obtain⟨EH,EI,-⟩:=(Rec.G P0.out bN).f2
   obtain⟨EJ,EK,-⟩:=(Rec.G P1.out bN).f2
   obtain⟨EL,EM,-⟩:=(Rec.G P2.out bN).f2
   go_wp2_with fail
   clear EH EI EJ EK EL EM bN hv6 gC g12 hlt
   obtain⟨lZ,aH,g14,nN,R0⟩:=q0x cB [.int .i64 d,.int .i64 b] 29
   rw[aH]
   clear aH
   have RH:=R0
   clear R0 nN
   replace RE:Hid (Rec lZ _ _):=Rec.G RE.out g14
   replace RF:Hid (Rec lZ _ _):=Rec.G RF.out g14
   replace RG:Hid (Rec lZ _ _):=Rec.G RG.out g14
   replace hg:=G.trans hg g14
   refine Calls.mono (P:=Tryz.prog) (xY.out lZ) ?_
   intro e7 gX hs
   obtain⟨d1,d2,l,e1,e2,r,s,m,k,t,hf,rfl,gE⟩:=hs
   have ql:Hid _:=xZ.out d1 d2 l e1 e2 r s m k t hf
   replace RE:Hid (Rec gX _ _):=Rec.G RE.out gE
   replace RF:Hid (Rec gX _ _):=Rec.G RF.out gE
   replace RG:Hid (Rec gX _ _):=Rec.G RG.out gE
   replace RH:Hid (Rec gX _ _):=Rec.G RH.out gE
   replace hg:=G.trans hg gE
   clear hf gE g14 xZ xY kV qj P0 P1 P2 P3
   obtain⟨OZ,P5,-⟩:=(Rec.G RE.out (G.refl gX)).f2
   obtain⟨P6,P7,-⟩:=(Rec.G RF.out (G.refl gX)).f2
   obtain⟨P8,P9,-⟩:=(Rec.G RG.out (G.refl gX)).f2
   obtain⟨Pb,Pd,-⟩:=(Rec.G RH.out (G.refl gX)).f2
   cases hsu:(q1v k t).2
   ·rw[q1G hsu]
    dsimp only
    clear ql
    go_wp2_with fail
    go_ret
    exact⟨by first|rfl|simp,hg⟩
   ·rw[(ql.out hsu).2]
    dsimp only
    clear ql hsu
    go_wp2_with fail
    go_ret
    exact⟨by first|rfl|simp,hg⟩
 ·have hd:d≠0:=fun h=>hc (hcd h)
  have bN:G w4 (w4.alloc (.cells #[.int .i64 d,.int .i64 b] 29)):=(G.refl w4).alloc _
  have KO:Hid (Rec (w4.alloc (.cells #[.int .i64 d,.int .i64 b] 29)) w4.heap.size [.int .i64 d,.int .i64 b]):=Rec.new2 _ _ _ _
  obtain⟨EO,ES,-⟩:=(Rec.G P0.out bN).f2
  obtain⟨ET,EU,-⟩:=(Rec.G P1.out bN).f2
  obtain⟨EW,EX,-⟩:=(Rec.G P2.out bN).f2
  obtain⟨EY,EZ,-⟩:=(Rec.G RF.out bN).f2
  obtain⟨F5,F6,-⟩:=(Rec.G KO.out (G.refl _)).f2
  go_wp2_with fail
  clear EO ES ET EU EW EX EY EZ F5 F6 bN hlt hcd HO HL KO
  obtain⟨w5,aH,g5,DC,R0⟩:=q0x w4 [.int .i64 d,.int .i64 b] 29
  rw[aH]
  clear aH
  have RG:=R0
  clear R0
  replace P0:Hid (Rec w5 _ _):=Rec.G P0.out g5
  replace P1:Hid (Rec w5 _ _):=Rec.G P1.out g5
  replace P2:Hid (Rec w5 _ _):=Rec.G P2.out g5
  replace P3:Hid (Rec w5 _ _):=Rec.G P3.out g5
  replace RF:Hid (Rec w5 _ _):=Rec.G RF.out g5
  replace hg:=G.trans hg g5
  clear g5 DC
  refine Calls.mono (P:=Tryz.prog) (kV.out w5 hg) ?_
  intro e5 bC hs
  obtain⟨c5,a5,t5,rfl,gA,hv5,nL⟩:=hs
  obtain⟨rfl,rfl⟩:=q1f hv5 HV.out
  rw[if_neg hc] at nL
  subst nL
  replace P0:Hid (Rec bC _ _):=Rec.G P0.out gA
  replace P1:Hid (Rec bC _ _):=Rec.G P1.out gA
  replace P2:Hid (Rec bC _ _):=Rec.G P2.out gA
  replace P3:Hid (Rec bC _ _):=Rec.G P3.out gA
  replace RF:Hid (Rec bC _ _):=Rec.G RF.out gA
  replace RG:Hid (Rec bC _ _):=Rec.G RG.out gA
  replace hg:=G.trans hg gA
  have bN:G bC (bC.alloc (.cells #[.int .i64 c,.int .i64 a] 29)):=(G.refl bC).alloc _
  have hlt:=P3.out.lt
  obtain⟨F7,F8,-⟩:=(Rec.G P0.out bN).f2
  obtain⟨F9,Fa,-⟩:=(Rec.G P1.out bN).f2
  obtain⟨Fb,Fe,-⟩:=(Rec.G P2.out bN).f2
  obtain⟨Ff,Fg,-⟩:=(Rec.G P3.out bN).f2
  go_wp2_with fail
  clear F7 F8 F9 Fa Fb Fe Ff Fg bN hv5 gA hlt
  obtain⟨dK,aH,g12,nM,R0⟩:=q0x bC [.int .i64 c,.int .i64 a] 29
  rw[aH]
  clear aH
  have RE:=R0
  clear R0 nM
  replace P0:Hid (Rec dK _ _):=Rec.G P0.out g12
  replace P1:Hid (Rec dK _ _):=Rec.G P1.out g12
  replace P2:Hid (Rec dK _ _):=Rec.G P2.out g12
  replace P3:Hid (Rec dK _ _):=Rec.G P3.out g12
  replace RF:Hid (Rec dK _ _):=Rec.G RF.out g12
  replace RG:Hid (Rec dK _ _):=Rec.G RG.out g12
  replace hg:=G.trans hg g12
  refine Calls.mono (P:=Tryz.prog) (qj.out dK hg) ?_
  intro e6 cB hs
  obtain⟨c6,a6,t6,rfl,gC,hv6,rW⟩:=hs
  obtain⟨rfl,rfl⟩:=q1f hv6 nu.out
  rw[if_neg hd] at rW
  subst rW
  replace P0:Hid (Rec cB _ _):=Rec.G P0.out gC
  replace P1:Hid (Rec cB _ _):=Rec.G P1.out gC
  replace P2:Hid (Rec cB _ _):=Rec.G P2.out gC
  replace P3:Hid (Rec cB _ _):=Rec.G P3.out gC
  replace RF:Hid (Rec cB _ _):=Rec.G RF.out gC
  replace RG:Hid (Rec cB _ _):=Rec.G RG.out gC
  replace RE:Hid (Rec cB _ _):=Rec.G RE.out gC
  replace hg:=G.trans hg gC
  have bN:G cB (cB.alloc (.cells #[.int .i64 d,.int .i64 b] 29)):=(G.refl cB).alloc _
  have hlt:=P3.out.lt
  obtain⟨Fh,Fj,-⟩:=(Rec.G P0.out bN).f2
  obtain⟨Fp,Fq,-⟩:=(Rec.G P1.out bN).f2
  obtain⟨Fs,Fu,-⟩:=(Rec.G P2.out bN).f2
  go_wp2_with fail
  clear Fh Fj Fp Fq Fs Fu bN hv6 gC g12 hlt
  obtain⟨lZ,aH,g14,nN,R0⟩:=q0x cB [.int .i64 d,.int .i64 b] 29
  rw[aH]
  clear aH
  have RH:=R0
  clear R0 nN
  replace RE:Hid (Rec lZ _ _):=Rec.G RE.out g14
  replace RF:Hid (Rec lZ _ _):=Rec.G RF.out g14
  replace RG:Hid (Rec lZ _ _):=Rec.G RG.out g14
  replace hg:=G.trans hg g14
  refine Calls.mono (P:=Tryz.prog) (xY.out lZ) ?_
  intro e7 gX hs
  obtain⟨d1,d2,l,e1,e2,r,s,m,k,t,hf,rfl,gE⟩:=hs
  have ql:Hid _:=xZ.out d1 d2 l e1 e2 r s m k t hf
  replace RE:Hid (Rec gX _ _):=Rec.G RE.out gE
  replace RF:Hid (Rec gX _ _):=Rec.G RF.out gE
  replace RG:Hid (Rec gX _ _):=Rec.G RG.out gE
  replace RH:Hid (Rec gX _ _):=Rec.G RH.out gE
  replace hg:=G.trans hg gE
  clear hf gE g14 xZ xY kV qj P0 P1 P2 P3
  obtain⟨Pe,Pf,-⟩:=(Rec.G RE.out (G.refl gX)).f2
  obtain⟨Pg,Ph,-⟩:=(Rec.G RF.out (G.refl gX)).f2
  obtain⟨Pj,Pk,-⟩:=(Rec.G RG.out (G.refl gX)).f2
  obtain⟨Pm,Pn,-⟩:=(Rec.G RH.out (G.refl gX)).f2
  cases hsu:(q1v k t).2
  ·rw[q1G hsu]
   dsimp only
   clear ql
   go_wp2_with fail
   go_ret
   exact⟨by first|rfl|simp,hg⟩
  ·exact absurd (q2b HV.out (ql.out hsu).1).1 hc
end Go.Proofs.YtljkfjjchkehaaaGreatDoor.EN
