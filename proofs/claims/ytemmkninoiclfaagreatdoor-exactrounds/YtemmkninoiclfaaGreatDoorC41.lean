/- What is proved here: the walk of the law on rounded fractions, over this seat's translation. -/
import Derived.Test.YtemmkninoiclfaaGreatDoorC40
import Derived.Test.YtemmkninoiclfaaGreatDoorC36
import Derived.Test.YtemmkninoiclfaaGreatDoorC12
import Derived.Test.YtemmkninoiclfaaGreatDoorC35
import GoSem.Extern.MathDim
import Derived.Test.YtemmkninoiclfaaGreatDoorC35
import Derived.Test.YtemmkninoiclfaaGreatDoorC35
import Derived.Test.YtemmkninoiclfaaGreatDoorC36
import Derived.Test.YtemmkninoiclfaaGreatDoorC35
namespace Go.Proofs.YtemmkninoiclfaaGreatDoor.EN
open Go.ChangeShapes Go.WideShapes Go.ChangeAt Go.RowKit
/-- What one fraction answers where there is no such mode. -/
def q74 (m:Int) (x:Rat):Prop:=(∀ w1 v,QIs w1 v x→Calls Tryz.prog 15 #[v,.int .i64 m] w1 fun r w'=>r= .returned (.tuple #[.float .f64 0,.int .i64 3])∧G w1 w')∧
 ∀ w1 v,QIs w1 v x→Calls Tryz.prog 16 #[v,.int .i64 m] w1 fun r w'=>r= .returned (.tuple #[.float .f64 0,.int .i64 3])∧G w1 w'
/-- What one fraction and the reference's answer in a mode. -/
def ElOk (m:Int) (x:Rat):Prop:=∃ (fv rv:Nat) (sg c:Int),(∀ w1 v,QIs w1 v x→Calls Tryz.prog 15 #[v,.int .i64 m] w1 fun r w'=>r= .returned (.tuple #[.float .f64 fv,.int .i64 0])∧G w1 w')∧
 (∀ w1 u,PR w1 u x→Calls Tryz.prog 18 #[u,.int .i64 m] w1 fun e w'=>e= .returned (.float .f64 fv)∧G w1 w')∧
 (∀ w1 u,PR w1 u x→Calls Tryz.prog 19 #[u] w1 fun e w'=>e= .returned (.int .i64 sg)∧G w1 w')∧
 (∀ w1 v,QIs w1 v x→Calls Tryz.prog 16 #[v,.int .i64 m] w1 fun r w'=>r= .returned (.tuple #[.float .f64 rv,.int .i64 c])∧G w1 w')∧
 ((sg<0∧c=3∧rv=0)∨(0≤sg∧c=0∧∀ w1 u,PR w1 u x→Calls Tryz.prog 20 #[u,.int .i64 m] w1 fun e w'=>e= .returned (.float .f64 rv)∧G w1 w'))
theorem qbd {w:World} {t:Bool} {x y:Value} {q:Rat} (h:QIs w (.agg #[.bool t,x,y]) q):∃ a k c a' k' c',x= .slice a k c∧y= .slice a' k' c':=by
 obtain⟨a,k,c,a',k',c',e,-,-⟩:=h
 injection e with e
 have e2:=congrArg Array.toList e
 simp only[List.cons.injEq] at e2
 exact⟨a,k,c,a',k',c',e2.2.1,e2.2.2.1⟩
/-- The fraction at place i of the row. -/
def q9z (wr:World) (bb i:Nat) (q s p:Rat):Prop:=∃ tt sa sk sc sb sl sd up xr,wr.cell? ⟨bb,4*i,none⟩=some (.bool tt)∧wr.cell? ⟨bb,4*i+1,none⟩=some (.slice sa sk sc)∧wr.cell? ⟨bb,4*i+2,none⟩=some (.slice sb sl sd)∧wr.cell? ⟨bb,4*i+3,none⟩=some (.pointer (some ⟨up,0,none⟩))∧
  QIs wr (.agg #[.bool tt,.slice sa sk sc,.slice sb sl sd]) xr∧PR wr (.pointer (some ⟨up,0,none⟩)) xr∧(xr=q∨xr=s∨xr=p)
theorem q9U {wb:World} {v:Value} {q s p:Rat} (h:Trio wb v q s p):∃ bb,v= .slice (some ⟨bb,0,none⟩) 3 3∧∀ wr i,G wb wr→i<3→q9z wr bb i q s p:=by
 obtain⟨b,t1,x1,y1,u1,t2,x2,y2,u2,t3,x3,y3,u3,e,hr,⟨h1,k1⟩,⟨h2,k2⟩,h3,k3⟩:=h
 refine⟨b,e,fun wr i g hi=> ?_⟩
 have main:∀ (t:Bool) (x y u:Value) (xr:Rat),QIs wb (.agg #[.bool t,x,y]) xr→PR wb u xr→(xr=q∨xr=s∨xr=p)→wb.cell? ⟨b,4*i,none⟩=some (.bool t)→wb.cell? ⟨b,4*i+1,none⟩=some x→wb.cell? ⟨b,4*i+2,none⟩=some y→wb.cell? ⟨b,4*i+3,none⟩=some u→q9z wr b i q s p:=fun t x y u xr hq hp hx c0 c1 c2 c3=>by
  obtain⟨sa,sk,sc,sb,sl,sd,rfl,rfl⟩:=qbd hq
  have hp2:=hp
  obtain⟨up,rfl,-,-⟩:=hp2
  exact⟨t,sa,sk,sc,sb,sl,sd,up,xr,g.cell hr.lt c0,g.cell hr.lt c1,g.cell hr.lt c2,g.cell hr.lt c3,hq.G g,hp.G g,hx⟩
 rcases(show i=0∨i=1∨i=2 by omega) with rfl|rfl|rfl
 ·exact main t1 x1 y1 u1 q h1 k1 (Or.inl rfl) (hr.cell 0) (hr.cell 1) (hr.cell 2) (hr.cell 3)
 ·exact main t2 x2 y2 u2 s h2 k2 (Or.inr (Or.inl rfl)) (hr.cell 4) (hr.cell 5) (hr.cell 6) (hr.cell 7)
 ·exact main t3 x3 y3 u3 p h3 k3 (Or.inr (Or.inr rfl)) (hr.cell 8) (hr.cell 9) (hr.cell 10) (hr.cell 11)
theorem q4O {K:World→Prop} (wr:World) (l:List Value) (h:∀ wl,G wr wl→Rec wl wr.heap.size l→K wl) (ty:TypeId):K (wr.alloc (.cells l.toArray ty)):=h _ ((G.refl _).alloc _) (Rec.new wr l ty)
set_option maxRecDepth 10000 in
set_option maxHeartbeats 8000000 in
theorem q5p (w:World) (a b c:Nat) (m:Int) (xa xb xc q s p:Rat) (hEl:((m<1∨4<m)∧q74 m q∧q74 m s∧q74 m p)∨((1≤m∧m≤4)∧ElOk m q∧ElOk m s∧ElOk m p))
  (nL:∀ w1,G w w1→Calls Tryz.prog 5 #[] w1 fun e w'=>e= .returned (.bool true)∧G w1 w')
  (Lr:∀ w1:World,Calls Tryz.prog 6 #[.float .f64 a] w1 fun e w'=>e= .returned (.bool true)∧G w1 w')
  (Ls:∀ w1:World,Calls Tryz.prog 6 #[.float .f64 b] w1 fun e w'=>e= .returned (.bool true)∧G w1 w')
  (Lt:∀ w1:World,Calls Tryz.prog 6 #[.float .f64 c] w1 fun e w'=>e= .returned (.bool true)∧G w1 w')
  (hb0:(FloatKind.f64.format.order b 0==some .eq)=false)
  (Bp:∀ w1,G w w1→Calls Tryz.prog 7 #[.float .f64 a] w1 (q2I w1 xa 0))
  (hOb:∀ w1,G w w1→Calls Tryz.prog 7 #[.float .f64 b] w1 (q2I w1 xb 0))
  (Bq:∀ w1,G w w1→Calls Tryz.prog 7 #[.float .f64 c] w1 (q2I w1 xc 0))
  (hQ:∀ w1 v u,G w w1→QIs w1 v xa→QIs w1 u xb→Calls Tryz.prog 8 #[v,u] w1 (q2I w1 q 0))
  (Br:∀ w1:World,Calls Tryz.prog 10 #[.float .f64 a] w1 (RetP w1 xa))
  (hRb:∀ w1:World,Calls Tryz.prog 10 #[.float .f64 b] w1 (RetP w1 xb))
  (Bt:∀ w1:World,Calls Tryz.prog 10 #[.float .f64 c] w1 (RetP w1 xc))
  (Lu:∀ w1 bz px py,Rec w1 bz [.bool false,.slice none 0 0,.bool false,.slice none 0 0]→px<w1.heap.size→py<w1.heap.size→RIs w1 px xa→RIs w1 py xb→Calls Tryz.prog 9 #[.pointer (some ⟨bz,0,none⟩),.pointer (some ⟨px,0,none⟩),.pointer (some ⟨py,0,none⟩)] w1 (SetRat w1 bz q))
  (Lv:∀ w1 v u,G w w1→QIs w1 v q→QIs w1 u xc→Calls Tryz.prog 11 #[v,u] w1 (RetQ w1 s))
  (Lx:∀ w1 v u,G w w1→QIs w1 v xa→QIs w1 u xb→Calls Tryz.prog 13 #[v,u] w1 (RetQ w1 p))
  (LC:∀ w1 bz px py,bz<w1.heap.size→px<w1.heap.size→py<w1.heap.size→RatIs w1 bz 0 0→RIs w1 px q→RIs w1 py xc→Calls Tryz.prog 12 #[.pointer (some ⟨bz,0,none⟩),.pointer (some ⟨px,0,none⟩),.pointer (some ⟨py,0,none⟩)] w1 (SetRat w1 bz s))
  (LD:∀ w1 bz px py,bz<w1.heap.size→px<w1.heap.size→py<w1.heap.size→RatIs w1 bz 0 0→RIs w1 px xa→RIs w1 py xb→Calls Tryz.prog 14 #[.pointer (some ⟨bz,0,none⟩),.pointer (some ⟨px,0,none⟩),.pointer (some ⟨py,0,none⟩)] w1 (SetRat w1 bz p)):
  Calls Tryz.prog 3 #[.float .f64 a,.float .f64 b,.float .f64 c,.int .i64 m] w fun r w'=>r= .returned (.bool true)∧G w w':=by
 have HT3:Hid (∀ w1,G w w1→_):=nL
 have uB:Hid (∀ w1:World,_):=Lr
 have wI:Hid (∀ w1:World,_):=Ls
 have AP:Hid (∀ w1:World,_):=Lt
 have LF:Hid (∀ w1,G w w1→_):=Bp
 have LG:Hid (∀ w1,G w w1→_):=hOb
 have LH:Hid (∀ w1,G w w1→_):=Bq
 have HQ:Hid (∀ w1 v u,G w w1→_):=hQ
 have Bv:Hid (∀ w1:World,_):=Br
 have Bw:Hid (∀ w1:World,_):=hRb
 have LJ:Hid (∀ w1:World,_):=Bt
 have oQ:Hid (∀ (w1:World) (bz px py:Nat),_):=Lu
 have Bz:Hid (∀ w1 v u,G w w1→_):=Lv
 have LK:Hid (∀ w1 v u,G w w1→_):=Lx
 have jv:Hid (∀ (w1:World) (bz px py:Nat),_):=LC
 have LM:Hid (∀ (w1:World) (bz px py:Nat),_):=LD
 clear Lv Lx LC LD
 clear nL Lr Ls Lt Bp hOb Bq hQ Br hRb Bt Lu
 go_enter Tryz.func3,Tryz.ntmps3
 go_wp2_with fail
 refine Calls.mono (P:=Tryz.prog) (HT3.out _ (G.refl _)) ?_
 rintro e w1 ⟨rfl,g1⟩
 go_wp2_with fail
 refine Calls.mono (P:=Tryz.prog) (uB.out _) ?_
 rintro e w2 ⟨rfl,g2⟩
 go_wp2_with fail
 refine Calls.mono (P:=Tryz.prog) (wI.out _) ?_
 rintro e w3 ⟨rfl,g3⟩
 go_wp2_with fail
 refine Calls.mono (P:=Tryz.prog) (AP.out _) ?_
 rintro e w4 ⟨rfl,g4⟩
 have GI:=G.trans g1 (G.trans g2 (G.trans g3 g4))
 clear g1 g2 g3 g4
 go_wp2_with fail
 refine Calls.mono (P:=Tryz.prog) (LF.out w4 GI) ?_
 intro e1 w5 hs
 obtain⟨v,rfl,g5,hv⟩:=hs
 have HV5:Hid (QIs w5 v xa):=hv
 obtain⟨a1,k1,d1,a2,k2,d2,rfl,-,-⟩:=hv
 generalize decide (xa.num<0)=t1 at *
 go_wp2_with fail
 obtain⟨w6,aM,g6,OL,R0⟩:=q0x w5 [.bool t1,.slice a1 k1 d1,.slice a2 k2 d2] 30
 rw[aM]
 clear aM
 have GJ:=G.trans GI (G.trans g5 g6)
 have LP:Hid (QIs w6 (.agg #[.bool t1,.slice a1 k1 d1,.slice a2 k2 d2]) xa):=QIs.G HV5.out g6
 have RX:Hid (Rec w6 w5.heap.size [.bool t1,.slice a1 k1 d1,.slice a2 k2 d2]):=R0.out
 generalize w5.heap.size=bx at *
 clear R0 HV5 g5 g6 GI OL
 refine Calls.mono (P:=Tryz.prog) (LG.out w6 GJ) ?_
 intro e1 w7 hs
 obtain⟨v,rfl,g7,hv⟩:=hs
 have LU:Hid (QIs w7 v xb):=hv
 obtain⟨a3,k3,d3,a4,k4,d4,rfl,-,-⟩:=hv
 generalize decide (xb.num<0)=t2 at *
 go_wp2_with fail
 obtain⟨w8,aM,g8,OM,R0⟩:=q0x w7 [.bool t2,.slice a3 k3 d3,.slice a4 k4 d4] 30
 rw[aM]
 clear aM
 have FI:=G.trans g7 g8
 have GK:=G.trans GJ FI
 have LV:Hid (QIs w8 (.agg #[.bool t2,.slice a3 k3 d3,.slice a4 k4 d4]) xb):=QIs.G LU.out g8
 have LY:Hid (QIs w8 (.agg #[.bool t1,.slice a1 k1 d1,.slice a2 k2 d2]) xa):=QIs.G LP.out FI
 have RY:Hid (Rec w8 w7.heap.size [.bool t2,.slice a3 k3 d3,.slice a4 k4 d4]):=R0.out
 have GL:Hid (Rec w8 bx [.bool t1,.slice a1 k1 d1,.slice a2 k2 d2]):=Rec.G RX.out FI
 generalize w7.heap.size=b2 at *
 clear R0 RX LP LU g7 g8 GJ OM FI
 refine Calls.mono (P:=Tryz.prog) (LH.out w8 GK) ?_
 intro e1 w9 hs
 obtain⟨v,rfl,g9,hv⟩:=hs
 have LZ:Hid (QIs w9 v xc):=hv
 obtain⟨a5,k5,d5,a6,k6,d6,rfl,-,-⟩:=hv
 generalize decide (xc.num<0)=t3 at *
 have jB:=Rec.f3 (Rec.G GL.out (G.alloc g9 (.cells #[.bool t3,.slice a5 k5 d5,.slice a6 k6 d6] 30)))
 have uW:=jB.1
 have uX:=jB.2.1
 have uY:=jB.2.2.1
 have uZ:=jB.2.2.2.1
 have ve:=jB.2.2.2.2.1
 have vo:=jB.2.2.2.2.2
 clear jB
 have iq:=Rec.f3 (Rec.G RY.out (G.alloc g9 (.cells #[.bool t3,.slice a5 k5 d5,.slice a6 k6 d6] 30)))
 have qY:=iq.1
 have qZ:=iq.2.1
 have rf:=iq.2.2.1
 have rq:=iq.2.2.2.1
 have ru:=iq.2.2.2.2.1
 have ry:=iq.2.2.2.2.2
 clear iq
 go_wp2_with fail
 clear uW uX uY uZ ve vo qY qZ rf rq ru ry
 obtain⟨aU,aM,g10,GM,R0⟩:=q0x w9 [.bool t3,.slice a5 k5 d5,.slice a6 k6 d6] 30
 rw[aM]
 clear aM
 have pU:=G.trans g9 g10
 have vv:=G.trans GK pU
 have bn:Hid (QIs aU (.agg #[.bool t3,.slice a5 k5 d5,.slice a6 k6 d6]) xc):=QIs.G LZ.out g10
 have aX:Hid (QIs aU (.agg #[.bool t2,.slice a3 k3 d3,.slice a4 k4 d4]) xb):=QIs.G LV.out pU
 have dR:Hid (QIs aU (.agg #[.bool t1,.slice a1 k1 d1,.slice a2 k2 d2]) xa):=QIs.G LY.out pU
 have RZ:Hid (Rec aU w9.heap.size [.bool t3,.slice a5 k5 d5,.slice a6 k6 d6]):=R0.out
 have RX:Hid (Rec aU bx [.bool t1,.slice a1 k1 d1,.slice a2 k2 d2]):=Rec.G GL.out pU
 have GN:Hid (Rec aU b2 [.bool t2,.slice a3 k3 d3,.slice a4 k4 d4]):=Rec.G RY.out pU
 generalize w9.heap.size=bz at *
 clear R0 GL RY LV LY LZ g9 g10 GK GM pU
 refine Calls.mono (P:=Tryz.prog) (HQ.out aU _ _ vv dR.out aX.out) ?_
 intro e1 dM hs
 obtain⟨v,rfl,g11,hv⟩:=hs
 have BA:Hid (QIs dM v q):=hv
 obtain⟨a7,k7,d7,a8,k8,d8,rfl,-,-⟩:=hv
 generalize decide (q.num<0)=t4 at *
 go_wp2_with fail
 obtain⟨gq,aM,g12,GQ,R0,R1⟩:=q3X dM [.bool t4,.slice a7 k7 d7,.slice a8 k8 d8] [.bool false,.slice none 0 0,.bool false,.slice none 0 0] 30 40
 rw[aM]
 clear aM
 have jd:=G.trans g11 g12
 have BB:=G.trans vv jd
 have iO:Hid (QIs gq (.agg #[.bool t3,.slice a5 k5 d5,.slice a6 k6 d6]) xc):=QIs.G bn.out jd
 have iP:Hid (QIs gq (.agg #[.bool t2,.slice a3 k3 d3,.slice a4 k4 d4]) xb):=QIs.G aX.out jd
 have jC:Hid (QIs gq (.agg #[.bool t1,.slice a1 k1 d1,.slice a2 k2 d2]) xa):=QIs.G dR.out jd
 have iw:Hid (QIs gq (.agg #[.bool t4,.slice a7 k7 d7,.slice a8 k8 d8]) q):=QIs.G BA.out g12
 have BC:Hid (Rec gq bx [.bool t1,.slice a1 k1 d1,.slice a2 k2 d2]):=Rec.G RX.out jd
 have BD:Hid (Rec gq b2 [.bool t2,.slice a3 k3 d3,.slice a4 k4 d4]):=Rec.G GN.out jd
 have BF:Hid (Rec gq bz [.bool t3,.slice a5 k5 d5,.slice a6 k6 d6]):=Rec.G RZ.out jd
 have BG:Hid (Rec gq dM.heap.size [.bool t4,.slice a7 k7 d7,.slice a8 k8 d8]):=R0.out
 have vw:Hid (Rec gq (dM.heap.size+1) [.bool false,.slice none 0 0,.bool false,.slice none 0 0]):=R1.out
 have hrn:w.heap.size≤dM.heap.size+1:=by have:=vv.size;have:=g11.size;omega
 have hr2:dM.heap.size≠dM.heap.size+1∧bx≠dM.heap.size+1∧b2≠dM.heap.size+1∧bz≠dM.heap.size+1:=by have:=g11.size;have:=RX.out.lt;have:=GN.out.lt;have:=RZ.out.lt;omega
 have HR2:Hid _:=hr2
 clear hr2
 clear R0 R1 RX GN RZ dR aX bn BA g11 g12 jd vv GQ
 generalize dM.heap.size+1=br at *
 generalize dM.heap.size=bq at *
 refine Calls.mono (P:=Tryz.prog) (Bv.out gq) ?_
 rintro e l7 ⟨v,rfl,g13,hp⟩
 obtain⟨pa,rfl,ha1,ha2⟩:=hp
 have FJ:Hid (pa<l7.heap.size∧RIs l7 pa xa):=⟨ha1,ha2⟩
 clear ha1 ha2
 go_wp2_with fail
 refine Calls.mono (P:=Tryz.prog) (Bw.out l7) ?_
 rintro e uD ⟨v,rfl,g14,hp⟩
 obtain⟨pb,rfl,hb1,hb2⟩:=hp
 have iW:=G.trans g13 g14
 have BH:Hid _:=oQ.out uD br pa pb (Rec.G vw.out iW) (G.lt g14 FJ.out.1) hb1 (RIs.G FJ.out.2 FJ.out.1 g14) hb2
 have hbr:=(Rec.G vw.out iW).lt
 clear hb1 hb2 FJ g13 g14 oQ
 go_wp2_with fail
 refine Calls.mono (P:=Tryz.prog) BH.out ?_
 intro e kT hs
 obtain⟨rfl,g15,BI⟩:=hs
 have BJ:G w kT:=GX.fresh (G.trans BB iW) g15 hrn
 have gx:=g15
 have rb:=Rec.G vw.out iW
 have BL:Hid (QIs kT (.agg #[.bool t3,.slice a5 k5 d5,.slice a6 k6 d6]) xc):=QIs.gx (QIs.G iO.out iW) rb q2q gx
 have BM:Hid (QIs kT (.agg #[.bool t2,.slice a3 k3 d3,.slice a4 k4 d4]) xb):=QIs.gx (QIs.G iP.out iW) rb q2q gx
 have BO:Hid (QIs kT (.agg #[.bool t1,.slice a1 k1 d1,.slice a2 k2 d2]) xa):=QIs.gx (QIs.G jC.out iW) rb q2q gx
 have l8:Hid (QIs kT (.agg #[.bool t4,.slice a7 k7 d7,.slice a8 k8 d8]) q):=QIs.gx (QIs.G iw.out iW) rb q2q gx
 have RX:Hid (Rec kT bx [.bool t1,.slice a1 k1 d1,.slice a2 k2 d2]):=Rec.gx (Rec.G BC.out iW) HR2.out.2.1 gx
 have RY:Hid (Rec kT b2 [.bool t2,.slice a3 k3 d3,.slice a4 k4 d4]):=Rec.gx (Rec.G BD.out iW) HR2.out.2.2.1 gx
 have RZ:Hid (Rec kT bz [.bool t3,.slice a5 k5 d5,.slice a6 k6 d6]):=Rec.gx (Rec.G BF.out iW) HR2.out.2.2.2 gx
 have RQ:Hid (Rec kT bq [.bool t4,.slice a7 k7 d7,.slice a8 k8 d8]):=Rec.gx (Rec.G BG.out iW) HR2.out.1 gx
 have GR:Hid (PR kT (.pointer (some ⟨br,0,none⟩)) q):=⟨br,rfl,Nat.lt_of_lt_of_le hbr g15.size,BI⟩
 have AQ:Hid (G w kT):=BJ
 clear iO iP jC iw BC BD BF BG vw HR2 rb gx g15 BI BB iW BJ hrn hbr BH
 go_wp2_with fail
 obtain⟨vq,GU⟩:∃ v,v=Value.agg #[.bool t4,.slice a7 k7 d7,.slice a8 k8 d8]:=⟨_,rfl⟩
 have vB:Hid (QIs kT (.agg #[.bool t4,.slice a7 k7 d7,.slice a8 k8 d8]) q):=l8.out
 rw[← GU] at l8
 have FK:Hid (vq=Value.agg #[.bool t4,.slice a7 k7 d7,.slice a8 k8 d8]):=GU
 clear GU LF LG LH HQ uB wI AP HT3
 refine RV.region_inv 25 0 #[true,true,true,true,true,true,true,true,true,true,true,true,true,true,true,true,true,true,true,true,true,true,true,true,true] [some 70,some 71,some 72,some 73,some 74,some 75,some 76,some 77,some 78,some 79,some 80,some 81,some 82,some 83,some 84,some 85,some 86,some 87,some 88,some 89,some 90,some 91,some 92,some 93,some 94] (RI (RP vq (.pointer (some ⟨br,0,none⟩)) (.agg #[.bool t1,.slice a1 k1 d1,.slice a2 k2 d2]) (.agg #[.bool t2,.slice a3 k3 d3,.slice a4 k4 d4]) (.agg #[.bool t3,.slice a5 k5 d5,.slice a6 k6 d6]) (.agg #[.bool t4,.slice a7 k7 d7,.slice a8 k8 d8,.pointer (some ⟨br,0,none⟩)]) a b c xa xb xc q s p) kT) (by kernel_rfl) (by kernel_rfl) rfl (by kernel_rfl) (by kernel_rfl) ?_ ?_
 ·intro f
  exact⟨(G.refl _).drew,fun j h=>(by cases h),fun h=>(by cases h),fun h=>(by cases h),fun h=>(by cases h),fun h=>(by cases h),fun h=>(by cases h)⟩
 ·intro A hA
  simp only[List.range,List.range.loop,List.map_cons,List.map_nil,q0V,Act.put,List.setIfInBounds_toArray,List.set_cons_zero,List.set_cons_succ] at hA
  refine⟨?_,?_⟩
  ·skip
   refine RV.Ones.cons rfl ?_ ?_
   ·intro L f W hI hL hD K hK
    rw[hA f] at hK ⊢
    have iy:=Rec.f3 (Rec.G RQ.out (hI.g))
    have xE:=iy.1
    have xG:=iy.2.1
    have xH:=iy.2.2.1
    have xI:=iy.2.2.2.1
    have xJ:=iy.2.2.2.2.1
    have xK:=iy.2.2.2.2.2
    clear iy
    go_simp
    exact hK.out _ _ ⟨_,rfl,RI.step hI 0 _ (by decide) (by decide) (G.refl _) (RP.g (G.refl _)) FK.out.symm⟩
   refine RV.Ones.cons rfl ?_ ?_
   ·intro L f W hI hL hD K hK
    rw[hA f] at hK ⊢
    go_simp
    exact hK.out _ _ ⟨_,rfl,RI.step hI 1 _ (by decide) (by decide) (G.refl _) (RP.g (G.refl _)) rfl⟩
   refine RV.Ones.cons rfl ?_ ?_
   ·intro L f W hI hL hD K hK
    rw[hA f] at hK ⊢
    have e0:f 0=vq:=hI.held 0 (hD 0 (by kernel_rfl))
    have e1:f 1= .pointer (some ⟨br,0,none⟩):=hI.held 1 (hD 1 (by kernel_rfl))
    rw[FK.out] at e0
    rw[e0,e1] at hK ⊢
    clear e0 e1 hD
    go_simp
    exact hK.out _ _ ⟨_,rfl,RI.step hI 2 _ (by decide) (by decide) (G.refl _) (RP.g (G.refl _)) rfl⟩
   refine RV.Ones.cons rfl ?_ ?_
   ·intro L f W hI hL hD K hK
    rw[hA f] at hK ⊢
    have iy:=Rec.f3 (Rec.G RQ.out (hI.g))
    have xE:=iy.1
    have xG:=iy.2.1
    have xH:=iy.2.2.1
    have xI:=iy.2.2.2.1
    have xJ:=iy.2.2.2.2.1
    have xK:=iy.2.2.2.2.2
    clear iy
    go_simp
    exact hK.out _ _ ⟨_,rfl,RI.step hI 3 _ (by decide) (by decide) (G.refl _) (RP.g (G.refl _)) FK.out.symm⟩
   refine RV.Ones.cons rfl ?_ ?_
   ·intro L f W hI hL hD K hK
    rw[hA f] at hK ⊢
    have nM:=Rec.f3 (Rec.G RZ.out (hI.g))
    have GV:=nM.1
    have GY:=nM.2.1
    have GZ:=nM.2.2.1
    have H7:=nM.2.2.2.1
    have H8:=nM.2.2.2.2.1
    have Ha:=nM.2.2.2.2.2
    clear nM
    go_simp
    exact hK.out _ _ ⟨_,rfl,RI.step hI 4 _ (by decide) (by decide) (G.refl _) (RP.g (G.refl _)) rfl⟩
   refine RV.Ones.cons rfl ?_ ?_
   ·intro L f W hI hL hD K hK
    rw[hA f] at hK ⊢
    have e3:f 3=vq:=hI.held 3 (hD 3 (by kernel_rfl))
    have e4:f 4= .agg #[.bool t3,.slice a5 k5 d5,.slice a6 k6 d6]:=hI.held 4 (hD 4 (by kernel_rfl))
    rw[e3,e4] at hK ⊢
    clear e3 e4 hD
    go_simp
    go_wp2_with (go_at_call 11;refine Calls.mono (P:=Tryz.prog) (Bz.out W _ _ (G.trans AQ.out hI.g) (QIs.G l8.out hI.g) (QIs.G BL.out hI.g)) ?_;intro e w9 hs;obtain⟨u9,rfl,g9,aN⟩:=hs)
    exact hK.out _ _ ⟨_,rfl,RI.step hI 5 _ (by decide) (by decide) g9 (RP.g g9) aN⟩
   refine RV.Ones.cons rfl ?_ ?_
   ·intro L f W hI hL hD K hK
    rw[hA f] at hK ⊢
    go_simp
    exact hK.out _ _ ⟨_,rfl,RI.mk6 hI _ (RP.g ((G.refl W).alloc _)) (fun _ _=>trivial)⟩
   refine RV.Ones.cons rfl ?_ ?_
   ·intro L f W hI hL hD K hK
    rw[hA f] at hK ⊢
    go_simp
    exact hK.out _ _ ⟨_,rfl,RI.step hI 7 _ (by decide) (by decide) (G.refl _) (RP.g (G.refl _)) rfl⟩
   refine RV.Ones.cons rfl ?_ ?_
   ·intro L f W hI hL hD K hK
    rw[hA f] at hK ⊢
    go_simp
    exact hK.out _ _ ⟨_,rfl,RI.step hI 8 _ (by decide) (by decide) (G.refl _) (RP.g (G.refl _)) rfl⟩
   refine RV.Ones.cons rfl ?_ ?_
   ·intro L f W hI hL hD K hK
    rw[hA f] at hK ⊢
    have e8:f 8= .float .f64 c:=hI.held 8 (hD 8 (by kernel_rfl))
    rw[e8] at hK ⊢
    clear e8 hD
    go_simp
    go_wp2_with (go_at_call 10;refine Calls.mono (P:=Tryz.prog) (LJ.out W) ?_;intro e w9 hs;obtain⟨u9,rfl,g9,aN⟩:=hs)
    exact hK.out _ _ ⟨_,rfl,RI.step hI 9 _ (by decide) (by decide) g9 (RP.g g9) aN⟩
   refine RV.Ones.cons rfl ?_ ?_
   ·intro L f W hI hL hD K hK
    rw[hA f] at hK ⊢
    have hc:L 6=true:=hD 6 (by kernel_rfl)
    obtain⟨bk,ek,hk⟩:=hI.raw6 hc hL
    have e7:f 7= .pointer (some ⟨br,0,none⟩):=hI.held 7 (hD 7 (by kernel_rfl))
    have h9:PR W (f 9) xc:=hI.held 9 (hD 9 (by kernel_rfl))
    obtain⟨py,ey,hy1,hy2⟩:=h9
    obtain⟨px,ex,hx1,hx2⟩:=GR.out.G hI.g
    injection ex with ex;injection ex with ex;injection ex with ex
    subst ex
    have ef:=ek
    rw[ek,e7,ey] at hK ⊢
    have hq:=hk.lt
    have HS:Hid _:=jv.out W bk _ py hq hx1 hy1 (q9y hk) hx2 hy2
    have Hd:Hid (Rec W bk raw):=hk
    clear hk hx1 hy1 hx2 hy2 hD ek ey e7
    go_simp
    go_wp2_with (go_at_call 12;refine Calls.mono (P:=Tryz.prog) HS.out ?_;intro e w9 hs;obtain⟨rfl,g9,aN⟩:=hs)
    exact hK.out _ _ ⟨_,rfl,RI.wr10 hI _ hc ef g9 (RP.gx Hd.out g9) ⟨bk,rfl,Nat.lt_of_lt_of_le hq g9.size,aN⟩⟩
   refine RV.Ones.cons rfl ?_ ?_
   ·intro L f W hI hL hD K hK
    rw[hA f] at hK ⊢
    have h5:QIs W (f 5) s:=hI.held 5 (hD 5 (by kernel_rfl))
    have h10:PR W (f 10) s:=hI.held 10 (hD 10 (by kernel_rfl))
    have HJ:Hid (QIs W (f 5) s):=h5
    have iX:Hid (PR W (f 10) s):=h10
    obtain⟨y1,y2,y3,y4,y5,y6,e1,-,-⟩:=h5
    obtain⟨pk,e2,-,-⟩:=h10
    generalize decide (s.num<0)=t5 at *
    rw[e1] at HJ
    rw[e2] at iX
    rw[e1,e2] at hK ⊢
    clear hD e1 e2
    go_simp
    exact hK.out _ _ ⟨_,rfl,RI.step hI 11 _ (by decide) (by decide) (G.refl _) (RP.g (G.refl _)) ⟨_,_,_,_,rfl,HJ.out,iX.out⟩⟩
   refine RV.Ones.cons rfl ?_ ?_
   ·intro L f W hI hL hD K hK
    rw[hA f] at hK ⊢
    have nN:=Rec.f3 (Rec.G RX.out (hI.g))
    have He:=nN.1
    have Hf:=nN.2.1
    have Hg:=nN.2.2.1
    have Hl:=nN.2.2.2.1
    have Hm:=nN.2.2.2.2.1
    have Ho:=nN.2.2.2.2.2
    clear nN
    go_simp
    exact hK.out _ _ ⟨_,rfl,RI.step hI 12 _ (by decide) (by decide) (G.refl _) (RP.g (G.refl _)) rfl⟩
   refine RV.Ones.cons rfl ?_ ?_
   ·intro L f W hI hL hD K hK
    rw[hA f] at hK ⊢
    have iq:=Rec.f3 (Rec.G RY.out (hI.g))
    have qY:=iq.1
    have qZ:=iq.2.1
    have rf:=iq.2.2.1
    have rq:=iq.2.2.2.1
    have ru:=iq.2.2.2.2.1
    have ry:=iq.2.2.2.2.2
    clear iq
    go_simp
    exact hK.out _ _ ⟨_,rfl,RI.step hI 13 _ (by decide) (by decide) (G.refl _) (RP.g (G.refl _)) rfl⟩
   refine RV.Ones.cons rfl ?_ ?_
   ·intro L f W hI hL hD K hK
    rw[hA f] at hK ⊢
    have e12:f 12= .agg #[.bool t1,.slice a1 k1 d1,.slice a2 k2 d2]:=hI.held 12 (hD 12 (by kernel_rfl))
    have e13:f 13= .agg #[.bool t2,.slice a3 k3 d3,.slice a4 k4 d4]:=hI.held 13 (hD 13 (by kernel_rfl))
    rw[e12,e13] at hK ⊢
    clear e12 e13 hD
    go_simp
    go_wp2_with (go_at_call 13;refine Calls.mono (P:=Tryz.prog) (LK.out W _ _ (G.trans AQ.out hI.g) (QIs.G BO.out hI.g) (QIs.G BM.out hI.g)) ?_;intro e w9 hs;obtain⟨u9,rfl,g9,aN⟩:=hs)
    exact hK.out _ _ ⟨_,rfl,RI.step hI 14 _ (by decide) (by decide) g9 (RP.g g9) aN⟩
   refine RV.Ones.cons rfl ?_ ?_
   ·intro L f W hI hL hD K hK
    rw[hA f] at hK ⊢
    go_simp
    exact hK.out _ _ ⟨_,rfl,RI.mk15 hI _ (RP.g ((G.refl W).alloc _)) (fun _ _=>trivial)⟩
   refine RV.Ones.cons rfl ?_ ?_
   ·intro L f W hI hL hD K hK
    rw[hA f] at hK ⊢
    go_simp
    exact hK.out _ _ ⟨_,rfl,RI.step hI 16 _ (by decide) (by decide) (G.refl _) (RP.g (G.refl _)) rfl⟩
   refine RV.Ones.cons rfl ?_ ?_
   ·intro L f W hI hL hD K hK
    rw[hA f] at hK ⊢
    have e16:f 16= .float .f64 a:=hI.held 16 (hD 16 (by kernel_rfl))
    rw[e16] at hK ⊢
    clear e16 hD
    go_simp
    go_wp2_with (go_at_call 10;refine Calls.mono (P:=Tryz.prog) (Bv.out W) ?_;intro e w9 hs;obtain⟨u9,rfl,g9,aN⟩:=hs)
    exact hK.out _ _ ⟨_,rfl,RI.step hI 17 _ (by decide) (by decide) g9 (RP.g g9) aN⟩
   refine RV.Ones.cons rfl ?_ ?_
   ·intro L f W hI hL hD K hK
    rw[hA f] at hK ⊢
    go_simp
    exact hK.out _ _ ⟨_,rfl,RI.step hI 18 _ (by decide) (by decide) (G.refl _) (RP.g (G.refl _)) rfl⟩
   refine RV.Ones.cons rfl ?_ ?_
   ·intro L f W hI hL hD K hK
    rw[hA f] at hK ⊢
    have e18:f 18= .float .f64 b:=hI.held 18 (hD 18 (by kernel_rfl))
    rw[e18] at hK ⊢
    clear e18 hD
    go_simp
    go_wp2_with (go_at_call 10;refine Calls.mono (P:=Tryz.prog) (Bw.out W) ?_;intro e w9 hs;obtain⟨u9,rfl,g9,aN⟩:=hs)
    exact hK.out _ _ ⟨_,rfl,RI.step hI 19 _ (by decide) (by decide) g9 (RP.g g9) aN⟩
   refine RV.Ones.cons rfl ?_ ?_
   ·intro L f W hI hL hD K hK
    rw[hA f] at hK ⊢
    have hc:L 15=true:=hD 15 (by kernel_rfl)
    obtain⟨bk,ek,hk⟩:=hI.raw15 hc hL
    have OO:PR W (f 17) xa:=hI.held 17 (hD 17 (by kernel_rfl))
    have h19:PR W (f 19) xb:=hI.held 19 (hD 19 (by kernel_rfl))
    obtain⟨px,ex,hx1,hx2⟩:=OO
    obtain⟨py,ey,hy1,hy2⟩:=h19
    have ef:=ek
    rw[ek,ex,ey] at hK ⊢
    have hq:=hk.lt
    have HS:Hid _:=LM.out W bk _ py hq hx1 hy1 (q9y hk) hx2 hy2
    have Hd:Hid (Rec W bk raw):=hk
    clear hk hx1 hy1 hx2 hy2 hD ek ey ex
    go_simp
    go_wp2_with (go_at_call 14;refine Calls.mono (P:=Tryz.prog) HS.out ?_;intro e w9 hs;obtain⟨rfl,g9,aN⟩:=hs)
    exact hK.out _ _ ⟨_,rfl,RI.wr20 hI _ hc ef g9 (RP.gx Hd.out g9) ⟨bk,rfl,Nat.lt_of_lt_of_le hq g9.size,aN⟩⟩
   refine RV.Ones.cons rfl ?_ ?_
   ·intro L f W hI hL hD K hK
    rw[hA f] at hK ⊢
    have M0:QIs W (f 14) p:=hI.held 14 (hD 14 (by kernel_rfl))
    have h20:PR W (f 20) p:=hI.held 20 (hD 20 (by kernel_rfl))
    have HJ:Hid (QIs W (f 14) p):=M0
    have iX:Hid (PR W (f 20) p):=h20
    obtain⟨y1,y2,y3,y4,y5,y6,e1,-,-⟩:=M0
    obtain⟨pk,e2,-,-⟩:=h20
    generalize decide (p.num<0)=t5 at *
    rw[e1] at HJ
    rw[e2] at iX
    rw[e1,e2] at hK ⊢
    clear hD e1 e2
    go_simp
    exact hK.out _ _ ⟨_,rfl,RI.step hI 21 _ (by decide) (by decide) (G.refl _) (RP.g (G.refl _)) ⟨_,_,_,_,rfl,HJ.out,iX.out⟩⟩
   refine RV.Ones.cons rfl ?_ ?_
   ·intro L f W hI hL hD K hK
    rw[hA f] at hK ⊢
    have e2:f 2= .agg #[.bool t4,.slice a7 k7 d7,.slice a8 k8 d8,.pointer (some ⟨br,0,none⟩)]:=hI.held 2 (hD 2 (by kernel_rfl))
    have h11:∃ t x y u,f 11= .agg #[.bool t,x,y,u]∧QIs W (.agg #[.bool t,x,y]) s∧PR W u s:=hI.held 11 (hD 11 (by kernel_rfl))
    have h21:∃ t x y u,f 21= .agg #[.bool t,x,y,u]∧QIs W (.agg #[.bool t,x,y]) p∧PR W u p:=hI.held 21 (hD 21 (by kernel_rfl))
    obtain⟨t5,x5,y5,u5,e11,hx5,M3⟩:=h11
    obtain⟨t6,x6,y6,u6,e21,hx6,M4⟩:=h21
    have OP:Hid (QIs W (.agg #[.bool t5,x5,y5]) s):=hx5
    have OQ:Hid (QIs W (.agg #[.bool t6,x6,y6]) p):=hx6
    have OT:Hid (PR W u5 s):=M3
    have OU:Hid (PR W u6 p):=M4
    rw[e2,e11,e21] at hK ⊢
    clear e2 e11 e21 hD hx5 hx6 M3 M4
    go_simp
    exact hK.out _ _ ⟨_,rfl,RI.step hI 22 _ (by decide) (by decide) ((G.refl W).alloc _) (RP.g ((G.refl W).alloc _)) ⟨W.heap.size,_,_,_,_,_,_,_,_,_,_,_,_,rfl,Rec.new W [.bool t4,.slice a7 k7 d7,.slice a8 k8 d8,.pointer (some ⟨br,0,none⟩),.bool t5,x5,y5,u5,.bool t6,x6,y6,u6] _,⟨QIs.G vB.out (hI.g.alloc _),PR.G GR.out (hI.g.alloc _)⟩,⟨QIs.G OP.out ((G.refl W).alloc _),PR.G OT.out ((G.refl W).alloc _)⟩,QIs.G OQ.out ((G.refl W).alloc _),PR.G OU.out ((G.refl W).alloc _)⟩⟩
   refine RV.Ones.cons rfl ?_ ?_
   ·intro L f W hI hL hD K hK
    rw[hA f] at hK ⊢
    have h22:Trio W (f 22) q s p:=hI.held 22 (hD 22 (by kernel_rfl))
    obtain⟨bb,t5,x5,y5,u5,t6,x6,y6,u6,t7,x7,y7,u7,e22,-⟩:=h22
    rw[e22] at hK ⊢
    clear e22 hD
    go_simp
    exact hK.out _ _ ⟨_,rfl,RI.step hI 23 _ (by decide) (by decide) (G.refl _) (RP.g (G.refl _)) rfl⟩
   refine RV.Ones.cons rfl ?_ ?_
   ·intro L f W hI hL hD K hK
    rw[hA f] at hK ⊢
    go_simp
    exact hK.out _ _ ⟨_,rfl,RI.step hI 24 _ (by decide) (by decide) (G.refl _) (RP.g (G.refl _)) rfl⟩
   exact RV.Ones.nil
  ·intro f L wb hI hL
   have hT:Trio wb (f 22) q s p:=hI.held 22 (hL 22 (by decide))
   have e23:f 23= .int .i64 3:=hI.held 23 (hL 23 (by decide))
   have e24:f 24= .int .i64 0:=hI.held 24 (hL 24 (by decide))
   obtain⟨bb,e22,ht⟩:=q9U hT
   have qG:Hid (G w wb):=G.trans AQ.out hI.g
   have HT:Hid _:=ht
   rw[hA f,e22,e23,e24]
   generalize f 0=r0,f 1=r1,f 2=r2,f 3=r3,f 4=r4,f 5=r5,f 6=r6,f 7=r7,f 8=r8,f 9=r9,f 10=TQ,f 11=TR,f 12=TS,f 13=TT,f 14=TU,f 15=TV,f 16=r16,f 17=TW,f 18=TY,f 19=TZ,f 20=U3,f 21=U4
   clear hI hL hA e22 e23 e24 hT ht FK vB GR RX RY RZ RQ BO BM BL l8 AQ jv LM Bz LK Bv Bw LJ
   have OV:Hid _:=hEl
   clear hEl
   refine wpAny_done (by kernel_rfl) ?_ _
   go_wp2_with fail
   go_loopw [94] (fun vi wr=>∃ i:Nat,i≤3∧vi= .int .i64 i∧G wb wr) (fun vi _=>(3-intOf vi).toNat)
   case atStart=>exact⟨0,by omega,rfl,G.refl _⟩
   case round=>
    obtain⟨i,hi,rfl,hG⟩:=hrel
    by_cases h3:i=3
    ·subst h3
     go_wp2_with fail
     go_ret
     exact⟨rfl,G.trans qG.out hG⟩
    ·obtain⟨tt,sa,sk,sc,sb,sl,sd,up,xr,hc0,hc1,hc2,hc3,vC,FL,hx⟩:=HT.out wr i hG (by omega)
     have hel:((m<1∨4<m)∧q74 m xr)∨((1≤m∧m≤4)∧ElOk m xr):=by
      rcases OV.out with ⟨h,k0,k1,k2⟩|⟨h,k0,k1,k2⟩
      ·exact Or.inl ⟨h,by rcases hx with rfl|rfl|rfl<;>assumption⟩
      ·exact Or.inr ⟨h,by rcases hx with rfl|rfl|rfl<;>assumption⟩
     clear hx
     rcases(show i=0∨i=1∨i=2 by omega) with rfl|rfl|rfl
     all_goals
      clear h3 hi
      simp only[Nat.reduceMul,Nat.reduceAdd] at hc0 hc1 hc2 hc3
      rcases hel with ⟨hm,hel⟩|⟨hm,hel⟩
      ·skip
       go_wp2_with fail
       refine q4O (K:=fun wl=>Calls Tryz.prog _ _ wl _) wr [.bool tt,.slice sa sk sc,.slice sb sl sd,.pointer (some ⟨up,0,none⟩)] ?_ _
       intro wl gl hrl
       have RL:Hid (Rec wl wr.heap.size [.bool tt,.slice sa sk sc,.slice sb sl sd,.pointer (some ⟨up,0,none⟩)]):=hrl
       have HX:Hid (QIs wl (.agg #[.bool tt,.slice sa sk sc,.slice sb sl sd]) xr):=QIs.G vC gl
       have HU:Hid (PR wl (.pointer (some ⟨up,0,none⟩)) xr):=PR.G FL gl
       have xL:=G.trans hG gl
       generalize wr.heap.size=bl at *
       clear hrl vC FL hG gl hc0 hc1 hc2 hc3
       obtain⟨hF,BP⟩:=hel
       have bP:Hid (∀ w1 v,QIs w1 v xr→_):=BP
       clear BP
       refine Calls.mono (P:=Tryz.prog) (hF wl _ HX.out) ?_
       rintro e BQ ⟨rfl,qH⟩
       clear hF
       have aR:=Rec.f4 (Rec.G RL.out (qH))
       have eY:=aR.1
       have eZ:=aR.2.1
       have fe:=aR.2.2.1
       have fo:=aR.2.2.2.1
       have fq:=aR.2.2.2.2.1
       have fu:=aR.2.2.2.2.2.1
       have fw:=aR.2.2.2.2.2.2.1
       have fD:=aR.2.2.2.2.2.2.2
       clear aR
       go_wp2_with fail
       clear eY eZ fe fo fq fu fw fD
       refine Calls.mono (P:=Tryz.prog) (bP.out BQ _ (QIs.G HX.out qH)) ?_
       rintro e w32 ⟨rfl,BR⟩
       have xM:=G.trans xL (G.trans qH BR)
       clear xL qH BR RL HX HU bP
       go_wp2_with fail
       all_goals first|exact⟨⟨1,by omega,rfl,xM⟩,by decide⟩|exact⟨⟨2,by omega,rfl,xM⟩,by decide⟩|exact⟨⟨3,by omega,rfl,xM⟩,by decide⟩
      ·skip
       go_wp2_with fail
       refine q4O (K:=fun wl=>Calls Tryz.prog _ _ wl _) wr [.bool tt,.slice sa sk sc,.slice sb sl sd,.pointer (some ⟨up,0,none⟩)] ?_ _
       intro wl gl hrl
       have RL:Hid (Rec wl wr.heap.size [.bool tt,.slice sa sk sc,.slice sb sl sd,.pointer (some ⟨up,0,none⟩)]):=hrl
       have HX:Hid (QIs wl (.agg #[.bool tt,.slice sa sk sc,.slice sb sl sd]) xr):=QIs.G vC gl
       have HU:Hid (PR wl (.pointer (some ⟨up,0,none⟩)) xr):=PR.G FL gl
       have xL:=G.trans hG gl
       generalize wr.heap.size=bl at *
       clear hrl vC FL hG gl hc0 hc1 hc2 hc3
       obtain⟨fv,rv,sg,ec,hF,M5,M6,BP,hcs⟩:=hel
       have bP:Hid (∀ w1 v,QIs w1 v xr→_):=BP
       have M7:Hid (∀ w1 v,PR w1 v xr→_):=M5
       have gu:Hid (∀ w1 v,PR w1 v xr→_):=M6
       have iA:Hid _:=hcs
       have HM:Hid (1≤m∧m≤4):=hm
       have hm1:decide (m<1)=false:=decide_eq_false (by have:=HM.out;omega)
       have hm2:decide (4<m)=false:=decide_eq_false (by have:=HM.out;omega)
       clear BP M5 M6 hcs hm
       refine Calls.mono (P:=Tryz.prog) (hF wl _ HX.out) ?_
       rintro e BQ ⟨rfl,qH⟩
       clear hF
       have aR:=Rec.f4 (Rec.G RL.out (qH))
       have eY:=aR.1
       have eZ:=aR.2.1
       have fe:=aR.2.2.1
       have fo:=aR.2.2.2.1
       have fq:=aR.2.2.2.2.1
       have fu:=aR.2.2.2.2.2.1
       have fw:=aR.2.2.2.2.2.2.1
       have fD:=aR.2.2.2.2.2.2.2
       clear aR
       go_wp2_with fail
       clear eY eZ fe fo fq fu fw fD
       refine Calls.mono (P:=Tryz.prog) (bP.out BQ _ (QIs.G HX.out qH)) ?_
       rintro e w32 ⟨rfl,BR⟩
       have g2:=G.trans qH BR
       clear qH BR HX bP
       have aR:=Rec.f4 (Rec.G RL.out (g2))
       have eY:=aR.1
       have eZ:=aR.2.1
       have fe:=aR.2.2.1
       have fo:=aR.2.2.2.1
       have fq:=aR.2.2.2.2.1
       have fu:=aR.2.2.2.2.2.1
       have fw:=aR.2.2.2.2.2.2.1
       have fD:=aR.2.2.2.2.2.2.2
       clear aR
       go_wp2_with fail
       clear eY eZ fe fo fq fu fw fD
       refine Calls.mono (P:=Tryz.prog) (M7.out w32 _ (PR.G HU.out g2)) ?_
       rintro e OW ⟨rfl,M8⟩
       go_wp2_with fail
       refine Calls.mono (P:=Tryz.prog) (q3W OW fv) ?_
       rintro e OX ⟨rfl,M9⟩
       have g4:=G.trans g2 (G.trans M8 M9)
       clear g2 M8 M9 M7
       have aR:=Rec.f4 (Rec.G RL.out (g4))
       have eY:=aR.1
       have eZ:=aR.2.1
       have fe:=aR.2.2.1
       have fo:=aR.2.2.2.1
       have fq:=aR.2.2.2.2.1
       have fu:=aR.2.2.2.2.2.1
       have fw:=aR.2.2.2.2.2.2.1
       have fD:=aR.2.2.2.2.2.2.2
       clear aR
       go_wp2_with fail
       clear eY eZ fe fo fq fu fw fD
       refine Calls.mono (P:=Tryz.prog) (gu.out OX _ (PR.G HU.out g4)) ?_
       rintro e OY ⟨rfl,Ma⟩
       have g5:=G.trans g4 Ma
       clear g4 Ma gu
       rcases iA.out with ⟨hsg,rfl,rfl⟩|⟨hsg,rfl,Mc⟩
       ·clear iA
        have bZ:=G.trans xL g5
        clear xL g5 RL HU
        go_wp2_with fail
        all_goals first|exact⟨⟨1,by omega,rfl,bZ⟩,by decide⟩|exact⟨⟨2,by omega,rfl,bZ⟩,by decide⟩|exact⟨⟨3,by omega,rfl,bZ⟩,by decide⟩
       ·clear iA
        have Md:Hid (∀ w1 v,PR w1 v xr→_):=Mc
        clear Mc
        have aR:=Rec.f4 (Rec.G RL.out (g5))
        have eY:=aR.1
        have eZ:=aR.2.1
        have fe:=aR.2.2.1
        have fo:=aR.2.2.2.1
        have fq:=aR.2.2.2.2.1
        have fu:=aR.2.2.2.2.2.1
        have fw:=aR.2.2.2.2.2.2.1
        have fD:=aR.2.2.2.2.2.2.2
        clear aR
        go_wp2_with fail
        clear eY eZ fe fo fq fu fw fD
        refine Calls.mono (P:=Tryz.prog) (Md.out OY _ (PR.G HU.out g5)) ?_
        rintro e OZ ⟨rfl,Me⟩
        go_wp2_with fail
        refine Calls.mono (P:=Tryz.prog) (q3W OZ rv) ?_
        rintro e U5 ⟨rfl,Mf⟩
        have bZ:=G.trans xL (G.trans g5 (G.trans Me Mf))
        clear xL g5 Me Mf RL HU Md
        go_wp2_with fail
        all_goals first|exact⟨⟨1,by omega,rfl,bZ⟩,by decide⟩|exact⟨⟨2,by omega,rfl,bZ⟩,by decide⟩|exact⟨⟨3,by omega,rfl,bZ⟩,by decide⟩
end Go.Proofs.YtemmkninoiclfaaGreatDoor.EN
