/- What is proved here: the walk of the law on rounded fractions, over this seat's translation. -/
import Derived.Test.YtemmkninoiclfaaGreatDoorC40
import Derived.Test.YtemmkninoiclfaaGreatDoorC36
import Derived.Test.YtemmkninoiclfaaGreatDoorC12
import Derived.Test.YtemmkninoiclfaaGreatDoorC35
import GoSem.Extern.MathDim
import Derived.Test.YtemmkninoiclfaaGreatDoorC35
import Derived.Test.YtemmkninoiclfaaGreatDoorC35
import Derived.Test.YtemmkninoiclfaaGreatDoorC36
import Derived.Test.YtemmkninoiclfaaGreatDoorC35
namespace Go.Proofs.YtemmkninoiclfaaGreatDoor.EN
open Go.ChangeShapes Go.WideShapes Go.ChangeAt Go.RowKit
/-- What one fraction answers where there is no such mode. -/
def q8r (m:Int) (x:Rat):Prop:=(∀ w1 v,QIs w1 v x→Calls Tryz.prog 15 #[v,.int .i64 m] w1 fun r w'=>r= .returned (.tuple #[.float .f64 0,.int .i64 3])∧G w1 w')∧
 ∀ w1 v,QIs w1 v x→Calls Tryz.prog 16 #[v,.int .i64 m] w1 fun r w'=>r= .returned (.tuple #[.float .f64 0,.int .i64 3])∧G w1 w'
/-- What one fraction and the reference's answer in a mode. -/
def ElOk (m:Int) (x:Rat):Prop:=∃ (fv rv:Nat) (sg c:Int),(∀ w1 v,QIs w1 v x→Calls Tryz.prog 15 #[v,.int .i64 m] w1 fun r w'=>r= .returned (.tuple #[.float .f64 fv,.int .i64 0])∧G w1 w')∧
 (∀ w1 u,PR w1 u x→Calls Tryz.prog 18 #[u,.int .i64 m] w1 fun e w'=>e= .returned (.float .f64 fv)∧G w1 w')∧
 (∀ w1 u,PR w1 u x→Calls Tryz.prog 19 #[u] w1 fun e w'=>e= .returned (.int .i64 sg)∧G w1 w')∧
 (∀ w1 v,QIs w1 v x→Calls Tryz.prog 16 #[v,.int .i64 m] w1 fun r w'=>r= .returned (.tuple #[.float .f64 rv,.int .i64 c])∧G w1 w')∧
 ((sg<0∧c=3∧rv=0)∨(0≤sg∧c=0∧∀ w1 u,PR w1 u x→Calls Tryz.prog 20 #[u,.int .i64 m] w1 fun e w'=>e= .returned (.float .f64 rv)∧G w1 w'))
theorem q3N {w:World} {t:Bool} {x y:Value} {q:Rat} (h:QIs w (.agg #[.bool t,x,y]) q):∃ a k c a' k' c',x= .slice a k c∧y= .slice a' k' c':=by
 obtain⟨a,k,c,a',k',c',e,-,-⟩:=h
 injection e with e
 have e2:=congrArg Array.toList e
 simp only[List.cons.injEq] at e2
 exact⟨a,k,c,a',k',c',e2.2.1,e2.2.2.1⟩
theorem q1M {K:World→Prop} (wr:World) (l:List Value) (h:∀ wl,G wr wl→Rec wl wr.heap.size l→K wl) (ty:TypeId):K (wr.alloc (.cells l.toArray ty)):=h _ ((G.refl _).alloc _) (Rec.new wr l ty)
set_option maxRecDepth 10000 in
set_option maxHeartbeats 8000000 in
theorem q5q (w:World) (a b c:Nat) (m:Int) (xa xb xc q s p:Rat) (hEl:((m<1∨4<m)∧q8r m q∧q8r m s∧q8r m p)∨((1≤m∧m≤4)∧ElOk m q∧ElOk m s∧ElOk m p))
  (oV:∀ w1,G w w1→Calls Tryz.prog 5 #[] w1 fun e w'=>e= .returned (.bool true)∧G w1 w')
  (Me:∀ w1:World,Calls Tryz.prog 6 #[.float .f64 a] w1 fun e w'=>e= .returned (.bool true)∧G w1 w')
  (Mf:∀ w1:World,Calls Tryz.prog 6 #[.float .f64 b] w1 fun e w'=>e= .returned (.bool true)∧G w1 w')
  (Mg:∀ w1:World,Calls Tryz.prog 6 #[.float .f64 c] w1 fun e w'=>e= .returned (.bool true)∧G w1 w')
  (hb0:(FloatKind.f64.format.order b 0==some .eq)=false)
  (Cq:∀ w1,G w w1→Calls Tryz.prog 7 #[.float .f64 a] w1 (q2L w1 xa 0))
  (hOb:∀ w1,G w w1→Calls Tryz.prog 7 #[.float .f64 b] w1 (q2L w1 xb 0))
  (Cr:∀ w1,G w w1→Calls Tryz.prog 7 #[.float .f64 c] w1 (q2L w1 xc 0))
  (hQ:∀ w1 v u,G w w1→QIs w1 v xa→QIs w1 u xb→Calls Tryz.prog 8 #[v,u] w1 (q2L w1 q 0))
  (Cs:∀ w1:World,Calls Tryz.prog 10 #[.float .f64 a] w1 (RetP w1 xa))
  (hRb:∀ w1:World,Calls Tryz.prog 10 #[.float .f64 b] w1 (RetP w1 xb))
  (Ct:∀ w1:World,Calls Tryz.prog 10 #[.float .f64 c] w1 (RetP w1 xc))
  (Mh:∀ w1 bz px py,Rec w1 bz [.bool false,.slice none 0 0,.bool false,.slice none 0 0]→px<w1.heap.size→py<w1.heap.size→RIs w1 px xa→RIs w1 py xb→Calls Tryz.prog 9 #[.pointer (some ⟨bz,0,none⟩),.pointer (some ⟨px,0,none⟩),.pointer (some ⟨py,0,none⟩)] w1 (SetRat w1 bz q))
  (Mi:∀ w1 v u,G w w1→QIs w1 v q→QIs w1 u xc→Calls Tryz.prog 11 #[v,u] w1 (RetQ w1 s))
  (Mj:∀ w1 v u,G w w1→QIs w1 v xa→QIs w1 u xb→Calls Tryz.prog 13 #[v,u] w1 (RetQ w1 p))
  (Mk:∀ w1 bz px py,bz<w1.heap.size→px<w1.heap.size→py<w1.heap.size→RatIs w1 bz 0 0→RIs w1 px q→RIs w1 py xc→Calls Tryz.prog 12 #[.pointer (some ⟨bz,0,none⟩),.pointer (some ⟨px,0,none⟩),.pointer (some ⟨py,0,none⟩)] w1 (SetRat w1 bz s))
  (Ml:∀ w1 bz px py,bz<w1.heap.size→px<w1.heap.size→py<w1.heap.size→RatIs w1 bz 0 0→RIs w1 px xa→RIs w1 py xb→Calls Tryz.prog 14 #[.pointer (some ⟨bz,0,none⟩),.pointer (some ⟨px,0,none⟩),.pointer (some ⟨py,0,none⟩)] w1 (SetRat w1 bz p)):
  Calls Tryz.prog 3 #[.float .f64 a,.float .f64 b,.float .f64 c,.int .i64 m] w fun r w'=>r= .returned (.bool true)∧G w w':=by
 have HT3:Hid (∀ w1,G w w1→_):=oV
 have vQ:Hid (∀ w1:World,_):=Me
 have xO:Hid (∀ w1:World,_):=Mf
 have BZ:Hid (∀ w1:World,_):=Mg
 have Mm:Hid (∀ w1,G w w1→_):=Cq
 have Mo:Hid (∀ w1,G w w1→_):=hOb
 have Mq:Hid (∀ w1,G w w1→_):=Cr
 have HQ:Hid (∀ w1 v u,G w w1→_):=hQ
 have Cv:Hid (∀ w1:World,_):=Cs
 have Cw:Hid (∀ w1:World,_):=hRb
 have Mr:Hid (∀ w1:World,_):=Ct
 have qI:Hid (∀ (w1:World) (bz px py:Nat),_):=Mh
 have sV:Hid (∀ w1 v u,G w w1→_):=Mi
 have Ms:Hid (∀ w1 v u,G w w1→_):=Mj
 have jU:Hid (∀ (w1:World) (bz px py:Nat),_):=Mk
 have Mt:Hid (∀ (w1:World) (bz px py:Nat),_):=Ml
 clear Mi Mj Mk Ml
 clear oV Me Mf Mg Cq hOb Cr hQ Cs hRb Ct Mh
 go_enter Tryz.func3,Tryz.ntmps3
 go_wp2_with fail
 refine Calls.mono (P:=Tryz.prog) (HT3.out _ (G.refl _)) ?_
 rintro e w1 ⟨rfl,g1⟩
 go_wp2_with fail
 refine Calls.mono (P:=Tryz.prog) (vQ.out _) ?_
 rintro e w2 ⟨rfl,g2⟩
 go_wp2_with fail
 refine Calls.mono (P:=Tryz.prog) (xO.out _) ?_
 rintro e w3 ⟨rfl,g3⟩
 go_wp2_with fail
 refine Calls.mono (P:=Tryz.prog) (BZ.out _) ?_
 rintro e w4 ⟨rfl,g4⟩
 have I9:=G.trans g1 (G.trans g2 (G.trans g3 g4))
 clear g1 g2 g3 g4
 go_wp2_with fail
 refine Calls.mono (P:=Tryz.prog) (Mm.out w4 I9) ?_
 intro e1 w5 hs
 obtain⟨v,rfl,g5,hv⟩:=hs
 have HV5:Hid (QIs w5 v xa):=hv
 obtain⟨a1,k1,d1,a2,k2,d2,rfl,-,-⟩:=hv
 generalize decide (xa.num<0)=t1 at *
 go_wp2_with fail
 obtain⟨w6,aN,g6,Pp,R0⟩:=q0x w5 [.bool t1,.slice a1 k1 d1,.slice a2 k2 d2] 30
 rw[aN]
 clear aN
 have Ia:=G.trans I9 (G.trans g5 g6)
 have Mv:Hid (QIs w6 (.agg #[.bool t1,.slice a1 k1 d1,.slice a2 k2 d2]) xa):=QIs.G HV5.out g6
 have RX:Hid (Rec w6 w5.heap.size [.bool t1,.slice a1 k1 d1,.slice a2 k2 d2]):=R0.out
 generalize w5.heap.size=bx at *
 clear R0 HV5 g5 g6 I9 Pp
 refine Calls.mono (P:=Tryz.prog) (Mo.out w6 Ia) ?_
 intro e1 w7 hs
 obtain⟨v,rfl,g7,hv⟩:=hs
 have Mw:Hid (QIs w7 v xb):=hv
 obtain⟨a3,k3,d3,a4,k4,d4,rfl,-,-⟩:=hv
 generalize decide (xb.num<0)=t2 at *
 go_wp2_with fail
 obtain⟨w8,aN,g8,Pq,R0⟩:=q0x w7 [.bool t2,.slice a3 k3 d3,.slice a4 k4 d4] 30
 rw[aN]
 clear aN
 have Gv:=G.trans g7 g8
 have Ib:=G.trans Ia Gv
 have Mx:Hid (QIs w8 (.agg #[.bool t2,.slice a3 k3 d3,.slice a4 k4 d4]) xb):=QIs.G Mw.out g8
 have MB:Hid (QIs w8 (.agg #[.bool t1,.slice a1 k1 d1,.slice a2 k2 d2]) xa):=QIs.G Mv.out Gv
 have RY:Hid (Rec w8 w7.heap.size [.bool t2,.slice a3 k3 d3,.slice a4 k4 d4]):=R0.out
 have Ic:Hid (Rec w8 bx [.bool t1,.slice a1 k1 d1,.slice a2 k2 d2]):=Rec.G RX.out Gv
 generalize w7.heap.size=b2 at *
 clear R0 RX Mv Mw g7 g8 Ia Pq Gv
 refine Calls.mono (P:=Tryz.prog) (Mq.out w8 Ib) ?_
 intro e1 w9 hs
 obtain⟨v,rfl,g9,hv⟩:=hs
 have MC:Hid (QIs w9 v xc):=hv
 obtain⟨a5,k5,d5,a6,k6,d6,rfl,-,-⟩:=hv
 generalize decide (xc.num<0)=t3 at *
 have jY:=Rec.f3 (Rec.G Ic.out (G.alloc g9 (.cells #[.bool t3,.slice a5 k5 d5,.slice a6 k6 d6] 30)))
 have wE:=jY.1
 have wF:=jY.2.1
 have wG:=jY.2.2.1
 have wH:=jY.2.2.2.1
 have wI:=jY.2.2.2.2.1
 have wJ:=jY.2.2.2.2.2
 clear jY
 have iQ:=Rec.f3 (Rec.G RY.out (G.alloc g9 (.cells #[.bool t3,.slice a5 k5 d5,.slice a6 k6 d6] 30)))
 have sW:=iQ.1
 have sZ:=iQ.2.1
 have tq:=iQ.2.2.1
 have tu:=iQ.2.2.2.1
 have tC:=iQ.2.2.2.2.1
 have tF:=iQ.2.2.2.2.2
 clear iQ
 go_wp2_with fail
 clear wE wF wG wH wI wJ sW sZ tq tu tC tF
 obtain⟨bE,aN,g10,Ie,R0⟩:=q0x w9 [.bool t3,.slice a5 k5 d5,.slice a6 k6 d6] 30
 rw[aN]
 clear aN
 have rq:=G.trans g9 g10
 have wK:=G.trans Ib rq
 have bP:Hid (QIs bE (.agg #[.bool t3,.slice a5 k5 d5,.slice a6 k6 d6]) xc):=QIs.G MC.out g10
 have bH:Hid (QIs bE (.agg #[.bool t2,.slice a3 k3 d3,.slice a4 k4 d4]) xb):=QIs.G Mx.out rq
 have eY:Hid (QIs bE (.agg #[.bool t1,.slice a1 k1 d1,.slice a2 k2 d2]) xa):=QIs.G MB.out rq
 have RZ:Hid (Rec bE w9.heap.size [.bool t3,.slice a5 k5 d5,.slice a6 k6 d6]):=R0.out
 have RX:Hid (Rec bE bx [.bool t1,.slice a1 k1 d1,.slice a2 k2 d2]):=Rec.G Ic.out rq
 have Ig:Hid (Rec bE b2 [.bool t2,.slice a3 k3 d3,.slice a4 k4 d4]):=Rec.G RY.out rq
 generalize w9.heap.size=bz at *
 clear R0 Ic RY Mx MB MC g9 g10 Ib Ie rq
 refine Calls.mono (P:=Tryz.prog) (HQ.out bE _ _ wK eY.out bH.out) ?_
 intro e1 eB hs
 obtain⟨v,rfl,g11,hv⟩:=hs
 have Cx:Hid (QIs eB v q):=hv
 obtain⟨a7,k7,d7,a8,k8,d8,rfl,-,-⟩:=hv
 generalize decide (q.num<0)=t4 at *
 go_wp2_with fail
 obtain⟨gV,aN,g12,Ih,R0,R1⟩:=q3Z eB [.bool t4,.slice a7 k7 d7,.slice a8 k8 d8] [.bool false,.slice none 0 0,.bool false,.slice none 0 0] 30 40
 rw[aN]
 clear aN
 have jJ:=G.trans g11 g12
 have Cy:=G.trans wK jJ
 have jl:Hid (QIs gV (.agg #[.bool t3,.slice a5 k5 d5,.slice a6 k6 d6]) xc):=QIs.G bP.out jJ
 have jm:Hid (QIs gV (.agg #[.bool t2,.slice a3 k3 d3,.slice a4 k4 d4]) xb):=QIs.G bH.out jJ
 have jZ:Hid (QIs gV (.agg #[.bool t1,.slice a1 k1 d1,.slice a2 k2 d2]) xa):=QIs.G eY.out jJ
 have iR:Hid (QIs gV (.agg #[.bool t4,.slice a7 k7 d7,.slice a8 k8 d8]) q):=QIs.G Cx.out g12
 have Cz:Hid (Rec gV bx [.bool t1,.slice a1 k1 d1,.slice a2 k2 d2]):=Rec.G RX.out jJ
 have CB:Hid (Rec gV b2 [.bool t2,.slice a3 k3 d3,.slice a4 k4 d4]):=Rec.G Ig.out jJ
 have CE:Hid (Rec gV bz [.bool t3,.slice a5 k5 d5,.slice a6 k6 d6]):=Rec.G RZ.out jJ
 have CF:Hid (Rec gV eB.heap.size [.bool t4,.slice a7 k7 d7,.slice a8 k8 d8]):=R0.out
 have wL:Hid (Rec gV (eB.heap.size+1) [.bool false,.slice none 0 0,.bool false,.slice none 0 0]):=R1.out
 have hrn:w.heap.size≤eB.heap.size+1:=by have:=wK.size;have:=g11.size;omega
 have hr2:eB.heap.size≠eB.heap.size+1∧bx≠eB.heap.size+1∧b2≠eB.heap.size+1∧bz≠eB.heap.size+1:=by have:=g11.size;have:=RX.out.lt;have:=Ig.out.lt;have:=RZ.out.lt;omega
 have HR2:Hid _:=hr2
 clear hr2
 clear R0 R1 RX Ig RZ eY bH bP Cx g11 g12 jJ wK Ih
 generalize eB.heap.size+1=br at *
 generalize eB.heap.size=bq at *
 refine Calls.mono (P:=Tryz.prog) (Cv.out gV) ?_
 rintro e mr ⟨v,rfl,g13,hp⟩
 obtain⟨pa,rfl,ha1,ha2⟩:=hp
 have Gw:Hid (pa<mr.heap.size∧RIs mr pa xa):=⟨ha1,ha2⟩
 clear ha1 ha2
 go_wp2_with fail
 refine Calls.mono (P:=Tryz.prog) (Cw.out mr) ?_
 rintro e vS ⟨v,rfl,g14,hp⟩
 obtain⟨pb,rfl,hb1,hb2⟩:=hp
 have jA:=G.trans g13 g14
 have CG:Hid _:=qI.out vS br pa pb (Rec.G wL.out jA) (G.lt g14 Gw.out.1) hb1 (RIs.G Gw.out.2 Gw.out.1 g14) hb2
 have hbr:=(Rec.G wL.out jA).lt
 clear hb1 hb2 Gw g13 g14 qI
 go_wp2_with fail
 refine Calls.mono (P:=Tryz.prog) CG.out ?_
 intro e lX hs
 obtain⟨rfl,g15,CJ⟩:=hs
 have CK:G w lX:=GX.fresh (G.trans Cy jA) g15 hrn
 have gx:=g15
 have rb:=Rec.G wL.out jA
 have CL:Hid (QIs lX (.agg #[.bool t3,.slice a5 k5 d5,.slice a6 k6 d6]) xc):=QIs.gx (QIs.G jl.out jA) rb q2t gx
 have CO:Hid (QIs lX (.agg #[.bool t2,.slice a3 k3 d3,.slice a4 k4 d4]) xb):=QIs.gx (QIs.G jm.out jA) rb q2t gx
 have CP:Hid (QIs lX (.agg #[.bool t1,.slice a1 k1 d1,.slice a2 k2 d2]) xa):=QIs.gx (QIs.G jZ.out jA) rb q2t gx
 have mD:Hid (QIs lX (.agg #[.bool t4,.slice a7 k7 d7,.slice a8 k8 d8]) q):=QIs.gx (QIs.G iR.out jA) rb q2t gx
 have RX:Hid (Rec lX bx [.bool t1,.slice a1 k1 d1,.slice a2 k2 d2]):=Rec.gx (Rec.G Cz.out jA) HR2.out.2.1 gx
 have RY:Hid (Rec lX b2 [.bool t2,.slice a3 k3 d3,.slice a4 k4 d4]):=Rec.gx (Rec.G CB.out jA) HR2.out.2.2.1 gx
 have RZ:Hid (Rec lX bz [.bool t3,.slice a5 k5 d5,.slice a6 k6 d6]):=Rec.gx (Rec.G CE.out jA) HR2.out.2.2.2 gx
 have RQ:Hid (Rec lX bq [.bool t4,.slice a7 k7 d7,.slice a8 k8 d8]):=Rec.gx (Rec.G CF.out jA) HR2.out.1 gx
 have Ii:Hid (PR lX (.pointer (some ⟨br,0,none⟩)) q):=⟨br,rfl,Nat.lt_of_lt_of_le hbr g15.size,CJ⟩
 have C8:Hid (G w lX):=CK
 clear jl jm jZ iR Cz CB CE CF wL HR2 rb gx g15 CJ Cy jA CK hrn hbr CG
 go_wp2_with fail
 obtain⟨vq,Ij⟩:∃ v,v=Value.agg #[.bool t4,.slice a7 k7 d7,.slice a8 k8 d8]:=⟨_,rfl⟩
 have wM:Hid (QIs lX (.agg #[.bool t4,.slice a7 k7 d7,.slice a8 k8 d8]) q):=mD.out
 rw[← Ij] at mD
 have Gx:Hid (vq=Value.agg #[.bool t4,.slice a7 k7 d7,.slice a8 k8 d8]):=Ij
 clear Ij Mm Mo Mq HQ vQ xO BZ HT3
 refine RV.region_inv 25 0 #[true,true,true,true,true,true,true,true,true,true,true,true,true,true,true,true,true,true,true,true,true,true,true,true,true] [some 70,some 71,some 72,some 73,some 74,some 75,some 76,some 77,some 78,some 79,some 80,some 81,some 82,some 83,some 84,some 85,some 86,some 87,some 88,some 89,some 90,some 91,some 92,some 93,some 94] (RI (RP vq (.pointer (some ⟨br,0,none⟩)) (.agg #[.bool t1,.slice a1 k1 d1,.slice a2 k2 d2]) (.agg #[.bool t2,.slice a3 k3 d3,.slice a4 k4 d4]) (.agg #[.bool t3,.slice a5 k5 d5,.slice a6 k6 d6]) (.agg #[.bool t4,.slice a7 k7 d7,.slice a8 k8 d8,.pointer (some ⟨br,0,none⟩)]) a b c xa xb xc q s p) lX) (by kernel_rfl) (by kernel_rfl) rfl (by kernel_rfl) (by kernel_rfl) ?_ ?_
 ·intro f
  exact⟨(G.refl _).drew,fun j h=>(by cases h),fun h=>(by cases h),fun h=>(by cases h),fun h=>(by cases h),fun h=>(by cases h),fun h=>(by cases h)⟩
 ·intro A hA
  simp only[List.range,List.range.loop,List.map_cons,List.map_nil,q0V,Act.put,List.setIfInBounds_toArray,List.set_cons_zero,List.set_cons_succ] at hA
  refine⟨?_,?_⟩
  ·skip
   refine RV.Ones.cons rfl ?_ ?_
   ·intro L f W hI hL hD K hK
    rw[hA f] at hK ⊢
    have iT:=Rec.f3 (Rec.G RQ.out (hI.g))
    have yX:=iT.1
    have yY:=iT.2.1
    have yZ:=iT.2.2.1
    have z8:=iT.2.2.2.1
    have ze:=iT.2.2.2.2.1
    have zf:=iT.2.2.2.2.2
    clear iT
    go_simp
    exact hK.out _ _ ⟨_,rfl,RI.step hI 0 _ (by decide) (by decide) (G.refl _) (RP.g (G.refl _)) Gx.out.symm⟩
   refine RV.Ones.cons rfl ?_ ?_
   ·intro L f W hI hL hD K hK
    rw[hA f] at hK ⊢
    go_simp
    exact hK.out _ _ ⟨_,rfl,RI.step hI 1 _ (by decide) (by decide) (G.refl _) (RP.g (G.refl _)) rfl⟩
   refine RV.Ones.cons rfl ?_ ?_
   ·intro L f W hI hL hD K hK
    rw[hA f] at hK ⊢
    have e0:f 0=vq:=hI.held 0 (hD 0 (by kernel_rfl))
    have e1:f 1= .pointer (some ⟨br,0,none⟩):=hI.held 1 (hD 1 (by kernel_rfl))
    rw[Gx.out] at e0
    rw[e0,e1] at hK ⊢
    clear e0 e1 hD
    go_simp
    exact hK.out _ _ ⟨_,rfl,RI.step hI 2 _ (by decide) (by decide) (G.refl _) (RP.g (G.refl _)) rfl⟩
   refine RV.Ones.cons rfl ?_ ?_
   ·intro L f W hI hL hD K hK
    rw[hA f] at hK ⊢
    have iT:=Rec.f3 (Rec.G RQ.out (hI.g))
    have yX:=iT.1
    have yY:=iT.2.1
    have yZ:=iT.2.2.1
    have z8:=iT.2.2.2.1
    have ze:=iT.2.2.2.2.1
    have zf:=iT.2.2.2.2.2
    clear iT
    go_simp
    exact hK.out _ _ ⟨_,rfl,RI.step hI 3 _ (by decide) (by decide) (G.refl _) (RP.g (G.refl _)) Gx.out.symm⟩
   refine RV.Ones.cons rfl ?_ ?_
   ·intro L f W hI hL hD K hK
    rw[hA f] at hK ⊢
    have oW:=Rec.f3 (Rec.G RZ.out (hI.g))
    have Ik:=oW.1
    have Il:=oW.2.1
    have Im:=oW.2.2.1
    have Io:=oW.2.2.2.1
    have Ip:=oW.2.2.2.2.1
    have Iq:=oW.2.2.2.2.2
    clear oW
    go_simp
    exact hK.out _ _ ⟨_,rfl,RI.step hI 4 _ (by decide) (by decide) (G.refl _) (RP.g (G.refl _)) rfl⟩
   refine RV.Ones.cons rfl ?_ ?_
   ·intro L f W hI hL hD K hK
    rw[hA f] at hK ⊢
    have e3:f 3=vq:=hI.held 3 (hD 3 (by kernel_rfl))
    have e4:f 4= .agg #[.bool t3,.slice a5 k5 d5,.slice a6 k6 d6]:=hI.held 4 (hD 4 (by kernel_rfl))
    rw[e3,e4] at hK ⊢
    clear e3 e4 hD
    go_simp
    go_wp2_with (go_at_call 11;refine Calls.mono (P:=Tryz.prog) (sV.out W _ _ (G.trans C8.out hI.g) (QIs.G mD.out hI.g) (QIs.G CL.out hI.g)) ?_;intro e w9 hs;obtain⟨u9,rfl,g9,aO⟩:=hs)
    exact hK.out _ _ ⟨_,rfl,RI.step hI 5 _ (by decide) (by decide) g9 (RP.g g9) aO⟩
   refine RV.Ones.cons rfl ?_ ?_
   ·intro L f W hI hL hD K hK
    rw[hA f] at hK ⊢
    go_simp
    exact hK.out _ _ ⟨_,rfl,RI.mk6 hI _ (RP.g ((G.refl W).alloc _)) (fun _ _=>trivial)⟩
   refine RV.Ones.cons rfl ?_ ?_
   ·intro L f W hI hL hD K hK
    rw[hA f] at hK ⊢
    go_simp
    exact hK.out _ _ ⟨_,rfl,RI.step hI 7 _ (by decide) (by decide) (G.refl _) (RP.g (G.refl _)) rfl⟩
   refine RV.Ones.cons rfl ?_ ?_
   ·intro L f W hI hL hD K hK
    rw[hA f] at hK ⊢
    go_simp
    exact hK.out _ _ ⟨_,rfl,RI.step hI 8 _ (by decide) (by decide) (G.refl _) (RP.g (G.refl _)) rfl⟩
   refine RV.Ones.cons rfl ?_ ?_
   ·intro L f W hI hL hD K hK
    rw[hA f] at hK ⊢
    have e8:f 8= .float .f64 c:=hI.held 8 (hD 8 (by kernel_rfl))
    rw[e8] at hK ⊢
    clear e8 hD
    go_simp
    go_wp2_with (go_at_call 10;refine Calls.mono (P:=Tryz.prog) (Mr.out W) ?_;intro e w9 hs;obtain⟨u9,rfl,g9,aO⟩:=hs)
    exact hK.out _ _ ⟨_,rfl,RI.step hI 9 _ (by decide) (by decide) g9 (RP.g g9) aO⟩
   refine RV.Ones.cons rfl ?_ ?_
   ·intro L f W hI hL hD K hK
    rw[hA f] at hK ⊢
    have hc:L 6=true:=hD 6 (by kernel_rfl)
    obtain⟨bk,ek,hk⟩:=hI.raw6 hc hL
    have e7:f 7= .pointer (some ⟨br,0,none⟩):=hI.held 7 (hD 7 (by kernel_rfl))
    have h9:PR W (f 9) xc:=hI.held 9 (hD 9 (by kernel_rfl))
    obtain⟨py,ey,hy1,hy2⟩:=h9
    obtain⟨px,ex,hx1,hx2⟩:=Ii.out.G hI.g
    injection ex with ex;injection ex with ex;injection ex with ex
    subst ex
    have ef:=ek
    rw[ek,e7,ey] at hK ⊢
    have hq:=hk.lt
    have HS:Hid _:=jU.out W bk _ py hq hx1 hy1 (q9z hk) hx2 hy2
    have Ir:Hid (Rec W bk raw):=hk
    clear hk hx1 hy1 hx2 hy2 hD ek ey e7
    go_simp
    go_wp2_with (go_at_call 12;refine Calls.mono (P:=Tryz.prog) HS.out ?_;intro e w9 hs;obtain⟨rfl,g9,aO⟩:=hs)
    exact hK.out _ _ ⟨_,rfl,RI.wr10 hI _ hc ef g9 (RP.gx Ir.out g9) ⟨bk,rfl,Nat.lt_of_lt_of_le hq g9.size,aO⟩⟩
   refine RV.Ones.cons rfl ?_ ?_
   ·intro L f W hI hL hD K hK
    rw[hA f] at hK ⊢
    have h5:QIs W (f 5) s:=hI.held 5 (hD 5 (by kernel_rfl))
    have h10:PR W (f 10) s:=hI.held 10 (hD 10 (by kernel_rfl))
    have HJ:Hid (QIs W (f 5) s):=h5
    have jB:Hid (PR W (f 10) s):=h10
    obtain⟨y1,y2,y3,y4,y5,y6,e1,-,-⟩:=h5
    obtain⟨pk,e2,-,-⟩:=h10
    generalize decide (s.num<0)=t5 at *
    rw[e1] at HJ
    rw[e2] at jB
    rw[e1,e2] at hK ⊢
    clear hD e1 e2
    go_simp
    exact hK.out _ _ ⟨_,rfl,RI.step hI 11 _ (by decide) (by decide) (G.refl _) (RP.g (G.refl _)) ⟨_,_,_,_,rfl,HJ.out,jB.out⟩⟩
   refine RV.Ones.cons rfl ?_ ?_
   ·intro L f W hI hL hD K hK
    rw[hA f] at hK ⊢
    have oZ:=Rec.f3 (Rec.G RX.out (hI.g))
    have Iu:=oZ.1
    have Iw:=oZ.2.1
    have Iy:=oZ.2.2.1
    have Iz:=oZ.2.2.2.1
    have IA:=oZ.2.2.2.2.1
    have IB:=oZ.2.2.2.2.2
    clear oZ
    go_simp
    exact hK.out _ _ ⟨_,rfl,RI.step hI 12 _ (by decide) (by decide) (G.refl _) (RP.g (G.refl _)) rfl⟩
   refine RV.Ones.cons rfl ?_ ?_
   ·intro L f W hI hL hD K hK
    rw[hA f] at hK ⊢
    have iQ:=Rec.f3 (Rec.G RY.out (hI.g))
    have sW:=iQ.1
    have sZ:=iQ.2.1
    have tq:=iQ.2.2.1
    have tu:=iQ.2.2.2.1
    have tC:=iQ.2.2.2.2.1
    have tF:=iQ.2.2.2.2.2
    clear iQ
    go_simp
    exact hK.out _ _ ⟨_,rfl,RI.step hI 13 _ (by decide) (by decide) (G.refl _) (RP.g (G.refl _)) rfl⟩
   refine RV.Ones.cons rfl ?_ ?_
   ·intro L f W hI hL hD K hK
    rw[hA f] at hK ⊢
    have e12:f 12= .agg #[.bool t1,.slice a1 k1 d1,.slice a2 k2 d2]:=hI.held 12 (hD 12 (by kernel_rfl))
    have e13:f 13= .agg #[.bool t2,.slice a3 k3 d3,.slice a4 k4 d4]:=hI.held 13 (hD 13 (by kernel_rfl))
    rw[e12,e13] at hK ⊢
    clear e12 e13 hD
    go_simp
    go_wp2_with (go_at_call 13;refine Calls.mono (P:=Tryz.prog) (Ms.out W _ _ (G.trans C8.out hI.g) (QIs.G CP.out hI.g) (QIs.G CO.out hI.g)) ?_;intro e w9 hs;obtain⟨u9,rfl,g9,aO⟩:=hs)
    exact hK.out _ _ ⟨_,rfl,RI.step hI 14 _ (by decide) (by decide) g9 (RP.g g9) aO⟩
   refine RV.Ones.cons rfl ?_ ?_
   ·intro L f W hI hL hD K hK
    rw[hA f] at hK ⊢
    go_simp
    exact hK.out _ _ ⟨_,rfl,RI.mk15 hI _ (RP.g ((G.refl W).alloc _)) (fun _ _=>trivial)⟩
   refine RV.Ones.cons rfl ?_ ?_
   ·intro L f W hI hL hD K hK
    rw[hA f] at hK ⊢
    go_simp
    exact hK.out _ _ ⟨_,rfl,RI.step hI 16 _ (by decide) (by decide) (G.refl _) (RP.g (G.refl _)) rfl⟩
   refine RV.Ones.cons rfl ?_ ?_
   ·intro L f W hI hL hD K hK
    rw[hA f] at hK ⊢
    have e16:f 16= .float .f64 a:=hI.held 16 (hD 16 (by kernel_rfl))
    rw[e16] at hK ⊢
    clear e16 hD
    go_simp
    go_wp2_with (go_at_call 10;refine Calls.mono (P:=Tryz.prog) (Cv.out W) ?_;intro e w9 hs;obtain⟨u9,rfl,g9,aO⟩:=hs)
    exact hK.out _ _ ⟨_,rfl,RI.step hI 17 _ (by decide) (by decide) g9 (RP.g g9) aO⟩
   refine RV.Ones.cons rfl ?_ ?_
   ·intro L f W hI hL hD K hK
    rw[hA f] at hK ⊢
    go_simp
    exact hK.out _ _ ⟨_,rfl,RI.step hI 18 _ (by decide) (by decide) (G.refl _) (RP.g (G.refl _)) rfl⟩
   refine RV.Ones.cons rfl ?_ ?_
   ·intro L f W hI hL hD K hK
    rw[hA f] at hK ⊢
    have e18:f 18= .float .f64 b:=hI.held 18 (hD 18 (by kernel_rfl))
    rw[e18] at hK ⊢
    clear e18 hD
    go_simp
    go_wp2_with (go_at_call 10;refine Calls.mono (P:=Tryz.prog) (Cw.out W) ?_;intro e w9 hs;obtain⟨u9,rfl,g9,aO⟩:=hs)
    exact hK.out _ _ ⟨_,rfl,RI.step hI 19 _ (by decide) (by decide) g9 (RP.g g9) aO⟩
   refine RV.Ones.cons rfl ?_ ?_
   ·intro L f W hI hL hD K hK
    rw[hA f] at hK ⊢
    have hc:L 15=true:=hD 15 (by kernel_rfl)
    obtain⟨bk,ek,hk⟩:=hI.raw15 hc hL
    have Ps:PR W (f 17) xa:=hI.held 17 (hD 17 (by kernel_rfl))
    have h19:PR W (f 19) xb:=hI.held 19 (hD 19 (by kernel_rfl))
    obtain⟨px,ex,hx1,hx2⟩:=Ps
    obtain⟨py,ey,hy1,hy2⟩:=h19
    have ef:=ek
    rw[ek,ex,ey] at hK ⊢
    have hq:=hk.lt
    have HS:Hid _:=Mt.out W bk _ py hq hx1 hy1 (q9z hk) hx2 hy2
    have Ir:Hid (Rec W bk raw):=hk
    clear hk hx1 hy1 hx2 hy2 hD ek ey ex
    go_simp
    go_wp2_with (go_at_call 14;refine Calls.mono (P:=Tryz.prog) HS.out ?_;intro e w9 hs;obtain⟨rfl,g9,aO⟩:=hs)
    exact hK.out _ _ ⟨_,rfl,RI.wr20 hI _ hc ef g9 (RP.gx Ir.out g9) ⟨bk,rfl,Nat.lt_of_lt_of_le hq g9.size,aO⟩⟩
   refine RV.Ones.cons rfl ?_ ?_
   ·intro L f W hI hL hD K hK
    rw[hA f] at hK ⊢
    have ME:QIs W (f 14) p:=hI.held 14 (hD 14 (by kernel_rfl))
    have h20:PR W (f 20) p:=hI.held 20 (hD 20 (by kernel_rfl))
    have HJ:Hid (QIs W (f 14) p):=ME
    have jB:Hid (PR W (f 20) p):=h20
    obtain⟨y1,y2,y3,y4,y5,y6,e1,-,-⟩:=ME
    obtain⟨pk,e2,-,-⟩:=h20
    generalize decide (p.num<0)=t5 at *
    rw[e1] at HJ
    rw[e2] at jB
    rw[e1,e2] at hK ⊢
    clear hD e1 e2
    go_simp
    exact hK.out _ _ ⟨_,rfl,RI.step hI 21 _ (by decide) (by decide) (G.refl _) (RP.g (G.refl _)) ⟨_,_,_,_,rfl,HJ.out,jB.out⟩⟩
   refine RV.Ones.cons rfl ?_ ?_
   ·intro L f W hI hL hD K hK
    rw[hA f] at hK ⊢
    have e2:f 2= .agg #[.bool t4,.slice a7 k7 d7,.slice a8 k8 d8,.pointer (some ⟨br,0,none⟩)]:=hI.held 2 (hD 2 (by kernel_rfl))
    have h11:∃ t x y u,f 11= .agg #[.bool t,x,y,u]∧QIs W (.agg #[.bool t,x,y]) s∧PR W u s:=hI.held 11 (hD 11 (by kernel_rfl))
    have h21:∃ t x y u,f 21= .agg #[.bool t,x,y,u]∧QIs W (.agg #[.bool t,x,y]) p∧PR W u p:=hI.held 21 (hD 21 (by kernel_rfl))
    obtain⟨t5,x5,y5,u5,e11,hx5,MF⟩:=h11
    obtain⟨t6,x6,y6,u6,e21,hx6,MG⟩:=h21
    have Pt:Hid (QIs W (.agg #[.bool t5,x5,y5]) s):=hx5
    have Pv:Hid (QIs W (.agg #[.bool t6,x6,y6]) p):=hx6
    have Pw:Hid (PR W u5 s):=MF
    have Px:Hid (PR W u6 p):=MG
    rw[e2,e11,e21] at hK ⊢
    clear e2 e11 e21 hD hx5 hx6 MF MG
    go_simp
    exact hK.out _ _ ⟨_,rfl,RI.step hI 22 _ (by decide) (by decide) ((G.refl W).alloc _) (RP.g ((G.refl W).alloc _)) ⟨W.heap.size,_,_,_,_,_,_,_,_,_,_,_,_,rfl,Rec.new W [.bool t4,.slice a7 k7 d7,.slice a8 k8 d8,.pointer (some ⟨br,0,none⟩),.bool t5,x5,y5,u5,.bool t6,x6,y6,u6] _,⟨QIs.G wM.out (hI.g.alloc _),PR.G Ii.out (hI.g.alloc _)⟩,⟨QIs.G Pt.out ((G.refl W).alloc _),PR.G Pw.out ((G.refl W).alloc _)⟩,QIs.G Pv.out ((G.refl W).alloc _),PR.G Px.out ((G.refl W).alloc _)⟩⟩
   refine RV.Ones.cons rfl ?_ ?_
   ·intro L f W hI hL hD K hK
    rw[hA f] at hK ⊢
    have h22:Trio W (f 22) q s p:=hI.held 22 (hD 22 (by kernel_rfl))
    obtain⟨bb,t5,x5,y5,u5,t6,x6,y6,u6,t7,x7,y7,u7,e22,-⟩:=h22
    rw[e22] at hK ⊢
    clear e22 hD
    go_simp
    exact hK.out _ _ ⟨_,rfl,RI.step hI 23 _ (by decide) (by decide) (G.refl _) (RP.g (G.refl _)) rfl⟩
   refine RV.Ones.cons rfl ?_ ?_
   ·intro L f W hI hL hD K hK
    rw[hA f] at hK ⊢
    go_simp
    exact hK.out _ _ ⟨_,rfl,RI.step hI 24 _ (by decide) (by decide) (G.refl _) (RP.g (G.refl _)) rfl⟩
   exact RV.Ones.nil
  ·intro f L wb hI hL
   have hT:Trio wb (f 22) q s p:=hI.held 22 (hL 22 (by decide))
   have e23:f 23= .int .i64 3:=hI.held 23 (hL 23 (by decide))
   have e24:f 24= .int .i64 0:=hI.held 24 (hL 24 (by decide))
   obtain⟨bb,t7,x7,y7,Gy,t8,x8,y8,Gz,t9,x9,y9,GA,e22,hrec,⟨MH,MI⟩,⟨MJ,MK⟩,ML,MM⟩:=hT
   have eU:Hid (G w wb):=G.trans C8.out hI.g
   have HRR:Hid (Rec wb bb [.bool t7,x7,y7,Gy,.bool t8,x8,y8,Gz,.bool t9,x9,y9,GA]):=hrec
   have MN:Hid (QIs wb _ q):=MH
   have MO:Hid (PR wb Gy q):=MI
   have MP:Hid (QIs wb _ s):=MJ
   have MQ:Hid (PR wb Gz s):=MK
   have MR:Hid (QIs wb _ p):=ML
   have MS:Hid (PR wb GA p):=MM
   rw[hA f,e22,e23,e24]
   generalize f 0=r0,f 1=r1,f 2=r2,f 3=r3,f 4=r4,f 5=r5,f 6=r6,f 7=r7,f 8=r8,f 9=r9,f 10=Ue,f 11=Uf,f 12=Ug,f 13=Uh,f 14=Ui,f 15=Uj,f 16=r16,f 17=Uk,f 18=Ul,f 19=Um,f 20=Un,f 21=Uo
   clear hI hL hA e22 e23 e24 hrec MH MI MJ MK ML MM Gx wM Ii RX RY RZ RQ CP CO CL mD C8 jU Mt sV Ms Cv Cw Mr
   refine wpAny_done (by kernel_rfl) ?_ _
   go_wp2_with fail
   rcases hEl with ⟨hm,he0,he1,he2⟩|⟨hm,he0,he1,he2⟩
   all_goals
    have MU:Hid _:=he0
    have GD:Hid _:=he1
    have HE2:Hid _:=he2
    clear he0 he1 he2
   ·skip
    go_loopw [94] (fun vi wr=>∃ i:Nat,i≤3∧vi= .int .i64 i∧G wb wr) (fun vi _=>(3-intOf vi).toNat)
    case atStart=>exact⟨0,by omega,rfl,G.refl _⟩
    case round=>
     obtain⟨i,hi,rfl,hG⟩:=hrel
     rcases(show i=0∨i=1∨i=2∨i=3 by omega) with rfl|rfl|rfl|rfl
     ·obtain⟨tt,iD⟩:∃ z,z=t7:=⟨_,rfl⟩
      obtain⟨xx,eD⟩:∃ z,z=x7:=⟨_,rfl⟩
      obtain⟨yy,eF⟩:∃ z,z=y7:=⟨_,rfl⟩
      obtain⟨uu,gY⟩:∃ z,z=Gy:=⟨_,rfl⟩
      have hrr:=Rec.G HRR.out hG
      have hc0:=hrr.cell 0
      have hc1:=hrr.cell 1
      have hc2:=hrr.cell 2
      have hc3:=hrr.cell 3
      simp only[List.getElem?_cons_zero,List.getElem?_cons_succ] at hc0 hc1 hc2 hc3
      have fU:=QIs.G MN.out hG
      have gZ:=PR.G MO.out hG
      rw[← iD] at hc0
      rw[← eD] at hc1
      rw[← eF] at hc2
      rw[← gY] at hc3 gZ
      rw[← iD,← eD,← eF] at fU
      clear eD eF gY
      obtain⟨sa,sk,sc,sb,sl,sd,rfl,rfl⟩:=q3N fU
      have nN:=gZ
      obtain⟨up,rfl,-,-⟩:=nN
      have hel:=MU.out
      obtain⟨xr,kg⟩:∃ z,z=q:=⟨_,rfl⟩
      rw[← kg] at fU gZ hel
      clear hrr iD kg
      go_wp2_with fail
      refine q1M (K:=fun wl=>Calls Tryz.prog _ _ wl _) wr [.bool tt,.slice sa sk sc,.slice sb sl sd,.pointer (some ⟨up,0,none⟩)] ?_ _
      intro wl gl hrl
      have RL:Hid (Rec wl wr.heap.size [.bool tt,.slice sa sk sc,.slice sb sl sd,.pointer (some ⟨up,0,none⟩)]):=hrl
      have HX:Hid (QIs wl (.agg #[.bool tt,.slice sa sk sc,.slice sb sl sd]) xr):=QIs.G fU gl
      have HU:Hid (PR wl (.pointer (some ⟨up,0,none⟩)) xr):=PR.G gZ gl
      have ko:=G.trans hG gl
      generalize wr.heap.size=bl at *
      clear hrl fU gZ hG gl hc0 hc1 hc2 hc3
      obtain⟨hF,nU⟩:=hel
      have bM:Hid (∀ w1 v,QIs w1 v xr→_):=nU
      clear nU
      refine Calls.mono (P:=Tryz.prog) (hF wl _ HX.out) ?_
      rintro e mE ⟨rfl,fM⟩
      clear hF
      have aj:=Rec.f4 (Rec.G RL.out (fM))
      have aQ:=aj.1
      have aR:=aj.2.1
      have aS:=aj.2.2.1
      have aT:=aj.2.2.2.1
      have aU:=aj.2.2.2.2.1
      have aV:=aj.2.2.2.2.2.1
      have aW:=aj.2.2.2.2.2.2.1
      have aX:=aj.2.2.2.2.2.2.2
      clear aj
      go_wp2_with fail
      clear aQ aR aS aT aU aV aW aX
      refine Calls.mono (P:=Tryz.prog) (bM.out mE _ (QIs.G HX.out fM)) ?_
      rintro e w32 ⟨rfl,nV⟩
      have ku:=G.trans ko (G.trans fM nV)
      clear ko fM nV RL HX HU bM
      go_wp2_with fail
      all_goals first|exact⟨⟨1,by omega,rfl,ku⟩,by decide⟩|exact⟨⟨2,by omega,rfl,ku⟩,by decide⟩|exact⟨⟨3,by omega,rfl,ku⟩,by decide⟩
     ·obtain⟨tt,iD⟩:∃ z,z=t8:=⟨_,rfl⟩
      obtain⟨xx,eD⟩:∃ z,z=x8:=⟨_,rfl⟩
      obtain⟨yy,eF⟩:∃ z,z=y8:=⟨_,rfl⟩
      obtain⟨uu,gY⟩:∃ z,z=Gz:=⟨_,rfl⟩
      have hrr:=Rec.G HRR.out hG
      have hc0:=hrr.cell 4
      have hc1:=hrr.cell 5
      have hc2:=hrr.cell 6
      have hc3:=hrr.cell 7
      simp only[List.getElem?_cons_zero,List.getElem?_cons_succ] at hc0 hc1 hc2 hc3
      have fU:=QIs.G MP.out hG
      have gZ:=PR.G MQ.out hG
      rw[← iD] at hc0
      rw[← eD] at hc1
      rw[← eF] at hc2
      rw[← gY] at hc3 gZ
      rw[← iD,← eD,← eF] at fU
      clear eD eF gY
      obtain⟨sa,sk,sc,sb,sl,sd,rfl,rfl⟩:=q3N fU
      have nN:=gZ
      obtain⟨up,rfl,-,-⟩:=nN
      have hel:=GD.out
      obtain⟨xr,kg⟩:∃ z,z=s:=⟨_,rfl⟩
      rw[← kg] at fU gZ hel
      clear hrr iD kg
      go_wp2_with fail
      refine q1M (K:=fun wl=>Calls Tryz.prog _ _ wl _) wr [.bool tt,.slice sa sk sc,.slice sb sl sd,.pointer (some ⟨up,0,none⟩)] ?_ _
      intro wl gl hrl
      have RL:Hid (Rec wl wr.heap.size [.bool tt,.slice sa sk sc,.slice sb sl sd,.pointer (some ⟨up,0,none⟩)]):=hrl
      have HX:Hid (QIs wl (.agg #[.bool tt,.slice sa sk sc,.slice sb sl sd]) xr):=QIs.G fU gl
      have HU:Hid (PR wl (.pointer (some ⟨up,0,none⟩)) xr):=PR.G gZ gl
      have ko:=G.trans hG gl
      generalize wr.heap.size=bl at *
      clear hrl fU gZ hG gl hc0 hc1 hc2 hc3
      obtain⟨hF,nU⟩:=hel
      have bM:Hid (∀ w1 v,QIs w1 v xr→_):=nU
      clear nU
      refine Calls.mono (P:=Tryz.prog) (hF wl _ HX.out) ?_
      rintro e mE ⟨rfl,fM⟩
      clear hF
      have aj:=Rec.f4 (Rec.G RL.out (fM))
      have aQ:=aj.1
      have aR:=aj.2.1
      have aS:=aj.2.2.1
      have aT:=aj.2.2.2.1
      have aU:=aj.2.2.2.2.1
      have aV:=aj.2.2.2.2.2.1
      have aW:=aj.2.2.2.2.2.2.1
      have aX:=aj.2.2.2.2.2.2.2
      clear aj
      go_wp2_with fail
      clear aQ aR aS aT aU aV aW aX
      refine Calls.mono (P:=Tryz.prog) (bM.out mE _ (QIs.G HX.out fM)) ?_
      rintro e w32 ⟨rfl,nV⟩
      have ku:=G.trans ko (G.trans fM nV)
      clear ko fM nV RL HX HU bM
      go_wp2_with fail
      all_goals first|exact⟨⟨1,by omega,rfl,ku⟩,by decide⟩|exact⟨⟨2,by omega,rfl,ku⟩,by decide⟩|exact⟨⟨3,by omega,rfl,ku⟩,by decide⟩
     ·obtain⟨tt,iD⟩:∃ z,z=t9:=⟨_,rfl⟩
      obtain⟨xx,eD⟩:∃ z,z=x9:=⟨_,rfl⟩
      obtain⟨yy,eF⟩:∃ z,z=y9:=⟨_,rfl⟩
      obtain⟨uu,gY⟩:∃ z,z=GA:=⟨_,rfl⟩
      have hrr:=Rec.G HRR.out hG
      have hc0:=hrr.cell 8
      have hc1:=hrr.cell 9
      have hc2:=hrr.cell 10
      have hc3:=hrr.cell 11
      simp only[List.getElem?_cons_zero,List.getElem?_cons_succ] at hc0 hc1 hc2 hc3
      have fU:=QIs.G MR.out hG
      have gZ:=PR.G MS.out hG
      rw[← iD] at hc0
      rw[← eD] at hc1
      rw[← eF] at hc2
      rw[← gY] at hc3 gZ
      rw[← iD,← eD,← eF] at fU
      clear eD eF gY
      obtain⟨sa,sk,sc,sb,sl,sd,rfl,rfl⟩:=q3N fU
      have nN:=gZ
      obtain⟨up,rfl,-,-⟩:=nN
      have hel:=HE2.out
      obtain⟨xr,kg⟩:∃ z,z=p:=⟨_,rfl⟩
      rw[← kg] at fU gZ hel
      clear hrr iD kg
      go_wp2_with fail
      refine q1M (K:=fun wl=>Calls Tryz.prog _ _ wl _) wr [.bool tt,.slice sa sk sc,.slice sb sl sd,.pointer (some ⟨up,0,none⟩)] ?_ _
      intro wl gl hrl
      have RL:Hid (Rec wl wr.heap.size [.bool tt,.slice sa sk sc,.slice sb sl sd,.pointer (some ⟨up,0,none⟩)]):=hrl
      have HX:Hid (QIs wl (.agg #[.bool tt,.slice sa sk sc,.slice sb sl sd]) xr):=QIs.G fU gl
      have HU:Hid (PR wl (.pointer (some ⟨up,0,none⟩)) xr):=PR.G gZ gl
      have ko:=G.trans hG gl
      generalize wr.heap.size=bl at *
      clear hrl fU gZ hG gl hc0 hc1 hc2 hc3
      obtain⟨hF,nU⟩:=hel
      have bM:Hid (∀ w1 v,QIs w1 v xr→_):=nU
      clear nU
      refine Calls.mono (P:=Tryz.prog) (hF wl _ HX.out) ?_
      rintro e mE ⟨rfl,fM⟩
      clear hF
      have aj:=Rec.f4 (Rec.G RL.out (fM))
      have aQ:=aj.1
      have aR:=aj.2.1
      have aS:=aj.2.2.1
      have aT:=aj.2.2.2.1
      have aU:=aj.2.2.2.2.1
      have aV:=aj.2.2.2.2.2.1
      have aW:=aj.2.2.2.2.2.2.1
      have aX:=aj.2.2.2.2.2.2.2
      clear aj
      go_wp2_with fail
      clear aQ aR aS aT aU aV aW aX
      refine Calls.mono (P:=Tryz.prog) (bM.out mE _ (QIs.G HX.out fM)) ?_
      rintro e w32 ⟨rfl,nV⟩
      have ku:=G.trans ko (G.trans fM nV)
      clear ko fM nV RL HX HU bM
      go_wp2_with fail
      all_goals first|exact⟨⟨1,by omega,rfl,ku⟩,by decide⟩|exact⟨⟨2,by omega,rfl,ku⟩,by decide⟩|exact⟨⟨3,by omega,rfl,ku⟩,by decide⟩
     ·go_wp2_with fail
      go_ret
      exact⟨rfl,G.trans eU.out hG⟩
   ·skip
    go_loopw [94] (fun vi wr=>∃ i:Nat,i≤3∧vi= .int .i64 i∧G wb wr) (fun vi _=>(3-intOf vi).toNat)
    case atStart=>exact⟨0,by omega,rfl,G.refl _⟩
    case round=>
     obtain⟨i,hi,rfl,hG⟩:=hrel
     rcases(show i=0∨i=1∨i=2∨i=3 by omega) with rfl|rfl|rfl|rfl
     ·obtain⟨tt,iD⟩:∃ z,z=t7:=⟨_,rfl⟩
      obtain⟨xx,eD⟩:∃ z,z=x7:=⟨_,rfl⟩
      obtain⟨yy,eF⟩:∃ z,z=y7:=⟨_,rfl⟩
      obtain⟨uu,gY⟩:∃ z,z=Gy:=⟨_,rfl⟩
      have hrr:=Rec.G HRR.out hG
      have hc0:=hrr.cell 0
      have hc1:=hrr.cell 1
      have hc2:=hrr.cell 2
      have hc3:=hrr.cell 3
      simp only[List.getElem?_cons_zero,List.getElem?_cons_succ] at hc0 hc1 hc2 hc3
      have fU:=QIs.G MN.out hG
      have gZ:=PR.G MO.out hG
      rw[← iD] at hc0
      rw[← eD] at hc1
      rw[← eF] at hc2
      rw[← gY] at hc3 gZ
      rw[← iD,← eD,← eF] at fU
      clear eD eF gY
      obtain⟨sa,sk,sc,sb,sl,sd,rfl,rfl⟩:=q3N fU
      have nN:=gZ
      obtain⟨up,rfl,-,-⟩:=nN
      have hel:=MU.out
      obtain⟨xr,kg⟩:∃ z,z=q:=⟨_,rfl⟩
      rw[← kg] at fU gZ hel
      clear hrr iD kg
      go_wp2_with fail
      refine q1M (K:=fun wl=>Calls Tryz.prog _ _ wl _) wr [.bool tt,.slice sa sk sc,.slice sb sl sd,.pointer (some ⟨up,0,none⟩)] ?_ _
      intro wl gl hrl
      have RL:Hid (Rec wl wr.heap.size [.bool tt,.slice sa sk sc,.slice sb sl sd,.pointer (some ⟨up,0,none⟩)]):=hrl
      have HX:Hid (QIs wl (.agg #[.bool tt,.slice sa sk sc,.slice sb sl sd]) xr):=QIs.G fU gl
      have HU:Hid (PR wl (.pointer (some ⟨up,0,none⟩)) xr):=PR.G gZ gl
      have ko:=G.trans hG gl
      generalize wr.heap.size=bl at *
      clear hrl fU gZ hG gl hc0 hc1 hc2 hc3
      obtain⟨fv,rv,sg,ec,hF,xP,xQ,nU,hcs⟩:=hel
      have bM:Hid (∀ w1 v,QIs w1 v xr→_):=nU
      have xR:Hid (∀ w1 v,PR w1 v xr→_):=xP
      have bn:Hid (∀ w1 v,PR w1 v xr→_):=xQ
      have bC:Hid _:=hcs
      have HM:Hid (1≤m∧m≤4):=hm
      have hm1:decide (m<1)=false:=decide_eq_false (by have:=HM.out;omega)
      have hm2:decide (4<m)=false:=decide_eq_false (by have:=HM.out;omega)
      clear nU xP xQ hcs hm
      refine Calls.mono (P:=Tryz.prog) (hF wl _ HX.out) ?_
      rintro e mE ⟨rfl,fM⟩
      clear hF
      have aj:=Rec.f4 (Rec.G RL.out (fM))
      have aQ:=aj.1
      have aR:=aj.2.1
      have aS:=aj.2.2.1
      have aT:=aj.2.2.2.1
      have aU:=aj.2.2.2.2.1
      have aV:=aj.2.2.2.2.2.1
      have aW:=aj.2.2.2.2.2.2.1
      have aX:=aj.2.2.2.2.2.2.2
      clear aj
      go_wp2_with fail
      clear aQ aR aS aT aU aV aW aX
      refine Calls.mono (P:=Tryz.prog) (bM.out mE _ (QIs.G HX.out fM)) ?_
      rintro e w32 ⟨rfl,nV⟩
      have g2:=G.trans fM nV
      clear fM nV HX bM
      have aj:=Rec.f4 (Rec.G RL.out (g2))
      have aQ:=aj.1
      have aR:=aj.2.1
      have aS:=aj.2.2.1
      have aT:=aj.2.2.2.1
      have aU:=aj.2.2.2.2.1
      have aV:=aj.2.2.2.2.2.1
      have aW:=aj.2.2.2.2.2.2.1
      have aX:=aj.2.2.2.2.2.2.2
      clear aj
      go_wp2_with fail
      clear aQ aR aS aT aU aV aW aX
      refine Calls.mono (P:=Tryz.prog) (xR.out w32 _ (PR.G HU.out g2)) ?_
      rintro e CQ ⟨rfl,xS⟩
      go_wp2_with fail
      refine Calls.mono (P:=Tryz.prog) (q1v CQ fv) ?_
      rintro e CR ⟨rfl,xU⟩
      have g4:=G.trans g2 (G.trans xS xU)
      clear g2 xS xU xR
      have aj:=Rec.f4 (Rec.G RL.out (g4))
      have aQ:=aj.1
      have aR:=aj.2.1
      have aS:=aj.2.2.1
      have aT:=aj.2.2.2.1
      have aU:=aj.2.2.2.2.1
      have aV:=aj.2.2.2.2.2.1
      have aW:=aj.2.2.2.2.2.2.1
      have aX:=aj.2.2.2.2.2.2.2
      clear aj
      go_wp2_with fail
      clear aQ aR aS aT aU aV aW aX
      refine Calls.mono (P:=Tryz.prog) (bn.out CR _ (PR.G HU.out g4)) ?_
      rintro e CS ⟨rfl,xV⟩
      have g5:=G.trans g4 xV
      clear g4 xV bn
      rcases bC.out with ⟨hsg,rfl,rfl⟩|⟨hsg,rfl,xW⟩
      ·clear bC
       have bL:=G.trans ko g5
       clear ko g5 RL HU
       go_wp2_with fail
       all_goals first|exact⟨⟨1,by omega,rfl,bL⟩,by decide⟩|exact⟨⟨2,by omega,rfl,bL⟩,by decide⟩|exact⟨⟨3,by omega,rfl,bL⟩,by decide⟩
      ·clear bC
       have xX:Hid (∀ w1 v,PR w1 v xr→_):=xW
       clear xW
       have aj:=Rec.f4 (Rec.G RL.out (g5))
       have aQ:=aj.1
       have aR:=aj.2.1
       have aS:=aj.2.2.1
       have aT:=aj.2.2.2.1
       have aU:=aj.2.2.2.2.1
       have aV:=aj.2.2.2.2.2.1
       have aW:=aj.2.2.2.2.2.2.1
       have aX:=aj.2.2.2.2.2.2.2
       clear aj
       go_wp2_with fail
       clear aQ aR aS aT aU aV aW aX
       refine Calls.mono (P:=Tryz.prog) (xX.out CS _ (PR.G HU.out g5)) ?_
       rintro e CU ⟨rfl,xY⟩
       go_wp2_with fail
       refine Calls.mono (P:=Tryz.prog) (q1v CU rv) ?_
       rintro e MV ⟨rfl,xZ⟩
       have bL:=G.trans ko (G.trans g5 (G.trans xY xZ))
       clear ko g5 xY xZ RL HU xX
       go_wp2_with fail
       all_goals first|exact⟨⟨1,by omega,rfl,bL⟩,by decide⟩|exact⟨⟨2,by omega,rfl,bL⟩,by decide⟩|exact⟨⟨3,by omega,rfl,bL⟩,by decide⟩
     ·obtain⟨tt,iD⟩:∃ z,z=t8:=⟨_,rfl⟩
      obtain⟨xx,eD⟩:∃ z,z=x8:=⟨_,rfl⟩
      obtain⟨yy,eF⟩:∃ z,z=y8:=⟨_,rfl⟩
      obtain⟨uu,gY⟩:∃ z,z=Gz:=⟨_,rfl⟩
      have hrr:=Rec.G HRR.out hG
      have hc0:=hrr.cell 4
      have hc1:=hrr.cell 5
      have hc2:=hrr.cell 6
      have hc3:=hrr.cell 7
      simp only[List.getElem?_cons_zero,List.getElem?_cons_succ] at hc0 hc1 hc2 hc3
      have fU:=QIs.G MP.out hG
      have gZ:=PR.G MQ.out hG
      rw[← iD] at hc0
      rw[← eD] at hc1
      rw[← eF] at hc2
      rw[← gY] at hc3 gZ
      rw[← iD,← eD,← eF] at fU
      clear eD eF gY
      obtain⟨sa,sk,sc,sb,sl,sd,rfl,rfl⟩:=q3N fU
      have nN:=gZ
      obtain⟨up,rfl,-,-⟩:=nN
      have hel:=GD.out
      obtain⟨xr,kg⟩:∃ z,z=s:=⟨_,rfl⟩
      rw[← kg] at fU gZ hel
      clear hrr iD kg
      go_wp2_with fail
      refine q1M (K:=fun wl=>Calls Tryz.prog _ _ wl _) wr [.bool tt,.slice sa sk sc,.slice sb sl sd,.pointer (some ⟨up,0,none⟩)] ?_ _
      intro wl gl hrl
      have RL:Hid (Rec wl wr.heap.size [.bool tt,.slice sa sk sc,.slice sb sl sd,.pointer (some ⟨up,0,none⟩)]):=hrl
      have HX:Hid (QIs wl (.agg #[.bool tt,.slice sa sk sc,.slice sb sl sd]) xr):=QIs.G fU gl
      have HU:Hid (PR wl (.pointer (some ⟨up,0,none⟩)) xr):=PR.G gZ gl
      have ko:=G.trans hG gl
      generalize wr.heap.size=bl at *
      clear hrl fU gZ hG gl hc0 hc1 hc2 hc3
      obtain⟨fv,rv,sg,ec,hF,xP,xQ,nU,hcs⟩:=hel
      have bM:Hid (∀ w1 v,QIs w1 v xr→_):=nU
      have xR:Hid (∀ w1 v,PR w1 v xr→_):=xP
      have bn:Hid (∀ w1 v,PR w1 v xr→_):=xQ
      have bC:Hid _:=hcs
      have HM:Hid (1≤m∧m≤4):=hm
      have hm1:decide (m<1)=false:=decide_eq_false (by have:=HM.out;omega)
      have hm2:decide (4<m)=false:=decide_eq_false (by have:=HM.out;omega)
      clear nU xP xQ hcs hm
      refine Calls.mono (P:=Tryz.prog) (hF wl _ HX.out) ?_
      rintro e mE ⟨rfl,fM⟩
      clear hF
      have aj:=Rec.f4 (Rec.G RL.out (fM))
      have aQ:=aj.1
      have aR:=aj.2.1
      have aS:=aj.2.2.1
      have aT:=aj.2.2.2.1
      have aU:=aj.2.2.2.2.1
      have aV:=aj.2.2.2.2.2.1
      have aW:=aj.2.2.2.2.2.2.1
      have aX:=aj.2.2.2.2.2.2.2
      clear aj
      go_wp2_with fail
      clear aQ aR aS aT aU aV aW aX
      refine Calls.mono (P:=Tryz.prog) (bM.out mE _ (QIs.G HX.out fM)) ?_
      rintro e w32 ⟨rfl,nV⟩
      have g2:=G.trans fM nV
      clear fM nV HX bM
      have aj:=Rec.f4 (Rec.G RL.out (g2))
      have aQ:=aj.1
      have aR:=aj.2.1
      have aS:=aj.2.2.1
      have aT:=aj.2.2.2.1
      have aU:=aj.2.2.2.2.1
      have aV:=aj.2.2.2.2.2.1
      have aW:=aj.2.2.2.2.2.2.1
      have aX:=aj.2.2.2.2.2.2.2
      clear aj
      go_wp2_with fail
      clear aQ aR aS aT aU aV aW aX
      refine Calls.mono (P:=Tryz.prog) (xR.out w32 _ (PR.G HU.out g2)) ?_
      rintro e CQ ⟨rfl,xS⟩
      go_wp2_with fail
      refine Calls.mono (P:=Tryz.prog) (q1v CQ fv) ?_
      rintro e CR ⟨rfl,xU⟩
      have g4:=G.trans g2 (G.trans xS xU)
      clear g2 xS xU xR
      have aj:=Rec.f4 (Rec.G RL.out (g4))
      have aQ:=aj.1
      have aR:=aj.2.1
      have aS:=aj.2.2.1
      have aT:=aj.2.2.2.1
      have aU:=aj.2.2.2.2.1
      have aV:=aj.2.2.2.2.2.1
      have aW:=aj.2.2.2.2.2.2.1
      have aX:=aj.2.2.2.2.2.2.2
      clear aj
      go_wp2_with fail
      clear aQ aR aS aT aU aV aW aX
      refine Calls.mono (P:=Tryz.prog) (bn.out CR _ (PR.G HU.out g4)) ?_
      rintro e CS ⟨rfl,xV⟩
      have g5:=G.trans g4 xV
      clear g4 xV bn
      rcases bC.out with ⟨hsg,rfl,rfl⟩|⟨hsg,rfl,xW⟩
      ·clear bC
       have bL:=G.trans ko g5
       clear ko g5 RL HU
       go_wp2_with fail
       all_goals first|exact⟨⟨1,by omega,rfl,bL⟩,by decide⟩|exact⟨⟨2,by omega,rfl,bL⟩,by decide⟩|exact⟨⟨3,by omega,rfl,bL⟩,by decide⟩
      ·clear bC
       have xX:Hid (∀ w1 v,PR w1 v xr→_):=xW
       clear xW
       have aj:=Rec.f4 (Rec.G RL.out (g5))
       have aQ:=aj.1
       have aR:=aj.2.1
       have aS:=aj.2.2.1
       have aT:=aj.2.2.2.1
       have aU:=aj.2.2.2.2.1
       have aV:=aj.2.2.2.2.2.1
       have aW:=aj.2.2.2.2.2.2.1
       have aX:=aj.2.2.2.2.2.2.2
       clear aj
       go_wp2_with fail
       clear aQ aR aS aT aU aV aW aX
       refine Calls.mono (P:=Tryz.prog) (xX.out CS _ (PR.G HU.out g5)) ?_
       rintro e CU ⟨rfl,xY⟩
       go_wp2_with fail
       refine Calls.mono (P:=Tryz.prog) (q1v CU rv) ?_
       rintro e MV ⟨rfl,xZ⟩
       have bL:=G.trans ko (G.trans g5 (G.trans xY xZ))
       clear ko g5 xY xZ RL HU xX
       go_wp2_with fail
       all_goals first|exact⟨⟨1,by omega,rfl,bL⟩,by decide⟩|exact⟨⟨2,by omega,rfl,bL⟩,by decide⟩|exact⟨⟨3,by omega,rfl,bL⟩,by decide⟩
     ·obtain⟨tt,iD⟩:∃ z,z=t9:=⟨_,rfl⟩
      obtain⟨xx,eD⟩:∃ z,z=x9:=⟨_,rfl⟩
      obtain⟨yy,eF⟩:∃ z,z=y9:=⟨_,rfl⟩
      obtain⟨uu,gY⟩:∃ z,z=GA:=⟨_,rfl⟩
      have hrr:=Rec.G HRR.out hG
      have hc0:=hrr.cell 8
      have hc1:=hrr.cell 9
      have hc2:=hrr.cell 10
      have hc3:=hrr.cell 11
      simp only[List.getElem?_cons_zero,List.getElem?_cons_succ] at hc0 hc1 hc2 hc3
      have fU:=QIs.G MR.out hG
      have gZ:=PR.G MS.out hG
      rw[← iD] at hc0
      rw[← eD] at hc1
      rw[← eF] at hc2
      rw[← gY] at hc3 gZ
      rw[← iD,← eD,← eF] at fU
      clear eD eF gY
      obtain⟨sa,sk,sc,sb,sl,sd,rfl,rfl⟩:=q3N fU
      have nN:=gZ
      obtain⟨up,rfl,-,-⟩:=nN
      have hel:=HE2.out
      obtain⟨xr,kg⟩:∃ z,z=p:=⟨_,rfl⟩
      rw[← kg] at fU gZ hel
      clear hrr iD kg
      go_wp2_with fail
      refine q1M (K:=fun wl=>Calls Tryz.prog _ _ wl _) wr [.bool tt,.slice sa sk sc,.slice sb sl sd,.pointer (some ⟨up,0,none⟩)] ?_ _
      intro wl gl hrl
      have RL:Hid (Rec wl wr.heap.size [.bool tt,.slice sa sk sc,.slice sb sl sd,.pointer (some ⟨up,0,none⟩)]):=hrl
      have HX:Hid (QIs wl (.agg #[.bool tt,.slice sa sk sc,.slice sb sl sd]) xr):=QIs.G fU gl
      have HU:Hid (PR wl (.pointer (some ⟨up,0,none⟩)) xr):=PR.G gZ gl
      have ko:=G.trans hG gl
      generalize wr.heap.size=bl at *
      clear hrl fU gZ hG gl hc0 hc1 hc2 hc3
      obtain⟨fv,rv,sg,ec,hF,xP,xQ,nU,hcs⟩:=hel
      have bM:Hid (∀ w1 v,QIs w1 v xr→_):=nU
      have xR:Hid (∀ w1 v,PR w1 v xr→_):=xP
      have bn:Hid (∀ w1 v,PR w1 v xr→_):=xQ
      have bC:Hid _:=hcs
      have HM:Hid (1≤m∧m≤4):=hm
      have hm1:decide (m<1)=false:=decide_eq_false (by have:=HM.out;omega)
      have hm2:decide (4<m)=false:=decide_eq_false (by have:=HM.out;omega)
      clear nU xP xQ hcs hm
      refine Calls.mono (P:=Tryz.prog) (hF wl _ HX.out) ?_
      rintro e mE ⟨rfl,fM⟩
      clear hF
      have aj:=Rec.f4 (Rec.G RL.out (fM))
      have aQ:=aj.1
      have aR:=aj.2.1
      have aS:=aj.2.2.1
      have aT:=aj.2.2.2.1
      have aU:=aj.2.2.2.2.1
      have aV:=aj.2.2.2.2.2.1
      have aW:=aj.2.2.2.2.2.2.1
      have aX:=aj.2.2.2.2.2.2.2
      clear aj
      go_wp2_with fail
      clear aQ aR aS aT aU aV aW aX
      refine Calls.mono (P:=Tryz.prog) (bM.out mE _ (QIs.G HX.out fM)) ?_
      rintro e w32 ⟨rfl,nV⟩
      have g2:=G.trans fM nV
      clear fM nV HX bM
      have aj:=Rec.f4 (Rec.G RL.out (g2))
      have aQ:=aj.1
      have aR:=aj.2.1
      have aS:=aj.2.2.1
      have aT:=aj.2.2.2.1
      have aU:=aj.2.2.2.2.1
      have aV:=aj.2.2.2.2.2.1
      have aW:=aj.2.2.2.2.2.2.1
      have aX:=aj.2.2.2.2.2.2.2
      clear aj
      go_wp2_with fail
      clear aQ aR aS aT aU aV aW aX
      refine Calls.mono (P:=Tryz.prog) (xR.out w32 _ (PR.G HU.out g2)) ?_
      rintro e CQ ⟨rfl,xS⟩
      go_wp2_with fail
      refine Calls.mono (P:=Tryz.prog) (q1v CQ fv) ?_
      rintro e CR ⟨rfl,xU⟩
      have g4:=G.trans g2 (G.trans xS xU)
      clear g2 xS xU xR
      have aj:=Rec.f4 (Rec.G RL.out (g4))
      have aQ:=aj.1
      have aR:=aj.2.1
      have aS:=aj.2.2.1
      have aT:=aj.2.2.2.1
      have aU:=aj.2.2.2.2.1
      have aV:=aj.2.2.2.2.2.1
      have aW:=aj.2.2.2.2.2.2.1
      have aX:=aj.2.2.2.2.2.2.2
      clear aj
      go_wp2_with fail
      clear aQ aR aS aT aU aV aW aX
      refine Calls.mono (P:=Tryz.prog) (bn.out CR _ (PR.G HU.out g4)) ?_
      rintro e CS ⟨rfl,xV⟩
      have g5:=G.trans g4 xV
      clear g4 xV bn
      rcases bC.out with ⟨hsg,rfl,rfl⟩|⟨hsg,rfl,xW⟩
      ·clear bC
       have bL:=G.trans ko g5
       clear ko g5 RL HU
       go_wp2_with fail
       all_goals first|exact⟨⟨1,by omega,rfl,bL⟩,by decide⟩|exact⟨⟨2,by omega,rfl,bL⟩,by decide⟩|exact⟨⟨3,by omega,rfl,bL⟩,by decide⟩
      ·clear bC
       have xX:Hid (∀ w1 v,PR w1 v xr→_):=xW
       clear xW
       have aj:=Rec.f4 (Rec.G RL.out (g5))
       have aQ:=aj.1
       have aR:=aj.2.1
       have aS:=aj.2.2.1
       have aT:=aj.2.2.2.1
       have aU:=aj.2.2.2.2.1
       have aV:=aj.2.2.2.2.2.1
       have aW:=aj.2.2.2.2.2.2.1
       have aX:=aj.2.2.2.2.2.2.2
       clear aj
       go_wp2_with fail
       clear aQ aR aS aT aU aV aW aX
       refine Calls.mono (P:=Tryz.prog) (xX.out CS _ (PR.G HU.out g5)) ?_
       rintro e CU ⟨rfl,xY⟩
       go_wp2_with fail
       refine Calls.mono (P:=Tryz.prog) (q1v CU rv) ?_
       rintro e MV ⟨rfl,xZ⟩
       have bL:=G.trans ko (G.trans g5 (G.trans xY xZ))
       clear ko g5 xY xZ RL HU xX
       go_wp2_with fail
       all_goals first|exact⟨⟨1,by omega,rfl,bL⟩,by decide⟩|exact⟨⟨2,by omega,rfl,bL⟩,by decide⟩|exact⟨⟨3,by omega,rfl,bL⟩,by decide⟩
     ·go_wp2_with fail
      go_ret
      exact⟨rfl,G.trans eU.out hG⟩
end Go.Proofs.YtemmkninoiclfaaGreatDoor.EN
