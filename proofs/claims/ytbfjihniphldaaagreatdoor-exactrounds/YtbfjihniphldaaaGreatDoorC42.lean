/- What is proved here: the walk of the law on rounded fractions, over this seat's translation.
What is proved here: the law on rounded fractions, over this seat's translation. -/
import Derived.Test.YtbfjihniphldaaaGreatDoorC14
import Derived.Test.YtbfjihniphldaaaGreatDoorC41
import Derived.Test.YtbfjihniphldaaaGreatDoorC37
import Derived.Test.YtbfjihniphldaaaGreatDoorC7
import Derived.Test.YtbfjihniphldaaaGreatDoorC36
import GoSem.Extern.MathDim
import Derived.Test.YtbfjihniphldaaaGreatDoorC36
import Derived.Test.YtbfjihniphldaaaGreatDoorC36
import Derived.Test.YtbfjihniphldaaaGreatDoorC37
import Derived.Test.YtbfjihniphldaaaGreatDoorC36
namespace Go.Proofs.YtbfjihniphldaaaGreatDoor.EN
open Go.ChangeShapes Go.WideShapes Go.ChangeAt Go.RowKit
/-- What one fraction answers where there is no such mode. -/
def q78 (m:Int) (x:Rat):Prop:=(∀ w1 v,QIs w1 v x→Calls Tryz.prog 15 #[v,.int .i64 m] w1 fun r w'=>r= .returned (.tuple #[.float .f64 0,.int .i64 3])∧G w1 w')∧
 ∀ w1 v,QIs w1 v x→Calls Tryz.prog 16 #[v,.int .i64 m] w1 fun r w'=>r= .returned (.tuple #[.float .f64 0,.int .i64 3])∧G w1 w'
/-- What one fraction and the reference's answer in a mode. -/
def ElOk (m:Int) (x:Rat):Prop:=∃ (fv rv:Nat) (sg c:Int),(∀ w1 v,QIs w1 v x→Calls Tryz.prog 15 #[v,.int .i64 m] w1 fun r w'=>r= .returned (.tuple #[.float .f64 fv,.int .i64 0])∧G w1 w')∧
 (∀ w1 u,PR w1 u x→Calls Tryz.prog 18 #[u,.int .i64 m] w1 fun e w'=>e= .returned (.float .f64 fv)∧G w1 w')∧
 (∀ w1 u,PR w1 u x→Calls Tryz.prog 19 #[u] w1 fun e w'=>e= .returned (.int .i64 sg)∧G w1 w')∧
 (∀ w1 v,QIs w1 v x→Calls Tryz.prog 16 #[v,.int .i64 m] w1 fun r w'=>r= .returned (.tuple #[.float .f64 rv,.int .i64 c])∧G w1 w')∧
 ((sg<0∧c=3∧rv=0)∨(0≤sg∧c=0∧∀ w1 u,PR w1 u x→Calls Tryz.prog 20 #[u,.int .i64 m] w1 fun e w'=>e= .returned (.float .f64 rv)∧G w1 w'))
theorem qbh {w:World} {t:Bool} {x y:Value} {q:Rat} (h:QIs w (.agg #[.bool t,x,y]) q):∃ a k c a' k' c',x= .slice a k c∧y= .slice a' k' c':=by
 obtain⟨a,k,c,a',k',c',e,-,-⟩:=h;injection e with e;have e2:=congrArg Array.toList e;simp only[List.cons.injEq] at e2;exact⟨a,k,c,a',k',c',e2.2.1,e2.2.2.1⟩
/-- The fraction at place i of the row. -/
def q9D (wr:World) (bb i:Nat) (q s p:Rat):Prop:=∃ tt sa sk sc sb sl sd up xr,wr.cell? ⟨bb,4*i,none⟩=some (.bool tt)∧wr.cell? ⟨bb,4*i+1,none⟩=some (.slice sa sk sc)∧wr.cell? ⟨bb,4*i+2,none⟩=some (.slice sb sl sd)∧wr.cell? ⟨bb,4*i+3,none⟩=some (.pointer (some ⟨up,0,none⟩))∧
  QIs wr (.agg #[.bool tt,.slice sa sk sc,.slice sb sl sd]) xr∧PR wr (.pointer (some ⟨up,0,none⟩)) xr∧(xr=q∨xr=s∨xr=p)
theorem q9X {wb:World} {v:Value} {q s p:Rat} (h:Trio wb v q s p):∃ bb,v= .slice (some ⟨bb,0,none⟩) 3 3∧∀ wr i,G wb wr→i<3→q9D wr bb i q s p:=by
 obtain⟨b,t1,x1,y1,u1,t2,x2,y2,u2,t3,x3,y3,u3,e,hr,⟨h1,k1⟩,⟨h2,k2⟩,h3,k3⟩:=h;refine⟨b,e,fun wr i g hi=> ?_⟩;have main:∀ (t:Bool) (x y u:Value) (xr:Rat),QIs wb (.agg #[.bool t,x,y]) xr→PR wb u xr→(xr=q∨xr=s∨xr=p)→wb.cell? ⟨b,4*i,none⟩=some (.bool t)→wb.cell? ⟨b,4*i+1,none⟩=some x→wb.cell? ⟨b,4*i+2,none⟩=some y→wb.cell? ⟨b,4*i+3,none⟩=some u→q9D wr b i q s p:=fun t x y u xr hq hp hx c0 c1 c2 c3=>by
  obtain⟨sa,sk,sc,sb,sl,sd,rfl,rfl⟩:=qbh hq;have hp2:=hp;obtain⟨up,rfl,-,-⟩:=hp2;exact⟨t,sa,sk,sc,sb,sl,sd,up,xr,g.cell hr.lt c0,g.cell hr.lt c1,g.cell hr.lt c2,g.cell hr.lt c3,hq.G g,hp.G g,hx⟩
 rcases(show i=0∨i=1∨i=2 by omega) with rfl|rfl|rfl
 ·exact main t1 x1 y1 u1 q h1 k1 (Or.inl rfl) (hr.cell 0) (hr.cell 1) (hr.cell 2) (hr.cell 3)
 ·exact main t2 x2 y2 u2 s h2 k2 (Or.inr (Or.inl rfl)) (hr.cell 4) (hr.cell 5) (hr.cell 6) (hr.cell 7)
 ·exact main t3 x3 y3 u3 p h3 k3 (Or.inr (Or.inr rfl)) (hr.cell 8) (hr.cell 9) (hr.cell 10) (hr.cell 11)
theorem q4Q {K:World→Prop} (wr:World) (l:List Value) (h:∀ wl,G wr wl→Rec wl wr.heap.size l→K wl) (ty:TypeId):K (wr.alloc (.cells l.toArray ty)):=h _ ((G.refl _).alloc _) (Rec.new wr l ty)
set_option maxRecDepth 10000 in
set_option maxHeartbeats 8000000 in
theorem q5r (w:World) (a b c:Nat) (m:Int) (xa xb xc q s p:Rat) (hEl:((m<1∨4<m)∧q78 m q∧q78 m s∧q78 m p)∨((1≤m∧m≤4)∧ElOk m q∧ElOk m s∧ElOk m p))
  (nD:∀ w1,G w w1→Calls Tryz.prog 5 #[] w1 fun e w'=>e= .returned (.bool true)∧G w1 w')
  (Ll:∀ w1:World,Calls Tryz.prog 6 #[.float .f64 a] w1 fun e w'=>e= .returned (.bool true)∧G w1 w')
  (Lm:∀ w1:World,Calls Tryz.prog 6 #[.float .f64 b] w1 fun e w'=>e= .returned (.bool true)∧G w1 w')
  (Lp:∀ w1:World,Calls Tryz.prog 6 #[.float .f64 c] w1 fun e w'=>e= .returned (.bool true)∧G w1 w')
  (hb0:(FloatKind.f64.format.order b 0==some .eq)=false)
  (Bc:∀ w1,G w w1→Calls Tryz.prog 7 #[.float .f64 a] w1 (q2K w1 xa 0))
  (hOb:∀ w1,G w w1→Calls Tryz.prog 7 #[.float .f64 b] w1 (q2K w1 xb 0))
  (Bd:∀ w1,G w w1→Calls Tryz.prog 7 #[.float .f64 c] w1 (q2K w1 xc 0))
  (hQ:∀ w1 v u,G w w1→QIs w1 v xa→QIs w1 u xb→Calls Tryz.prog 8 #[v,u] w1 (q2K w1 q 0))
  (Be:∀ w1:World,Calls Tryz.prog 10 #[.float .f64 a] w1 (RetP w1 xa))
  (hRb:∀ w1:World,Calls Tryz.prog 10 #[.float .f64 b] w1 (RetP w1 xb))
  (Bf:∀ w1:World,Calls Tryz.prog 10 #[.float .f64 c] w1 (RetP w1 xc))
  (Lr:∀ w1 bz px py,Rec w1 bz [.bool false,.slice none 0 0,.bool false,.slice none 0 0]→px<w1.heap.size→py<w1.heap.size→RIs w1 px xa→RIs w1 py xb→Calls Tryz.prog 9 #[.pointer (some ⟨bz,0,none⟩),.pointer (some ⟨px,0,none⟩),.pointer (some ⟨py,0,none⟩)] w1 (SetRat w1 bz q))
  (Ls:∀ w1 v u,G w w1→QIs w1 v q→QIs w1 u xc→Calls Tryz.prog 11 #[v,u] w1 (RetQ w1 s))
  (Lt:∀ w1 v u,G w w1→QIs w1 v xa→QIs w1 u xb→Calls Tryz.prog 13 #[v,u] w1 (RetQ w1 p))
  (Lu:∀ w1 bz px py,bz<w1.heap.size→px<w1.heap.size→py<w1.heap.size→RatIs w1 bz 0 0→RIs w1 px q→RIs w1 py xc→Calls Tryz.prog 12 #[.pointer (some ⟨bz,0,none⟩),.pointer (some ⟨px,0,none⟩),.pointer (some ⟨py,0,none⟩)] w1 (SetRat w1 bz s))
  (Lv:∀ w1 bz px py,bz<w1.heap.size→px<w1.heap.size→py<w1.heap.size→RatIs w1 bz 0 0→RIs w1 px xa→RIs w1 py xb→Calls Tryz.prog 14 #[.pointer (some ⟨bz,0,none⟩),.pointer (some ⟨px,0,none⟩),.pointer (some ⟨py,0,none⟩)] w1 (SetRat w1 bz p)):
  Calls Tryz.prog 3 #[.float .f64 a,.float .f64 b,.float .f64 c,.int .i64 m] w fun r w'=>r= .returned (.bool true)∧G w w':=by
 have HT3:Hid (∀ w1,G w w1→_):=nD;have ui:Hid (∀ w1:World,_):=Ll;have wm:Hid (∀ w1:World,_):=Lm;have Ar:Hid (∀ w1:World,_):=Lp;have Lx:Hid (∀ w1,G w w1→_):=Bc;have LC:Hid (∀ w1,G w w1→_):=hOb;have LD:Hid (∀ w1,G w w1→_):=Bd;have HQ:Hid (∀ w1 v u,G w w1→_):=hQ;have Bh:Hid (∀ w1:World,_):=Be;have Bi:Hid (∀ w1:World,_):=hRb;have LF:Hid (∀ w1:World,_):=Bf;have oF:Hid (∀ (w1:World) (bz px py:Nat),_):=Lr;have Bj:Hid (∀ w1 v u,G w w1→_):=Ls;have LG:Hid (∀ w1 v u,G w w1→_):=Lt;have jk:Hid (∀ (w1:World) (bz px py:Nat),_):=Lu;have LH:Hid (∀ (w1:World) (bz px py:Nat),_):=Lv;clear Ls Lt Lu Lv;clear nD Ll Lm Lp Bc hOb Bd hQ Be hRb Bf Lr;go_enter Tryz.func3,Tryz.ntmps3;go_wp2_with fail;refine q00 (HT3.out _ (G.refl _)) ?_;rintro e w1 ⟨rfl,g1⟩;go_wp2_with fail;refine q00 (ui.out _) ?_;rintro e w2 ⟨rfl,g2⟩;go_wp2_with fail;refine q00 (wm.out _) ?_;rintro e w3 ⟨rfl,g3⟩;go_wp2_with fail;refine q00 (Ar.out _) ?_;rintro e w4 ⟨rfl,g4⟩;have Gw:=G.trans g1 (G.trans g2 (G.trans g3 g4));clear g1 g2 g3 g4;go_wp2_with fail;refine q00 (Lx.out w4 Gw) ?_;intro e1 w5 hs;obtain⟨v,rfl,g5,hv⟩:=hs;have HV5:Hid (QIs w5 v xa):=hv;obtain⟨a1,k1,d1,a2,k2,d2,rfl,-,-⟩:=hv;generalize decide (xa.num<0)=t1 at *;go_wp2_with fail;obtain⟨w6,aK,g6,OG,R0⟩:=q0y w5 [.bool t1,.slice a1 k1 d1,.slice a2 k2 d2] 30;rw[aK];clear aK;have Gx:=G.trans Gw (G.trans g5 g6);have LJ:Hid (QIs w6 (.agg #[.bool t1,.slice a1 k1 d1,.slice a2 k2 d2]) xa):=QIs.G HV5.out g6
 have RX:Hid (Rec w6 w5.heap.size [.bool t1,.slice a1 k1 d1,.slice a2 k2 d2]):=R0.out;generalize w5.heap.size=bx at *;clear R0 HV5 g5 g6 Gw OG;refine q00 (LC.out w6 Gx) ?_;intro e1 w7 hs;obtain⟨v,rfl,g7,hv⟩:=hs;have LK:Hid (QIs w7 v xb):=hv;obtain⟨a3,k3,d3,a4,k4,d4,rfl,-,-⟩:=hv;generalize decide (xb.num<0)=t2 at *;go_wp2_with fail;obtain⟨w8,aK,g8,OH,R0⟩:=q0y w7 [.bool t2,.slice a3 k3 d3,.slice a4 k4 d4] 30;rw[aK];clear aK;have Fx:=G.trans g7 g8;have Gy:=G.trans Gx Fx;have LM:Hid (QIs w8 (.agg #[.bool t2,.slice a3 k3 d3,.slice a4 k4 d4]) xb):=QIs.G LK.out g8;have LP:Hid (QIs w8 (.agg #[.bool t1,.slice a1 k1 d1,.slice a2 k2 d2]) xa):=QIs.G LJ.out Fx;have RY:Hid (Rec w8 w7.heap.size [.bool t2,.slice a3 k3 d3,.slice a4 k4 d4]):=R0.out;have Gz:Hid (Rec w8 bx [.bool t1,.slice a1 k1 d1,.slice a2 k2 d2]):=Rec.G RX.out Fx;generalize w7.heap.size=b2 at *;clear R0 RX LJ LK g7 g8 Gx OH Fx;refine q00 (LD.out w8 Gy) ?_;intro e1 w9 hs;obtain⟨v,rfl,g9,hv⟩:=hs;have LU:Hid (QIs w9 v xc):=hv;obtain⟨a5,k5,d5,a6,k6,d6,rfl,-,-⟩:=hv;generalize decide (xc.num<0)=t3 at *;obtain⟨uK,uL,uM,uN,uO,uP⟩:=Rec.f3 (Rec.G Gz.out (G.alloc g9 (.cells #[.bool t3,.slice a5 k5 d5,.slice a6 k6 d6] 30)));obtain⟨qM,qN,qO,qP,qQ,qR⟩:=Rec.f3 (Rec.G RY.out (G.alloc g9 (.cells #[.bool t3,.slice a5 k5 d5,.slice a6 k6 d6] 30)));go_wp2_with fail;clear uK uL uM uN uO uP qM qN qO qP qQ qR;obtain⟨aR,aK,g10,GA,R0⟩:=q0y w9 [.bool t3,.slice a5 k5 d5,.slice a6 k6 d6] 30;rw[aK];clear aK;have pE:=G.trans g9 g10;have uQ:=G.trans Gy pE
 have aY:Hid (QIs aR (.agg #[.bool t3,.slice a5 k5 d5,.slice a6 k6 d6]) xc):=QIs.G LU.out g10;have aU:Hid (QIs aR (.agg #[.bool t2,.slice a3 k3 d3,.slice a4 k4 d4]) xb):=QIs.G LM.out pE;have dM:Hid (QIs aR (.agg #[.bool t1,.slice a1 k1 d1,.slice a2 k2 d2]) xa):=QIs.G LP.out pE;have RZ:Hid (Rec aR w9.heap.size [.bool t3,.slice a5 k5 d5,.slice a6 k6 d6]):=R0.out;have RX:Hid (Rec aR bx [.bool t1,.slice a1 k1 d1,.slice a2 k2 d2]):=Rec.G Gz.out pE;have GD:Hid (Rec aR b2 [.bool t2,.slice a3 k3 d3,.slice a4 k4 d4]):=Rec.G RY.out pE;generalize w9.heap.size=bz at *;clear R0 Gz RY LM LP LU g9 g10 Gy GA pE;refine q00 (HQ.out aR _ _ uQ dM.out aU.out) ?_;intro e1 dH hs;obtain⟨v,rfl,g11,hv⟩:=hs;have Bl:Hid (QIs dH v q):=hv;obtain⟨a7,k7,d7,a8,k8,d8,rfl,-,-⟩:=hv;generalize decide (q.num<0)=t4 at *;go_wp2_with fail;obtain⟨fT,aK,g12,GG,R0,R1⟩:=q3Z dH [.bool t4,.slice a7 k7 d7,.slice a8 k8 d8] [.bool false,.slice none 0 0,.bool false,.slice none 0 0] 30 40;rw[aK];clear aK;have iW:=G.trans g11 g12;have Bn:=G.trans uQ iW;have iI:Hid (QIs fT (.agg #[.bool t3,.slice a5 k5 d5,.slice a6 k6 d6]) xc):=QIs.G aY.out iW;have iJ:Hid (QIs fT (.agg #[.bool t2,.slice a3 k3 d3,.slice a4 k4 d4]) xb):=QIs.G aU.out iW;have jq:Hid (QIs fT (.agg #[.bool t1,.slice a1 k1 d1,.slice a2 k2 d2]) xa):=QIs.G dM.out iW;have ic:Hid (QIs fT (.agg #[.bool t4,.slice a7 k7 d7,.slice a8 k8 d8]) q):=QIs.G Bl.out g12;have Bo:Hid (Rec fT bx [.bool t1,.slice a1 k1 d1,.slice a2 k2 d2]):=Rec.G RX.out iW
 have Bp:Hid (Rec fT b2 [.bool t2,.slice a3 k3 d3,.slice a4 k4 d4]):=Rec.G GD.out iW;have Bq:Hid (Rec fT bz [.bool t3,.slice a5 k5 d5,.slice a6 k6 d6]):=Rec.G RZ.out iW;have Br:Hid (Rec fT dH.heap.size [.bool t4,.slice a7 k7 d7,.slice a8 k8 d8]):=R0.out;have uR:Hid (Rec fT (dH.heap.size+1) [.bool false,.slice none 0 0,.bool false,.slice none 0 0]):=R1.out;have hrn:w.heap.size≤dH.heap.size+1:=by have:=uQ.size;have:=g11.size;omega
 have hr2:dH.heap.size≠dH.heap.size+1∧bx≠dH.heap.size+1∧b2≠dH.heap.size+1∧bz≠dH.heap.size+1:=by have:=g11.size;have:=RX.out.lt;have:=GD.out.lt;have:=RZ.out.lt;omega
 have HR2:Hid _:=hr2;clear hr2;clear R0 R1 RX GD RZ dM aU aY Bl g11 g12 iW uQ GG;generalize dH.heap.size+1=br at *;generalize dH.heap.size=bq at *;refine q00 (Bh.out fT) ?_;rintro e kV ⟨v,rfl,g13,hp⟩;obtain⟨pa,rfl,ha1,ha2⟩:=hp;have Fy:Hid (pa<kV.heap.size∧RIs kV pa xa):=⟨ha1,ha2⟩;clear ha1 ha2;go_wp2_with fail;refine q00 (Bi.out kV) ?_;rintro e uk ⟨v,rfl,g14,hp⟩;obtain⟨pb,rfl,hb1,hb2⟩:=hp;have iO:=G.trans g13 g14;have Bt:Hid _:=oF.out uk br pa pb (Rec.G uR.out iO) (G.lt g14 Fy.out.1) hb1 (RIs.G Fy.out.2 Fy.out.1 g14) hb2;have hbr:=(Rec.G uR.out iO).lt;clear hb1 hb2 Fy g13 g14 oF;go_wp2_with fail;refine q00 Bt.out ?_;intro e kL hs;obtain⟨rfl,g15,Bu⟩:=hs;have Bv:G w kL:=GX.fresh (G.trans Bn iO) g15 hrn;have gx:=g15;have rb:=Rec.G uR.out iO;have Bw:Hid (QIs kL (.agg #[.bool t3,.slice a5 k5 d5,.slice a6 k6 d6]) xc):=QIs.gx (QIs.G iI.out iO) rb q2r gx;have Bz:Hid (QIs kL (.agg #[.bool t2,.slice a3 k3 d3,.slice a4 k4 d4]) xb):=QIs.gx (QIs.G iJ.out iO) rb q2r gx;have BA:Hid (QIs kL (.agg #[.bool t1,.slice a1 k1 d1,.slice a2 k2 d2]) xa):=QIs.gx (QIs.G jq.out iO) rb q2r gx;have kW:Hid (QIs kL (.agg #[.bool t4,.slice a7 k7 d7,.slice a8 k8 d8]) q):=QIs.gx (QIs.G ic.out iO) rb q2r gx;have RX:Hid (Rec kL bx [.bool t1,.slice a1 k1 d1,.slice a2 k2 d2]):=Rec.gx (Rec.G Bo.out iO) HR2.out.2.1 gx;have RY:Hid (Rec kL b2 [.bool t2,.slice a3 k3 d3,.slice a4 k4 d4]):=Rec.gx (Rec.G Bp.out iO) HR2.out.2.2.1 gx
 have RZ:Hid (Rec kL bz [.bool t3,.slice a5 k5 d5,.slice a6 k6 d6]):=Rec.gx (Rec.G Bq.out iO) HR2.out.2.2.2 gx;have RQ:Hid (Rec kL bq [.bool t4,.slice a7 k7 d7,.slice a8 k8 d8]):=Rec.gx (Rec.G Br.out iO) HR2.out.1 gx;have GH:Hid (PR kL (.pointer (some ⟨br,0,none⟩)) q):=⟨br,rfl,Nat.lt_of_lt_of_le hbr g15.size,Bu⟩;have Au:Hid (G w kL):=Bv;clear iI iJ jq ic Bo Bp Bq Br uR HR2 rb gx g15 Bu Bn iO Bv hrn hbr Bt;go_wp2_with fail;obtain⟨vq,GI⟩:∃ v,v=Value.agg #[.bool t4,.slice a7 k7 d7,.slice a8 k8 d8]:=⟨_,rfl⟩;have uS:Hid (QIs kL (.agg #[.bool t4,.slice a7 k7 d7,.slice a8 k8 d8]) q):=kW.out;rw[← GI] at kW;have Fz:Hid (vq=Value.agg #[.bool t4,.slice a7 k7 d7,.slice a8 k8 d8]):=GI;clear GI Lx LC LD HQ ui wm Ar HT3;refine RV.region_inv 25 0 #[true,true,true,true,true,true,true,true,true,true,true,true,true,true,true,true,true,true,true,true,true,true,true,true,true] [some 70,some 71,some 72,some 73,some 74,some 75,some 76,some 77,some 78,some 79,some 80,some 81,some 82,some 83,some 84,some 85,some 86,some 87,some 88,some 89,some 90,some 91,some 92,some 93,some 94] (RI (RP vq (.pointer (some ⟨br,0,none⟩)) (.agg #[.bool t1,.slice a1 k1 d1,.slice a2 k2 d2]) (.agg #[.bool t2,.slice a3 k3 d3,.slice a4 k4 d4]) (.agg #[.bool t3,.slice a5 k5 d5,.slice a6 k6 d6]) (.agg #[.bool t4,.slice a7 k7 d7,.slice a8 k8 d8,.pointer (some ⟨br,0,none⟩)]) a b c xa xb xc q s p) kL) (by kernel_rfl) (by kernel_rfl) rfl (by kernel_rfl) (by kernel_rfl) ?_ ?_
 ·intro f;exact⟨(G.refl _).drew,fun j h=>(by cases h),fun h=>(by cases h),fun h=>(by cases h),fun h=>(by cases h),fun h=>(by cases h),fun h=>(by cases h)⟩
 ·intro A hA;simp only[List.range,List.range.loop,List.map_cons,List.map_nil,q0W,Act.put,List.setIfInBounds_toArray,List.set_cons_zero,List.set_cons_succ] at hA;refine⟨?_,?_⟩
  ·skip
   refine RV.Ones.cons rfl ?_ ?_
   ·intro L f W hI hL hD K hK;rw[hA f] at hK ⊢;obtain⟨xh,xk,xm,xq,xu,xw⟩:=Rec.f3 (Rec.G RQ.out (hI.g));go_simp;exact hK.out _ _ ⟨_,rfl,RI.step hI 0 _ (by decide) (by decide) (G.refl _) (RP.g (G.refl _)) Fz.out.symm⟩
   refine RV.Ones.cons rfl ?_ ?_
   ·intro L f W hI hL hD K hK;rw[hA f] at hK ⊢;go_simp;exact hK.out _ _ ⟨_,rfl,RI.step hI 1 _ (by decide) (by decide) (G.refl _) (RP.g (G.refl _)) rfl⟩
   refine RV.Ones.cons rfl ?_ ?_
   ·intro L f W hI hL hD K hK;rw[hA f] at hK ⊢;have e0:f 0=vq:=hI.held 0 (hD 0 (by kernel_rfl));have e1:f 1= .pointer (some ⟨br,0,none⟩):=hI.held 1 (hD 1 (by kernel_rfl));rw[Fz.out] at e0;rw[e0,e1] at hK ⊢;clear e0 e1 hD;go_simp;exact hK.out _ _ ⟨_,rfl,RI.step hI 2 _ (by decide) (by decide) (G.refl _) (RP.g (G.refl _)) rfl⟩
   refine RV.Ones.cons rfl ?_ ?_
   ·intro L f W hI hL hD K hK;rw[hA f] at hK ⊢;obtain⟨xh,xk,xm,xq,xu,xw⟩:=Rec.f3 (Rec.G RQ.out (hI.g));go_simp;exact hK.out _ _ ⟨_,rfl,RI.step hI 3 _ (by decide) (by decide) (G.refl _) (RP.g (G.refl _)) Fz.out.symm⟩
   refine RV.Ones.cons rfl ?_ ?_
   ·intro L f W hI hL hD K hK;rw[hA f] at hK ⊢;obtain⟨GJ,GK,GL,GM,GN,GQ⟩:=Rec.f3 (Rec.G RZ.out (hI.g));go_simp;exact hK.out _ _ ⟨_,rfl,RI.step hI 4 _ (by decide) (by decide) (G.refl _) (RP.g (G.refl _)) rfl⟩
   refine RV.Ones.cons rfl ?_ ?_
   ·intro L f W hI hL hD K hK;rw[hA f] at hK ⊢;have e3:f 3=vq:=hI.held 3 (hD 3 (by kernel_rfl));have e4:f 4= .agg #[.bool t3,.slice a5 k5 d5,.slice a6 k6 d6]:=hI.held 4 (hD 4 (by kernel_rfl));rw[e3,e4] at hK ⊢;clear e3 e4 hD;go_simp;go_wp2_with (go_at_call 11;refine q00 (Bj.out W _ _ (G.trans Au.out hI.g) (QIs.G kW.out hI.g) (QIs.G Bw.out hI.g)) ?_;intro e w9 hs;obtain⟨u9,rfl,g9,aL⟩:=hs);exact hK.out _ _ ⟨_,rfl,RI.step hI 5 _ (by decide) (by decide) g9 (RP.g g9) aL⟩
   refine RV.Ones.cons rfl ?_ ?_
   ·intro L f W hI hL hD K hK;rw[hA f] at hK ⊢;go_simp;exact hK.out _ _ ⟨_,rfl,RI.mk6 hI _ (RP.g ((G.refl W).alloc _)) (fun _ _=>trivial)⟩
   refine RV.Ones.cons rfl ?_ ?_
   ·intro L f W hI hL hD K hK;rw[hA f] at hK ⊢;go_simp;exact hK.out _ _ ⟨_,rfl,RI.step hI 7 _ (by decide) (by decide) (G.refl _) (RP.g (G.refl _)) rfl⟩
   refine RV.Ones.cons rfl ?_ ?_
   ·intro L f W hI hL hD K hK;rw[hA f] at hK ⊢;go_simp;exact hK.out _ _ ⟨_,rfl,RI.step hI 8 _ (by decide) (by decide) (G.refl _) (RP.g (G.refl _)) rfl⟩
   refine RV.Ones.cons rfl ?_ ?_
   ·intro L f W hI hL hD K hK;rw[hA f] at hK ⊢;have e8:f 8= .float .f64 c:=hI.held 8 (hD 8 (by kernel_rfl));rw[e8] at hK ⊢;clear e8 hD;go_simp;go_wp2_with (go_at_call 10;refine q00 (LF.out W) ?_;intro e w9 hs;obtain⟨u9,rfl,g9,aL⟩:=hs);exact hK.out _ _ ⟨_,rfl,RI.step hI 9 _ (by decide) (by decide) g9 (RP.g g9) aL⟩
   refine RV.Ones.cons rfl ?_ ?_
   ·intro L f W hI hL hD K hK;rw[hA f] at hK ⊢;have hc:L 6=true:=hD 6 (by kernel_rfl);obtain⟨bk,ek,hk⟩:=hI.raw6 hc hL;have e7:f 7= .pointer (some ⟨br,0,none⟩):=hI.held 7 (hD 7 (by kernel_rfl));have h9:PR W (f 9) xc:=hI.held 9 (hD 9 (by kernel_rfl));obtain⟨py,ey,hy1,hy2⟩:=h9;obtain⟨px,ex,hx1,hx2⟩:=GH.out.G hI.g;injection ex with ex;injection ex with ex;injection ex with ex;subst ex;have ef:=ek;rw[ek,e7,ey] at hK ⊢;have hq:=hk.lt;have HS:Hid _:=jk.out W bk _ py hq hx1 hy1 (q9C hk) hx2 hy2;have GR:Hid (Rec W bk raw):=hk;clear hk hx1 hy1 hx2 hy2 hD ek ey e7;go_simp;go_wp2_with (go_at_call 12;refine q00 HS.out ?_;intro e w9 hs;obtain⟨rfl,g9,aL⟩:=hs);exact hK.out _ _ ⟨_,rfl,RI.wr10 hI _ hc ef g9 (RP.gx GR.out g9) ⟨bk,rfl,Nat.lt_of_lt_of_le hq g9.size,aL⟩⟩
   refine RV.Ones.cons rfl ?_ ?_
   ·intro L f W hI hL hD K hK;rw[hA f] at hK ⊢;have h5:QIs W (f 5) s:=hI.held 5 (hD 5 (by kernel_rfl));have h10:PR W (f 10) s:=hI.held 10 (hD 10 (by kernel_rfl));have HJ:Hid (QIs W (f 5) s):=h5;have iP:Hid (PR W (f 10) s):=h10;obtain⟨y1,y2,y3,y4,y5,y6,e1,-,-⟩:=h5;obtain⟨pk,e2,-,-⟩:=h10;generalize decide (s.num<0)=t5 at *;rw[e1] at HJ;rw[e2] at iP;rw[e1,e2] at hK ⊢;clear hD e1 e2;go_simp;exact hK.out _ _ ⟨_,rfl,RI.step hI 11 _ (by decide) (by decide) (G.refl _) (RP.g (G.refl _)) ⟨_,_,_,_,rfl,HJ.out,iP.out⟩⟩
   refine RV.Ones.cons rfl ?_ ?_
   ·intro L f W hI hL hD K hK;rw[hA f] at hK ⊢;obtain⟨GU,GV,GY,GZ,H7,H8⟩:=Rec.f3 (Rec.G RX.out (hI.g));go_simp;exact hK.out _ _ ⟨_,rfl,RI.step hI 12 _ (by decide) (by decide) (G.refl _) (RP.g (G.refl _)) rfl⟩
   refine RV.Ones.cons rfl ?_ ?_
   ·intro L f W hI hL hD K hK;rw[hA f] at hK ⊢;obtain⟨qM,qN,qO,qP,qQ,qR⟩:=Rec.f3 (Rec.G RY.out (hI.g));go_simp;exact hK.out _ _ ⟨_,rfl,RI.step hI 13 _ (by decide) (by decide) (G.refl _) (RP.g (G.refl _)) rfl⟩
   refine RV.Ones.cons rfl ?_ ?_
   ·intro L f W hI hL hD K hK;rw[hA f] at hK ⊢;have e12:f 12= .agg #[.bool t1,.slice a1 k1 d1,.slice a2 k2 d2]:=hI.held 12 (hD 12 (by kernel_rfl));have e13:f 13= .agg #[.bool t2,.slice a3 k3 d3,.slice a4 k4 d4]:=hI.held 13 (hD 13 (by kernel_rfl));rw[e12,e13] at hK ⊢;clear e12 e13 hD;go_simp;go_wp2_with (go_at_call 13;refine q00 (LG.out W _ _ (G.trans Au.out hI.g) (QIs.G BA.out hI.g) (QIs.G Bz.out hI.g)) ?_;intro e w9 hs;obtain⟨u9,rfl,g9,aL⟩:=hs);exact hK.out _ _ ⟨_,rfl,RI.step hI 14 _ (by decide) (by decide) g9 (RP.g g9) aL⟩
   refine RV.Ones.cons rfl ?_ ?_
   ·intro L f W hI hL hD K hK;rw[hA f] at hK ⊢;go_simp;exact hK.out _ _ ⟨_,rfl,RI.mk15 hI _ (RP.g ((G.refl W).alloc _)) (fun _ _=>trivial)⟩
   refine RV.Ones.cons rfl ?_ ?_
   ·intro L f W hI hL hD K hK;rw[hA f] at hK ⊢;go_simp;exact hK.out _ _ ⟨_,rfl,RI.step hI 16 _ (by decide) (by decide) (G.refl _) (RP.g (G.refl _)) rfl⟩
   refine RV.Ones.cons rfl ?_ ?_
   ·intro L f W hI hL hD K hK;rw[hA f] at hK ⊢;have e16:f 16= .float .f64 a:=hI.held 16 (hD 16 (by kernel_rfl));rw[e16] at hK ⊢;clear e16 hD;go_simp;go_wp2_with (go_at_call 10;refine q00 (Bh.out W) ?_;intro e w9 hs;obtain⟨u9,rfl,g9,aL⟩:=hs);exact hK.out _ _ ⟨_,rfl,RI.step hI 17 _ (by decide) (by decide) g9 (RP.g g9) aL⟩
   refine RV.Ones.cons rfl ?_ ?_
   ·intro L f W hI hL hD K hK;rw[hA f] at hK ⊢;go_simp;exact hK.out _ _ ⟨_,rfl,RI.step hI 18 _ (by decide) (by decide) (G.refl _) (RP.g (G.refl _)) rfl⟩
   refine RV.Ones.cons rfl ?_ ?_
   ·intro L f W hI hL hD K hK;rw[hA f] at hK ⊢;have e18:f 18= .float .f64 b:=hI.held 18 (hD 18 (by kernel_rfl));rw[e18] at hK ⊢;clear e18 hD;go_simp;go_wp2_with (go_at_call 10;refine q00 (Bi.out W) ?_;intro e w9 hs;obtain⟨u9,rfl,g9,aL⟩:=hs);exact hK.out _ _ ⟨_,rfl,RI.step hI 19 _ (by decide) (by decide) g9 (RP.g g9) aL⟩
   refine RV.Ones.cons rfl ?_ ?_
   ·intro L f W hI hL hD K hK;rw[hA f] at hK ⊢;have hc:L 15=true:=hD 15 (by kernel_rfl);obtain⟨bk,ek,hk⟩:=hI.raw15 hc hL;have OI:PR W (f 17) xa:=hI.held 17 (hD 17 (by kernel_rfl));have h19:PR W (f 19) xb:=hI.held 19 (hD 19 (by kernel_rfl));obtain⟨px,ex,hx1,hx2⟩:=OI;obtain⟨py,ey,hy1,hy2⟩:=h19;have ef:=ek;rw[ek,ex,ey] at hK ⊢;have hq:=hk.lt;have HS:Hid _:=LH.out W bk _ py hq hx1 hy1 (q9C hk) hx2 hy2;have GR:Hid (Rec W bk raw):=hk;clear hk hx1 hy1 hx2 hy2 hD ek ey ex;go_simp;go_wp2_with (go_at_call 14;refine q00 HS.out ?_;intro e w9 hs;obtain⟨rfl,g9,aL⟩:=hs);exact hK.out _ _ ⟨_,rfl,RI.wr20 hI _ hc ef g9 (RP.gx GR.out g9) ⟨bk,rfl,Nat.lt_of_lt_of_le hq g9.size,aL⟩⟩
   refine RV.Ones.cons rfl ?_ ?_
   ·intro L f W hI hL hD K hK;rw[hA f] at hK ⊢;have LV:QIs W (f 14) p:=hI.held 14 (hD 14 (by kernel_rfl));have h20:PR W (f 20) p:=hI.held 20 (hD 20 (by kernel_rfl));have HJ:Hid (QIs W (f 14) p):=LV;have iP:Hid (PR W (f 20) p):=h20;obtain⟨y1,y2,y3,y4,y5,y6,e1,-,-⟩:=LV;obtain⟨pk,e2,-,-⟩:=h20;generalize decide (p.num<0)=t5 at *;rw[e1] at HJ;rw[e2] at iP;rw[e1,e2] at hK ⊢;clear hD e1 e2;go_simp;exact hK.out _ _ ⟨_,rfl,RI.step hI 21 _ (by decide) (by decide) (G.refl _) (RP.g (G.refl _)) ⟨_,_,_,_,rfl,HJ.out,iP.out⟩⟩
   refine RV.Ones.cons rfl ?_ ?_
   ·intro L f W hI hL hD K hK;rw[hA f] at hK ⊢;have e2:f 2= .agg #[.bool t4,.slice a7 k7 d7,.slice a8 k8 d8,.pointer (some ⟨br,0,none⟩)]:=hI.held 2 (hD 2 (by kernel_rfl));have h11:∃ t x y u,f 11= .agg #[.bool t,x,y,u]∧QIs W (.agg #[.bool t,x,y]) s∧PR W u s:=hI.held 11 (hD 11 (by kernel_rfl));have h21:∃ t x y u,f 21= .agg #[.bool t,x,y,u]∧QIs W (.agg #[.bool t,x,y]) p∧PR W u p:=hI.held 21 (hD 21 (by kernel_rfl));obtain⟨t5,x5,y5,u5,e11,hx5,LY⟩:=h11;obtain⟨t6,x6,y6,u6,e21,hx6,LZ⟩:=h21;have OJ:Hid (QIs W (.agg #[.bool t5,x5,y5]) s):=hx5;have OL:Hid (QIs W (.agg #[.bool t6,x6,y6]) p):=hx6;have OM:Hid (PR W u5 s):=LY;have OO:Hid (PR W u6 p):=LZ;rw[e2,e11,e21] at hK ⊢;clear e2 e11 e21 hD hx5 hx6 LY LZ;go_simp;exact hK.out _ _ ⟨_,rfl,RI.step hI 22 _ (by decide) (by decide) ((G.refl W).alloc _) (RP.g ((G.refl W).alloc _)) ⟨W.heap.size,_,_,_,_,_,_,_,_,_,_,_,_,rfl,Rec.new W [.bool t4,.slice a7 k7 d7,.slice a8 k8 d8,.pointer (some ⟨br,0,none⟩),.bool t5,x5,y5,u5,.bool t6,x6,y6,u6] _,⟨QIs.G uS.out (hI.g.alloc _),PR.G GH.out (hI.g.alloc _)⟩,⟨QIs.G OJ.out ((G.refl W).alloc _),PR.G OM.out ((G.refl W).alloc _)⟩,QIs.G OL.out ((G.refl W).alloc _),PR.G OO.out ((G.refl W).alloc _)⟩⟩
   refine RV.Ones.cons rfl ?_ ?_
   ·intro L f W hI hL hD K hK;rw[hA f] at hK ⊢;have h22:Trio W (f 22) q s p:=hI.held 22 (hD 22 (by kernel_rfl));obtain⟨bb,t5,x5,y5,u5,t6,x6,y6,u6,t7,x7,y7,u7,e22,-⟩:=h22;rw[e22] at hK ⊢;clear e22 hD;go_simp;exact hK.out _ _ ⟨_,rfl,RI.step hI 23 _ (by decide) (by decide) (G.refl _) (RP.g (G.refl _)) rfl⟩
   refine RV.Ones.cons rfl ?_ ?_
   ·intro L f W hI hL hD K hK;rw[hA f] at hK ⊢;go_simp;exact hK.out _ _ ⟨_,rfl,RI.step hI 24 _ (by decide) (by decide) (G.refl _) (RP.g (G.refl _)) rfl⟩
   exact RV.Ones.nil
  ·intro f L wb hI hL;have hT:Trio wb (f 22) q s p:=hI.held 22 (hL 22 (by decide));have e23:f 23= .int .i64 3:=hI.held 23 (hL 23 (by decide));have e24:f 24= .int .i64 0:=hI.held 24 (hL 24 (by decide));obtain⟨bb,e22,ht⟩:=q9X hT;have ql:Hid (G w wb):=G.trans Au.out hI.g;have HT:Hid _:=ht;rw[hA f,e22,e23,e24];generalize f 0=r0,f 1=r1,f 2=r2,f 3=r3,f 4=r4,f 5=r5,f 6=r6,f 7=r7,f 8=r8,f 9=r9,f 10=TL,f 11=TM,f 12=TN,f 13=TP,f 14=TQ,f 15=TR,f 16=r16,f 17=TS,f 18=TT,f 19=TU,f 20=TV,f 21=TW;clear hI hL hA e22 e23 e24 hT ht Fz uS GH RX RY RZ RQ BA Bz Bw kW Au jk LH Bj LG Bh Bi LF;have OP:Hid _:=hEl;clear hEl;refine wpAny_done (by kernel_rfl) ?_ _;go_wp2_with fail
   go_loopw [94] (fun vi wr=>∃ i:Nat,i≤3∧vi= .int .i64 i∧G wb wr) (fun vi _=>(3-intOf vi).toNat)
   case atStart=>exact⟨0,by omega,rfl,G.refl _⟩
   case round=>
    obtain⟨i,hi,rfl,hG⟩:=hrel;by_cases h3:i=3
    ·subst h3;go_wp2_with fail;go_ret;exact⟨rfl,G.trans ql.out hG⟩
    ·obtain⟨tt,sa,sk,sc,sb,sl,sd,up,xr,hc0,hc1,hc2,hc3,uT,FB,hx⟩:=HT.out wr i hG (by omega);have hel:((m<1∨4<m)∧q78 m xr)∨((1≤m∧m≤4)∧ElOk m xr):=by
      rcases OP.out with ⟨h,k0,k1,k2⟩|⟨h,k0,k1,k2⟩
      ·exact Or.inl ⟨h,by rcases hx with rfl|rfl|rfl<;>assumption⟩
      ·exact Or.inr ⟨h,by rcases hx with rfl|rfl|rfl<;>assumption⟩
     clear hx;rcases(show i=0∨i=1∨i=2 by omega) with rfl|rfl|rfl
     all_goals
      clear h3 hi;simp only[Nat.reduceMul,Nat.reduceAdd] at hc0 hc1 hc2 hc3;rcases hel with ⟨hm,hel⟩|⟨hm,hel⟩
      ·skip
       go_wp2_with fail;refine q4Q (K:=fun wl=>Calls Tryz.prog _ _ wl _) wr [.bool tt,.slice sa sk sc,.slice sb sl sd,.pointer (some ⟨up,0,none⟩)] ?_ _;intro wl gl hrl;have RL:Hid (Rec wl wr.heap.size [.bool tt,.slice sa sk sc,.slice sb sl sd,.pointer (some ⟨up,0,none⟩)]):=hrl;have HX:Hid (QIs wl (.agg #[.bool tt,.slice sa sk sc,.slice sb sl sd]) xr):=QIs.G uT gl;have HU:Hid (PR wl (.pointer (some ⟨up,0,none⟩)) xr):=PR.G FB gl;have xz:=G.trans hG gl;generalize wr.heap.size=bl at *;clear hrl uT FB hG gl hc0 hc1 hc2 hc3;obtain⟨hF,BB⟩:=hel;have bL:Hid (∀ w1 v,QIs w1 v xr→_):=BB;clear BB;refine q00 (hF wl _ HX.out) ?_;rintro e BC ⟨rfl,qo⟩;clear hF;obtain⟨eO,eQ,eT,eU,eX,eY,eZ,fe⟩:=Rec.f4 (Rec.G RL.out (qo));go_wp2_with fail;clear eO eQ eT eU eX eY eZ fe;refine q00 (bL.out BC _ (QIs.G HX.out qo)) ?_;rintro e w32 ⟨rfl,BD⟩;have xA:=G.trans xz (G.trans qo BD);clear xz qo BD RL HX HU bL;go_wp2_with fail
       all_goals first|exact⟨⟨1,by omega,rfl,xA⟩,by decide⟩|exact⟨⟨2,by omega,rfl,xA⟩,by decide⟩|exact⟨⟨3,by omega,rfl,xA⟩,by decide⟩
      ·skip
       go_wp2_with fail;refine q4Q (K:=fun wl=>Calls Tryz.prog _ _ wl _) wr [.bool tt,.slice sa sk sc,.slice sb sl sd,.pointer (some ⟨up,0,none⟩)] ?_ _;intro wl gl hrl;have RL:Hid (Rec wl wr.heap.size [.bool tt,.slice sa sk sc,.slice sb sl sd,.pointer (some ⟨up,0,none⟩)]):=hrl;have HX:Hid (QIs wl (.agg #[.bool tt,.slice sa sk sc,.slice sb sl sd]) xr):=QIs.G uT gl;have HU:Hid (PR wl (.pointer (some ⟨up,0,none⟩)) xr):=PR.G FB gl;have xz:=G.trans hG gl;generalize wr.heap.size=bl at *;clear hrl uT FB hG gl hc0 hc1 hc2 hc3;obtain⟨fv,rv,sg,ec,hF,M0,M3,BB,hcs⟩:=hel;have bL:Hid (∀ w1 v,QIs w1 v xr→_):=BB;have M4:Hid (∀ w1 v,PR w1 v xr→_):=M0;have fU:Hid (∀ w1 v,PR w1 v xr→_):=M3;have ig:Hid _:=hcs;have HM:Hid (1≤m∧m≤4):=hm;have hm1:decide (m<1)=false:=decide_eq_false (by have:=HM.out;omega);have hm2:decide (4<m)=false:=decide_eq_false (by have:=HM.out;omega);clear BB M0 M3 hcs hm;refine q00 (hF wl _ HX.out) ?_;rintro e BC ⟨rfl,qo⟩;clear hF;obtain⟨eO,eQ,eT,eU,eX,eY,eZ,fe⟩:=Rec.f4 (Rec.G RL.out (qo));go_wp2_with fail;clear eO eQ eT eU eX eY eZ fe;refine q00 (bL.out BC _ (QIs.G HX.out qo)) ?_;rintro e w32 ⟨rfl,BD⟩;have g2:=G.trans qo BD;clear qo BD HX bL;obtain⟨eO,eQ,eT,eU,eX,eY,eZ,fe⟩:=Rec.f4 (Rec.G RL.out (g2));go_wp2_with fail;clear eO eQ eT eU eX eY eZ fe;refine q00 (M4.out w32 _ (PR.G HU.out g2)) ?_;rintro e OQ ⟨rfl,M5⟩;go_wp2_with fail;refine q00 (q3Y OQ fv) ?_;rintro e OT ⟨rfl,M6⟩;have g4:=G.trans g2 (G.trans M5 M6);clear g2 M5 M6 M4
       obtain⟨eO,eQ,eT,eU,eX,eY,eZ,fe⟩:=Rec.f4 (Rec.G RL.out (g4));go_wp2_with fail;clear eO eQ eT eU eX eY eZ fe;refine q00 (fU.out OT _ (PR.G HU.out g4)) ?_;rintro e OU ⟨rfl,M7⟩;have g5:=G.trans g4 M7;clear g4 M7 fU;rcases ig.out with ⟨hsg,rfl,rfl⟩|⟨hsg,rfl,M8⟩
       ·clear ig;have bV:=G.trans xz g5;clear xz g5 RL HU;go_wp2_with fail
        all_goals first|exact⟨⟨1,by omega,rfl,bV⟩,by decide⟩|exact⟨⟨2,by omega,rfl,bV⟩,by decide⟩|exact⟨⟨3,by omega,rfl,bV⟩,by decide⟩
       ·clear ig;have M9:Hid (∀ w1 v,PR w1 v xr→_):=M8;clear M8;obtain⟨eO,eQ,eT,eU,eX,eY,eZ,fe⟩:=Rec.f4 (Rec.G RL.out (g5));go_wp2_with fail;clear eO eQ eT eU eX eY eZ fe;refine q00 (M9.out OU _ (PR.G HU.out g5)) ?_;rintro e OV ⟨rfl,Ma⟩;go_wp2_with fail;refine q00 (q3Y OV rv) ?_;rintro e TY ⟨rfl,Mc⟩;have bV:=G.trans xz (G.trans g5 (G.trans Ma Mc));clear xz g5 Ma Mc RL HU M9;go_wp2_with fail
        all_goals first|exact⟨⟨1,by omega,rfl,bV⟩,by decide⟩|exact⟨⟨2,by omega,rfl,bV⟩,by decide⟩|exact⟨⟨3,by omega,rfl,bV⟩,by decide⟩
theorem qaD {V:Nat} (h:V<2047*2^52):FT.v V<2^(64*33):=by
 obtain⟨n,hn⟩:∃ n:Nat,n=2098:=⟨_,rfl⟩;have hv1:FT.v (2047*2^52)=2^n:=by
  obtain⟨k,hk⟩:∃ k:Nat,k=2045:=⟨_,rfl⟩;rw[show 2047*2^52=2047*2^52+0 from rfl,FT.v_nor' _ _ (by omega) (by omega),show 2047-1=1+k from by omega,show n=53+k from by omega,Nat.add_zero,Nat.pow_add 2 1 k,Nat.pow_add 2 53 k,← Nat.mul_assoc]
 have h1:FT.v V≤2^n:=by rw[← hv1];exact FT.v_le.2 (by omega)
 obtain⟨m,hm⟩:∃ m:Nat,m=64*33:=⟨_,rfl⟩;rw[← hm];exact Nat.lt_of_le_of_lt h1 (Nat.pow_lt_pow_right (by omega) (by omega))
/-- A float as so many units. -/
theorem q4l {b:Nat} (h:b<2^64) (hf:fex b<2047):∃ z:Int,z.natAbs<2^(64*33)∧FQ b=mkRat z (2^1074)∧(z=0↔FT.rung b=0):=by
 have hr:=(q5o b).1 hf;have h1:=(fq_v (FT.neg b) hr).1;rw[q63 h] at h1;refine⟨_,?_,h1,?_⟩
 ·have:=qaD hr;split<;>omega
 ·have h0:FT.v (FT.rung b)=0↔FT.rung b=0:=by
   constructor
   ·intro h2;rcases Nat.eq_zero_or_pos (FT.rung b) with h3|h3
    ·exact h3
    ·have:=FT.v_lt h3;omega
   ·intro h2;rw[h2];decide
  split<;>omega
theorem q7o {x y:Int} {E:Nat} (hE:0<E) (_:y≠0):mkRat x E/mkRat y E=(x:Rat)/(y:Rat):=by
 have e1:mkRat x E=Rat.divInt x E:=rfl;have e2:mkRat y E=Rat.divInt y E:=rfl;rw[e1,e2,Rat.div_def,Rat.inv_divInt,Rat.divInt_mul_divInt,← Rat.divInt_eq_div,Int.mul_comm (E:Int) y];exact Rat.divInt_mul_right (by omega)
theorem q4g {z:Int} (h:z.natAbs<2^(64*33)) {x:Rat} (hx:x=mkRat z (2^1074)):QB x 33:=by
 refine q3C q1R hx h ?_;obtain⟨m,hm⟩:∃ m:Nat,m=64*33:=⟨_,rfl⟩;obtain⟨n,hn⟩:∃ n:Nat,n=1074:=⟨_,rfl⟩;rw[← hm,← hn];exact Nat.pow_lt_pow_right (by omega) (by omega)
theorem q95 {x y:Int} (hy:y≠0) (h1:x.natAbs<2^(64*33)) (h2:y.natAbs<2^(64*33)):QB ((x:Rat)/(y:Rat)) 33:=
 q3C (by omega) (q6k hy) (by split<;>omega) h2
theorem q7p {m:Int} (hm:m<1∨4<m) (x:Rat):q78 m x:=by
 refine⟨fun w1 v hv=>q4T w1 v x m hm hv,fun w1 v hv=> ?_⟩;rcases Int.lt_or_le x.num 0 with h|h
 ·exact q3y w1 v x m h hv
 ·exact q59 w1 v x m h hm hv
theorem qaG {m:Int} (hm:1≤m∧m≤4) (x:Rat) (hb:QB x 80):ElOk m x:=by
 have qL:m=1∨m=2∨m=3∨m=4:=by omega
 obtain⟨E,hE⟩:∃ E:Nat,E=2^1074:=⟨_,rfl⟩;obtain⟨F,H,S,N,T,s,hR⟩:=qad x hE;rcases Int.lt_trichotomy x.num 0 with h|h|h
 ·have h0:x≠0:=by rintro rfl;exact absurd h (by decide)
  exact⟨rdW m x,0,-1,3,fun w1 v hv=>q49 w1 v x m 80 (by omega) (by omega) qL hv h0 hb,fun w1 u hu=>q8C w1 u x m h (hb.mono (by omega)) qL hu,
   fun w1 u hu=>by have k:=q3s w1 u x hu;rw[Int.sign_eq_neg_one_of_neg h] at k;exact k,fun w1 v hv=>q3y w1 v x m h hv,Or.inl ⟨by decide,rfl,rfl⟩⟩
 ·have h0:x=0:=Rat.num_eq_zero.1 h;subst h0;have hN:N=0:=by rw[hR.n,show (0:Rat).num.natAbs=0 from rfl,Nat.zero_mul,Nat.zero_div]
  have hS:S=0:=by
   have:=hR.r1;rw[hN] at this;rcases Nat.eq_zero_or_pos S with k|k
   ·exact k
   ·have:=Nat.mul_pos k k;omega
  have hT:=hR.tz hS;have hz:q1y E (0:Rat).num.natAbs (0:Rat).den T=0:=hR.z.2 ⟨by rw[hS];simp,by rw[hT,hS,show FT.v 0=0 from by decide,Nat.zero_mul]⟩;have hv0:q2g m E (0:Rat).num.natAbs (0:Rat).den T=0:=by rw[q3x (Or.inl hz),hT]
  refine⟨0,0,0,0,fun w1 v hv=>q4u w1 v m qL hv,fun w1 u hu=>q6g w1 u m hu,fun w1 u hu=>q3s w1 u 0 hu,fun w1 v hv=>q5d w1 v m qL hv,Or.inr ⟨by decide,rfl,fun w1 u hu=> ?_⟩⟩;have k:=q6e w1 u 0 m (by decide) hb qL hE hR hu;rw[hv0] at k;exact k
 ·have h0:x≠0:=by rintro rfl;exact absurd h (by decide)
  obtain⟨T2,hat,hroot⟩:=qai x 80 (by omega) (by omega) h hb hE;have OC:T2=T:=hat.uniq hR.at_;subst OC;exact⟨rdW m x,q2g m E x.num.natAbs x.den T2,1,0,fun w1 v hv=>q49 w1 v x m 80 (by omega) (by omega) qL hv h0 hb,fun w1 u hu=>q6q w1 u x m h (hb.mono (by omega)) qL hu,
   fun w1 u hu=>by have k:=q3s w1 u x hu;rw[Int.sign_eq_one_of_pos h] at k;exact k,fun w1 v hv=>hroot w1 v m qL hv,Or.inr ⟨by decide,rfl,fun w1 u hu=>q6e w1 u x m (by omega) hb qL hE hR hu⟩⟩
theorem exactRounds_c (w:World) (a b c:Nat) (m:Int) (hT:Tab w) (ha:a<2^64) (hb:b<2^64) (hc:c<2^64):
  Calls Tryz.prog 3 #[.float .f64 a,.float .f64 b,.float .f64 c,.int .i64 m] w fun r w'=>r= .returned (.bool true)∧G w w':=by
 have nD:∀ w1,G w w1→Calls Tryz.prog 5 #[] w1 fun e w'=>e= .returned (.bool true)∧G w1 w':=fun w1 g=>qaS w1 (hT.G g);have fA:=fun w1=>q2n w1 a ha;have fB:=fun w1=>q2n w1 b hb;have fC:=fun w1=>q2n w1 c hc;by_cases ka:fex a<2047
 case neg=>
  rw[decide_eq_false ka] at fA;have HT3:Hid (∀ w1,G w w1→_):=nD;have ui:Hid (∀ w1:World,_):=fA;clear nD fA fB fC hT ka;go_enter Tryz.func3,Tryz.ntmps3;go_wp2_with fail;refine q00 (HT3.out _ (G.refl _)) ?_;rintro e w1 ⟨rfl,g1⟩;go_wp2_with fail;refine q00 (ui.out _) ?_;rintro e w2 ⟨rfl,g2⟩;go_wp2_with fail;go_ret;exact⟨rfl,G.trans g1 g2⟩
 by_cases kb:fex b<2047
 case neg=>
  rw[decide_eq_true ka] at fA;rw[decide_eq_false kb] at fB;have HT3:Hid (∀ w1,G w w1→_):=nD;have ui:Hid (∀ w1:World,_):=fA;have wm:Hid (∀ w1:World,_):=fB;clear nD fA fB fC hT ka kb;go_enter Tryz.func3,Tryz.ntmps3;go_wp2_with fail;refine q00 (HT3.out _ (G.refl _)) ?_;rintro e w1 ⟨rfl,g1⟩;go_wp2_with fail;refine q00 (ui.out _) ?_;rintro e w2 ⟨rfl,g2⟩;go_wp2_with fail;refine q00 (wm.out _) ?_;rintro e w3 ⟨rfl,g3⟩;go_wp2_with fail;go_ret;exact⟨rfl,G.trans g1 (G.trans g2 g3)⟩
 by_cases kc:fex c<2047
 case neg=>
  rw[decide_eq_true ka] at fA;rw[decide_eq_true kb] at fB;rw[decide_eq_false kc] at fC;have HT3:Hid (∀ w1,G w w1→_):=nD;have ui:Hid (∀ w1:World,_):=fA;have wm:Hid (∀ w1:World,_):=fB;have Ar:Hid (∀ w1:World,_):=fC;clear nD fA fB fC hT ka kb kc;go_enter Tryz.func3,Tryz.ntmps3;go_wp2_with fail;refine q00 (HT3.out _ (G.refl _)) ?_;rintro e w1 ⟨rfl,g1⟩;go_wp2_with fail;refine q00 (ui.out _) ?_;rintro e w2 ⟨rfl,g2⟩;go_wp2_with fail;refine q00 (wm.out _) ?_;rintro e w3 ⟨rfl,g3⟩;go_wp2_with fail;refine q00 (Ar.out _) ?_;rintro e w4 ⟨rfl,g4⟩;go_wp2_with fail;go_ret;exact⟨rfl,G.trans g1 (G.trans g2 (G.trans g3 g4))⟩
 obtain⟨za,qa,ea,-⟩:=q4l ha ka;obtain⟨zb,qb,eb,Li⟩:=q4l hb kb;obtain⟨zc,qc,ec,-⟩:=q4l hc kc;have Bc:∀ w1,G w w1→Calls Tryz.prog 7 #[.float .f64 a] w1 (q2K w1 (FQ a) 0):=fun w1 g=>of_c w1 a (hT.G g) ha ka;have hOb:∀ w1,G w w1→Calls Tryz.prog 7 #[.float .f64 b] w1 (q2K w1 (FQ b) 0):=fun w1 g=>of_c w1 b (hT.G g) hb kb;have Bd:∀ w1,G w w1→Calls Tryz.prog 7 #[.float .f64 c] w1 (q2K w1 (FQ c) 0):=fun w1 g=>of_c w1 c (hT.G g) hc kc;have Be:∀ w1:World,Calls Tryz.prog 10 #[.float .f64 a] w1 (RetP w1 (FQ a)):=fun w1=>by rw[q5x ha ka];exact q41 w1 a ha ka
 have hRb:∀ w1:World,Calls Tryz.prog 10 #[.float .f64 b] w1 (RetP w1 (FQ b)):=fun w1=>by rw[q5x hb kb];exact q41 w1 b hb kb
 have Bf:∀ w1:World,Calls Tryz.prog 10 #[.float .f64 c] w1 (RetP w1 (FQ c)):=fun w1=>by rw[q5x hc kc];exact q41 w1 c hc kc
 rw[decide_eq_true ka] at fA;rw[decide_eq_true kb] at fB;rw[decide_eq_true kc] at fC;by_cases k0:FT.rung b=0
 case pos=>
  have hz:(FloatKind.f64.format.order b 0==some .eq)=true:=by rw[FT.eq_zero];exact decide_eq_true k0
  have HT3:Hid (∀ w1,G w w1→_):=nD;have ui:Hid (∀ w1:World,_):=fA;have wm:Hid (∀ w1:World,_):=fB;have Ar:Hid (∀ w1:World,_):=fC;clear nD fA fB fC hT ka kb kc Bc hOb Bd Be hRb Bf k0 Li ea eb ec qa qb qc;go_enter Tryz.func3,Tryz.ntmps3;go_wp2_with fail;refine q00 (HT3.out _ (G.refl _)) ?_;rintro e w1 ⟨rfl,g1⟩;go_wp2_with fail;refine q00 (ui.out _) ?_;rintro e w2 ⟨rfl,g2⟩;go_wp2_with fail;refine q00 (wm.out _) ?_;rintro e w3 ⟨rfl,g3⟩;go_wp2_with fail;refine q00 (Ar.out _) ?_;rintro e w4 ⟨rfl,g4⟩;go_wp2_with fail;go_ret;exact⟨rfl,G.trans g1 (G.trans g2 (G.trans g3 g4))⟩
 have hz:(FloatKind.f64.format.order b 0==some .eq)=false:=by rw[FT.eq_zero];exact decide_eq_false k0
 have hy:zb≠0:=fun h=>k0 (Li.1 h);have Lj:=q4g qa ea;have uj:=q4g qb eb;have hqc:=q4g qc ec;have hq:QB (FQ a/FQ b) 33:=by rw[ea,eb,q7o q1R hy];exact q95 hy qa qb
 have hyq:FQ b≠0:=by
  rw[eb];intro h;exact hy (uz_eq_zero.1 h)
 have OD:QB (FQ a/FQ b+FQ c) 80:=(qbz hq hqc).mono (by omega);have OE:QB (FQ a*FQ b) 80:=(qbw Lj uj).mono (by omega);have uH:QB (FQ a/FQ b) 80:=hq.mono (by omega);have uI:=Lj.mono (show 33≤80 by omega);have uJ:=uj.mono (show 33≤80 by omega);have Bg:=hqc.mono (show 33≤80 by omega);generalize FQ a=xa at *;generalize FQ b=xb at *;generalize FQ c=xc at *;have hQ:∀ w1 v u,G w w1→QIs w1 v xa→QIs w1 u xb→Calls Tryz.prog 8 #[v,u] w1 (q2K w1 (xa/xb) 0):=fun w1 v u g k1 k2=>by
  have k:=q9p w1 v u xa xb 80 (by omega) (by omega) (hT.G g) k1 k2 uI uJ;rw[if_neg hyq,if_neg hyq] at k;exact k
 refine q5r w a b c m xa xb xc (xa/xb) (xa/xb+xc) (xa*xb) ?_ nD fA fB fC hz Bc hOb Bd hQ Be hRb Bf
  (fun w1 bz px py k1 k2 k3 k4 k5=>qbm w1 bz px py xa xb 80 (by omega) uI uJ hyq k1.lt k2 k3 k1 k4 k5)
  (fun w1 v u g k1 k2=>qbP w1 v u _ xc 80 (by omega) (by omega) (hT.G g) k1 k2 uH Bg)
  (fun w1 v u g k1 k2=>q9N w1 v u xa xb 80 (by omega) (by omega) (hT.G g) k1 k2 uI uJ)
  (fun w1 bz px py k1 k2 k3 k4 k5 k6=>q9A w1 bz px py 0 0 _ xc 80 (by omega) uH Bg k1 k2 k3 k4 k5 k6)
  (fun w1 bz px py k1 k2 k3 k4 k5 k6=>q82 w1 bz px py 0 0 xa xb 80 (by omega) uI uJ k1 k2 k3 k4 k5 k6)
 by_cases hm:1≤m∧m≤4
 ·exact Or.inr ⟨hm,qaG hm _ uH,qaG hm _ OD,qaG hm _ OE⟩
 ·have hm2:m<1∨4<m:=by omega
  exact Or.inl ⟨hm2,q7p hm2 _,q7p hm2 _,q7p hm2 _⟩
end Go.Proofs.YtbfjihniphldaaaGreatDoor.EN
