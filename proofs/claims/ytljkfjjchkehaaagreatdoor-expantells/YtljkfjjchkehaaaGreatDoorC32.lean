/- What is proved here: contracts of package expan: front, over this seat's translation.
What is proved here: contracts of package expan: whole, Of, over this seat's translation.
What is proved here: what front takes off sums and products of sums (no program), over this seat's translation.
What is proved here: contracts of package expan: Sum, Cmp, over this seat's translation.
What is proved here: contracts of package expan: whole, Mul, their lists in blocks of their own, over this seat's translation.
What is proved here: contracts of package expan: the pair of a number, over this seat's translation.
What is proved here: contracts of package expan: what a pair tells, and pairs reckoned with, over this seat's translation.
What is proved here: contracts of package expan: quotients of pairs, over this seat's translation.
What is proved here: the closed fact on sums told by several floats, over this seat's translation.
What is proved here: the closed fact on sums told by several floats holds, over this seat's translation.
What is proved here: contracts of package expan: lists that are too long, numbers without a pair, pairs that are none, over this seat's translation. -/
import Derived.Test.YtljkfjjchkehaaaGreatDoorC31
import Derived.Test.YtljkfjjchkehaaaGreatDoorC31
import Derived.Laws.IdiomCopy
namespace Go.Proofs.YtljkfjjchkehaaaGreatDoor.EN
open Go.ChangeShapes Go.WideShapes Go.ChangeAt Go.RowKit
def lenOf:Value→Nat
 | .slice _ n _=>n
 |_=>0
/-- A call hands back the floats of a list, or nothing. -/
def q6c (w:World) (L:List Nat) (o:Bool) (e:Ending) (w':World):Prop:=∃ v,e= .returned (.tuple #[v,.bool o])∧G w w'∧((o=true∧FSl w' v L)∨(o=false∧v= .slice none 0 0))
/-- The same, the list in a block of its own. -/
def RetFrontO (w:World) (L:List Nat) (o:Bool) (e:Ending) (w':World):Prop:=∃ v,e= .returned (.tuple #[v,.bool o])∧G w w'∧((o=true∧FOwn w' (w.heap.size+1) v L)∨(o=false∧v= .slice none 0 0))
theorem RetFrontO.fsl {w:World} {L:List Nat} {o:Bool} (e:Ending) (w':World) (h:RetFrontO w L o e w'):q6c w L o e w':=by
 obtain⟨v,h1,h2,h3⟩:=h
 refine⟨v,h1,h2,?_⟩
 rcases h3 with ⟨h3,h4⟩|h3
 ·exact Or.inl ⟨h3,h4.fsl⟩
 ·exact Or.inr h3
theorem qbs {m:Nat} {x:Rat} {L:List Nat} {o:Bool} (h:Fr m x L o):L.length≤m:=by
 induction h with
 |zero=>simp
 |most=>simp
 |bad=>simp
 |step k v l o h0 hq h1 h2 h ih=>simpa using ih
set_option maxRecDepth 10000 in
theorem q4L (w:World) (v:Value) (x:Rat) (m:Nat) (L:List Nat) (o:Bool) (hT:Tab w) (hL:L.length≤100000) (h:QIs w v x) (hF:Fr m x L o):
  Calls Tryz.prog 95 #[v,.int .i64 (m:Int)] w (RetFrontO w L o):=by
 have Ic:Hid (QIs w v x):=h
 obtain⟨a,k,c,a',k',c',rfl,-,-⟩:=h
 generalize decide (x.num<0)=t at *
 have kJ:Hid (Tab w):=hT
 have HF:Hid _:=hF
 clear hT hF
 go_enter Tryz.func95,Tryz.ntmps95
 go_wp2_with fail
 obtain⟨w0,aB,g0,hz0,R0⟩:=q0e w [.bool t,.slice a k c,.slice a' k' c'] 97
 rw[aB]
 clear aB
 go_loopw [4] (fun vl wr=>∃ (pre rest:List Nat) (j:Nat) (y:Rat) (t:Bool) (a:Option Addr) (k c:Nat) (a':Option Addr) (k' c':Nat),L=pre++rest∧Fr j y rest o∧j+pre.length=m∧FOwn wr (w.heap.size+1) vl pre∧
   Rec wr w.heap.size [.bool t,.slice a k c,.slice a' k' c']∧QIs wr (.agg #[.bool t,.slice a k c,.slice a' k' c']) y∧G w wr∧w.heap.size+1≤wr.heap.size) (fun vl _=>L.length+1-lenOf vl)
 case atStart=>exact⟨[],L,m,x,t,a,k,c,a',k',c',rfl,HF.out,rfl,q0T _ _,R0.out,QIs.G Ic.out g0,g0,by omega⟩
 case round=>
  obtain⟨pre,rest,j,y,t,a,k,c,a',k',c',Na,hfr,hj,hown,hrec,hq,hG,hsz⟩:=hrel
  clear R0 g0 hz0 Ic
  obtain⟨pl,cl,rfl⟩:=hown.len
  have HO:Hid (FOwn _ _ _ _):=hown
  have pJ:Hid (Rec _ _ _):=hrec
  have HQ:Hid (QIs _ _ _):=hq
  have jJ:Hid (∀ w1,G wr w1→Calls Tryz.prog 81 #[.agg #[.bool t,.slice a k c,.slice a' k' c']] w1 fun e w'=>e= .returned (.int .i64 y.num.sign)∧G w1 w'):=fun w1 g=>q3b w1 _ y (QIs.G HQ.out g)
  have Ie:Hid (L=pre++rest):=Na
  have hpl:pre.length≤L.length:=by rw[Na];simp
  clear hown hrec hq Na
  by_cases hy:y=0
  ·have ho:rest=[]∧o=true:=by
    cases hfr with
    |zero=>exact⟨rfl,rfl⟩
    |most=>exact⟨rfl,rfl⟩
    |bad _ _ h0=>exact absurd hy h0
    |step _ _ _ _ h0=>exact absurd hy h0
   obtain⟨rfl,rfl⟩:=ho
   subst hy
   rw[show (0:Rat).num.sign=0 from rfl] at jJ
   clear hfr hj
   have aC:=Rec.f3 (Rec.G pJ.out (G.refl _))
   have bN:=aC.1
   have bO:=aC.2.1
   have bP:=aC.2.2.1
   have bQ:=aC.2.2.2.1
   have di:=aC.2.2.2.2.1
   have dm:=aC.2.2.2.2.2
   clear aC
   go_wp2_with fail
   refine Calls.mono (P:=Tryz.prog) (jJ.out wr (G.refl _)) ?_
   rintro e1 w1 ⟨rfl,g1⟩
   go_wp2_with fail
   refine bodyPost_ret (v:= .tuple #[.slice pl pre.length cl,.bool true]) (by simp [results,Tryz.results95,go_sem, *]) rfl ?_
   refine⟨_,rfl,G.trans hG g1,Or.inl ⟨rfl,?_⟩⟩
   have h2:=FOwn.G HO.out g1
   rw[Ie.out,List.append_nil]
   exact h2
  ·have hs:(y.num.sign != 0)=true:=by
    rw[bne,q18]
    simpa using hy
   generalize y.num.sign=s at *
   by_cases hjm:j=0
   ·have ho:rest=[]∧o=true:=by
     subst hjm
     cases hfr with
     |zero=>exact⟨rfl,rfl⟩
     |most=>exact⟨rfl,rfl⟩
    obtain⟨rfl,rfl⟩:=ho
    have hlim:decide (pre.length<m)=false:=by simp;omega
    clear hfr hj hjm
    have aC:=Rec.f3 (Rec.G pJ.out (G.refl _))
    have bN:=aC.1
    have bO:=aC.2.1
    have bP:=aC.2.2.1
    have bQ:=aC.2.2.2.1
    have di:=aC.2.2.2.2.1
    have dm:=aC.2.2.2.2.2
    clear aC
    go_wp2_with fail
    refine Calls.mono (P:=Tryz.prog) (jJ.out wr (G.refl _)) ?_
    rintro e1 w1 ⟨rfl,g1⟩
    go_wp2_with fail
    refine bodyPost_ret (v:= .tuple #[.slice pl pre.length cl,.bool true]) (by simp [results,Tryz.results95,go_sem, *]) rfl ?_
    refine⟨_,rfl,G.trans hG g1,Or.inl ⟨rfl,?_⟩⟩
    have h2:=FOwn.G HO.out g1
    rw[Ie.out,List.append_nil]
    exact h2
   ·have hlim:decide (pre.length<m)=true:=by simp;omega
    have yZ:QB y 80:=by
     cases hfr with
     |zero=>exact absurd rfl hy
     |most=>exact absurd rfl hjm
     |bad _ _ _ hq=>exact hq
     |step _ _ _ _ _ hq=>exact hq
    have wW:Hid (∀ w1,G wr w1→Calls Tryz.prog 140 #[.agg #[.bool t,.slice a k c,.slice a' k' c'],.int .i64 1] w1 fun r w'=>r= .returned (.tuple #[.float .f64 (nR y),.int .i64 0])∧G w1 w'):=fun w1 g=>qa2 w1 _ y 1 80 (by omega) (by omega) (Or.inl rfl) (QIs.G HQ.out g) hy yZ
    have hlt:nR y<2^64:=FT.wrd_lt _ _ (by have:=q8o hy;omega)
    by_cases jZ:fex (nR y)=2047
    ·have ho:rest=[]∧o=false:=by
      cases hfr with
      |zero=>exact absurd rfl hy
      |most=>exact absurd rfl hjm
      |bad=>exact⟨rfl,rfl⟩
      |step _ _ _ _ _ _ h1=>omega
     obtain⟨rfl,rfl⟩:=ho
     have ow:Hid (∀ w1,G wr w1→_):=fun w1 (_:G wr w1)=>q60 w1 _ hlt jZ
     generalize nR y=b at *
     clear hfr hj hjm yZ hlt jZ hy
     have aC:=Rec.f3 (Rec.G pJ.out (G.refl _))
     have bN:=aC.1
     have bO:=aC.2.1
     have bP:=aC.2.2.1
     have bQ:=aC.2.2.2.1
     have di:=aC.2.2.2.2.1
     have dm:=aC.2.2.2.2.2
     clear aC
     go_wp2_with fail
     refine Calls.mono (P:=Tryz.prog) (jJ.out wr (G.refl _)) ?_
     rintro e1 w1 ⟨rfl,g1⟩
     clear bN bO bP bQ di dm
     have aC:=Rec.f3 (Rec.G pJ.out (g1))
     have bN:=aC.1
     have bO:=aC.2.1
     have bP:=aC.2.2.1
     have bQ:=aC.2.2.2.1
     have di:=aC.2.2.2.2.1
     have dm:=aC.2.2.2.2.2
     clear aC
     go_wp2_with fail
     refine Calls.mono (P:=Tryz.prog) (wW.out w1 g1) ?_
     rintro e1 w2 ⟨rfl,g2⟩
     clear bN bO bP bQ di dm
     go_wp2_with fail
     refine Calls.mono (P:=Tryz.prog) (ow.out w2 (G.trans g1 g2)) ?_
     intro e1 w3 hs3
     obtain⟨u,rfl,g3,hu⟩:=hs3
     have HU:Hid (QIs w3 u _):=hu
     obtain⟨a8,k8,c8,a9,k9,c9,rfl,-,-⟩:=hu
     generalize decide ((0:Rat).num<0)=t9 at *
     go_wp2_with fail
     refine bodyPost_ret (v:= .tuple #[.slice none 0 0,.bool false]) (by simp [results,Tryz.results95,go_sem, *]) rfl ?_
     exact⟨_,rfl,(G.trans hG (G.trans g1 (G.trans g2 g3))).alloc _,Or.inr ⟨rfl,rfl⟩⟩
    ·have hfin:fex (nR y)<2047:=by
      have:fex (nR y)<2048:=Nat.mod_lt _ (by omega)
      omega
     by_cases hz0:FQ (nR y)=0
     ·have ho:rest=[]∧o=false:=by
       cases hfr with
       |zero=>exact absurd rfl hy
       |most=>exact absurd rfl hjm
       |bad=>exact⟨rfl,rfl⟩
       |step _ _ _ _ _ _ _ h2=>exact absurd hz0 h2
      obtain⟨rfl,rfl⟩:=ho
      have ow:Hid (∀ w1,G wr w1→Calls Tryz.prog 94 #[.float .f64 (nR y)] w1 (q2W w1 0 0)):=fun w1 g=>by
       have h:=of_c w1 _ (kJ.out.G (G.trans hG g)) hlt hfin
       rw[hz0] at h
       exact h
      generalize nR y=b at *
      clear hfr hj hjm yZ hlt jZ hfin hz0 hy
      have aC:=Rec.f3 (Rec.G pJ.out (G.refl _))
      have bN:=aC.1
      have bO:=aC.2.1
      have bP:=aC.2.2.1
      have bQ:=aC.2.2.2.1
      have di:=aC.2.2.2.2.1
      have dm:=aC.2.2.2.2.2
      clear aC
      go_wp2_with fail
      refine Calls.mono (P:=Tryz.prog) (jJ.out wr (G.refl _)) ?_
      rintro e1 w1 ⟨rfl,g1⟩
      clear bN bO bP bQ di dm
      have aC:=Rec.f3 (Rec.G pJ.out (g1))
      have bN:=aC.1
      have bO:=aC.2.1
      have bP:=aC.2.2.1
      have bQ:=aC.2.2.2.1
      have di:=aC.2.2.2.2.1
      have dm:=aC.2.2.2.2.2
      clear aC
      go_wp2_with fail
      refine Calls.mono (P:=Tryz.prog) (wW.out w1 g1) ?_
      rintro e1 w2 ⟨rfl,g2⟩
      clear bN bO bP bQ di dm
      go_wp2_with fail
      refine Calls.mono (P:=Tryz.prog) (ow.out w2 (G.trans g1 g2)) ?_
      intro e1 w3 hs3
      obtain⟨u,rfl,g3,hu⟩:=hs3
      have HU:Hid (QIs w3 u _):=hu
      obtain⟨a8,k8,c8,a9,k9,c9,rfl,-,-⟩:=hu
      have vK:Hid (∀ w1,G w3 w1→_):=fun w1 g=>q3b w1 _ 0 (QIs.G HU.out g)
      rw[show (0:Rat).num.sign=0 from rfl] at vK
      generalize decide ((0:Rat).num<0)=t9 at *
      go_wp2_with fail
      obtain⟨w4,aB,g4,zK,R0⟩:=q0e w3 [.bool t9,.slice a8 k8 c8,.slice a9 k9 c9] 97
      rw[aB]
      clear aB
      refine Calls.mono (P:=Tryz.prog) (vK.out w4 g4) ?_
      rintro e1 w5 ⟨rfl,g5⟩
      go_wp2_with fail
      refine bodyPost_ret (v:= .tuple #[.slice none 0 0,.bool false]) (by simp [results,Tryz.results95,go_sem, *]) rfl ?_
      exact⟨_,rfl,G.trans hG (G.trans g1 (G.trans g2 (G.trans g3 (G.trans g4 g5)))),Or.inr ⟨rfl,rfl⟩⟩
     ·obtain⟨j',rest',hj',hre,FU⟩:∃ j' rest',j=j'+1∧rest=nR y::rest'∧Fr j' (y-FQ (nR y)) rest' o:=by
       cases hfr with
       |zero=>exact absurd rfl hy
       |most=>exact absurd rfl hjm
       |bad _ _ _ _ h=>rcases h with h|h;omega;exact absurd h hz0
       |step k _ l _ _ _ _ _ h=>exact⟨k,l,rfl,rfl,h⟩
      have ow:Hid (∀ w1,G wr w1→Calls Tryz.prog 94 #[.float .f64 (nR y)] w1 (q2W w1 (FQ (nR y)) 0)):=fun w1 g=>of_c w1 _ (kJ.out.G (G.trans hG g)) hlt hfin
      have HSub:Hid (∀ w1 v u,G w w1→QIs w1 v y→QIs w1 u (FQ (nR y))→Calls Tryz.prog 63 #[v,u] w1 (RetQ w1 (y-FQ (nR y)))):=fun w1 v u g h1 h2=>qbB w1 v u _ _ 80 (by omega) (by omega) (kJ.out.G g) h1 h2 yZ (qb9 hfin)
      have hs2:((FQ (nR y)).num.sign==0)=false:=by
       rw[q18]
       exact decide_eq_false hz0
      have wK:Hid _:=FU
      have PI:Hid (rest=nR y::rest'):=hre
      have HJ:Hid (j=j'+1):=hj'
      have TV:Hid (j+pre.length=m):=hj
      generalize y-FQ (nR y)=y2 at *
      generalize FQ (nR y)=xb at *
      generalize nR y=b at *
      clear hfr hj hjm yZ hlt jZ hfin hz0 hy FU hre hj'
      have aC:=Rec.f3 (Rec.G pJ.out (G.refl _))
      have bN:=aC.1
      have bO:=aC.2.1
      have bP:=aC.2.2.1
      have bQ:=aC.2.2.2.1
      have di:=aC.2.2.2.2.1
      have dm:=aC.2.2.2.2.2
      clear aC
      go_wp2_with fail
      refine Calls.mono (P:=Tryz.prog) (jJ.out wr (G.refl _)) ?_
      rintro e1 w1 ⟨rfl,g1⟩
      clear bN bO bP bQ di dm
      have aC:=Rec.f3 (Rec.G pJ.out (g1))
      have bN:=aC.1
      have bO:=aC.2.1
      have bP:=aC.2.2.1
      have bQ:=aC.2.2.2.1
      have di:=aC.2.2.2.2.1
      have dm:=aC.2.2.2.2.2
      clear aC
      go_wp2_with fail
      refine Calls.mono (P:=Tryz.prog) (wW.out w1 g1) ?_
      rintro e1 w2 ⟨rfl,g2⟩
      clear bN bO bP bQ di dm
      go_wp2_with fail
      refine Calls.mono (P:=Tryz.prog) (ow.out w2 (G.trans g1 g2)) ?_
      intro e1 w3 hs3
      obtain⟨u,rfl,g3,hu⟩:=hs3
      have HU:Hid (QIs w3 u _):=hu
      obtain⟨a8,k8,c8,a9,k9,c9,rfl,-,-⟩:=hu
      have vK:Hid (∀ w1,G w3 w1→_):=fun w1 g=>q3b w1 _ xb (QIs.G HU.out g)
      generalize decide (xb.num<0)=t9 at *
      generalize xb.num.sign=s2 at *
      go_wp2_with fail
      obtain⟨w4,aB,g4,zK,R0⟩:=q0e w3 [.bool t9,.slice a8 k8 c8,.slice a9 k9 c9] 97
      rw[aB]
      clear aB
      refine Calls.mono (P:=Tryz.prog) (vK.out w4 g4) ?_
      rintro e1 w5 ⟨rfl,g5⟩
      have PK:=G.trans g1 (G.trans g2 g3)
      have PL:=G.trans PK (G.trans g4 g5)
      have vL:G wr (w5.alloc (.cells #[.float .f64 b] 26)):=PL.alloc _
      have hsz5:=vL.size
      have FV:=PK.size
      obtain⟨v',w6,hrun,hown6,honto⟩:=q5p _ (w.heap.size+1) (.slice pl pre.length cl) pre [b] (FOwn.G HO.out vL) (by omega) ⟨w5.heap.size,0,none⟩ 1 1 rfl (by
       intro i hi
       obtain rfl:i=0:=by simpa using hi
       simp [Addr.add,go_sem]) (by simp only[List.length_cons,List.length_nil];omega) (by simp)
      have CZ:Hid (Rec w6 w.heap.size _):=honto.r _ _ (Rec.G pJ.out vL) (FOwn.own HO.out (Or.inl (by omega)))
      have jM:Hid (Rec w6 w3.heap.size _):=honto.r _ _ (Rec.G R0.out (g5.alloc (.cells #[.float .f64 b] 26))) (FOwn.own HO.out (Or.inr FV))
      have FW:Hid (QIs w6 _ y):=honto.q _ _ (QIs.G HQ.out vL)
      have TW:Hid (QIs w6 _ xb):=honto.q _ _ (QIs.G HU.out (G.alloc (G.trans g4 g5) (.cells #[.float .f64 b] 26)))
      have g6:G w w6:=honto.g w (by omega) (G.trans hG vL)
      obtain⟨TY,cl',rfl⟩:=hown6.len
      have TZ:Hid (FOwn _ _ _ _):=hown6
      clear hown6 honto PL hsz5 FV HO jJ wW ow vK kJ hs hlim
      have U3:=CZ.out.lt
      have U4:=jM.out.lt
      have eO:=Rec.f3 (Rec.G CZ.out (G.refl _))
      have sj:=eO.1
      have su:=eO.2.1
      have sD:=eO.2.2.1
      have sF:=eO.2.2.2.1
      have sG:=eO.2.2.2.2.1
      have sH:=eO.2.2.2.2.2
      clear eO
      have lD:=Rec.f3 (Rec.G jM.out (G.refl _))
      have ym:=lD.1
      have yo:=lD.2.1
      have yu:=lD.2.2.1
      have yw:=lD.2.2.2.1
      have yz:=lD.2.2.2.2.1
      have yA:=lD.2.2.2.2.2
      clear lD
      go_wp2_with (at_builtin;refine q20 _ rfl (.tmp 36) (.tmp 38) 22 rfl _ _ rfl rfl hrun ?_)
      clear sj su sD sF sG sH ym yo yu yw yz yA hrun
      refine Calls.mono (P:=Tryz.prog) (HSub.out w6 _ _ g6 FW.out TW.out) ?_
      intro e1 w7 hs7
      obtain⟨u,rfl,g7,PM⟩:=hs7
      have U5:Hid (QIs w7 u y2):=PM
      obtain⟨d8,i8,e8,d9,i9,e9,rfl,-,-⟩:=PM
      generalize decide (y2.num<0)=t7 at *
      have PN:Hid (FOwn _ _ _ _):=FOwn.G TZ.out g7
      have U6:=(Rec.G CZ.out g7).lt
      have eO:=Rec.f3 (Rec.G CZ.out (g7))
      have sj:=eO.1
      have su:=eO.2.1
      have sD:=eO.2.2.1
      have sF:=eO.2.2.2.1
      have sG:=eO.2.2.2.2.1
      have sH:=eO.2.2.2.2.2
      clear eO
      go_wp2_with fail
      have hoth:∀ k2,k2≠w.heap.size→(((w7.setCell ⟨w.heap.size,0,none⟩ (.bool t7)).setCell ⟨w.heap.size,1,none⟩ (.slice d8 i8 e8)).setCell ⟨w.heap.size,2,none⟩ (.slice d9 i9 e9)).heap[k2]? =w7.heap[k2]? :=fun k2 hk2=>(q2p (by simpa using hk2)).trans ((q2p (by simpa using hk2)).trans (q2p (by simpa using hk2)))
      have PO:FOwn _ (w.heap.size+1) (.slice TY (pre++[b]).length cl') (pre++[b]):=FOwn.oth PN.out (FOwn.own PN.out (Or.inl (by omega))) hoth
      rw[show (pre++[b]).length=pre.length+1 from by simp] at PO
      have hll:pre.length+1≤L.length:=by rw[Ie.out,PI.out];simp
      clear hoth
      go_roundw
      case rel=>exact⟨pre++[b],rest',j',y2,t7,d8,i8,e8,d9,i9,e9,by rw[Ie.out,PI.out];simp,wK.out,by have:=HJ.out;have:=TV.out;simp;omega,PO,Rec.set3 (Rec.G CZ.out g7),QIs.set3 U5.out (Rec.G CZ.out g7) trivial trivial trivial,Rec.g3 (b:=w.heap.size) (G.trans g6 g7) (by omega),by simp [World.setCell];omega⟩
      case measure=>simp only[lenOf];omega
theorem q7h (w:World) (v:Value) (x:Rat) (m:Nat) (L:List Nat) (o:Bool) (hT:Tab w) (hL:L.length≤100000) (h:QIs w v x) (hF:Fr m x L o):
  Calls Tryz.prog 95 #[v,.int .i64 (m:Int)] w (q6c w L o):=
 (q4L w v x m L o hT hL h hF).mono RetFrontO.fsl
/-- A call hands back a list and a fault: the list of what Fr tells, or a fault and no list. -/
def qa6 (w:World) (L:List Nat) (o:Bool) (e:Ending) (w':World):Prop:=∃ (v:Value) (c:Int),e= .returned (.tuple #[v,.agg #[.int .i64 c,.int .i64 0]])∧G w w'∧((o=true∧c=0∧FSl w' v L)∨(o=false∧c=3∧v= .slice none 0 0))
theorem q9g (w:World) (v:Value) (x:Rat) (L:List Nat) (o:Bool) (hT:Tab w) (hL:L.length≤100000) (h:QIs w v x) (hF:Fr 9223372036854775807 x L o):
  Calls Tryz.prog 53 #[v] w (qa6 w L o):=by
 have wK:Hid (∀ w1,G w w1→_):=fun w1 g=>q7h w1 v x 9223372036854775807 L o (hT.G g) hL (h.G g) hF
 obtain⟨a,k,c,a',k',c',rfl,-,-⟩:=h
 generalize decide (x.num<0)=t at *
 clear hF hT
 go_enter Tryz.func53,Tryz.ntmps53
 go_wp2_with fail
 obtain⟨w0,aB,g0,hz0,R0,R1⟩:=q1S w [.bool t,.slice a k c,.slice a' k' c'] [.int .i64 0,.int .i64 0] 97 29
 rw[aB]
 clear aB
 refine Calls.mono (P:=Tryz.prog) (wK.out w0 g0) ?_
 intro e1 w1 hs
 obtain⟨v,rfl,g1,hv⟩:=hs
 have bU:=G.trans g0 g1
 have RF:Hid (Rec w1 (w.heap.size+1) [.int .i64 0,.int .i64 0]):=Rec.G R1.out g1
 clear R0 R1 hz0 wK g0 g1
 rcases hv with ⟨rfl,hv⟩|⟨rfl,rfl⟩
 ·have HV:Hid (FSl _ _ _):=hv
  obtain⟨pl,cl,rfl,-,-⟩:=hv
  have uu:Hid (FSl _ _ _):=FSl.flt (x':=0) (y':=0) HV.out RF.out
  have aD:=Rec.f2 (Rec.G RF.out (G.refl _))
  have bG:=aD.1
  have bH:=aD.2.1
  have bI:=aD.2.2.1
  have bJ:=aD.2.2.2
  clear aD
  go_wp2_with fail
  have hT:Hid (Rec (World.setCell (World.setCell w1 ⟨w.heap.size+1,0,none⟩ (.int .i64 0)) ⟨w.heap.size+1,1,none⟩ (.int .i64 0)) (w.heap.size+1) [.int .i64 0,.int .i64 0]):=Rec.set2 (Rec.G RF.out (G.refl _))
  have g9:=Rec.g2 (b:=w.heap.size+1) (u:= .int .i64 0) (v:= .int .i64 0) (bU) (by omega)
  generalize (World.setCell (World.setCell w1 ⟨w.heap.size+1,0,none⟩ (.int .i64 0)) ⟨w.heap.size+1,1,none⟩ (.int .i64 0))=w9 at *
  have hF:=Rec.f2 (Rec.G hT.out ((G.refl _)))
  have bg:=hF.1
  have bn:=hF.2.1
  have bC:=hF.2.2.1
  have bD:=hF.2.2.2
  clear hF
  refine bodyPost_ret (v:= .tuple #[.slice pl L.length cl,.agg #[.int .i64 0,.int .i64 0]]) (by simp [results,Tryz.results53,go_sem, *]) rfl ?_
  exact⟨_,_,rfl,g9,Or.inl ⟨rfl,rfl,uu.out⟩⟩
 ·skip
  have aD:=Rec.f2 (Rec.G RF.out (G.refl _))
  have bG:=aD.1
  have bH:=aD.2.1
  have bI:=aD.2.2.1
  have bJ:=aD.2.2.2
  clear aD
  go_wp2_with fail
  have hT:Hid (Rec (World.setCell (World.setCell w1 ⟨w.heap.size+1,0,none⟩ (.int .i64 3)) ⟨w.heap.size+1,1,none⟩ (.int .i64 0)) (w.heap.size+1) [.int .i64 3,.int .i64 0]):=Rec.set2 (Rec.G RF.out (G.refl _))
  have g9:=Rec.g2 (b:=w.heap.size+1) (u:= .int .i64 3) (v:= .int .i64 0) (bU) (by omega)
  generalize (World.setCell (World.setCell w1 ⟨w.heap.size+1,0,none⟩ (.int .i64 3)) ⟨w.heap.size+1,1,none⟩ (.int .i64 0))=w9 at *
  have hF:=Rec.f2 (Rec.G hT.out ((G.refl _)))
  have bg:=hF.1
  have bn:=hF.2.1
  have bC:=hF.2.2.1
  have bD:=hF.2.2.2
  clear hF
  refine bodyPost_ret (v:= .tuple #[.slice none 0 0,.agg #[.int .i64 3,.int .i64 0]]) (by simp [results,Tryz.results53,go_sem, *]) rfl ?_
  exact⟨_,_,rfl,g9,Or.inr ⟨rfl,rfl,rfl⟩⟩
/-- Bounds of sums of lists that aren't long. -/
theorem q1D {l:List Nat} (h:l.length≤2000) (k:Nat):QB (Uz ((l.map fz).take k).sum) 80:=by
 refine q9e ?_
 have h1:=q43 (l:=l.take k) (by rw[List.length_take];omega) (k:=41) rfl
 rw[← List.map_take]
 refine Nat.lt_of_lt_of_le h1 ?_
 obtain⟨M,hM⟩:∃ M:Nat,M=5000:=⟨_,rfl⟩
 obtain⟨K,hK⟩:∃ K:Nat,K=41:=⟨_,rfl⟩
 rw[← hM,← hK]
 exact Nat.pow_le_pow_right (by omega) (by omega)
theorem qas (l:List Nat) (k:Nat):QB (Uz ((l.map fz).getD k 0)) 80:=by
 refine q9e ?_
 obtain⟨M,hM⟩:∃ M:Nat,M=5000:=⟨_,rfl⟩
 rw[← hM]
 by_cases h:k<l.length
 ·rw[getD_map h]
  have h2:=qaO (l.getD k 0)
  obtain⟨N,hN⟩:∃ N:Nat,N=2099:=⟨_,rfl⟩
  rw[← hN] at h2
  exact Nat.lt_of_lt_of_le h2 (Nat.pow_le_pow_right (by omega) (by omega))
 ·have:(l.map fz).getD k 0=0:=by
   rw[List.getD_eq_getElem?_getD,List.getElem?_eq_none (by rw[List.length_map];omega)]
   rfl
  rw[this]
  exact Nat.two_pow_pos _
/-- The sum of what was read. -/
theorem q1M (w:World) (v:Value) (l:List Nat) (hT:Tab w) (h:NSl w v (l.map fz)) (hn:l.length≤2000):
  Calls Tryz.prog 54 #[v] w (RetQ w (Uz (l.map fz).sum)):=
 qa5 w v (l.map fz) hT h (by rw[List.length_map];exact hn) (q1D hn) (qas l)
/-- A call hands back a list of the sum, or what is at fault. -/
def qcc (w:World) (l L:List Nat) (o:Bool) (e:Ending) (w':World):Prop:=∃ (v:Value) (c a:Int),e= .returned (.tuple #[v,.agg #[.int .i64 c,.int .i64 a]])∧G w w'∧
 ((Fin l∧a=0∧((o=true∧c=0∧FSl w' v L)∨(o=false∧c=3∧v= .slice none 0 0)))∨(∃ i:Nat,c=4∧a=i∧v= .slice none 0 0∧i<l.length∧fex (l.getD i 0)=2047∧∀ j,j<i→fex (l.getD j 0)<2047))
theorem qaU (w:World) (v:Value) (l L:List Nat) (o:Bool) (hT:Tab w) (h:FSl w v l) (hl:∀ b∈l,b<2^64) (hn:l.length≤2000) (hL:L.length≤100000) (hF:Fin l→Fr 9223372036854775807 (Uz (l.map fz).sum) L o):
  Calls Tryz.prog 16 #[v] w (qcc w l L o):=by
 have HR:Hid (∀ w1,G w w1→_):=fun w1 g=>q3B w1 v l (hT.G g) (h.G g) hl hn
 have kJ:Hid (Tab w):=hT
 have HF:Hid _:=hF
 obtain⟨pa,ca,rfl,-,-⟩:=h
 clear hF hT hl
 go_enter Tryz.func16,Tryz.ntmps16
 go_wp2_with fail
 obtain⟨w0,aB,g0,hz0,R0⟩:=q0e w [.int .i64 0,.int .i64 0] 29
 rw[aB]
 clear aB
 refine Calls.mono (P:=Tryz.prog) (HR.out w0 g0) ?_
 intro e1 w1 hs
 obtain⟨v,c,a,rfl,g1,hv⟩:=hs
 have RF:Hid (Rec w1 w.heap.size [.int .i64 0,.int .i64 0]):=Rec.G R0.out g1
 have bU:=G.trans g0 g1
 clear R0 HR hz0 g0 g1
 rcases hv with ⟨rfl,rfl,hfin,hv⟩|⟨i,rfl,rfl,rfl,hi⟩
 ·have hF:=HF.out hfin
  have HT2:Hid (∀ w2,G w1 w2→_):=fun w2 g=>q1M w2 v l (kJ.out.G (G.trans bU g)) (hv.G g) hn
  obtain⟨pb,cb,rfl,-,-⟩:=hv
  have hlm:(l.map fz).length=l.length:=List.length_map _
  rw[hlm] at HT2 ⊢
  have HFin:Hid (Fin l):=hfin
  have HW:Hid (∀ w3 v,G w w3→QIs w3 v (Uz (l.map fz).sum)→_):=fun w3 v g hv=>q9g w3 v _ L o (kJ.out.G g) hL hv hF
  generalize (l.map fz).sum=z at *
  clear HF hF hfin hlm kJ
  have aD:=Rec.f2 (Rec.G RF.out (G.refl _))
  have bG:=aD.1
  have bH:=aD.2.1
  have bI:=aD.2.2.1
  have bJ:=aD.2.2.2
  clear aD
  have hlt:=RF.out.lt
  go_wp2_with fail
  clear bG bH bI bJ
  obtain⟨w2,aB,g2,hz2,R0⟩:=q0e w1 [.int .i64 0,.int .i64 0] 29
  rw[aB]
  clear aB
  refine Calls.mono (P:=Tryz.prog) (HT2.out w2 g2) ?_
  intro e1 w3 hs
  obtain⟨v,rfl,g3,hv⟩:=hs
  have HV:Hid (QIs w3 v (Uz z)):=hv
  have g13:=G.trans g2 g3
  clear HT2 R0 hz2 hv
  go_wp2_with fail
  refine Calls.mono (P:=Tryz.prog) (HW.out w3 v (G.trans bU g13) HV.out) ?_
  intro e1 w4 hs
  obtain⟨v,c,rfl,g4,hv⟩:=hs
  have g14:=G.trans g13 g4
  have pI:Hid (Rec w4 w.heap.size [.int .i64 0,.int .i64 0]):=Rec.G RF.out g14
  have uu:Hid ((o=true∧c=0∧FSl ((w4.setCell ⟨w.heap.size,0,none⟩ (.int .i64 c)).setCell ⟨w.heap.size,1,none⟩ (.int .i64 0)) v L)∨(o=false∧c=3∧v= .slice none 0 0)):=by
   rcases hv with ⟨h1,h2,h3⟩|h
   ·exact Or.inl ⟨h1,h2,h3.flt pI.out⟩
   ·exact Or.inr h
  clear HW HV RF hv
  have bZ:=Rec.f2 (Rec.G pI.out (G.refl _))
  have mM:=bZ.1
  have mO:=bZ.2.1
  have mP:=bZ.2.2.1
  have mQ:=bZ.2.2.2
  clear bZ
  go_wp2_with fail
  have hT:Hid (Rec (World.setCell (World.setCell w4 ⟨w.heap.size,0,none⟩ (.int .i64 c)) ⟨w.heap.size,1,none⟩ (.int .i64 0)) (w.heap.size) [.int .i64 c,.int .i64 0]):=Rec.set2 (Rec.G pI.out (G.refl _))
  have g9:=Rec.g2 (b:=w.heap.size) (u:= .int .i64 c) (v:= .int .i64 0) (G.trans bU g14) (by omega)
  generalize (World.setCell (World.setCell w4 ⟨w.heap.size,0,none⟩ (.int .i64 c)) ⟨w.heap.size,1,none⟩ (.int .i64 0))=w9 at *
  have hF:=Rec.f2 (Rec.G hT.out ((G.refl _)))
  have bg:=hF.1
  have bn:=hF.2.1
  have bC:=hF.2.2.1
  have bD:=hF.2.2.2
  clear hF
  refine bodyPost_ret (v:= .tuple #[v,.agg #[.int .i64 c,.int .i64 0]]) (by simp [results,Tryz.results16,go_sem, *]) rfl ?_
  exact⟨v,c,0,rfl,g9,Or.inl ⟨HFin.out,rfl,uu.out⟩⟩
 ·skip
  have aD:=Rec.f2 (Rec.G RF.out (G.refl _))
  have bG:=aD.1
  have bH:=aD.2.1
  have bI:=aD.2.2.1
  have bJ:=aD.2.2.2
  clear aD
  have hlt:=RF.out.lt
  go_wp2_with fail
  go_region
  go_wp2_with fail
  have hT:Hid (Rec (World.setCell (World.setCell w1 ⟨w.heap.size,0,none⟩ (.int .i64 4)) ⟨w.heap.size,1,none⟩ (.int .i64 (i:Int))) (w.heap.size) [.int .i64 4,.int .i64 (i:Int)]):=Rec.set2 (Rec.G RF.out (G.refl _))
  have g9:=Rec.g2 (b:=w.heap.size) (u:= .int .i64 4) (v:= .int .i64 (i:Int)) (bU) (by omega)
  generalize (World.setCell (World.setCell w1 ⟨w.heap.size,0,none⟩ (.int .i64 4)) ⟨w.heap.size,1,none⟩ (.int .i64 (i:Int)))=w9 at *
  have hF:=Rec.f2 (Rec.G hT.out ((G.refl _)))
  have bg:=hF.1
  have bn:=hF.2.1
  have bC:=hF.2.2.1
  have bD:=hF.2.2.2
  clear hF
  have l7:=Rec.lt hT.out
  refine bodyPost_ret (v:= .tuple #[.slice none 0 0,.agg #[.int .i64 4,.int .i64 (i:Int)]]) (by simp [results,Tryz.results16,go_sem, *]) rfl ?_
  exact⟨_,_,_,rfl,(g9.alloc _).drew,Or.inr ⟨i,rfl,rfl,rfl,hi⟩⟩
theorem qan (b:Nat):QB (Uz (fz b)) 80:=by
 refine q9e ?_
 have h:=qaO b
 obtain⟨M,hM⟩:∃ M:Nat,M=5000:=⟨_,rfl⟩
 obtain⟨N,hN⟩:∃ N:Nat,N=2099:=⟨_,rfl⟩
 rw[← hM]
 rw[← hN] at h
 exact Nat.lt_of_lt_of_le h (Nat.pow_le_pow_right (by omega) (by omega))
end Go.Proofs.YtljkfjjchkehaaaGreatDoor.EN
namespace Go.Proofs.YtljkfjjchkehaaaGreatDoor.EN
open Go.RowKit
theorem q9r {l:List Nat} (h:l.length≤2000):∃ L o,(∀ k,100≤k→Fr k (Uz (l.map fz).sum) L o)∧L.length≤41:=by
 obtain⟨J,hJ⟩:∃ J:Nat,J=41:=⟨_,rfl⟩
 obtain⟨L,o,hF,hL,-⟩:=q6e J (l.map fz).sum 45 (q43 (by omega) hJ) (by omega) (by omega)
 rw[hJ] at hL
 exact⟨L,o,fun k hk=>q7y hF k (by omega) (by omega),hL⟩
theorem q8P (x y:Int):Uz x*Uz y=Wz (2^1074) (x*y):=by
 unfold Uz Wz
 rw[Rat.mkRat_mul_mkRat]
set_option exponentiation.threshold 6000 in
theorem qab {l m:List Nat} (h:l.length≤2000) (hm:m.length≤2000):∃ L o,(∀ k,100≤k→Fr k (Uz (l.map fz).sum*Uz (m.map fz).sum) L o)∧L.length≤63∧QB (Uz (l.map fz).sum*Uz (m.map fz).sum) 80:=by
 obtain⟨I,hI⟩:∃ I:Nat,I=41:=⟨_,rfl⟩
 have h1:=q43 (l:=l) (by omega) hI
 have h2:=q43 (l:=m) (by omega) hI
 rw[q8P]
 have h3:((l.map fz).sum*(m.map fz).sum).natAbs<2^(52*I)*2^(52*I):=by
  rw[Int.natAbs_mul]
  exact Nat.mul_lt_mul'' h1 h2
 rw[← Nat.pow_add] at h3
 generalize (l.map fz).sum*(m.map fz).sum=z at *
 clear h1 h2
 obtain⟨J,hJ⟩:∃ J:Nat,J=63:=⟨_,rfl⟩
 obtain⟨E,hE⟩:∃ E:Nat,E=1074:=⟨_,rfl⟩
 obtain⟨F,hF⟩:∃ F:Nat,F=52*I+52*I:=⟨_,rfl⟩
 rw[← hE]
 rw[← hF] at h3
 have hU:0<2^E:=Nat.two_pow_pos _
 have hq:∀ z:Int,2*z.natAbs≤2^E*2^(51*J)→QB (Wz (2^E) z) 80:=by
  intro z hz
  rw[← Nat.pow_add] at hz
  refine qak (z:=z) (d:=2^1074*2^E) (K:=80) (Nat.mul_pos q0w hU) rfl ?_ ?_
  ·obtain⟨M,hM⟩:∃ M:Nat,M=64*80:=⟨_,rfl⟩
   rw[← hM]
   have h5:2^(E+51*J)≤2^M:=Nat.pow_le_pow_right (by omega) (by omega)
   have h6:=Nat.two_pow_pos (E+51*J)
   omega
  ·rw[← Nat.pow_add]
   exact Nat.pow_lt_pow_right (by omega) (by omega)
 have hz:2*z.natAbs≤2^E*2^(51*J):=by
  rw[← Nat.pow_add]
  have h5:2^(F+1)≤2^(E+51*J):=Nat.pow_le_pow_right (by omega) (by omega)
  rw[Nat.pow_succ] at h5
  omega
 obtain⟨L,o,hF2,hL⟩:=qai hU J hq J z (Nat.le_refl _) hz
 exact⟨L,o,fun k hk=>q7y hF2 k (by omega) (by omega),by omega,hq z hz⟩
end Go.Proofs.YtljkfjjchkehaaaGreatDoor.EN
namespace Go.Proofs.YtljkfjjchkehaaaGreatDoor.EN
open Go.ChangeShapes Go.WideShapes Go.ChangeAt Go.RowKit
/-- A number's float in a mode. -/
def flW (m:Int) (q:Rat):Nat:=if q=0 then 0 else FT.wrd (decide (q.num<0)) (rdV m (decide (q.num<0)) q.num.natAbs q.den)
/-- A call hands back a sum's float, or what is at fault. -/
def q9H (w:World) (l:List Nat) (m:Int) (e:Ending) (w':World):Prop:=∃ (b:Nat) (c a:Int),e= .returned (.tuple #[.float .f64 b,.agg #[.int .i64 c,.int .i64 a]])∧G w w'∧
 ((Fin l∧b=flW m (Uz (l.map fz).sum)∧c=0∧a=0)∨(∃ i:Nat,b=0∧c=4∧a=i∧i<l.length∧fex (l.getD i 0)=2047∧∀ j,j<i→fex (l.getD j 0)<2047))
/-- Both lists are read. -/
def q9P (w:World) (l m:List Nat) (e:Ending) (w':World):Prop:=∃ (v u:Value),e= .returned (.tuple #[v,u,.agg #[.int .i64 0,.int .i64 0]])∧G w w'∧NSl w' v (l.map fz)∧NSl w' u (m.map fz)
theorem q3p {l:List Nat} (h:Fin l) {i:Nat} (hi:i<l.length) (hf:fex (l.getD i 0)=2047):False:=by
 have:=h (l.getD i 0) (by rw[List.getD_eq_getElem?_getD,List.getElem?_eq_getElem hi];exact List.getElem_mem _)
 omega
theorem q3I (w:World) (v u:Value) (l m:List Nat) (hT:Tab w) (h:FSl w v l) (hu:FSl w u m) (hl:∀ b∈l,b<2^64) (hm:∀ b∈m,b<2^64) (hn:l.length≤2000) (hk:m.length≤2000) (hfl:Fin l) (hfm:Fin m):
  Calls Tryz.prog 55 #[v,u] w (q9P w l m):=by
 have HR:Hid (∀ w1,G w w1→_):=fun w1 g=>q3B w1 v l (hT.G g) (h.G g) hl hn
 have HR2:Hid (∀ w1,G w w1→_):=fun w1 g=>q3B w1 u m (hT.G g) (hu.G g) hm hk
 have wW:Hid (Fin l):=hfl
 have NA:Hid (Fin m):=hfm
 obtain⟨pa,ca,rfl,-,-⟩:=h
 obtain⟨pb,cb,rfl,-,-⟩:=hu
 clear hT hl hm hfl hfm
 go_enter Tryz.func55,Tryz.ntmps55
 go_wp2_with fail
 obtain⟨w0,aB,g0,hz0,R0⟩:=q0e w [.int .i64 0,.int .i64 0] 29
 rw[aB]
 clear aB
 refine Calls.mono (P:=Tryz.prog) (HR.out w0 g0) ?_
 intro e1 w1 hs
 obtain⟨v,c,a,rfl,g1,hv⟩:=hs
 have RF:Hid (Rec w1 w.heap.size [.int .i64 0,.int .i64 0]):=Rec.G R0.out g1
 have bU:=G.trans g0 g1
 clear R0 HR hz0 g0 g1
 rcases hv with ⟨rfl,rfl,-,hv⟩|⟨i,-,-,-,hi1,hi2,-⟩
 case inr=>exact absurd hi2 (fun h=>q3p wW.out hi1 h)
 have HV:Hid (NSl w1 v (l.map fz)):=hv
 clear hv wW
 have aD:=Rec.f2 (Rec.G RF.out (G.refl _))
 have bG:=aD.1
 have bH:=aD.2.1
 have bI:=aD.2.2.1
 have bJ:=aD.2.2.2
 clear aD
 have hlt:=RF.out.lt
 go_wp2_with fail
 clear bG bH bI bJ hlt
 have yL:Hid (Rec ((w1.setCell ⟨w.heap.size,0,none⟩ (.int .i64 0)).setCell ⟨w.heap.size,1,none⟩ (.int .i64 0)) w.heap.size [.int .i64 0,.int .i64 0]):=Rec.set2 RF.out
 have tT:Hid (NSl ((w1.setCell ⟨w.heap.size,0,none⟩ (.int .i64 0)).setCell ⟨w.heap.size,1,none⟩ (.int .i64 0)) v (l.map fz)):=NSl.flt HV.out RF.out
 have g12:G w ((w1.setCell ⟨w.heap.size,0,none⟩ (.int .i64 0)).setCell ⟨w.heap.size,1,none⟩ (.int .i64 0)):=Rec.g2 (b:=w.heap.size) bU (by omega)
 clear HV RF bU
 generalize (w1.setCell ⟨w.heap.size,0,none⟩ (.int .i64 0)).setCell ⟨w.heap.size,1,none⟩ (.int .i64 0)=w2 at *
 refine Calls.mono (P:=Tryz.prog) (HR2.out w2 g12) ?_
 intro e1 w3 hs
 obtain⟨u,c,a,rfl,g3,hu⟩:=hs
 have pX:Hid (Rec w3 w.heap.size [.int .i64 0,.int .i64 0]):=Rec.G yL.out g3
 have g13:=G.trans g12 g3
 have pY:Hid (NSl w3 v (l.map fz)):=NSl.G tT.out g3
 clear yL tT HR2
 rcases hu with ⟨rfl,rfl,-,hu⟩|⟨i,-,-,-,hi1,hi2,-⟩
 case inr=>exact absurd hi2 (fun h=>q3p NA.out hi1 h)
 have HU:Hid (NSl w3 u (m.map fz)):=hu
 clear hu NA
 have pI:Hid (Rec ((w3.setCell ⟨w.heap.size,0,none⟩ (.int .i64 0)).setCell ⟨w.heap.size,1,none⟩ (.int .i64 0)) w.heap.size [.int .i64 0,.int .i64 0]):=Rec.set2 pX.out
 have Aa:Hid (NSl ((w3.setCell ⟨w.heap.size,0,none⟩ (.int .i64 0)).setCell ⟨w.heap.size,1,none⟩ (.int .i64 0)) v (l.map fz)):=NSl.flt pY.out pX.out
 have Qa:Hid (NSl ((w3.setCell ⟨w.heap.size,0,none⟩ (.int .i64 0)).setCell ⟨w.heap.size,1,none⟩ (.int .i64 0)) u (m.map fz)):=NSl.flt HU.out pX.out
 have g14:G w ((w3.setCell ⟨w.heap.size,0,none⟩ (.int .i64 0)).setCell ⟨w.heap.size,1,none⟩ (.int .i64 0)):=Rec.g2 (b:=w.heap.size) g13 (by omega)
 have dP:=Rec.f2 (Rec.G pX.out (G.refl _))
 have jO:=dP.1
 have jP:=dP.2.1
 have jQ:=dP.2.2.1
 have jR:=dP.2.2.2
 clear dP
 have hlt:=pX.out.lt
 go_wp2_with fail
 clear jO jP jQ jR hlt pY HU pX g13
 generalize (w3.setCell ⟨w.heap.size,0,none⟩ (.int .i64 0)).setCell ⟨w.heap.size,1,none⟩ (.int .i64 0)=w4 at *
 have uu:Hid (NSl _ _ _):=NSl.flt (x':=0) (y':=0) Aa.out pI.out
 have Qb:Hid (NSl _ _ _):=NSl.flt (x':=0) (y':=0) Qa.out pI.out
 have bZ:=Rec.f2 (Rec.G pI.out (G.refl _))
 have mM:=bZ.1
 have mO:=bZ.2.1
 have mP:=bZ.2.2.1
 have mQ:=bZ.2.2.2
 clear bZ
 have hlt:=pI.out.lt
 go_region
 go_wp2_with fail
 have hT:Hid (Rec (World.setCell (World.setCell w4 ⟨w.heap.size,0,none⟩ (.int .i64 0)) ⟨w.heap.size,1,none⟩ (.int .i64 0)) (w.heap.size) [.int .i64 0,.int .i64 0]):=Rec.set2 (Rec.G pI.out (G.refl _))
 have g9:=Rec.g2 (b:=w.heap.size) (u:= .int .i64 0) (v:= .int .i64 0) (g14) (by omega)
 generalize (World.setCell (World.setCell w4 ⟨w.heap.size,0,none⟩ (.int .i64 0)) ⟨w.heap.size,1,none⟩ (.int .i64 0))=w9 at *
 have hF:=Rec.f2 (Rec.G hT.out ((G.refl _)))
 have bg:=hF.1
 have bn:=hF.2.1
 have bC:=hF.2.2.1
 have bD:=hF.2.2.2
 clear hF
 have l7:=Rec.lt hT.out
 refine bodyPost_ret (v:= .tuple #[v,u,.agg #[.int .i64 0,.int .i64 0]]) (by simp [results,Tryz.results55,go_sem, *]) rfl ?_
 exact⟨v,u,rfl,g9.drew,uu.out.G (G.refl _).drew,Qb.out.G (G.refl _).drew⟩
theorem q5m (w:World) (v u:Value) (l m:List Nat) (hT:Tab w) (h:FSl w v l) (hu:FSl w u m) (hl:∀ b∈l,b<2^64) (hm:∀ b∈m,b<2^64) (hn:l.length≤2000) (hk:m.length≤2000) (hfl:Fin l) (hfm:Fin m):
  Calls Tryz.prog 18 #[v,u] w fun e w'=>e= .returned (.tuple #[.int .i64 ((l.map fz).sum-(m.map fz).sum).sign,.agg #[.int .i64 0,.int .i64 0]])∧G w w':=by
 have HR:Hid (∀ w1,G w w1→_):=fun w1 g=>q3I w1 v u l m (hT.G g) (h.G g) (hu.G g) hl hm hn hk hfl hfm
 have kJ:Hid (Tab w):=hT
 have hq1:=q1D hn l.length
 rw[List.take_of_length_le (by rw[List.length_map];exact Nat.le_refl _)] at hq1
 have hq2:=q1D hk m.length
 rw[List.take_of_length_le (by rw[List.length_map];exact Nat.le_refl _)] at hq2
 obtain⟨pa,ca,rfl,-,-⟩:=h
 obtain⟨pb,cb,rfl,-,-⟩:=hu
 have HC:Hid (∀ w1 v u,QIs w1 v (Uz (l.map fz).sum)→QIs w1 u (Uz (m.map fz).sum)→Calls Tryz.prog 57 #[v,u] w1 fun e w'=>e= .returned (.int .i64 ((l.map fz).sum-(m.map fz).sum).sign)∧G w1 w'):=fun w1 v u k1 k2=>by
  have h:=qaX w1 v u _ _ 80 (by omega) k1 k2 hq1 hq2
  rw[q9E] at h
  exact h
 have HT1:Hid (∀ w2 v,G w w2→NSl w2 v (l.map fz)→_):=fun w2 v g hv=>q1M w2 v l (kJ.out.G g) hv hn
 have HT2:Hid (∀ w2 v,G w w2→NSl w2 v (m.map fz)→_):=fun w2 v g hv=>q1M w2 v m (kJ.out.G g) hv hk
 clear hT hl hm hfl hfm hq1 hq2 kJ
 generalize ((l.map fz).sum-(m.map fz).sum).sign=s at *
 go_enter Tryz.func18,Tryz.ntmps18
 go_wp2_with fail
 obtain⟨w0,aB,g0,hz0,R0⟩:=q0e w [.int .i64 0,.int .i64 0] 29
 rw[aB]
 clear aB
 refine Calls.mono (P:=Tryz.prog) (HR.out w0 g0) ?_
 intro e1 w1 hs
 obtain⟨v,u,rfl,g1,hv,hu⟩:=hs
 have RF:Hid (Rec w1 w.heap.size [.int .i64 0,.int .i64 0]):=Rec.G R0.out g1
 have bU:=G.trans g0 g1
 clear R0 HR hz0 g0 g1
 have HV:Hid (NSl w1 v (l.map fz)):=hv
 have HU:Hid (NSl w1 u (m.map fz)):=hu
 clear hv hu
 have hlt:=RF.out.lt
 go_wp2_with fail
 obtain⟨w2,aB,g2,hz2,R0⟩:=q0e w1 [.int .i64 0,.int .i64 0] 29
 rw[aB]
 clear aB
 have iJ:=G.trans bU g2
 refine Calls.mono (P:=Tryz.prog) (HT1.out w2 v iJ (NSl.G HV.out g2)) ?_
 intro e1 w3 hs
 obtain⟨p,rfl,g3,hp⟩:=hs
 have HP:Hid (QIs w3 p (Uz (l.map fz).sum)):=hp
 have kR:=G.trans iJ g3
 have uw:Hid (NSl w3 u (m.map fz)):=NSl.G HU.out (G.trans g2 g3)
 clear HT1 HV HU hp R0 hz2
 go_wp2_with fail
 refine Calls.mono (P:=Tryz.prog) (HT2.out w3 u kR uw.out) ?_
 intro e1 w4 hs
 obtain⟨q,rfl,g4,hq⟩:=hs
 have HQ:Hid (QIs w4 q (Uz (m.map fz).sum)):=hq
 have sM:Hid (QIs w4 p (Uz (l.map fz).sum)):=QIs.G HP.out g4
 clear HT2 HP uw hq
 go_wp2_with fail
 refine Calls.mono (P:=Tryz.prog) (HC.out w4 p q sM.out HQ.out) ?_
 rintro e1 w5 ⟨rfl,g5⟩
 have g15:=G.trans g2 (G.trans g3 (G.trans g4 g5))
 clear HC sM HQ hlt
 have aD:=Rec.f2 (Rec.G RF.out (g15))
 have bG:=aD.1
 have bH:=aD.2.1
 have bI:=aD.2.2.1
 have bJ:=aD.2.2.2
 clear aD
 go_wp2_with fail
 have hT:Hid (Rec (World.setCell (World.setCell w5 ⟨w.heap.size,0,none⟩ (.int .i64 0)) ⟨w.heap.size,1,none⟩ (.int .i64 0)) (w.heap.size) [.int .i64 0,.int .i64 0]):=Rec.set2 (Rec.G RF.out (g15))
 have g9:=Rec.g2 (b:=w.heap.size) (u:= .int .i64 0) (v:= .int .i64 0) (G.trans bU g15) (by omega)
 generalize (World.setCell (World.setCell w5 ⟨w.heap.size,0,none⟩ (.int .i64 0)) ⟨w.heap.size,1,none⟩ (.int .i64 0))=w9 at *
 have hF:=Rec.f2 (Rec.G hT.out ((G.refl _)))
 have bg:=hF.1
 have bn:=hF.2.1
 have bC:=hF.2.2.1
 have bD:=hF.2.2.2
 clear hF
 refine bodyPost_ret (v:= .tuple #[.int .i64 s,.agg #[.int .i64 0,.int .i64 0]]) (by simp [results,Tryz.results18,go_sem, *]) rfl ?_
 exact⟨rfl,g9⟩
theorem FOwn.base {w:World} {b b':Nat} {v:Value} {l:List Nat} (h:FOwn w b v l) (hb:b'≤b):FOwn w b' v l:=by
 rcases h with h|⟨g,cap,cur,e,h1,h2⟩
 ·exact Or.inl h
 ·exact Or.inr ⟨g,cap,cur,e,Nat.le_trans hb h1,h2⟩
theorem FOwn.flt {w:World} {base b:Nat} {v x y:Value} {l:List Nat} (h:FOwn w base v l) (hb:v.ownBlock≠some b):FOwn ((w.setCell ⟨b,0,none⟩ x).setCell ⟨b,1,none⟩ y) base v l:=
 FOwn.oth (FOwn.oth h hb (fun _ hk=>q2p hk)) hb (fun _ hk=>q2p hk)
/-- A call hands back a list in a block of its own, and a fault. -/
def RetListO (w:World) (L:List Nat) (o:Bool) (e:Ending) (w':World):Prop:=∃ (v:Value) (c:Int),e= .returned (.tuple #[v,.agg #[.int .i64 c,.int .i64 0]])∧G w w'∧((o=true∧c=0∧FOwn w' w.heap.size v L)∨(o=false∧c=3∧v= .slice none 0 0))
theorem q8c (w:World) (v:Value) (x:Rat) (L:List Nat) (o:Bool) (hT:Tab w) (hL:L.length≤100000) (h:QIs w v x) (hF:Fr 9223372036854775807 x L o):
  Calls Tryz.prog 53 #[v] w (RetListO w L o):=by
 have wK:Hid (∀ w1,G w w1→_):=fun w1 g=>q4L w1 v x 9223372036854775807 L o (hT.G g) hL (h.G g) hF
 obtain⟨a,k,c,a',k',c',rfl,-,-⟩:=h
 generalize decide (x.num<0)=t at *
 clear hF hT
 go_enter Tryz.func53,Tryz.ntmps53
 go_wp2_with fail
 obtain⟨w0,aB,g0,hz0,R0,R1⟩:=q1S w [.bool t,.slice a k c,.slice a' k' c'] [.int .i64 0,.int .i64 0] 97 29
 rw[aB]
 clear aB
 refine Calls.mono (P:=Tryz.prog) (wK.out w0 g0) ?_
 intro e1 w1 hs
 obtain⟨v,rfl,g1,hv⟩:=hs
 have bU:=G.trans g0 g1
 have RF:Hid (Rec w1 (w.heap.size+1) [.int .i64 0,.int .i64 0]):=Rec.G R1.out g1
 have hz:=hz0
 clear R0 R1 hz0 wK g0 g1
 rcases hv with ⟨rfl,hv⟩|⟨rfl,rfl⟩
 ·have HV:Hid (FOwn _ _ _ _):=hv
  have hown:v.ownBlock≠some (w.heap.size+1):=hv.own (Or.inl (by rw[hz];omega))
  obtain⟨pl,cl,rfl⟩:=hv.len
  have uu:Hid (FOwn ((w1.setCell ⟨w.heap.size+1,0,none⟩ (.int .i64 0)).setCell ⟨w.heap.size+1,1,none⟩ (.int .i64 0)) w.heap.size _ _):=FOwn.base (FOwn.flt HV.out hown) (by omega)
  clear hv hown
  have aD:=Rec.f2 (Rec.G RF.out (G.refl _))
  have bG:=aD.1
  have bH:=aD.2.1
  have bI:=aD.2.2.1
  have bJ:=aD.2.2.2
  clear aD
  go_wp2_with fail
  have hT:Hid (Rec (World.setCell (World.setCell w1 ⟨w.heap.size+1,0,none⟩ (.int .i64 0)) ⟨w.heap.size+1,1,none⟩ (.int .i64 0)) (w.heap.size+1) [.int .i64 0,.int .i64 0]):=Rec.set2 (Rec.G RF.out (G.refl _))
  have g9:=Rec.g2 (b:=w.heap.size+1) (u:= .int .i64 0) (v:= .int .i64 0) (bU) (by omega)
  generalize (World.setCell (World.setCell w1 ⟨w.heap.size+1,0,none⟩ (.int .i64 0)) ⟨w.heap.size+1,1,none⟩ (.int .i64 0))=w9 at *
  have hF:=Rec.f2 (Rec.G hT.out ((G.refl _)))
  have bg:=hF.1
  have bn:=hF.2.1
  have bC:=hF.2.2.1
  have bD:=hF.2.2.2
  clear hF
  refine bodyPost_ret (v:= .tuple #[.slice pl L.length cl,.agg #[.int .i64 0,.int .i64 0]]) (by simp [results,Tryz.results53,go_sem, *]) rfl ?_
  exact⟨_,_,rfl,g9,Or.inl ⟨rfl,rfl,uu.out⟩⟩
 ·skip
  have aD:=Rec.f2 (Rec.G RF.out (G.refl _))
  have bG:=aD.1
  have bH:=aD.2.1
  have bI:=aD.2.2.1
  have bJ:=aD.2.2.2
  clear aD
  go_wp2_with fail
  have hT:Hid (Rec (World.setCell (World.setCell w1 ⟨w.heap.size+1,0,none⟩ (.int .i64 3)) ⟨w.heap.size+1,1,none⟩ (.int .i64 0)) (w.heap.size+1) [.int .i64 3,.int .i64 0]):=Rec.set2 (Rec.G RF.out (G.refl _))
  have g9:=Rec.g2 (b:=w.heap.size+1) (u:= .int .i64 3) (v:= .int .i64 0) (bU) (by omega)
  generalize (World.setCell (World.setCell w1 ⟨w.heap.size+1,0,none⟩ (.int .i64 3)) ⟨w.heap.size+1,1,none⟩ (.int .i64 0))=w9 at *
  have hF:=Rec.f2 (Rec.G hT.out ((G.refl _)))
  have bg:=hF.1
  have bn:=hF.2.1
  have bC:=hF.2.2.1
  have bD:=hF.2.2.2
  clear hF
  refine bodyPost_ret (v:= .tuple #[.slice none 0 0,.agg #[.int .i64 3,.int .i64 0]]) (by simp [results,Tryz.results53,go_sem, *]) rfl ?_
  exact⟨_,_,rfl,g9,Or.inr ⟨rfl,rfl,rfl⟩⟩
theorem q9B (w:World) (v:Value) (l L:List Nat) (o:Bool) (hT:Tab w) (h:FSl w v l) (hl:∀ b∈l,b<2^64) (hn:l.length≤2000) (hL:L.length≤100000) (hfl:Fin l) (hF:Fr 9223372036854775807 (Uz (l.map fz).sum) L o):
  Calls Tryz.prog 16 #[v] w (RetListO w L o):=by
 have HR:Hid (∀ w1,G w w1→_):=fun w1 g=>q3B w1 v l (hT.G g) (h.G g) hl hn
 have kJ:Hid (Tab w):=hT
 have HF:Hid _:=hF
 have wW:Hid (Fin l):=hfl
 obtain⟨pa,ca,rfl,-,-⟩:=h
 clear hF hT hl hfl
 go_enter Tryz.func16,Tryz.ntmps16
 go_wp2_with fail
 obtain⟨w0,aB,g0,hz0,R0⟩:=q0e w [.int .i64 0,.int .i64 0] 29
 rw[aB]
 clear aB
 refine Calls.mono (P:=Tryz.prog) (HR.out w0 g0) ?_
 intro e1 w1 hs
 obtain⟨v,c,a,rfl,g1,hv⟩:=hs
 have RF:Hid (Rec w1 w.heap.size [.int .i64 0,.int .i64 0]):=Rec.G R0.out g1
 have bU:=G.trans g0 g1
 clear R0 HR hz0 g0 g1
 rcases hv with ⟨rfl,rfl,hfin,hv⟩|⟨i,-,-,-,hi1,hi2,-⟩
 case inr=>exact absurd hi2 (fun h=>q3p wW.out hi1 h)
 ·have hF:=HF.out
  have HT2:Hid (∀ w2,G w1 w2→_):=fun w2 g=>q1M w2 v l (kJ.out.G (G.trans bU g)) (hv.G g) hn
  obtain⟨pb,cb,rfl,-,-⟩:=hv
  have hlm:(l.map fz).length=l.length:=List.length_map _
  rw[hlm] at HT2 ⊢
  have HFin:Hid (Fin l):=hfin
  have HW:Hid (∀ w3 v,G w w3→QIs w3 v (Uz (l.map fz).sum)→_):=fun w3 v g hv=>q8c w3 v _ L o (kJ.out.G g) hL hv hF
  generalize (l.map fz).sum=z at *
  have U7:G w1 w1:=G.refl _
  have hlt1:=RF.out.lt
  clear HF hF hfin hlm kJ
  have aD:=Rec.f2 (Rec.G RF.out (G.refl _))
  have bG:=aD.1
  have bH:=aD.2.1
  have bI:=aD.2.2.1
  have bJ:=aD.2.2.2
  clear aD
  have hlt:=RF.out.lt
  go_wp2_with fail
  clear bG bH bI bJ
  obtain⟨w2,aB,g2,hz2,R0⟩:=q0e w1 [.int .i64 0,.int .i64 0] 29
  rw[aB]
  clear aB
  refine Calls.mono (P:=Tryz.prog) (HT2.out w2 g2) ?_
  intro e1 w3 hs
  obtain⟨v,rfl,g3,hv⟩:=hs
  have HV:Hid (QIs w3 v (Uz z)):=hv
  have g13:=G.trans g2 g3
  clear HT2 R0 hz2 hv
  go_wp2_with fail
  refine Calls.mono (P:=Tryz.prog) (HW.out w3 v (G.trans bU g13) HV.out) ?_
  intro e1 w4 hs
  obtain⟨v,c,rfl,g4,hv⟩:=hs
  have g14:=G.trans g13 g4
  have pI:Hid (Rec w4 w.heap.size [.int .i64 0,.int .i64 0]):=Rec.G RF.out g14
  have hsz:=(G.trans U7 g13).size
  have uu:Hid ((o=true∧c=0∧FOwn ((w4.setCell ⟨w.heap.size,0,none⟩ (.int .i64 c)).setCell ⟨w.heap.size,1,none⟩ (.int .i64 0)) w.heap.size v L)∨(o=false∧c=3∧v= .slice none 0 0)):=by
   rcases hv with ⟨h1,h2,h3⟩|h
   ·exact Or.inl ⟨h1,h2,FOwn.base (FOwn.flt h3 (h3.own (Or.inl (by omega)))) (by omega)⟩
   ·exact Or.inr h
  clear HW HV RF hv
  have bZ:=Rec.f2 (Rec.G pI.out (G.refl _))
  have mM:=bZ.1
  have mO:=bZ.2.1
  have mP:=bZ.2.2.1
  have mQ:=bZ.2.2.2
  clear bZ
  go_wp2_with fail
  have hT:Hid (Rec (World.setCell (World.setCell w4 ⟨w.heap.size,0,none⟩ (.int .i64 c)) ⟨w.heap.size,1,none⟩ (.int .i64 0)) (w.heap.size) [.int .i64 c,.int .i64 0]):=Rec.set2 (Rec.G pI.out (G.refl _))
  have g9:=Rec.g2 (b:=w.heap.size) (u:= .int .i64 c) (v:= .int .i64 0) (G.trans bU g14) (by omega)
  generalize (World.setCell (World.setCell w4 ⟨w.heap.size,0,none⟩ (.int .i64 c)) ⟨w.heap.size,1,none⟩ (.int .i64 0))=w9 at *
  have hF:=Rec.f2 (Rec.G hT.out ((G.refl _)))
  have bg:=hF.1
  have bn:=hF.2.1
  have bC:=hF.2.2.1
  have bD:=hF.2.2.2
  clear hF
  refine bodyPost_ret (v:= .tuple #[v,.agg #[.int .i64 c,.int .i64 0]]) (by simp [results,Tryz.results16,go_sem, *]) rfl ?_
  exact⟨v,c,rfl,g9,uu.out⟩
theorem qcm (w:World) (v u:Value) (l m:List Nat) (hT:Tab w) (h:FSl w v l) (hu:FSl w u m) (hl:∀ b∈l,b<2^64) (hm:∀ b∈m,b<2^64) (hn:l.length≤2000) (hk:m.length≤2000) (hfl:Fin l) (hfm:Fin m) (L:List Nat) (o:Bool) (hL:L.length≤100000) (hF:Fr 9223372036854775807 (Uz (l.map fz).sum*Uz (m.map fz).sum) L o):
  Calls Tryz.prog 17 #[v,u] w (RetListO w L o):=by
 have HR:Hid (∀ w1,G w w1→_):=fun w1 g=>q3I w1 v u l m (hT.G g) (h.G g) (hu.G g) hl hm hn hk hfl hfm
 have kJ:Hid (Tab w):=hT
 have hq1:=q1D hn l.length
 rw[List.take_of_length_le (by rw[List.length_map];exact Nat.le_refl _)] at hq1
 have hq2:=q1D hk m.length
 rw[List.take_of_length_le (by rw[List.length_map];exact Nat.le_refl _)] at hq2
 obtain⟨pa,ca,rfl,-,-⟩:=h
 obtain⟨pb,cb,rfl,-,-⟩:=hu
 have HC:Hid (∀ w1 v u,G w w1→QIs w1 v (Uz (l.map fz).sum)→QIs w1 u (Uz (m.map fz).sum)→_):=fun w1 v u g k1 k2=>q9p w1 v u _ _ 80 (by omega) (by omega) (kJ.out.G g) k1 k2 hq1 hq2
 have HW:Hid (∀ w1 v,G w w1→QIs w1 v (Uz (l.map fz).sum*Uz (m.map fz).sum)→_):=fun w1 v g hv=>q8c w1 v _ L o (kJ.out.G g) hL hv hF
 have HT1:Hid (∀ w2 v,G w w2→NSl w2 v (l.map fz)→_):=fun w2 v g hv=>q1M w2 v l (kJ.out.G g) hv hn
 have HT2:Hid (∀ w2 v,G w w2→NSl w2 v (m.map fz)→_):=fun w2 v g hv=>q1M w2 v m (kJ.out.G g) hv hk
 clear hT hl hm hfl hfm hq1 hq2 kJ hF hL
 generalize Uz (l.map fz).sum*Uz (m.map fz).sum=r at *
 go_enter Tryz.func17,Tryz.ntmps17
 go_wp2_with fail
 obtain⟨w0,aB,g0,hz0,R0⟩:=q0e w [.int .i64 0,.int .i64 0] 29
 rw[aB]
 clear aB
 refine Calls.mono (P:=Tryz.prog) (HR.out w0 g0) ?_
 intro e1 w1 hs
 obtain⟨v,u,rfl,g1,hv,hu⟩:=hs
 have RF:Hid (Rec w1 w.heap.size [.int .i64 0,.int .i64 0]):=Rec.G R0.out g1
 have bU:=G.trans g0 g1
 clear R0 HR hz0 g0 g1
 have HV:Hid (NSl w1 v (l.map fz)):=hv
 have HU:Hid (NSl w1 u (m.map fz)):=hu
 clear hv hu
 have hlt:=RF.out.lt
 go_wp2_with fail
 obtain⟨w2,aB,g2,hz2,R0⟩:=q0e w1 [.int .i64 0,.int .i64 0] 29
 rw[aB]
 clear aB
 have iJ:=G.trans bU g2
 refine Calls.mono (P:=Tryz.prog) (HT1.out w2 v iJ (NSl.G HV.out g2)) ?_
 intro e1 w3 hs
 obtain⟨p,rfl,g3,hp⟩:=hs
 have HP:Hid (QIs w3 p (Uz (l.map fz).sum)):=hp
 have kR:=G.trans iJ g3
 have uw:Hid (NSl w3 u (m.map fz)):=NSl.G HU.out (G.trans g2 g3)
 clear HT1 HV HU hp R0 hz2
 go_wp2_with fail
 refine Calls.mono (P:=Tryz.prog) (HT2.out w3 u kR uw.out) ?_
 intro e1 w4 hs
 obtain⟨q,rfl,g4,hq⟩:=hs
 have HQ:Hid (QIs w4 q (Uz (m.map fz).sum)):=hq
 have sM:Hid (QIs w4 p (Uz (l.map fz).sum)):=QIs.G HP.out g4
 clear HT2 HP uw hq
 go_wp2_with fail
 refine Calls.mono (P:=Tryz.prog) (HC.out w4 p q (G.trans kR g4) sM.out HQ.out) ?_
 intro e1 w5 hs
 obtain⟨y,rfl,g5,hy⟩:=hs
 have HY:Hid (QIs w5 y r):=hy
 have l5:=G.trans kR (G.trans g4 g5)
 clear HC sM HQ hy
 go_wp2_with fail
 refine Calls.mono (P:=Tryz.prog) (HW.out w5 y l5 HY.out) ?_
 intro e1 w6 hs
 obtain⟨v9,c,rfl,g6,PS⟩:=hs
 have g15:=G.trans g2 (G.trans g3 (G.trans g4 (G.trans g5 g6)))
 have hsz:=(G.trans g2 (G.trans g3 (G.trans g4 g5))).size
 have uu:Hid ((o=true∧c=0∧FOwn ((w6.setCell ⟨w.heap.size,0,none⟩ (.int .i64 c)).setCell ⟨w.heap.size,1,none⟩ (.int .i64 0)) w.heap.size v9 L)∨(o=false∧c=3∧v9= .slice none 0 0)):=by
  rcases PS with ⟨h1,h2,h3⟩|h
  ·exact Or.inl ⟨h1,h2,FOwn.base (FOwn.flt h3 (h3.own (Or.inl (by omega)))) (by omega)⟩
  ·exact Or.inr h
 clear HW HY hlt PS hsz
 have aD:=Rec.f2 (Rec.G RF.out (g15))
 have bG:=aD.1
 have bH:=aD.2.1
 have bI:=aD.2.2.1
 have bJ:=aD.2.2.2
 clear aD
 go_wp2_with fail
 have hT:Hid (Rec (World.setCell (World.setCell w6 ⟨w.heap.size,0,none⟩ (.int .i64 c)) ⟨w.heap.size,1,none⟩ (.int .i64 0)) (w.heap.size) [.int .i64 c,.int .i64 0]):=Rec.set2 (Rec.G RF.out (g15))
 have g9:=Rec.g2 (b:=w.heap.size) (u:= .int .i64 c) (v:= .int .i64 0) (G.trans bU g15) (by omega)
 generalize (World.setCell (World.setCell w6 ⟨w.heap.size,0,none⟩ (.int .i64 c)) ⟨w.heap.size,1,none⟩ (.int .i64 0))=w9 at *
 have hF:=Rec.f2 (Rec.G hT.out ((G.refl _)))
 have bg:=hF.1
 have bn:=hF.2.1
 have bC:=hF.2.2.1
 have bD:=hF.2.2.2
 clear hF
 refine bodyPost_ret (v:= .tuple #[v9,.agg #[.int .i64 c,.int .i64 0]]) (by simp [results,Tryz.results17,go_sem, *]) rfl ?_
 exact⟨v9,c,rfl,g9,uu.out⟩
/-- A store of a float. -/
theorem q0M (P:Program) (w:World) (a:Addr) (m:Mode) (k:FloatKind) (n:Nat):(store a (.float k n) m).run P w=stored P w a (.float k n) m:=run_store P w a _ m rfl
attribute [local go_sem] q0M
theorem q6S (w:World) (t:TypeId) (x y:Value):(w.alloc (.cells #[x,y] t)).cell? ⟨w.heap.size,0,none⟩=some x∧(w.alloc (.cells #[x,y] t)).cell? ⟨w.heap.size,1,none⟩=some y∧(w.alloc (.cells #[x,y] t)).frozen? ⟨w.heap.size,0,none⟩=false∧(w.alloc (.cells #[x,y] t)).frozen? ⟨w.heap.size,1,none⟩=false:=
 Rec.f2 (Rec.new2 w x y t)
set_option maxRecDepth 10000 in
/-- 'copy' of a list of up to two floats into an array of two. -/
theorem q71 (w:World) (a:Option Addr) (L:List Nat) (n c:Nat) (h:FSl w (.slice a n c) L) (hn:L.length=n) (h2:n≤2):
  ∃ w2,(Builtin.copy_ #[22,22] 3 #[.slice (some ⟨w.heap.size,0,none⟩) 2 2,.slice a n c]).run Tryz.prog (w.alloc (.cells #[.float .f64 0,.float .f64 0] 187))= .ok (goInt n) w2∧G w w2∧
   w2.cell? ⟨w.heap.size,0,none⟩=some (.float .f64 (L.getD 0 0))∧w2.cell? ⟨w.heap.size,1,none⟩=some (.float .f64 (L.getD 1 0)):=by
 have hA:=q6S w 187 (.float .f64 0) (.float .f64 0)
 have hG:G w (w.alloc (.cells #[.float .f64 0,.float .f64 0] 187)):=(G.refl w).alloc _
 have hkr:(Tryz.prog.info? 26).map (·.size)=some 1:=by kernel_rfl
 generalize w.alloc (.cells #[.float .f64 0,.float .f64 0] 187)=wA at *
 obtain⟨hA1,hA2,hA3,Q9⟩:=hA
 have hcell:∀ k,k<2→(wA.cell? ⟨w.heap.size,k,none⟩).isSome=true∧wA.frozen? ⟨w.heap.size,k,none⟩=false:=fun k hk=>by
  have:k=0∨k=1:=by omega
  rcases this with rfl|rfl
  ·rw[hA1];exact⟨rfl,hA3⟩
  ·rw[hA2];exact⟨rfl,Q9⟩
 by_cases h0:n=0
 ·subst h0
  have hL:L=[]:=List.eq_nil_of_length_eq_zero hn
  subst hL
  exact⟨wA,run_copy_none _ 22 22 3 26 _ _ _ _ _ _ Tryz.underlying22 hkr (Nat.zero_min _),hG,hA1,hA2⟩
 ·obtain⟨a',c',e,-,hr⟩:=h
  injection e with e1 e2 e3
  subst e1
  obtain⟨b,o,rfl,hb,-⟩:=hr 0 (by omega)
  have hr2:∀ i,i<L.length→w.cell? ⟨b,o+i,none⟩=some (.float .f64 (L.getD i 0)):=fun i hi=>by
   obtain⟨b2,o2,e2,-,h⟩:=hr i hi
   injection e2 with e2
   injection e2 with e4 e5
   subst e4;subst e5
   exact h
  have h:=run_copy_cells (P:=Tryz.prog) wA 22 22 3 26 w.heap.size 0 2 2 ⟨b,o,none⟩ n c (fl L) Tryz.underlying22 hkr
   (by rw[q1u,hn];exact(Nat.min_eq_left h2).symm)
   (fun j u hu=>by
    have hj:j<L.length:=by rw[← q1u L];exact(List.getElem?_eq_some_iff.1 hu).1
    rw[q6Y hj] at hu
    rw[addr_add]
    have:=hG.cell (p:=⟨b,o+j,none⟩) hb (hr2 j hj)
    rw[this,Option.some.inj hu])
   (fun j hj=>by rw[q1u] at hj;rw[Nat.zero_add];exact(hcell j (by omega)).1)
   (fun j hj=>by rw[q1u] at hj;rw[Nat.zero_add];exact(hcell j (by omega)).2)
   (fun u hu=>by
    obtain⟨b2,-,rfl⟩:=List.mem_map.1 hu
    rfl)
  rw[q1u,hn] at h
  refine⟨_,h,G.setCells (Nat.le_refl _) _ _ _ hG,?_,?_⟩
  ·rcases L with _|⟨x,_|⟨y,_|⟨z,L⟩⟩⟩
   ·exact absurd hn.symm h0
   ·simp only[fl,List.map_cons,List.map_nil,World.setCells]
    rw[World.cell?_setCell_same _ _ _ hA1]
    rfl
   ·simp only[fl,List.map_cons,List.map_nil,World.setCells]
    rw[World.cell?_setCell_other _ _ _ _ (by intro e;injection e with e1 e2;omega),World.cell?_setCell_same _ _ _ hA1]
    rfl
   ·simp at hn;omega
  ·rcases L with _|⟨x,_|⟨y,_|⟨z,L⟩⟩⟩
   ·exact absurd hn.symm h0
   ·simp only[fl,List.map_cons,List.map_nil,World.setCells]
    rw[World.cell?_setCell_other _ _ _ _ (by intro e;injection e with e1 e2;omega),hA2]
    rfl
   ·simp only[fl,List.map_cons,List.map_nil,World.setCells]
    have h3:(wA.setCell ⟨w.heap.size,0,none⟩ (.float .f64 x)).cell? ⟨w.heap.size,0+1,none⟩=some (.float .f64 0):=by
     rw[World.cell?_setCell_other _ _ _ _ (by intro e;injection e with e1 e2;omega)]
     exact hA2
    exact World.cell?_setCell_same _ _ _ h3
   ·simp at hn;omega
set_option maxRecDepth 10000 in
theorem q5W (w:World) (v:Value) (x:Rat) (L:List Nat) (hT:Tab w) (h:QIs w v x) (hF:Fr 2 x L true):
  Calls Tryz.prog 106 #[v] w fun e w'=>e= .returned (.tuple #[.agg #[.float .f64 (L.getD 0 0),.float .f64 (L.getD 1 0)],.int .i64 0])∧G w w':=by
 have hlen:=qbs hF
 have wK:Hid (∀ w1,G w w1→_):=fun w1 g=>q7h w1 v x 2 L true (hT.G g) (by omega) (h.G g) hF
 obtain⟨a,k,c,a',k',c',rfl,-,-⟩:=h
 generalize decide (x.num<0)=t at *
 obtain⟨b,hb⟩:∃ b,b=L.getD 0 0:=⟨_,rfl⟩
 obtain⟨d,hd⟩:∃ d,d=L.getD 1 0:=⟨_,rfl⟩
 rw[← hb,← hd]
 have IB:Hid (b=L.getD 0 0∧d=L.getD 1 0):=⟨hb,hd⟩
 clear hF hT hb hd
 go_enter Tryz.func106,Tryz.ntmps106
 go_wp2_with fail
 obtain⟨w0,aB,g0,hz0,R0,R1⟩:=q1S w [.bool t,.slice a k c,.slice a' k' c'] [.float .f64 0,.float .f64 0] 97 54
 rw[aB]
 clear aB
 refine Calls.mono (P:=Tryz.prog) (wK.out w0 g0) ?_
 intro e1 w1 hs
 obtain⟨v,rfl,g1,hv⟩:=hs
 have bU:=G.trans g0 g1
 have RP:Hid (Rec w1 (w.heap.size+1) [.float .f64 0,.float .f64 0]):=Rec.G R1.out g1
 have hlt:=RP.out.lt
 clear R0 R1 hz0 wK g0 g1
 rcases hv with ⟨-,hv⟩|⟨h,-⟩
 case inr=>cases h
 have HV:Hid (FSl w1 v L):=hv
 obtain⟨pl,cl,rfl,-,-⟩:=hv
 obtain⟨w2,hrun,g2,hc0,hc1⟩:=q71 w1 pl L L.length cl HV.out rfl hlen
 clear HV
 generalize L.length=n at *
 rw[← IB.out.1] at hc0
 rw[← IB.out.2] at hc1
 clear IB
 have kX:=Rec.f2 (Rec.G RP.out (g2))
 have zL:=kX.1
 have zM:=kX.2.1
 have zN:=kX.2.2.1
 have zO:=kX.2.2.2
 clear kX
 have hlt2:=g2.size
 go_wp2_with fail
 clear hrun hc0 hc1
 go_wp2_with fail
 have hT:Hid (Rec (World.setCell (World.setCell w2 ⟨w.heap.size+1,0,none⟩ (.float .f64 b)) ⟨w.heap.size+1,1,none⟩ (.float .f64 d)) (w.heap.size+1) [.float .f64 b,.float .f64 d]):=Rec.set2 (Rec.G RP.out (g2))
 have g9:=Rec.g2 (b:=w.heap.size+1) (u:= .float .f64 b) (v:= .float .f64 d) (G.trans bU g2) (by omega)
 generalize (World.setCell (World.setCell w2 ⟨w.heap.size+1,0,none⟩ (.float .f64 b)) ⟨w.heap.size+1,1,none⟩ (.float .f64 d))=w9 at *
 have hF:=Rec.f2 (Rec.G hT.out ((G.refl _)))
 have bg:=hF.1
 have bn:=hF.2.1
 have bC:=hF.2.2.1
 have bD:=hF.2.2.2
 clear hF
 refine bodyPost_ret (v:= .tuple #[.agg #[.float .f64 b,.float .f64 d],.int .i64 0]) (by simp [results,Tryz.results106,go_sem, *]) rfl ?_
 exact⟨rfl,g9⟩
end Go.Proofs.YtljkfjjchkehaaaGreatDoor.EN
namespace Go.Proofs.YtljkfjjchkehaaaGreatDoor.EN
open Go.ChangeShapes Go.WideShapes Go.ChangeAt Go.RowKit
attribute [local go_sem] q0M
theorem qad {w:World} {b x y:Nat} (h:Rec w b [.float .f64 x,.float .f64 y]):FSl w (.slice (some ⟨b,0,none⟩) 2 2) [x,y]:=by
 obtain⟨h1,h2,-,-⟩:=h.f2
 refine⟨_,2,rfl,Nat.le_refl _,fun i hi=>⟨b,0,rfl,h.lt,?_⟩⟩
 have:i=0∨i=1:=by simp at hi;omega
 rcases this with rfl|rfl
 ·exact h1
 ·exact h2
theorem q4O (u v:Nat) (w:World):(Op.equalIn 9999 26 (.float .f64 u) (.float .f64 v)).run Tryz.prog w= .ok (FloatKind.f64.format.order u v==some .eq) w:=by kernel_rfl
set_option maxRecDepth 10000 in
theorem q7N (w:World) (x y:Nat) (L:List Nat) (hT:Tab w) (hx:x<2^64) (hy:y<2^64) (hfx:fex x<2047) (Q7:fex y<2047) (hF:Fr 2 (Uz ([x,y].map fz).sum) L true)
  (h1:(FloatKind.f64.format.order (L.getD 0 0) x==some .eq)=true) (h2:(FloatKind.f64.format.order (L.getD 1 0) y==some .eq)=true):
  Calls Tryz.prog 105 #[.agg #[.float .f64 x,.float .f64 y]] w (q2W w (Uz ([x,y].map fz).sum) 0):=by
 have hfin:Fin [x,y]:=by
  intro b hb
  simp at hb
  rcases hb with rfl|rfl<;>assumption
 have hlt:∀ b∈[x,y],b<2^64:=by
  intro b hb
  simp at hb
  rcases hb with rfl|rfl<;>assumption
 have HR:Hid (∀ w1 v,G w w1→FSl w1 v [x,y]→_):=fun w1 v g h=>q3B w1 v [x,y] (hT.G g) h hlt (by simp)
 have HT2:Hid (∀ w2 v,G w w2→NSl w2 v ([x,y].map fz)→_):=fun w2 v g hv=>q1M w2 v [x,y] (hT.G g) hv (by simp)
 have HP:Hid (∀ w2 v,G w w2→QIs w2 v (Uz ([x,y].map fz).sum)→_):=fun w2 v g hv=>q5W w2 v _ L (hT.G g) hv hF
 have HFin:Hid (Fin [x,y]):=hfin
 clear hfin hlt hT hx hy hfx Q7 hF
 obtain⟨q,hq⟩:∃ q,q=Uz ([x,y].map fz).sum:=⟨_,rfl⟩
 rw[← hq] at HT2 HP ⊢
 generalize L.getD 0 0=b at *
 generalize L.getD 1 0=d at *
 clear hq
 go_enter Tryz.func105,Tryz.ntmps105
 go_wp2_with fail
 obtain⟨w0,aB,g0,hz0,R0,R1,R2⟩:=q1o w [.float .f64 x,.float .f64 y] [.bool false,.slice none 0 0,.slice none 0 0] [.float .f64 x,.float .f64 y] 54 97 26
 rw[aB]
 clear aB
 refine Calls.mono (P:=Tryz.prog) (HR.out w0 _ g0 (qad R2.out)) ?_
 intro e1 w1 hs
 obtain⟨v,c,a,rfl,g1,hv⟩:=hs
 rcases hv with ⟨rfl,rfl,-,hv⟩|⟨i,-,-,-,hi1,hi2,-⟩
 case inr=>exact absurd hi2 (fun h=>q3p HFin.out hi1 h)
 have bU:=G.trans g0 g1
 have HV:Hid (NSl w1 v ([x,y].map fz)):=hv
 have RX:Hid (Rec w1 w.heap.size [.float .f64 x,.float .f64 y]):=Rec.G R0.out g1
 have RQ:Hid (Rec w1 (w.heap.size+1) [.bool false,.slice none 0 0,.slice none 0 0]):=Rec.G R1.out g1
 clear R0 R1 R2 HR hv hz0 g1 g0
 have hlt:=RQ.out.lt
 go_wp2_with fail
 obtain⟨w2,aB,g2,hz2,R0⟩:=q0e w1 [.int .i64 0,.int .i64 0] 29
 rw[aB]
 clear aB
 have iJ:=G.trans bU g2
 refine Calls.mono (P:=Tryz.prog) (HT2.out w2 v iJ (NSl.G HV.out g2)) ?_
 intro e1 w3 hs
 obtain⟨p,rfl,g3,hp⟩:=hs
 have HQ:Hid (QIs w3 p q):=hp
 obtain⟨a8,k8,c8,a9,k9,c9,rfl,-,-⟩:=hp
 generalize decide (q.num<0)=t9 at *
 have g13:=G.trans g2 g3
 clear HT2 HV R0 hz2 hlt
 go_wp2_with fail
 obtain⟨w4,aB,g4,zK,R0⟩:=q0e w3 [.bool t9,.slice a8 k8 c8,.slice a9 k9 c9] 97
 rw[aB]
 clear aB
 have g14:=G.trans g13 g4
 refine Calls.mono (P:=Tryz.prog) (HP.out w4 _ (G.trans bU g14) (QIs.G HQ.out g4)) ?_
 rintro e1 w5 ⟨rfl,g5⟩
 have g15:=G.trans g14 g5
 have R5:Hid (Rec w5 w3.heap.size [.bool t9,.slice a8 k8 c8,.slice a9 k9 c9]):=Rec.G R0.out g5
 have Q8:Hid (QIs w5 (.agg #[.bool t9,.slice a8 k8 c8,.slice a9 k9 c9]) q):=QIs.G HQ.out (G.trans g4 g5)
 have l5:=G.trans bU g15
 have Nz:Hid (Rec w5 w.heap.size [.float .f64 x,.float .f64 y]):=Rec.G RX.out g15
 have Gx:Hid (Rec w5 (w.heap.size+1) [.bool false,.slice none 0 0,.slice none 0 0]):=Rec.G RQ.out g15
 clear HP HQ R0 RX RQ zK g15 g14 g13
 have hlt1:=Nz.out.lt
 have hlt2:=Gx.out.lt
 have hlt3:=R5.out.lt
 have qd:=Rec.f3 (Rec.G R5.out (G.refl _))
 have Ir:=qd.1
 have Iu:=qd.2.1
 have Iw:=qd.2.2.1
 have Iy:=qd.2.2.2.1
 have Iz:=qd.2.2.2.2.1
 have IA:=qd.2.2.2.2.2
 clear qd
 have ou:=Rec.f2 (Rec.G Nz.out (G.refl _))
 have Gy:=ou.1
 have Gz:=ou.2.1
 have GA:=ou.2.2.1
 have GD:=ou.2.2.2
 clear ou
 have l6:=Rec.f3 (Rec.G Gx.out (G.refl _))
 have GG:=l6.1
 have GH:=l6.2.1
 have GI:=l6.2.2.1
 have GJ:=l6.2.2.2.1
 have GK:=l6.2.2.2.2.1
 have GL:=l6.2.2.2.2.2
 clear l6
 have he1:=fun w=>q4O b x w
 have he2:=fun w=>q4O d y w
 rw[h1] at he1
 rw[h2] at he2
 clear h1 h2
 have pG:Hid (QIs _ _ _):=QIs.set3 (u1:= .bool t9) (u2:= .slice a8 k8 c8) (u3:= .slice a9 k9 c9) Q8.out Gx.out trivial trivial trivial
 go_wp2_with fail
 have hT:Hid (Rec (World.setCell (World.setCell (World.setCell w5 ⟨w.heap.size+1,0,none⟩ (.bool t9)) ⟨w.heap.size+1,1,none⟩ (.slice a8 k8 c8)) ⟨w.heap.size+1,2,none⟩ (.slice a9 k9 c9)) (w.heap.size+1) [.bool t9,.slice a8 k8 c8,.slice a9 k9 c9]):=Rec.set3 (Rec.G Gx.out (G.refl _))
 have g9:=Rec.g3 (b:=w.heap.size+1) (u:= .bool t9) (v:= .slice a8 k8 c8) (x:= .slice a9 k9 c9) (l5) (by omega)
 generalize (World.setCell (World.setCell (World.setCell w5 ⟨w.heap.size+1,0,none⟩ (.bool t9)) ⟨w.heap.size+1,1,none⟩ (.slice a8 k8 c8)) ⟨w.heap.size+1,2,none⟩ (.slice a9 k9 c9))=w9 at *
 have hF:=Rec.f3 (Rec.G hT.out ((G.refl _)))
 have bg:=hF.1
 have bn:=hF.2.1
 have bC:=hF.2.2.1
 have bD:=hF.2.2.2.1
 have jm:=hF.2.2.2.2.1
 have jo:=hF.2.2.2.2.2
 clear hF
 have l7:=Rec.lt hT.out
 refine bodyPost_ret (v:= .tuple #[.agg #[.bool t9,.slice a8 k8 c8,.slice a9 k9 c9],.int .i64 0]) (by simp [results,Tryz.results105,go_sem, *]) rfl ?_
 exact⟨_,rfl,g9.alloc _,QIs.G pG.out ((G.refl _).alloc _)⟩
end Go.Proofs.YtljkfjjchkehaaaGreatDoor.EN
namespace Go.Proofs.YtljkfjjchkehaaaGreatDoor.EN
open Go.ChangeShapes Go.WideShapes Go.ChangeAt Go.RowKit
attribute [local go_sem] q0M
set_option maxRecDepth 10000 in
theorem q6u (w:World) (x1 y1 x2 y2 b d FR:Nat) (u v r:Rat)
  (yK:∀ w1,G w w1→Calls Tryz.prog 105 #[.agg #[.float .f64 x1,.float .f64 y1]] w1 (q2W w1 u 0))
  (tT:∀ w1,G w w1→Calls Tryz.prog 105 #[.agg #[.float .f64 x2,.float .f64 y2]] w1 (q2W w1 v 0))
  (HB:∀ w1 a c,G w w1→QIs w1 a u→QIs w1 c v→Calls Tryz.prog FR #[a,c] w1 (q2W w1 r 0))
  (HE:∀ args w,(callFunc FR args).run Tryz.prog w= .ok (.enter FR args) w)
  (HP:∀ w1 a,G w w1→QIs w1 a r→Calls Tryz.prog 106 #[a] w1 fun e w'=>e= .returned (.tuple #[.agg #[.float .f64 b,.float .f64 d],.int .i64 0])∧G w1 w'):
  Calls Tryz.prog 60 #[.agg #[.float .f64 x1,.float .f64 y1],.agg #[.float .f64 x2,.float .f64 y2],.func (.func FR) #[] #[]] w fun e w'=>e= .returned (.tuple #[.agg #[.float .f64 b,.float .f64 d],.int .i64 0])∧G w w':=by
 have H1:Hid (∀ w1,G w w1→_):=yK
 have H2:Hid (∀ w1,G w w1→_):=tT
 have H3:Hid (∀ w1 a c,G w w1→QIs w1 a u→QIs w1 c v→_):=HB
 have H4:Hid (∀ w1 a,G w w1→QIs w1 a r→_):=HP
 clear yK tT HB HP
 go_enter Tryz.func60,Tryz.ntmps60
 go_wp2_with fail
 obtain⟨w0,aB,g0,hz0,R0,R1,R2⟩:=q1o w [.float .f64 x1,.float .f64 y1] [.float .f64 x2,.float .f64 y2] [.float .f64 0,.float .f64 0] 54 54 54
 rw[aB]
 clear aB
 refine Calls.mono (P:=Tryz.prog) (H1.out w0 g0) ?_
 intro e1 w1 hs
 obtain⟨p,rfl,g1,hp⟩:=hs
 have Nw:Hid (QIs w1 p u):=hp
 obtain⟨a8,k8,c8,a9,k9,c9,rfl,-,-⟩:=hp
 generalize decide (u.num<0)=t9 at *
 have bU:=G.trans g0 g1
 have RB:Hid (Rec w1 (w.heap.size+1) [.float .f64 x2,.float .f64 y2]):=Rec.G R1.out g1
 have RR:Hid (Rec w1 (w.heap.size+1+1) [.float .f64 0,.float .f64 0]):=Rec.G R2.out g1
 clear H1 R0 R1 R2 hz0 g0 g1
 have hlt:=RB.out.lt
 have uq:=Rec.f2 (Rec.G RB.out (G.refl _))
 have zP:=uq.1
 have zQ:=uq.2.1
 have zR:=uq.2.2.1
 have zS:=uq.2.2.2
 clear uq
 go_wp2_with fail
 clear zP zQ zR zS
 obtain⟨w2,aB,g2,hz2,R0⟩:=q0e w1 [.bool t9,.slice a8 k8 c8,.slice a9 k9 c9] 97
 rw[aB]
 clear aB
 have iJ:=G.trans bU g2
 refine Calls.mono (P:=Tryz.prog) (H2.out w2 iJ) ?_
 intro e1 w3 hs
 obtain⟨q,rfl,g3,hq⟩:=hs
 have Ny:Hid (QIs w3 q v):=hq
 obtain⟨a6,k6,c6,a7,k7,c7,rfl,-,-⟩:=hq
 generalize decide (v.num<0)=t7 at *
 have R3:Hid (Rec w3 w1.heap.size [.bool t9,.slice a8 k8 c8,.slice a9 k9 c9]):=Rec.G R0.out g3
 have tX:Hid (QIs w3 (.agg #[.bool t9,.slice a8 k8 c8,.slice a9 k9 c9]) u):=QIs.G Nw.out (G.trans g2 g3)
 have g13:=G.trans g2 g3
 clear H2 Nw R0 RB hlt hz2
 have hlt3:=R3.out.lt
 have qc:=Rec.f3 (Rec.G R3.out (G.refl _))
 have zT:=qc.1
 have zU:=qc.2.1
 have zV:=qc.2.2.1
 have zW:=qc.2.2.2.1
 have zX:=qc.2.2.2.2.1
 have zY:=qc.2.2.2.2.2
 clear qc
 go_wp2_with fail
 clear zT zU zV zW zX zY hlt3 HE R3
 obtain⟨w4,aB,g4,zK,R0⟩:=q0e w3 [.bool t7,.slice a6 k6 c6,.slice a7 k7 c7] 97
 rw[aB]
 clear aB
 have g14:=G.trans g13 g4
 refine Calls.mono (P:=Tryz.prog) (H3.out w4 _ _ (G.trans bU g14) (QIs.G tX.out g4) (QIs.G Ny.out g4)) ?_
 intro e1 w5 hs
 obtain⟨s,rfl,g5,hs5⟩:=hs
 have HS:Hid (QIs w5 s r):=hs5
 obtain⟨a4,k4,c4,a5,k5,c5,rfl,-,-⟩:=hs5
 generalize decide (r.num<0)=t5 at *
 have g15:=G.trans g14 g5
 clear H3 tX Ny R0 zK
 go_wp2_with fail
 obtain⟨w6,aB,g6,Q6,R0⟩:=q0e w5 [.bool t5,.slice a4 k4 c4,.slice a5 k5 c5] 97
 rw[aB]
 clear aB
 have g16:=G.trans g15 g6
 refine Calls.mono (P:=Tryz.prog) (H4.out w6 _ (G.trans bU g16) (QIs.G HS.out g6)) ?_
 rintro e1 w7 ⟨rfl,g7⟩
 have g17:=G.trans g16 g7
 clear H4 HS R0 Q6
 have kZ:=Rec.f2 (Rec.G RR.out (g17))
 have zZ:=kZ.1
 have A7:=kZ.2.1
 have A8:=kZ.2.2.1
 have A9:=kZ.2.2.2
 clear kZ
 go_wp2_with fail
 have hT:Hid (Rec (World.setCell (World.setCell w7 ⟨w.heap.size+1+1,0,none⟩ (.float .f64 b)) ⟨w.heap.size+1+1,1,none⟩ (.float .f64 d)) (w.heap.size+1+1) [.float .f64 b,.float .f64 d]):=Rec.set2 (Rec.G RR.out (g17))
 have g9:=Rec.g2 (b:=w.heap.size+1+1) (u:= .float .f64 b) (v:= .float .f64 d) (G.trans bU g17) (by omega)
 generalize (World.setCell (World.setCell w7 ⟨w.heap.size+1+1,0,none⟩ (.float .f64 b)) ⟨w.heap.size+1+1,1,none⟩ (.float .f64 d))=w9 at *
 have hF:=Rec.f2 (Rec.G hT.out ((G.refl _)))
 have bg:=hF.1
 have bn:=hF.2.1
 have bC:=hF.2.2.1
 have bD:=hF.2.2.2
 clear hF
 refine bodyPost_ret (v:= .tuple #[.agg #[.float .f64 b,.float .f64 d],.int .i64 0]) (by simp [results,Tryz.results60,go_sem, *]) rfl ?_
 exact⟨rfl,g9⟩
set_option maxRecDepth 10000 in
theorem qb1 (w:World) (x1 y1 x2 y2 b d:Nat)
  (HR:∀ w1,G w w1→Calls Tryz.prog 60 #[.agg #[.float .f64 x1,.float .f64 y1],.agg #[.float .f64 x2,.float .f64 y2],.func (.func 64) #[] #[]] w1 fun e w'=>e= .returned (.tuple #[.agg #[.float .f64 b,.float .f64 d],.int .i64 0])∧G w1 w'):
  Calls Tryz.prog 28 #[.agg #[.float .f64 x1,.float .f64 y1],.agg #[.float .f64 x2,.float .f64 y2]] w fun e w'=>e= .returned (.tuple #[.agg #[.float .f64 b,.float .f64 d],.int .i64 0])∧G w w':=by
 have H1:Hid (∀ w1,G w w1→_):=HR
 clear HR
 go_enter Tryz.func28,Tryz.ntmps28
 go_wp2_with fail
 obtain⟨w0,aB,g0,hz0,R0,R1,R2⟩:=q1o w [.float .f64 x1,.float .f64 y1] [.float .f64 x2,.float .f64 y2] [.float .f64 0,.float .f64 0] 54 54 54
 rw[aB]
 clear aB
 refine Calls.mono (P:=Tryz.prog) (H1.out w0 g0) ?_
 rintro e1 w1 ⟨rfl,g1⟩
 have RR:Hid (Rec w1 (w.heap.size+1+1) [.float .f64 0,.float .f64 0]):=Rec.G R2.out g1
 clear H1 R0 R1 R2 hz0
 have kZ:=Rec.f2 (Rec.G RR.out (G.refl _))
 have zZ:=kZ.1
 have A7:=kZ.2.1
 have A8:=kZ.2.2.1
 have A9:=kZ.2.2.2
 clear kZ
 go_wp2_with fail
 have hT:Hid (Rec (World.setCell (World.setCell w1 ⟨w.heap.size+1+1,0,none⟩ (.float .f64 b)) ⟨w.heap.size+1+1,1,none⟩ (.float .f64 d)) (w.heap.size+1+1) [.float .f64 b,.float .f64 d]):=Rec.set2 (Rec.G RR.out (G.refl _))
 have g9:=Rec.g2 (b:=w.heap.size+1+1) (u:= .float .f64 b) (v:= .float .f64 d) (G.trans g0 g1) (by omega)
 generalize (World.setCell (World.setCell w1 ⟨w.heap.size+1+1,0,none⟩ (.float .f64 b)) ⟨w.heap.size+1+1,1,none⟩ (.float .f64 d))=w9 at *
 have hF:=Rec.f2 (Rec.G hT.out ((G.refl _)))
 have bg:=hF.1
 have bn:=hF.2.1
 have bC:=hF.2.2.1
 have bD:=hF.2.2.2
 clear hF
 refine bodyPost_ret (v:= .tuple #[.agg #[.float .f64 b,.float .f64 d],.int .i64 0]) (by simp [results,Tryz.results28,go_sem, *]) rfl ?_
 exact⟨rfl,g9⟩
end Go.Proofs.YtljkfjjchkehaaaGreatDoor.EN
namespace Go.Proofs.YtljkfjjchkehaaaGreatDoor.EN
open Go.ChangeShapes Go.WideShapes Go.ChangeAt Go.RowKit
attribute [local go_sem] q0M
theorem q54 (w:World) (hT:Tab w):Calls Tryz.prog 28 #[.agg #[.float .f64 4607182418800017408,.float .f64 0],.agg #[.float .f64 4613937818241073152,.float .f64 0]] w
  fun e w'=>e= .returned (.tuple #[.agg #[.float .f64 4599676419421066581,.float .f64 4356482039543059797],.int .i64 0])∧G w w':=by
 obtain⟨b1,b2,b3⟩:=q4Z
 have e1:(FloatKind.f64.format.order 4607182418800017408 4607182418800017408==some .eq)=true:=by decide+kernel
 have e2:(FloatKind.f64.format.order 0 0==some .eq)=true:=by decide+kernel
 have e3:(FloatKind.f64.format.order 4613937818241073152 4613937818241073152==some .eq)=true:=by decide+kernel
 refine qb1 w _ _ _ _ _ _ fun w1 g=> ?_
 have hT1:=hT.G g
 refine q6u w1 _ _ _ _ _ _ _ (Uz ([4607182418800017408,0].map fz).sum) (Uz ([4613937818241073152,0].map fz).sum) (Uz ([4607182418800017408,0].map fz).sum/Uz ([4613937818241073152,0].map fz).sum) ?_ ?_ ?_ (fun _ _=>by kernel_rfl) ?_
 ·exact fun w2 g2=>q7N w2 _ _ _ (hT1.G g2) (by decide) (by decide) (by decide+kernel) (by decide+kernel) q8T e1 e2
 ·exact fun w2 g2=>q7N w2 _ _ _ (hT1.G g2) (by decide) (by decide) (by decide+kernel) (by decide+kernel) q6o e3 e2
 ·intro w2 a c g2 ha hc
  have h:=qbJ w2 a c _ _ 80 (by omega) (by omega) (hT1.G g2) ha hc b1 b2
  rw[if_neg b3,if_neg b3] at h
  exact h
 ·exact fun w2 a g2 ha=>q5W w2 a _ _ (hT1.G g2) ha q6Q
theorem q2D (w:World) (b:Nat):Calls Tryz.prog 23 #[.float .f64 b,.float .f64 b] w fun e w'=>e= .returned (.bool true)∧G w w':=by
 have htb:=fun w=>q0I b w
 go_enter Tryz.func23,Tryz.ntmps23
 go_wp2_with fail
 go_ret
 exact⟨rfl,G.refl _⟩
theorem q5a (w:World) (v u:Value) (l:List Nat) (hv:FSl w v l) (hu:FSl w u l) (hn:l.length≤100000):
  Calls Tryz.prog 19 #[v,u,.func (.func 23) #[] #[]] w fun e w'=>e= .returned (.bool true)∧G w w':=by
 obtain⟨pa,ca,rfl,-,hr1⟩:=hv
 obtain⟨pb,cb,rfl,-,hr2⟩:=hu
 have H1:Hid _:=hr1
 have H2:Hid _:=hr2
 clear hr1 hr2
 have hcf:∀ args w,(callFunc 23 args).run Tryz.prog w= .ok (.enter 23 args) w:=fun _ _=>by kernel_rfl
 obtain⟨n,hn'⟩:∃ n,n=l.length:=⟨_,rfl⟩
 rw[← hn'] at hn ⊢
 have HN:Hid (n=l.length):=hn'
 clear hn'
 go_enter Tryz.func19,Tryz.ntmps19
 go_wp2_with fail
 go_loopw [15] (fun vk wr=>∃ k:Nat,k≤n∧vk= .int .i64 k∧G w wr) (fun vk _=>n-(intOf vk).toNat)
 case atStart=>exact⟨0,Nat.zero_le _,rfl,G.refl _⟩
 case round=>
  obtain⟨k,hk,rfl,hG⟩:=hrel
  by_cases hkn:k<n
  ·obtain⟨b1,o1,rfl,hB1,hc1'⟩:=H1.out k (by rw[← HN.out];exact hkn)
   obtain⟨b2,o2,rfl,hB2,hc2'⟩:=H2.out k (by rw[← HN.out];exact hkn)
   have hc1:=hG.cell (p:=⟨b1,o1+k,none⟩) hB1 hc1'
   have hc2:=hG.cell (p:=⟨b2,o2+k,none⟩) hB2 hc2'
   generalize l.getD k 0=x at *
   have hs:=hG.size
   have hb1:b1<wr.heap.size:=by omega
   have hb2:b2<wr.heap.size:=by omega
   clear hc1' hc2' hB1 hB2
   go_wp2_with fail
   refine q0c (by kernel_rfl) (by kernel_rfl) ?_
   intro W hW
   have hq1:=q08 (w:=W) (a:=⟨b1,o1+k,none⟩) (x:= .float .f64 x) (by rw[hW];first|(simp;done)|(simp;omega)|omega) (by rw[hW];first|assumption|(simp [go_sem];done)|(simp [*,go_sem];done))
   have hq2:=q08 (w:=W) (a:=⟨b2,o2+k,none⟩) (x:= .float .f64 x) (by rw[hW];first|(simp;done)|(simp;omega)|omega) (by rw[hW];first|assumption|(simp [go_sem];done)|(simp [*,go_sem];done))
   clear hW
   repeat (go_big_quiet_step (exact q1J (q2D _ _)))
   refine wpQuiet_nil ?_
   clear hq1 hq2
   intro w5 kY
   have fQ:=G.trans hG kY
   clear kY hc1 hc2
   go_wp2_with fail
   go_roundw
   case rel=>exact⟨k+1,by omega,by go_num,fQ⟩
   case measure=>simp only[intOf];omega
  ·obtain rfl:k=n:=by omega
   go_wp2_with fail
   go_ret
   exact⟨rfl,hG⟩
end Go.Proofs.YtljkfjjchkehaaaGreatDoor.EN
namespace Go.Proofs.YtljkfjjchkehaaaGreatDoor.EN
open Go.ChangeShapes Go.WideShapes Go.ChangeAt Go.RowKit
attribute [local go_sem] q0M
theorem q52 {w:World} {b x y z:Nat} (h:Rec w b [.float .f64 x,.float .f64 y,.float .f64 z]):FSl w (.slice (some ⟨b,0,none⟩) 3 3) [x,y,z]:=by
 obtain⟨h1,h2,h3,-,-,-⟩:=h.f3
 refine⟨_,3,rfl,Nat.le_refl _,fun i hi=>⟨b,0,rfl,h.lt,?_⟩⟩
 have:i=0∨i=1∨i=2:=by simp at hi;omega
 rcases this with rfl|rfl|rfl
 ·exact h1
 ·exact h2
 ·exact h3
set_option maxRecDepth 10000 in
theorem q2j (w:World) (hT:Tab w):Calls Tryz.prog 7 #[] w fun e w'=>e= .returned (.bool true)∧G w w':=by
 have hfin:Fin l3:=by
  intro b hb
  simp [l3] at hb
  rcases hb with rfl|rfl|rfl<;>decide+kernel
 have hlt:∀ b∈l3,b<2^64:=by
  intro b hb
  simp [l3] at hb
  rcases hb with rfl|rfl|rfl<;>decide
 have HO:Hid (∀ w1 v,G w w1→FSl w1 v l3→Calls Tryz.prog 16 #[v] w1 fun e w'=>∃ v,e= .returned (.tuple #[v,.agg #[.int .i64 0,.int .i64 0]])∧G w1 w'∧FSl w' v [4861130398305394688,4607182418800017408,4307583784117748259]):=fun w1 v g h=>by
  refine(qaU w1 v l3 _ true (hT.G g) h hlt (by simp [l3]) (by simp) (fun _=>q4I)).mono ?_
  rintro e w' ⟨v,c,a,rfl,g1,hv⟩
  rcases hv with ⟨-,rfl,⟨-,rfl,hv⟩|⟨h,-⟩⟩|⟨i,-,-,-,hi1,hi2,-⟩
  ·exact⟨v,rfl,g1,hv⟩
  ·cases h
  ·exact absurd hi2 (fun h=>q3p hfin hi1 h)
 have HQ:Hid (∀ w1,G w w1→_):=fun w1 g=>q54 w1 (hT.G g)
 have HL:Hid (∀ w1 v u,FSl w1 v [4861130398305394688,4607182418800017408,4307583784117748259]→FSl w1 u [4861130398305394688,4607182418800017408,4307583784117748259]→_):=fun w1 v u h1 h2=>q5a w1 v u _ h1 h2 (by simp)
 have e1:(FloatKind.f64.format.order 4599676419421066581 4599676419421066581==some .eq)=true:=by decide+kernel
 have e2:(FloatKind.f64.format.order 4356482039543059797 4356482039543059797==some .eq)=true:=by decide+kernel
 clear hfin hlt hT
 go_enter Tryz.func7,Tryz.ntmps7
 go_wp2_with fail
 obtain⟨w0,aB,g0,hz0,R0⟩:=q0e w [.float .f64 4607182418800017408,.float .f64 4861130398305394688,.float .f64 4307583784117748259] 26
 rw[aB]
 clear aB
 refine Calls.mono (P:=Tryz.prog) (HO.out w0 _ g0 (q52 R0.out)) ?_
 intro e w1 hs
 obtain⟨v,rfl,g1,hv⟩:=hs
 have bU:=G.trans g0 g1
 have HV:Hid (FSl w1 v _):=hv
 clear HO R0 hz0 hv
 go_wp2_with fail
 obtain⟨w2,aB,g2,hz2,R0⟩:=q0e w1 [.int .i64 0,.int .i64 0] 29
 rw[aB]
 clear aB
 have RF:Hid (Rec _ _ _):=R0
 refine Calls.mono (P:=Tryz.prog) (HQ.out w2 (G.trans bU g2)) ?_
 rintro e w3 ⟨rfl,g3⟩
 have g13:=G.trans g2 g3
 have pX:Hid (Rec w3 w1.heap.size [.int .i64 0,.int .i64 0]):=Rec.G RF.out g3
 have pY:Hid (FSl w3 v _):=FSl.G HV.out g13
 clear HQ R0 RF HV hz2
 have hlt:=pX.out.lt
 have dP:=Rec.f2 (Rec.G pX.out (G.refl _))
 have jO:=dP.1
 have jP:=dP.2.1
 have jQ:=dP.2.2.1
 have jR:=dP.2.2.2
 clear dP
 go_wp2_with fail
 clear jO jP jQ jR hlt
 obtain⟨w4,aB,g4,zK,R0,R1⟩:=q1S w3 [.float .f64 4599676419421066581,.float .f64 4356482039543059797] [.float .f64 4861130398305394688,.float .f64 4607182418800017408,.float .f64 4307583784117748259] 54 26
 rw[aB]
 clear aB
 have g14:=G.trans g13 g4
 refine Calls.mono (P:=Tryz.prog) (HL.out w4 _ _ (FSl.G pY.out g4) (q52 R1.out)) ?_
 rintro e w5 ⟨rfl,g5⟩
 have RP:Hid (Rec w5 w3.heap.size _):=Rec.G R0.out g5
 clear HL R0 R1 pX pY zK
 have hlt:=RP.out.lt
 have kX:=Rec.f2 (Rec.G RP.out (G.refl _))
 have zL:=kX.1
 have zM:=kX.2.1
 have zN:=kX.2.2.1
 have zO:=kX.2.2.2
 clear kX
 go_wp2_with fail
 go_ret
 exact⟨rfl,G.trans bU (G.trans g14 g5)⟩
end Go.Proofs.YtljkfjjchkehaaaGreatDoor.EN
namespace Go.Proofs.YtljkfjjchkehaaaGreatDoor.EN
open Go.ChangeShapes Go.WideShapes Go.ChangeAt Go.RowKit
attribute [local go_sem] q0M
theorem q5B (w:World) (pa:Option Addr) (n ca:Nat) (hn:2000<n):
  Calls Tryz.prog 52 #[.slice pa n ca] w fun e w'=>e= .returned (.tuple #[.slice none 0 0,.agg #[.int .i64 2,.int .i64 0]])∧G w w':=by
 have hlim:decide ((2000:Int)<n)=true:=decide_eq_true (by omega)
 go_enter Tryz.func52,Tryz.ntmps52
 go_wp2_with fail
 refine bodyPost_ret (v:= .tuple #[.slice none 0 0,.agg #[.int .i64 2,.int .i64 0]]) (by simp [results,Tryz.results52,go_sem, *]) rfl ?_
 exact⟨rfl,(G.refl w).alloc _⟩
end Go.Proofs.YtljkfjjchkehaaaGreatDoor.EN
