/- What is proved here: the law ExpanTells: its walk, over this seat's translation. -/
import Derived.Test.YtljkfjjchkehaaaGreatDoorC33
import Derived.Test.YtljkfjjchkehaaaGreatDoorC35
import Derived.Test.YtljkfjjchkehaaaGreatDoorC36
import Derived.Test.YtljkfjjchkehaaaGreatDoorC36
import Derived.Test.YtljkfjjchkehaaaGreatDoorC37
namespace Go.Proofs.YtljkfjjchkehaaaGreatDoor.EN
open Go.ChangeShapes Go.WideShapes Go.ChangeAt Go.RowKit
theorem Lent.fsl {w:World} {base m:Nat} {v:Value} {l:List Nat} (h:Lent w base v l m):FSl w v l:=by
 obtain⟨g,cap,rfl,h⟩:=h
 obtain⟨a,c,e,h1,h2⟩:=h.fsl
 injection e with e1 e2 e3
 subst e1;subst e3
 have hlen:(l++[m,m,m]).length=l.length+3:=by simp
 refine⟨_,_,rfl,by omega,fun i hi=> ?_⟩
 obtain⟨b,o,k1,k2,k3⟩:=h2 i (by omega)
 exact⟨b,o,k1,k2,by rw[k3,q7u l m i hi]⟩
set_option maxRecDepth 10000 in
theorem q7o (w:World) (v u:Value) (l m:List Nat) (hT:Tab w) (h:FSl w v l) (hu:FSl w u m) (hl:∀ b∈l,b<2^64) (hm:∀ b∈m,b<2^64)
  (hn:l.length≤300∨(2000<l.length∧l.length<5000)) (hk:m.length≤300∨(2000<m.length∧m.length<5000)) (c a c' a':Int) (hc:c≠0) (hla:Listed l c a) (sU:Listed m c' a'):
  Calls Tryz.prog 3 #[v,u] w fun e w'=>e= .returned (.bool true)∧G w w':=by
 have HS:Hid _:=q2j w hT
 have HE:Hid (∀ w1,_):=fun w1=>q1j w1 l.length
 have HE2:Hid (∀ w1,_):=fun w1=>q1j w1 m.length
 rw[decide_eq_true hn] at HE
 rw[decide_eq_true hk] at HE2
 have zy:Hid (∀ w1,G w w1→_):=fun w1 g=>q3D w1 v l 13845050416955392000 (h.G g) (by omega)
 have HL2:Hid (∀ w1,G w w1→_):=fun w1 g=>q3D w1 u m 13845050416955392000 (hu.G g) (by omega)
 have mg:Hid (∀ w1,G w w1→Calls Tryz.prog 10 #[v] w1 fun e w'=>e= .returned (.agg #[.int .i64 c,.int .i64 a])∧G w1 w'):=fun w1 g=>(q1f w1 v l (h.G g) hl (by omega)).mono (by
  rintro e w' ⟨c2,a2,rfl,g2,h2⟩
  obtain⟨rfl,rfl⟩:=q0q hla h2
  exact⟨rfl,g2⟩)
 have jk:Hid (∀ w1,G w w1→Calls Tryz.prog 10 #[u] w1 fun e w'=>e= .returned (.agg #[.int .i64 c',.int .i64 a'])∧G w1 w'):=fun w1 g=>(q1f w1 u m (hu.G g) hm (by omega)).mono (by
  rintro e w' ⟨c2,a2,rfl,g2,h2⟩
  obtain⟨rfl,rfl⟩:=q0q sU h2
  exact⟨rfl,g2⟩)
 have ow:Hid (∀ w1 x,G w w1→FSl w1 x l→Calls Tryz.prog 16 #[x] w1 fun e w'=>e= .returned (.tuple #[.slice none 0 0,.agg #[.int .i64 c,.int .i64 a]])∧G w1 w'):=fun w1 x g hx=>(qbG w1 x l (hT.G g) hx hl (fun k=>hc (q0q hla k).1)).mono (by
  rintro e w' ⟨c2,a2,rfl,g2,-,h2⟩
  obtain⟨rfl,rfl⟩:=q0q hla h2
  exact⟨rfl,g2⟩)
 have lF:∀ c2 a2,Both l m c2 a2→c=c2∧a=a2:=by
  rintro c2 a2 (⟨-,k⟩|⟨k,-⟩)
  ·exact q0q hla k
  ·exact absurd (q0q hla k).1 hc
 have HMul:Hid (∀ w1 x y,G w w1→FSl w1 x l→FSl w1 y m→Calls Tryz.prog 17 #[x,y] w1 fun e w'=>e= .returned (.tuple #[.slice none 0 0,.agg #[.int .i64 c,.int .i64 a]])∧G w1 w'):=fun w1 x y g hx hy=>(q8h w1 x y l m (hT.G g) hx hy hl hm (fun k=>hc (q0q hla k.1).1)).mono (by
  rintro e w' ⟨c2,a2,rfl,g2,-,h2⟩
  obtain⟨rfl,rfl⟩:=lF _ _ h2
  exact⟨rfl,g2⟩)
 have gF:Hid (∀ w1 x y,G w w1→FSl w1 x l→FSl w1 y m→Calls Tryz.prog 18 #[x,y] w1 fun e w'=>e= .returned (.tuple #[.int .i64 0,.agg #[.int .i64 c,.int .i64 a]])∧G w1 w'):=fun w1 x y g hx hy=>(q76 w1 x y l m (hT.G g) hx hy hl hm (fun k=>hc (q0q hla k.1).1)).mono (by
  rintro e w' ⟨c2,a2,rfl,g2,-,h2⟩
  obtain⟨rfl,rfl⟩:=lF _ _ h2
  exact⟨rfl,g2⟩)
 have xV:Hid (FSl w v l):=h
 have HK:Hid (l.length<5000∧m.length<5000):=⟨by omega,by omega⟩
 have xW:Hid (FSl w u m):=hu
 have hcf:(c==0)=false:=by simpa using hc
 obtain⟨pa,ca,rfl,-,-⟩:=h
 obtain⟨pb,cb,rfl,-,-⟩:=hu
 clear hl hm hn hk hT hc hla sU lF
 go_enter Tryz.func3,Tryz.ntmps3
 go_wp2_with fail
 refine Calls.mono (P:=Tryz.prog) HS.out ?_
 rintro e1 w1 ⟨rfl,g1⟩
 go_wp2_with fail
 refine Calls.mono (P:=Tryz.prog) (HE.out w1) ?_
 rintro e2 w2 ⟨rfl,g2⟩
 go_wp2_with fail
 refine Calls.mono (P:=Tryz.prog) (HE2.out w2) ?_
 rintro e3 w3 ⟨rfl,g3⟩
 have kR:=G.trans g1 (G.trans g2 g3)
 clear g1 g2 g3 HS HE HE2
 go_wp2_with fail
 refine Calls.mono (P:=Tryz.prog) (zy.out w3 kR) ?_
 rintro e4 w4 ⟨x4,rfl,g4,hx4⟩
 have zz:Hid (Lent w4 _ x4 l _):=hx4
 have mE:=G.trans kR g4
 clear hx4 zy
 go_wp2_with fail
 refine Calls.mono (P:=Tryz.prog) (HL2.out w4 mE) ?_
 rintro e5 w5 ⟨x5,rfl,g5,hx5⟩
 have D7:Hid (Lent w5 _ x5 m _):=hx5
 have tN:Hid (Lent w5 _ x4 l _):=zz.out.G g5
 have l5:=G.trans mE g5
 clear hx5 HL2 zz
 go_wp2_with fail
 refine Calls.mono (P:=Tryz.prog) (mg.out w5 l5) ?_
 rintro e6 w6 ⟨rfl,g6⟩
 go_wp2_with fail
 refine Calls.mono (P:=Tryz.prog) (jk.out w6 (G.trans l5 g6)) ?_
 rintro e7 w7 ⟨rfl,g7⟩
 have uj:=G.trans g6 g7
 clear mg jk g6 g7
 go_wp2_with fail
 obtain⟨w8,aB,g8,pU,R0,R1,R2⟩:=q1o w7 [.int .i64 c,.int .i64 a] [.int .i64 c',.int .i64 a'] [.int .i64 c,.int .i64 a] 29 29 29
 rw[aB]
 clear aB
 have n1:Rec (w8.alloc (.cells #[.int .i64 c,.int .i64 a] 29)) w8.heap.size [.int .i64 c,.int .i64 a]:=Rec.new2 w8 _ _ _
 have n2:Rec ((w8.alloc (.cells #[.int .i64 c,.int .i64 a] 29)).alloc (.cells #[.int .i64 c,.int .i64 a] 29)) (w8.alloc (.cells #[.int .i64 c,.int .i64 a] 29)).heap.size [.int .i64 c,.int .i64 a]:=Rec.new2 _ _ _ _
 have hs2:(w8.alloc (.cells #[.int .i64 c,.int .i64 a] 29)).heap.size=w7.heap.size+3+1:=by simp [pU]
 rw[hs2] at n2
 rw[pU] at n1
 have n3:=Rec.G n1 ((G.refl _).alloc (.cells #[.int .i64 c,.int .i64 a] 29)).drew
 have n4:=Rec.G n2 (G.refl _).drew
 have kC:G w8 ((w8.alloc (.cells #[.int .i64 c,.int .i64 a] 29)).alloc (.cells #[.int .i64 c,.int .i64 a] 29)).drew:=(((G.refl w8).alloc _).alloc _).drew
 have bW:=Rec.f2 (Rec.G R0.out (G.refl _))
 have eB:=bW.1
 have eD:=bW.2.1
 have eF:=bW.2.2.1
 have eG:=bW.2.2.2
 clear bW
 have iR:=Rec.f2 (Rec.G R2.out (G.refl _))
 have iT:=iR.1
 have iU:=iR.2.1
 have iV:=iR.2.2.1
 have iW:=iR.2.2.2
 clear iR
 go_region
 ·generalize ((w8.alloc (.cells #[.int .i64 c,.int .i64 a] 29)).alloc (.cells #[.int .i64 c,.int .i64 a] 29)).drew=w9 at *
  have RA:Hid (Rec w9 (w7.heap.size+3) _):=n3
  have RB:Hid (Rec w9 (w7.heap.size+3+1) _):=n4
  have RC:Hid (Rec w9 (w7.heap.size+2) _):=Rec.G R2.out kC
  have RD:Hid (Rec w9 w7.heap.size _):=Rec.G R0.out kC
  have lG:G w5 w9:=G.trans uj (G.trans g8 kC)
  clear n1 n2 n3 n4 hs2 R0 R1 R2 eB eD eF eG iT iU iV iW kC g8 uj
  have pK:=G.trans l5 lG
  have eQ:=Rec.f2 (Rec.G RD.out (G.refl _))
  have jF:=eQ.1
  have jG:=eQ.2.1
  have jH:=eQ.2.2.1
  have jI:=eQ.2.2.2
  clear eQ
  have lH:=Rec.f2 (Rec.G RC.out (G.refl _))
  have rf:=lH.1
  have rq:=lH.2.1
  have ru:=lH.2.2.1
  have ry:=lH.2.2.2
  clear lH
  go_wp2_with fail
  clear jF jG jH jI rf rq ru ry
  go_loopw [83] (fun vk wr=>∃ k:Nat,k≤2∧vk= .int .i64 k∧G w9 wr) (fun vk _=>2-(intOf vk).toNat)
  case atStart=>exact⟨0,Nat.zero_le _,rfl,G.refl _⟩
  case round=>
   obtain⟨k,hk,rfl,hG⟩:=hrel
   have X4:Hid (Lent wr _ x4 l _):=tN.out.G (G.trans lG hG)
   have X5:Hid (Lent wr _ x5 m _):=D7.out.G (G.trans lG hG)
   have lI:=G.trans pK hG
   by_cases hkn:k<2
   ·have hlt2:decide ((k:Int)<2)=true:=decide_eq_true (by omega)
    go_wp2_with fail
    refine Calls.mono (P:=Tryz.prog) (ow.out wr x4 lI X4.out.fsl) ?_
    rintro e10 aS ⟨rfl,g10⟩
    go_wp2_with fail
    have kL:=G.trans lI g10
    clear pU
    obtain⟨bR,aB,g11,rz,R0⟩:=q0e aS [.int .i64 c,.int .i64 a] 29
    rw[aB]
    clear aB
    have vM:Hid (Rec _ _ _):=R0
    clear R0 rz
    refine Calls.mono (P:=Tryz.prog) (HMul.out bR x4 x5 (G.trans kL g11) (Lent.G X4.out (G.trans g10 g11)).fsl (Lent.G X5.out (G.trans g10 g11)).fsl) ?_
    rintro e12 dQ ⟨rfl,g12⟩
    have vN:=G.trans g11 g12
    go_wp2_with fail
    obtain⟨jg,aB,g13,rA,R0⟩:=q0e dQ [.int .i64 c,.int .i64 a] 29
    rw[aB]
    clear aB
    have vO:Hid (Rec _ _ _):=R0
    clear R0 rA
    have lJ:=G.trans vN g13
    refine Calls.mono (P:=Tryz.prog) (gF.out jg x4 x5 (G.trans kL lJ) (Lent.G X4.out (G.trans g10 lJ)).fsl (Lent.G X5.out (G.trans g10 lJ)).fsl) ?_
    rintro e14 fU ⟨rfl,g14⟩
    have n5:Rec (fU.alloc (.cells #[.int .i64 c,.int .i64 a] 29)) fU.heap.size [.int .i64 c,.int .i64 a]:=Rec.new2 fU _ _ _
    have g15:G fU (fU.alloc (.cells #[.int .i64 c,.int .i64 a] 29)):=(G.refl fU).alloc _
    have kg:=G.trans lJ g14
    have vP:Hid (Rec _ _ _):=Rec.G RA.out (G.trans hG (G.trans g10 (G.trans kg g15)))
    have vQ:Hid (Rec _ _ _):=Rec.G RB.out (G.trans hG (G.trans g10 (G.trans kg g15)))
    have vR:Hid (Rec _ _ _):=Rec.G RC.out (G.trans hG (G.trans g10 (G.trans kg g15)))
    have lK:Hid (Rec _ _ _):=Rec.G vM.out (G.trans g12 (G.trans g13 (G.trans g14 g15)))
    have lL:Hid (Rec _ _ _):=Rec.G vO.out (G.trans g14 g15)
    have vS:Hid (Rec _ _ _):=n5
    have cu:=Rec.f2 (Rec.G vP.out (G.refl _))
    have gH:=cu.1
    have gI:=cu.2.1
    have gJ:=cu.2.2.1
    have gK:=cu.2.2.2
    clear cu
    have cB:=Rec.f2 (Rec.G vQ.out (G.refl _))
    have gL:=cB.1
    have gM:=cB.2.1
    have gN:=cB.2.2.1
    have gP:=cB.2.2.2
    clear cB
    have cK:=Rec.f2 (Rec.G vR.out (G.refl _))
    have gQ:=cK.1
    have gT:=cK.2.1
    have gU:=cK.2.2.1
    have gV:=cK.2.2.2
    clear cK
    have aU:=Rec.f2 (Rec.G lK.out (G.refl _))
    have eT:=aU.1
    have eU:=aU.2.1
    have eX:=aU.2.2.1
    have eY:=aU.2.2.2
    clear aU
    have aV:=Rec.f2 (Rec.G lL.out (G.refl _))
    have eZ:=aV.1
    have fe:=aV.2.1
    have fo:=aV.2.2.1
    have fq:=aV.2.2.2
    clear aV
    have cO:=Rec.f2 (Rec.G vS.out (G.refl _))
    have gW:=cO.1
    have gX:=cO.2.1
    have gY:=cO.2.2.1
    have gZ:=cO.2.2.2
    clear cO
    clear n5
    go_wp2_with fail
    clear gH gI gJ gK gL gM gN gP gQ gT gU gV eT eU eX eY eZ fe fo fq gW gX gY gZ
    generalize fU.alloc (.cells #[.int .i64 c,.int .i64 a] 29)=vG at *
    have Nb:=G.trans kL (G.trans kg g15)
    have gf:=G.trans g10 (G.trans kg g15)
    clear vP lK vM vO lJ vN g11 g12 g13 g14 g15 kg kL g10
    refine Calls.mono (P:=Tryz.prog) (q0K vG _ _ [] (fun k hk=>absurd hk (Nat.not_lt_zero k)) (q1b _ _ _) (q1b _ _ _) (by simp)) ?_
    rintro e16 w16 ⟨rfl,g16⟩
    have uk:Hid (Rec _ _ _):=Rec.G vQ.out g16
    have rC:Hid (Rec _ _ _):=Rec.G lL.out g16
    have cZ:=Rec.f2 (Rec.G uk.out (G.refl _))
    have ic:=cZ.1
    have ig:=cZ.2.1
    have ik:=cZ.2.2.1
    have il:=cZ.2.2.2
    clear cZ
    have aW:=Rec.f2 (Rec.G rC.out (G.refl _))
    have fu:=aW.1
    have fw:=aW.2.1
    have fA:=aW.2.2.1
    have fB:=aW.2.2.2
    clear aW
    go_wp2_with fail
    clear ic ig ik il fu fw fA fB
    refine Calls.mono (P:=Tryz.prog) (q0K w16 _ _ [] (fun k hk=>absurd hk (Nat.not_lt_zero k)) (q1b _ _ _) (q1b _ _ _) (by simp)) ?_
    rintro e17 kM ⟨rfl,g17⟩
    have wV:Hid (Rec _ _ _):=Rec.G vR.out (G.trans g16 g17)
    have rD:Hid (Rec _ _ _):=Rec.G vS.out (G.trans g16 g17)
    have df:=Rec.f2 (Rec.G wV.out (G.refl _))
    have iq:=df.1
    have iw:=df.2.1
    have iy:=df.2.2.1
    have iA:=df.2.2.2
    clear df
    have aX:=Rec.f2 (Rec.G rD.out (G.refl _))
    have fC:=aX.1
    have fD:=aX.2.1
    have fE:=aX.2.2.1
    have fF:=aX.2.2.2
    clear aX
    go_wp2_with fail
    clear iq iw iy iA fC fD fE fF
    refine Calls.mono (P:=Tryz.prog) (q1U kM kM.heap.size _ [] (q0T _ _)) ?_
    rintro e18 nH ⟨rfl,iX⟩
    have g18:=iX.g kM (Nat.le_refl _) (G.refl _)
    go_wp2_with fail
    refine Calls.mono (P:=Tryz.prog) (q1U nH nH.heap.size _ [] (q0T _ _)) ?_
    rintro e19 um ⟨rfl,ko⟩
    have g19:=ko.g nH (Nat.le_refl _) (G.refl _)
    have hGn:=G.trans hG (G.trans gf (G.trans g16 (G.trans g17 (G.trans g18 g19))))
    go_wp2_with fail
    go_roundw
    case rel=>exact⟨k+1,by omega,by go_num,hGn⟩
    case measure=>simp only[intOf];omega
   ·have hlt2:decide ((k:Int)<2)=false:=decide_eq_false (by omega)
    go_wp2_with fail
    refine Calls.mono (P:=Tryz.prog) (q1W wr _ x4 _ l _ X4.out (FSl.G xV.out lI) HK.out.1) ?_
    rintro e11 bR ⟨rfl,g11⟩
    go_wp2_with fail
    refine Calls.mono (P:=Tryz.prog) (q1W bR _ x5 _ m _ (Lent.G X5.out g11) (FSl.G xW.out (G.trans lI g11)) HK.out.2) ?_
    rintro e12 dQ ⟨rfl,g12⟩
    go_wp2_with fail
    go_ret
    exact⟨rfl,G.trans lI (G.trans g11 g12)⟩
 ·generalize ((w8.alloc (.cells #[.int .i64 c,.int .i64 a] 29)).alloc (.cells #[.int .i64 c,.int .i64 a] 29)).drew=w9 at *
  have RA:Hid (Rec w9 (w7.heap.size+3+1) _):=n4
  have RB:Hid (Rec w9 (w7.heap.size+3) _):=n3
  have RC:Hid (Rec w9 (w7.heap.size+2) _):=Rec.G R2.out kC
  have RD:Hid (Rec w9 w7.heap.size _):=Rec.G R0.out kC
  have lG:G w5 w9:=G.trans uj (G.trans g8 kC)
  clear n1 n2 n3 n4 hs2 R0 R1 R2 eB eD eF eG iT iU iV iW kC g8 uj
  have pK:=G.trans l5 lG
  have eQ:=Rec.f2 (Rec.G RD.out (G.refl _))
  have jF:=eQ.1
  have jG:=eQ.2.1
  have jH:=eQ.2.2.1
  have jI:=eQ.2.2.2
  clear eQ
  have lH:=Rec.f2 (Rec.G RC.out (G.refl _))
  have rf:=lH.1
  have rq:=lH.2.1
  have ru:=lH.2.2.1
  have ry:=lH.2.2.2
  clear lH
  go_wp2_with fail
  clear jF jG jH jI rf rq ru ry
  go_loopw [83] (fun vk wr=>∃ k:Nat,k≤2∧vk= .int .i64 k∧G w9 wr) (fun vk _=>2-(intOf vk).toNat)
  case atStart=>exact⟨0,Nat.zero_le _,rfl,G.refl _⟩
  case round=>
   obtain⟨k,hk,rfl,hG⟩:=hrel
   have X4:Hid (Lent wr _ x4 l _):=tN.out.G (G.trans lG hG)
   have X5:Hid (Lent wr _ x5 m _):=D7.out.G (G.trans lG hG)
   have lI:=G.trans pK hG
   by_cases hkn:k<2
   ·have hlt2:decide ((k:Int)<2)=true:=decide_eq_true (by omega)
    go_wp2_with fail
    refine Calls.mono (P:=Tryz.prog) (ow.out wr x4 lI X4.out.fsl) ?_
    rintro e10 aS ⟨rfl,g10⟩
    go_wp2_with fail
    have kL:=G.trans lI g10
    clear pU
    obtain⟨bR,aB,g11,rz,R0⟩:=q0e aS [.int .i64 c,.int .i64 a] 29
    rw[aB]
    clear aB
    have vM:Hid (Rec _ _ _):=R0
    clear R0 rz
    refine Calls.mono (P:=Tryz.prog) (HMul.out bR x4 x5 (G.trans kL g11) (Lent.G X4.out (G.trans g10 g11)).fsl (Lent.G X5.out (G.trans g10 g11)).fsl) ?_
    rintro e12 dQ ⟨rfl,g12⟩
    have vN:=G.trans g11 g12
    go_wp2_with fail
    obtain⟨jg,aB,g13,rA,R0⟩:=q0e dQ [.int .i64 c,.int .i64 a] 29
    rw[aB]
    clear aB
    have vO:Hid (Rec _ _ _):=R0
    clear R0 rA
    have lJ:=G.trans vN g13
    refine Calls.mono (P:=Tryz.prog) (gF.out jg x4 x5 (G.trans kL lJ) (Lent.G X4.out (G.trans g10 lJ)).fsl (Lent.G X5.out (G.trans g10 lJ)).fsl) ?_
    rintro e14 fU ⟨rfl,g14⟩
    have n5:Rec (fU.alloc (.cells #[.int .i64 c,.int .i64 a] 29)) fU.heap.size [.int .i64 c,.int .i64 a]:=Rec.new2 fU _ _ _
    have g15:G fU (fU.alloc (.cells #[.int .i64 c,.int .i64 a] 29)):=(G.refl fU).alloc _
    have kg:=G.trans lJ g14
    have vP:Hid (Rec _ _ _):=Rec.G RA.out (G.trans hG (G.trans g10 (G.trans kg g15)))
    have vQ:Hid (Rec _ _ _):=Rec.G RB.out (G.trans hG (G.trans g10 (G.trans kg g15)))
    have vR:Hid (Rec _ _ _):=Rec.G RC.out (G.trans hG (G.trans g10 (G.trans kg g15)))
    have lK:Hid (Rec _ _ _):=Rec.G vM.out (G.trans g12 (G.trans g13 (G.trans g14 g15)))
    have lL:Hid (Rec _ _ _):=Rec.G vO.out (G.trans g14 g15)
    have vS:Hid (Rec _ _ _):=n5
    have cu:=Rec.f2 (Rec.G vP.out (G.refl _))
    have gH:=cu.1
    have gI:=cu.2.1
    have gJ:=cu.2.2.1
    have gK:=cu.2.2.2
    clear cu
    have cB:=Rec.f2 (Rec.G vQ.out (G.refl _))
    have gL:=cB.1
    have gM:=cB.2.1
    have gN:=cB.2.2.1
    have gP:=cB.2.2.2
    clear cB
    have cK:=Rec.f2 (Rec.G vR.out (G.refl _))
    have gQ:=cK.1
    have gT:=cK.2.1
    have gU:=cK.2.2.1
    have gV:=cK.2.2.2
    clear cK
    have aU:=Rec.f2 (Rec.G lK.out (G.refl _))
    have eT:=aU.1
    have eU:=aU.2.1
    have eX:=aU.2.2.1
    have eY:=aU.2.2.2
    clear aU
    have aV:=Rec.f2 (Rec.G lL.out (G.refl _))
    have eZ:=aV.1
    have fe:=aV.2.1
    have fo:=aV.2.2.1
    have fq:=aV.2.2.2
    clear aV
    have cO:=Rec.f2 (Rec.G vS.out (G.refl _))
    have gW:=cO.1
    have gX:=cO.2.1
    have gY:=cO.2.2.1
    have gZ:=cO.2.2.2
    clear cO
    clear n5
    go_wp2_with fail
    clear gH gI gJ gK gL gM gN gP gQ gT gU gV eT eU eX eY eZ fe fo fq gW gX gY gZ
    generalize fU.alloc (.cells #[.int .i64 c,.int .i64 a] 29)=vG at *
    have Nb:=G.trans kL (G.trans kg g15)
    have gf:=G.trans g10 (G.trans kg g15)
    clear vP lK vM vO lJ vN g11 g12 g13 g14 g15 kg kL g10
    refine Calls.mono (P:=Tryz.prog) (q0K vG _ _ [] (fun k hk=>absurd hk (Nat.not_lt_zero k)) (q1b _ _ _) (q1b _ _ _) (by simp)) ?_
    rintro e16 w16 ⟨rfl,g16⟩
    have uk:Hid (Rec _ _ _):=Rec.G vQ.out g16
    have rC:Hid (Rec _ _ _):=Rec.G lL.out g16
    have cZ:=Rec.f2 (Rec.G uk.out (G.refl _))
    have ic:=cZ.1
    have ig:=cZ.2.1
    have ik:=cZ.2.2.1
    have il:=cZ.2.2.2
    clear cZ
    have aW:=Rec.f2 (Rec.G rC.out (G.refl _))
    have fu:=aW.1
    have fw:=aW.2.1
    have fA:=aW.2.2.1
    have fB:=aW.2.2.2
    clear aW
    go_wp2_with fail
    clear ic ig ik il fu fw fA fB
    refine Calls.mono (P:=Tryz.prog) (q0K w16 _ _ [] (fun k hk=>absurd hk (Nat.not_lt_zero k)) (q1b _ _ _) (q1b _ _ _) (by simp)) ?_
    rintro e17 kM ⟨rfl,g17⟩
    have wV:Hid (Rec _ _ _):=Rec.G vR.out (G.trans g16 g17)
    have rD:Hid (Rec _ _ _):=Rec.G vS.out (G.trans g16 g17)
    have df:=Rec.f2 (Rec.G wV.out (G.refl _))
    have iq:=df.1
    have iw:=df.2.1
    have iy:=df.2.2.1
    have iA:=df.2.2.2
    clear df
    have aX:=Rec.f2 (Rec.G rD.out (G.refl _))
    have fC:=aX.1
    have fD:=aX.2.1
    have fE:=aX.2.2.1
    have fF:=aX.2.2.2
    clear aX
    go_wp2_with fail
    clear iq iw iy iA fC fD fE fF
    refine Calls.mono (P:=Tryz.prog) (q1U kM kM.heap.size _ [] (q0T _ _)) ?_
    rintro e18 nH ⟨rfl,iX⟩
    have g18:=iX.g kM (Nat.le_refl _) (G.refl _)
    go_wp2_with fail
    refine Calls.mono (P:=Tryz.prog) (q1U nH nH.heap.size _ [] (q0T _ _)) ?_
    rintro e19 um ⟨rfl,ko⟩
    have g19:=ko.g nH (Nat.le_refl _) (G.refl _)
    have hGn:=G.trans hG (G.trans gf (G.trans g16 (G.trans g17 (G.trans g18 g19))))
    go_wp2_with fail
    go_roundw
    case rel=>exact⟨k+1,by omega,by go_num,hGn⟩
    case measure=>simp only[intOf];omega
   ·have hlt2:decide ((k:Int)<2)=false:=decide_eq_false (by omega)
    go_wp2_with fail
    refine Calls.mono (P:=Tryz.prog) (q1W wr _ x4 _ l _ X4.out (FSl.G xV.out lI) HK.out.1) ?_
    rintro e11 bR ⟨rfl,g11⟩
    go_wp2_with fail
    refine Calls.mono (P:=Tryz.prog) (q1W bR _ x5 _ m _ (Lent.G X5.out g11) (FSl.G xW.out (G.trans lI g11)) HK.out.2) ?_
    rintro e12 dQ ⟨rfl,g12⟩
    go_wp2_with fail
    go_ret
    exact⟨rfl,G.trans lI (G.trans g11 g12)⟩
end Go.Proofs.YtljkfjjchkehaaaGreatDoor.EN
