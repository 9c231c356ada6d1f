/- What is proved here: the law ExpanTells: its walk, over this seat's translation. -/
import Derived.Test.YtljkfjjchkehaaaGreatDoorC34
import Derived.Test.YtljkfjjchkehaaaGreatDoorC33
import Derived.Test.YtljkfjjchkehaaaGreatDoorC34
import Derived.Test.YtljkfjjchkehaaaGreatDoorC34
import Derived.Test.YtljkfjjchkehaaaGreatDoorC35
namespace Go.Proofs.YtljkfjjchkehaaaGreatDoor.EN
open Go.ChangeShapes Go.WideShapes Go.ChangeAt Go.RowKit
theorem Lent.fsl {w:World} {base m:Nat} {v:Value} {l:List Nat} (h:Lent w base v l m):FSl w v l:=by
 obtain⟨g,cap,rfl,h⟩:=h
 obtain⟨a,c,e,h1,h2⟩:=h.fsl
 injection e with e1 e2 e3
 subst e1;subst e3
 have hlen:(l++[m,m,m]).length=l.length+3:=by simp
 refine⟨_,_,rfl,by omega,fun i hi=> ?_⟩
 obtain⟨b,o,k1,k2,k3⟩:=h2 i (by omega)
 exact⟨b,o,k1,k2,by rw[k3,q85 l m i hi]⟩
set_option maxRecDepth 10000 in
theorem q74 (w:World) (v u:Value) (l m:List Nat) (hT:Tab w) (h:FSl w v l) (hu:FSl w u m) (hl:∀ b∈l,b<2^64) (hm:∀ b∈m,b<2^64)
  (hn:l.length≤300∨(2000<l.length∧l.length<5000)) (hk:m.length≤300∨(2000<m.length∧m.length<5000)) (c a c' a':Int) (hc:c≠0) (hla:Listed l c a) (hma:Listed m c' a'):
  Calls Tryz.prog 3 #[v,u] w fun e w'=>e= .returned (.bool true)∧G w w':=by
 have HS:Hid _:=q2n w hT
 have HE:Hid (∀ w1,_):=fun w1=>q1i w1 l.length
 have HE2:Hid (∀ w1,_):=fun w1=>q1i w1 m.length
 rw[decide_eq_true hn] at HE
 rw[decide_eq_true hk] at HE2
 have HL1:Hid (∀ w1,G w w1→_):=fun w1 g=>q3I w1 v l 13845050416955392000 (h.G g) (by omega)
 have HL2:Hid (∀ w1,G w w1→_):=fun w1 g=>q3I w1 u m 13845050416955392000 (hu.G g) (by omega)
 have HC1:Hid (∀ w1,G w w1→Calls Tryz.prog 10 #[v] w1 fun e w'=>e= .returned (.agg #[.int .i64 c,.int .i64 a])∧G w1 w'):=fun w1 g=>(q1d w1 v l (h.G g) hl (by omega)).mono (by
  rintro e w' ⟨c2,a2,rfl,g2,h2⟩
  obtain⟨rfl,rfl⟩:=q0r hla h2
  exact⟨rfl,g2⟩)
 have HC2:Hid (∀ w1,G w w1→Calls Tryz.prog 10 #[u] w1 fun e w'=>e= .returned (.agg #[.int .i64 c',.int .i64 a'])∧G w1 w'):=fun w1 g=>(q1d w1 u m (hu.G g) hm (by omega)).mono (by
  rintro e w' ⟨c2,a2,rfl,g2,h2⟩
  obtain⟨rfl,rfl⟩:=q0r hma h2
  exact⟨rfl,g2⟩)
 have HOf:Hid (∀ w1 x,G w w1→FSl w1 x l→Calls Tryz.prog 16 #[x] w1 fun e w'=>e= .returned (.tuple #[.slice none 0 0,.agg #[.int .i64 c,.int .i64 a]])∧G w1 w'):=fun w1 x g hx=>(qbt w1 x l (hT.G g) hx hl (fun k=>hc (q0r hla k).1)).mono (by
  rintro e w' ⟨c2,a2,rfl,g2,-,h2⟩
  obtain⟨rfl,rfl⟩:=q0r hla h2
  exact⟨rfl,g2⟩)
 have hboth:∀ c2 a2,Both l m c2 a2→c=c2∧a=a2:=by
  rintro c2 a2 (⟨-,k⟩|⟨k,-⟩)
  ·exact q0r hla k
  ·exact absurd (q0r hla k).1 hc
 have HMul:Hid (∀ w1 x y,G w w1→FSl w1 x l→FSl w1 y m→Calls Tryz.prog 17 #[x,y] w1 fun e w'=>e= .returned (.tuple #[.slice none 0 0,.agg #[.int .i64 c,.int .i64 a]])∧G w1 w'):=fun w1 x y g hx hy=>(q7l w1 x y l m (hT.G g) hx hy hl hm (fun k=>hc (q0r hla k.1).1)).mono (by
  rintro e w' ⟨c2,a2,rfl,g2,-,h2⟩
  obtain⟨rfl,rfl⟩:=hboth _ _ h2
  exact⟨rfl,g2⟩)
 have HCmp:Hid (∀ w1 x y,G w w1→FSl w1 x l→FSl w1 y m→Calls Tryz.prog 18 #[x,y] w1 fun e w'=>e= .returned (.tuple #[.int .i64 0,.agg #[.int .i64 c,.int .i64 a]])∧G w1 w'):=fun w1 x y g hx hy=>(q8f w1 x y l m (hT.G g) hx hy hl hm (fun k=>hc (q0r hla k.1).1)).mono (by
  rintro e w' ⟨c2,a2,rfl,g2,-,h2⟩
  obtain⟨rfl,rfl⟩:=hboth _ _ h2
  exact⟨rfl,g2⟩)
 have HF1:Hid (FSl w v l):=h
 have HK:Hid (l.length<5000∧m.length<5000):=⟨by omega,by omega⟩
 have HF2:Hid (FSl w u m):=hu
 have hcf:(c==0)=false:=by simpa using hc
 obtain⟨pa,ca,rfl,-,-⟩:=h
 obtain⟨pb,cb,rfl,-,-⟩:=hu
 clear hl hm hn hk hT hc hla hma hboth
 go_enter Tryz.func3,Tryz.ntmps3
 go_wp2_with fail
 refine Calls.mono (P:=Tryz.prog) HS.out ?_
 rintro e1 w1 ⟨rfl,g1⟩
 go_wp2_with fail
 refine Calls.mono (P:=Tryz.prog) (HE.out w1) ?_
 rintro e2 w2 ⟨rfl,g2⟩
 go_wp2_with fail
 refine Calls.mono (P:=Tryz.prog) (HE2.out w2) ?_
 rintro e3 w3 ⟨rfl,g3⟩
 have g03:=G.trans g1 (G.trans g2 g3)
 clear g1 g2 g3 HS HE HE2
 go_wp2_with fail
 refine Calls.mono (P:=Tryz.prog) (HL1.out w3 g03) ?_
 rintro e4 w4 ⟨x4,rfl,g4,hx4⟩
 have HX4:Hid (Lent w4 _ x4 l _):=hx4
 have g04:=G.trans g03 g4
 clear hx4 HL1
 go_wp2_with fail
 refine Calls.mono (P:=Tryz.prog) (HL2.out w4 g04) ?_
 rintro e5 w5 ⟨x5,rfl,g5,hx5⟩
 have HX5:Hid (Lent w5 _ x5 m _):=hx5
 have HX4':Hid (Lent w5 _ x4 l _):=HX4.out.G g5
 have g05:=G.trans g04 g5
 clear hx5 HL2 HX4
 go_wp2_with fail
 refine Calls.mono (P:=Tryz.prog) (HC1.out w5 g05) ?_
 rintro e6 w6 ⟨rfl,g6⟩
 go_wp2_with fail
 refine Calls.mono (P:=Tryz.prog) (HC2.out w6 (G.trans g05 g6)) ?_
 rintro e7 w7 ⟨rfl,g7⟩
 have g57:=G.trans g6 g7
 clear HC1 HC2 g6 g7
 go_wp2_with fail
 obtain⟨w8,hw_,g8,hz8,R0,R1,R2⟩:=q1o w7 [.int .i64 c,.int .i64 a] [.int .i64 c',.int .i64 a'] [.int .i64 c,.int .i64 a] 29 29 29
 rw[hw_]
 clear hw_
 have n1:Rec (w8.alloc (.cells #[.int .i64 c,.int .i64 a] 29)) w8.heap.size [.int .i64 c,.int .i64 a]:=Rec.new2 w8 _ _ _
 have n2:Rec ((w8.alloc (.cells #[.int .i64 c,.int .i64 a] 29)).alloc (.cells #[.int .i64 c,.int .i64 a] 29)) (w8.alloc (.cells #[.int .i64 c,.int .i64 a] 29)).heap.size [.int .i64 c,.int .i64 a]:=Rec.new2 _ _ _ _
 have hs2:(w8.alloc (.cells #[.int .i64 c,.int .i64 a] 29)).heap.size=w7.heap.size+3+1:=by simp [hz8]
 rw[hs2] at n2
 rw[hz8] at n1
 have n3:=Rec.G n1 ((G.refl _).alloc (.cells #[.int .i64 c,.int .i64 a] 29)).drew
 have n4:=Rec.G n2 (G.refl _).drew
 have g89:G w8 ((w8.alloc (.cells #[.int .i64 c,.int .i64 a] 29)).alloc (.cells #[.int .i64 c,.int .i64 a] 29)).drew:=(((G.refl w8).alloc _).alloc _).drew
 have hSR0:=Rec.f2 (Rec.G R0.out (G.refl _))
 have hSR0_0:=hSR0.1
 have hSR0_1:=hSR0.2.1
 have hSR0_2:=hSR0.2.2.1
 have hSR0_3:=hSR0.2.2.2
 clear hSR0
 have hSR2:=Rec.f2 (Rec.G R2.out (G.refl _))
 have hSR2_0:=hSR2.1
 have hSR2_1:=hSR2.2.1
 have hSR2_2:=hSR2.2.2.1
 have hSR2_3:=hSR2.2.2.2
 clear hSR2
 go_region
 ·generalize ((w8.alloc (.cells #[.int .i64 c,.int .i64 a] 29)).alloc (.cells #[.int .i64 c,.int .i64 a] 29)).drew=w9 at *
  have RA:Hid (Rec w9 (w7.heap.size+3) _):=n3
  have RB:Hid (Rec w9 (w7.heap.size+3+1) _):=n4
  have RC:Hid (Rec w9 (w7.heap.size+2) _):=Rec.G R2.out g89
  have RD:Hid (Rec w9 w7.heap.size _):=Rec.G R0.out g89
  have g59:G w5 w9:=G.trans g57 (G.trans g8 g89)
  clear n1 n2 n3 n4 hs2 R0 R1 R2 hSR0_0 hSR0_1 hSR0_2 hSR0_3 hSR2_0 hSR2_1 hSR2_2 hSR2_3 g89 g8 g57
  have g09:=G.trans g05 g59
  have hSRD:=Rec.f2 (Rec.G RD.out (G.refl _))
  have hSRD_0:=hSRD.1
  have hSRD_1:=hSRD.2.1
  have hSRD_2:=hSRD.2.2.1
  have hSRD_3:=hSRD.2.2.2
  clear hSRD
  have hSRC:=Rec.f2 (Rec.G RC.out (G.refl _))
  have hSRC_0:=hSRC.1
  have hSRC_1:=hSRC.2.1
  have hSRC_2:=hSRC.2.2.1
  have hSRC_3:=hSRC.2.2.2
  clear hSRC
  go_wp2_with fail
  clear hSRD_0 hSRD_1 hSRD_2 hSRD_3 hSRC_0 hSRC_1 hSRC_2 hSRC_3
  go_loopw [83] (fun vk wr=>∃ k:Nat,k≤2∧vk= .int .i64 k∧G w9 wr) (fun vk _=>2-(intOf vk).toNat)
  case atStart=>exact⟨0,Nat.zero_le _,rfl,G.refl _⟩
  case round=>
   obtain⟨k,hk,rfl,hG⟩:=hrel
   have X4:Hid (Lent wr _ x4 l _):=HX4'.out.G (G.trans g59 hG)
   have X5:Hid (Lent wr _ x5 m _):=HX5.out.G (G.trans g59 hG)
   have g0r:=G.trans g09 hG
   by_cases hkn:k<2
   ·have hlt2:decide ((k:Int)<2)=true:=decide_eq_true (by omega)
    go_wp2_with fail
    refine Calls.mono (P:=Tryz.prog) (HOf.out wr x4 g0r X4.out.fsl) ?_
    rintro e10 w10 ⟨rfl,g10⟩
    go_wp2_with fail
    have g0a:=G.trans g0r g10
    clear hz8
    obtain⟨w11,hw_,g11,hz11,R0⟩:=q0f w10 [.int .i64 c,.int .i64 a] 29
    rw[hw_]
    clear hw_
    have R18:Hid (Rec _ _ _):=R0
    clear R0 hz11
    refine Calls.mono (P:=Tryz.prog) (HMul.out w11 x4 x5 (G.trans g0a g11) (Lent.G X4.out (G.trans g10 g11)).fsl (Lent.G X5.out (G.trans g10 g11)).fsl) ?_
    rintro e12 w12 ⟨rfl,g12⟩
    have g1c:=G.trans g11 g12
    go_wp2_with fail
    obtain⟨w13,hw_,g13,hz13,R0⟩:=q0f w12 [.int .i64 c,.int .i64 a] 29
    rw[hw_]
    clear hw_
    have R20:Hid (Rec _ _ _):=R0
    clear R0 hz13
    have gad:=G.trans g1c g13
    refine Calls.mono (P:=Tryz.prog) (HCmp.out w13 x4 x5 (G.trans g0a gad) (Lent.G X4.out (G.trans g10 gad)).fsl (Lent.G X5.out (G.trans g10 gad)).fsl) ?_
    rintro e14 w14 ⟨rfl,g14⟩
    have n5:Rec (w14.alloc (.cells #[.int .i64 c,.int .i64 a] 29)) w14.heap.size [.int .i64 c,.int .i64 a]:=Rec.new2 w14 _ _ _
    have g15:G w14 (w14.alloc (.cells #[.int .i64 c,.int .i64 a] 29)):=(G.refl w14).alloc _
    have gae:=G.trans gad g14
    have RA5:Hid (Rec _ _ _):=Rec.G RA.out (G.trans hG (G.trans g10 (G.trans gae g15)))
    have RB5:Hid (Rec _ _ _):=Rec.G RB.out (G.trans hG (G.trans g10 (G.trans gae g15)))
    have RC5:Hid (Rec _ _ _):=Rec.G RC.out (G.trans hG (G.trans g10 (G.trans gae g15)))
    have R185:Hid (Rec _ _ _):=Rec.G R18.out (G.trans g12 (G.trans g13 (G.trans g14 g15)))
    have R205:Hid (Rec _ _ _):=Rec.G R20.out (G.trans g14 g15)
    have R22:Hid (Rec _ _ _):=n5
    have hSRA5:=Rec.f2 (Rec.G RA5.out (G.refl _))
    have hSRA5_0:=hSRA5.1
    have hSRA5_1:=hSRA5.2.1
    have hSRA5_2:=hSRA5.2.2.1
    have hSRA5_3:=hSRA5.2.2.2
    clear hSRA5
    have hSRB5:=Rec.f2 (Rec.G RB5.out (G.refl _))
    have hSRB5_0:=hSRB5.1
    have hSRB5_1:=hSRB5.2.1
    have hSRB5_2:=hSRB5.2.2.1
    have hSRB5_3:=hSRB5.2.2.2
    clear hSRB5
    have hSRC5:=Rec.f2 (Rec.G RC5.out (G.refl _))
    have hSRC5_0:=hSRC5.1
    have hSRC5_1:=hSRC5.2.1
    have hSRC5_2:=hSRC5.2.2.1
    have hSRC5_3:=hSRC5.2.2.2
    clear hSRC5
    have hSR185:=Rec.f2 (Rec.G R185.out (G.refl _))
    have hSR185_0:=hSR185.1
    have hSR185_1:=hSR185.2.1
    have hSR185_2:=hSR185.2.2.1
    have hSR185_3:=hSR185.2.2.2
    clear hSR185
    have hSR205:=Rec.f2 (Rec.G R205.out (G.refl _))
    have hSR205_0:=hSR205.1
    have hSR205_1:=hSR205.2.1
    have hSR205_2:=hSR205.2.2.1
    have hSR205_3:=hSR205.2.2.2
    clear hSR205
    have hSR22:=Rec.f2 (Rec.G R22.out (G.refl _))
    have hSR22_0:=hSR22.1
    have hSR22_1:=hSR22.2.1
    have hSR22_2:=hSR22.2.2.1
    have hSR22_3:=hSR22.2.2.2
    clear hSR22
    clear n5
    go_wp2_with fail
    clear hSRA5_0 hSRA5_1 hSRA5_2 hSRA5_3 hSRB5_0 hSRB5_1 hSRB5_2 hSRB5_3 hSRC5_0 hSRC5_1 hSRC5_2 hSRC5_3 hSR185_0 hSR185_1 hSR185_2 hSR185_3 hSR205_0 hSR205_1 hSR205_2 hSR205_3 hSR22_0 hSR22_1 hSR22_2 hSR22_3
    generalize w14.alloc (.cells #[.int .i64 c,.int .i64 a] 29)=w15 at *
    have g0f:=G.trans g0a (G.trans gae g15)
    have gf:=G.trans g10 (G.trans gae g15)
    clear RA5 R185 R18 R20 gad g1c g11 g12 g13 g14 g15 gae g0a g10
    refine Calls.mono (P:=Tryz.prog) (q0K w15 _ _ [] (fun k hk=>absurd hk (Nat.not_lt_zero k)) (q18 _ _ _) (q18 _ _ _) (by simp)) ?_
    rintro e16 w16 ⟨rfl,g16⟩
    have RB6:Hid (Rec _ _ _):=Rec.G RB5.out g16
    have R206:Hid (Rec _ _ _):=Rec.G R205.out g16
    have hSRB6:=Rec.f2 (Rec.G RB6.out (G.refl _))
    have hSRB6_0:=hSRB6.1
    have hSRB6_1:=hSRB6.2.1
    have hSRB6_2:=hSRB6.2.2.1
    have hSRB6_3:=hSRB6.2.2.2
    clear hSRB6
    have hSR206:=Rec.f2 (Rec.G R206.out (G.refl _))
    have hSR206_0:=hSR206.1
    have hSR206_1:=hSR206.2.1
    have hSR206_2:=hSR206.2.2.1
    have hSR206_3:=hSR206.2.2.2
    clear hSR206
    go_wp2_with fail
    clear hSRB6_0 hSRB6_1 hSRB6_2 hSRB6_3 hSR206_0 hSR206_1 hSR206_2 hSR206_3
    refine Calls.mono (P:=Tryz.prog) (q0K w16 _ _ [] (fun k hk=>absurd hk (Nat.not_lt_zero k)) (q18 _ _ _) (q18 _ _ _) (by simp)) ?_
    rintro e17 w17 ⟨rfl,g17⟩
    have RC7:Hid (Rec _ _ _):=Rec.G RC5.out (G.trans g16 g17)
    have R227:Hid (Rec _ _ _):=Rec.G R22.out (G.trans g16 g17)
    have hSRC7:=Rec.f2 (Rec.G RC7.out (G.refl _))
    have hSRC7_0:=hSRC7.1
    have hSRC7_1:=hSRC7.2.1
    have hSRC7_2:=hSRC7.2.2.1
    have hSRC7_3:=hSRC7.2.2.2
    clear hSRC7
    have hSR227:=Rec.f2 (Rec.G R227.out (G.refl _))
    have hSR227_0:=hSR227.1
    have hSR227_1:=hSR227.2.1
    have hSR227_2:=hSR227.2.2.1
    have hSR227_3:=hSR227.2.2.2
    clear hSR227
    go_wp2_with fail
    clear hSRC7_0 hSRC7_1 hSRC7_2 hSRC7_3 hSR227_0 hSR227_1 hSR227_2 hSR227_3
    refine Calls.mono (P:=Tryz.prog) (q1W w17 w17.heap.size _ [] (q0T _ _)) ?_
    rintro e18 w18 ⟨rfl,hsp18⟩
    have g18:=hsp18.g w17 (Nat.le_refl _) (G.refl _)
    go_wp2_with fail
    refine Calls.mono (P:=Tryz.prog) (q1W w18 w18.heap.size _ [] (q0T _ _)) ?_
    rintro e19 w19 ⟨rfl,hsp19⟩
    have g19:=hsp19.g w18 (Nat.le_refl _) (G.refl _)
    have hGn:=G.trans hG (G.trans gf (G.trans g16 (G.trans g17 (G.trans g18 g19))))
    go_wp2_with fail
    go_roundw
    case rel=>exact⟨k+1,by omega,by go_num,hGn⟩
    case measure=>simp only[intOf];omega
   ·have hlt2:decide ((k:Int)<2)=false:=decide_eq_false (by omega)
    go_wp2_with fail
    refine Calls.mono (P:=Tryz.prog) (q1T wr _ x4 _ l _ X4.out (FSl.G HF1.out g0r) HK.out.1) ?_
    rintro e11 w11 ⟨rfl,g11⟩
    go_wp2_with fail
    refine Calls.mono (P:=Tryz.prog) (q1T w11 _ x5 _ m _ (Lent.G X5.out g11) (FSl.G HF2.out (G.trans g0r g11)) HK.out.2) ?_
    rintro e12 w12 ⟨rfl,g12⟩
    go_wp2_with fail
    go_ret
    exact⟨rfl,G.trans g0r (G.trans g11 g12)⟩
 ·generalize ((w8.alloc (.cells #[.int .i64 c,.int .i64 a] 29)).alloc (.cells #[.int .i64 c,.int .i64 a] 29)).drew=w9 at *
  have RA:Hid (Rec w9 (w7.heap.size+3+1) _):=n4
  have RB:Hid (Rec w9 (w7.heap.size+3) _):=n3
  have RC:Hid (Rec w9 (w7.heap.size+2) _):=Rec.G R2.out g89
  have RD:Hid (Rec w9 w7.heap.size _):=Rec.G R0.out g89
  have g59:G w5 w9:=G.trans g57 (G.trans g8 g89)
  clear n1 n2 n3 n4 hs2 R0 R1 R2 hSR0_0 hSR0_1 hSR0_2 hSR0_3 hSR2_0 hSR2_1 hSR2_2 hSR2_3 g89 g8 g57
  have g09:=G.trans g05 g59
  have hSRD:=Rec.f2 (Rec.G RD.out (G.refl _))
  have hSRD_0:=hSRD.1
  have hSRD_1:=hSRD.2.1
  have hSRD_2:=hSRD.2.2.1
  have hSRD_3:=hSRD.2.2.2
  clear hSRD
  have hSRC:=Rec.f2 (Rec.G RC.out (G.refl _))
  have hSRC_0:=hSRC.1
  have hSRC_1:=hSRC.2.1
  have hSRC_2:=hSRC.2.2.1
  have hSRC_3:=hSRC.2.2.2
  clear hSRC
  go_wp2_with fail
  clear hSRD_0 hSRD_1 hSRD_2 hSRD_3 hSRC_0 hSRC_1 hSRC_2 hSRC_3
  go_loopw [83] (fun vk wr=>∃ k:Nat,k≤2∧vk= .int .i64 k∧G w9 wr) (fun vk _=>2-(intOf vk).toNat)
  case atStart=>exact⟨0,Nat.zero_le _,rfl,G.refl _⟩
  case round=>
   obtain⟨k,hk,rfl,hG⟩:=hrel
   have X4:Hid (Lent wr _ x4 l _):=HX4'.out.G (G.trans g59 hG)
   have X5:Hid (Lent wr _ x5 m _):=HX5.out.G (G.trans g59 hG)
   have g0r:=G.trans g09 hG
   by_cases hkn:k<2
   ·have hlt2:decide ((k:Int)<2)=true:=decide_eq_true (by omega)
    go_wp2_with fail
    refine Calls.mono (P:=Tryz.prog) (HOf.out wr x4 g0r X4.out.fsl) ?_
    rintro e10 w10 ⟨rfl,g10⟩
    go_wp2_with fail
    have g0a:=G.trans g0r g10
    clear hz8
    obtain⟨w11,hw_,g11,hz11,R0⟩:=q0f w10 [.int .i64 c,.int .i64 a] 29
    rw[hw_]
    clear hw_
    have R18:Hid (Rec _ _ _):=R0
    clear R0 hz11
    refine Calls.mono (P:=Tryz.prog) (HMul.out w11 x4 x5 (G.trans g0a g11) (Lent.G X4.out (G.trans g10 g11)).fsl (Lent.G X5.out (G.trans g10 g11)).fsl) ?_
    rintro e12 w12 ⟨rfl,g12⟩
    have g1c:=G.trans g11 g12
    go_wp2_with fail
    obtain⟨w13,hw_,g13,hz13,R0⟩:=q0f w12 [.int .i64 c,.int .i64 a] 29
    rw[hw_]
    clear hw_
    have R20:Hid (Rec _ _ _):=R0
    clear R0 hz13
    have gad:=G.trans g1c g13
    refine Calls.mono (P:=Tryz.prog) (HCmp.out w13 x4 x5 (G.trans g0a gad) (Lent.G X4.out (G.trans g10 gad)).fsl (Lent.G X5.out (G.trans g10 gad)).fsl) ?_
    rintro e14 w14 ⟨rfl,g14⟩
    have n5:Rec (w14.alloc (.cells #[.int .i64 c,.int .i64 a] 29)) w14.heap.size [.int .i64 c,.int .i64 a]:=Rec.new2 w14 _ _ _
    have g15:G w14 (w14.alloc (.cells #[.int .i64 c,.int .i64 a] 29)):=(G.refl w14).alloc _
    have gae:=G.trans gad g14
    have RA5:Hid (Rec _ _ _):=Rec.G RA.out (G.trans hG (G.trans g10 (G.trans gae g15)))
    have RB5:Hid (Rec _ _ _):=Rec.G RB.out (G.trans hG (G.trans g10 (G.trans gae g15)))
    have RC5:Hid (Rec _ _ _):=Rec.G RC.out (G.trans hG (G.trans g10 (G.trans gae g15)))
    have R185:Hid (Rec _ _ _):=Rec.G R18.out (G.trans g12 (G.trans g13 (G.trans g14 g15)))
    have R205:Hid (Rec _ _ _):=Rec.G R20.out (G.trans g14 g15)
    have R22:Hid (Rec _ _ _):=n5
    have hSRA5:=Rec.f2 (Rec.G RA5.out (G.refl _))
    have hSRA5_0:=hSRA5.1
    have hSRA5_1:=hSRA5.2.1
    have hSRA5_2:=hSRA5.2.2.1
    have hSRA5_3:=hSRA5.2.2.2
    clear hSRA5
    have hSRB5:=Rec.f2 (Rec.G RB5.out (G.refl _))
    have hSRB5_0:=hSRB5.1
    have hSRB5_1:=hSRB5.2.1
    have hSRB5_2:=hSRB5.2.2.1
    have hSRB5_3:=hSRB5.2.2.2
    clear hSRB5
    have hSRC5:=Rec.f2 (Rec.G RC5.out (G.refl _))
    have hSRC5_0:=hSRC5.1
    have hSRC5_1:=hSRC5.2.1
    have hSRC5_2:=hSRC5.2.2.1
    have hSRC5_3:=hSRC5.2.2.2
    clear hSRC5
    have hSR185:=Rec.f2 (Rec.G R185.out (G.refl _))
    have hSR185_0:=hSR185.1
    have hSR185_1:=hSR185.2.1
    have hSR185_2:=hSR185.2.2.1
    have hSR185_3:=hSR185.2.2.2
    clear hSR185
    have hSR205:=Rec.f2 (Rec.G R205.out (G.refl _))
    have hSR205_0:=hSR205.1
    have hSR205_1:=hSR205.2.1
    have hSR205_2:=hSR205.2.2.1
    have hSR205_3:=hSR205.2.2.2
    clear hSR205
    have hSR22:=Rec.f2 (Rec.G R22.out (G.refl _))
    have hSR22_0:=hSR22.1
    have hSR22_1:=hSR22.2.1
    have hSR22_2:=hSR22.2.2.1
    have hSR22_3:=hSR22.2.2.2
    clear hSR22
    clear n5
    go_wp2_with fail
    clear hSRA5_0 hSRA5_1 hSRA5_2 hSRA5_3 hSRB5_0 hSRB5_1 hSRB5_2 hSRB5_3 hSRC5_0 hSRC5_1 hSRC5_2 hSRC5_3 hSR185_0 hSR185_1 hSR185_2 hSR185_3 hSR205_0 hSR205_1 hSR205_2 hSR205_3 hSR22_0 hSR22_1 hSR22_2 hSR22_3
    generalize w14.alloc (.cells #[.int .i64 c,.int .i64 a] 29)=w15 at *
    have g0f:=G.trans g0a (G.trans gae g15)
    have gf:=G.trans g10 (G.trans gae g15)
    clear RA5 R185 R18 R20 gad g1c g11 g12 g13 g14 g15 gae g0a g10
    refine Calls.mono (P:=Tryz.prog) (q0K w15 _ _ [] (fun k hk=>absurd hk (Nat.not_lt_zero k)) (q18 _ _ _) (q18 _ _ _) (by simp)) ?_
    rintro e16 w16 ⟨rfl,g16⟩
    have RB6:Hid (Rec _ _ _):=Rec.G RB5.out g16
    have R206:Hid (Rec _ _ _):=Rec.G R205.out g16
    have hSRB6:=Rec.f2 (Rec.G RB6.out (G.refl _))
    have hSRB6_0:=hSRB6.1
    have hSRB6_1:=hSRB6.2.1
    have hSRB6_2:=hSRB6.2.2.1
    have hSRB6_3:=hSRB6.2.2.2
    clear hSRB6
    have hSR206:=Rec.f2 (Rec.G R206.out (G.refl _))
    have hSR206_0:=hSR206.1
    have hSR206_1:=hSR206.2.1
    have hSR206_2:=hSR206.2.2.1
    have hSR206_3:=hSR206.2.2.2
    clear hSR206
    go_wp2_with fail
    clear hSRB6_0 hSRB6_1 hSRB6_2 hSRB6_3 hSR206_0 hSR206_1 hSR206_2 hSR206_3
    refine Calls.mono (P:=Tryz.prog) (q0K w16 _ _ [] (fun k hk=>absurd hk (Nat.not_lt_zero k)) (q18 _ _ _) (q18 _ _ _) (by simp)) ?_
    rintro e17 w17 ⟨rfl,g17⟩
    have RC7:Hid (Rec _ _ _):=Rec.G RC5.out (G.trans g16 g17)
    have R227:Hid (Rec _ _ _):=Rec.G R22.out (G.trans g16 g17)
    have hSRC7:=Rec.f2 (Rec.G RC7.out (G.refl _))
    have hSRC7_0:=hSRC7.1
    have hSRC7_1:=hSRC7.2.1
    have hSRC7_2:=hSRC7.2.2.1
    have hSRC7_3:=hSRC7.2.2.2
    clear hSRC7
    have hSR227:=Rec.f2 (Rec.G R227.out (G.refl _))
    have hSR227_0:=hSR227.1
    have hSR227_1:=hSR227.2.1
    have hSR227_2:=hSR227.2.2.1
    have hSR227_3:=hSR227.2.2.2
    clear hSR227
    go_wp2_with fail
    clear hSRC7_0 hSRC7_1 hSRC7_2 hSRC7_3 hSR227_0 hSR227_1 hSR227_2 hSR227_3
    refine Calls.mono (P:=Tryz.prog) (q1W w17 w17.heap.size _ [] (q0T _ _)) ?_
    rintro e18 w18 ⟨rfl,hsp18⟩
    have g18:=hsp18.g w17 (Nat.le_refl _) (G.refl _)
    go_wp2_with fail
    refine Calls.mono (P:=Tryz.prog) (q1W w18 w18.heap.size _ [] (q0T _ _)) ?_
    rintro e19 w19 ⟨rfl,hsp19⟩
    have g19:=hsp19.g w18 (Nat.le_refl _) (G.refl _)
    have hGn:=G.trans hG (G.trans gf (G.trans g16 (G.trans g17 (G.trans g18 g19))))
    go_wp2_with fail
    go_roundw
    case rel=>exact⟨k+1,by omega,by go_num,hGn⟩
    case measure=>simp only[intOf];omega
   ·have hlt2:decide ((k:Int)<2)=false:=decide_eq_false (by omega)
    go_wp2_with fail
    refine Calls.mono (P:=Tryz.prog) (q1T wr _ x4 _ l _ X4.out (FSl.G HF1.out g0r) HK.out.1) ?_
    rintro e11 w11 ⟨rfl,g11⟩
    go_wp2_with fail
    refine Calls.mono (P:=Tryz.prog) (q1T w11 _ x5 _ m _ (Lent.G X5.out g11) (FSl.G HF2.out (G.trans g0r g11)) HK.out.2) ?_
    rintro e12 w12 ⟨rfl,g12⟩
    go_wp2_with fail
    go_ret
    exact⟨rfl,G.trans g0r (G.trans g11 g12)⟩
end Go.Proofs.YtljkfjjchkehaaaGreatDoor.EN
