/- What is proved here: contracts of the reference's ratios: norm (lowest terms), over this seat's translation. -/
import Derived.Test.YtljkfjjchkehaaaGreatDoorC20
namespace Go.Proofs.YtljkfjjchkehaaaGreatDoor
open Go.ChangeShapes Go.WideShapes Go.ChangeAt Go.RowKit
open BN
/-- The Rat at block b, its cells told apart: sign and size of the upper part, size of the lower one. -/
structure RA (w:World) (b:Nat) (n:Bool) (va:Value) (A:Nat) (vb:Value) (B:Nat):Prop where
 a:q5Y w b 0 n va
 na:Num w va A
 b:q5Y w b 2 false vb
 nb:Num w vb B
theorem RA.grow {w w':World} {b:Nat} {n:Bool} {va vb:Value} {A B:Nat} (h:RA w b n va A vb B) (hb:b<w.heap.size) (g:G w w'):RA w' b n va A vb B:=by
 obtain⟨⟨c1,c2,f1,f2⟩,na,⟨c3,c4,f3,f4⟩,nb⟩:=h
 exact⟨⟨g.cell hb c1,g.cell hb c2,g.frozen hb f1,g.frozen hb f2⟩,na.G g,⟨g.cell hb c3,g.cell hb c4,g.frozen hb f3,g.frozen hb f4⟩,nb.G g⟩
theorem RA.setA {w:World} {b:Nat} {n:Bool} {va vb v:Value} {A B A':Nat} (h:RA w b n va A vb B) (hv:Num w v A'):RA (w.setCell ⟨b,1,none⟩ v) b n v A' vb B:=by
 obtain⟨⟨c1,c2,f1,f2⟩,na,⟨c3,c4,f3,f4⟩,nb⟩:=h
 have hu:∀ z,va≠ .int .u32 z:=fun z=>q1x na _ z
 refine⟨⟨?_,World.cell?_setCell_same _ _ _ c2,by rw[World.frozen?_setCell];exact f1,by rw[World.frozen?_setCell];exact f2⟩,num_other hv c2 hu,⟨?_,?_,by rw[World.frozen?_setCell];exact f3,by rw[World.frozen?_setCell];exact f4⟩,num_other nb c2 hu⟩
 all_goals rw[World.cell?_setCell_other _ _ _ _ (by intro e;injection e with _ e;omega)];assumption
theorem RA.setB {w:World} {b:Nat} {n:Bool} {va vb v:Value} {A B B':Nat} (h:RA w b n va A vb B) (hv:Num w v B'):RA (w.setCell ⟨b,3,none⟩ v) b n va A v B':=by
 obtain⟨⟨c1,c2,f1,f2⟩,na,⟨c3,c4,f3,f4⟩,nb⟩:=h
 have hu:∀ z,vb≠ .int .u32 z:=fun z=>q1x nb _ z
 refine⟨⟨?_,?_,by rw[World.frozen?_setCell];exact f1,by rw[World.frozen?_setCell];exact f2⟩,num_other na c4 hu,⟨?_,World.cell?_setCell_same _ _ _ c4,by rw[World.frozen?_setCell];exact f3,by rw[World.frozen?_setCell];exact f4⟩,num_other hv c4 hu⟩
 all_goals rw[World.cell?_setCell_other _ _ _ _ (by intro e;injection e with _ e;omega)];assumption
theorem RA.is {w:World} {b:Nat} {n:Bool} {va vb:Value} {A B:Nat} (h:RA w b n va A vb B) (hA:n=true→A≠0):RatIs w b (sg n A) (B:Int):=
 ⟨⟨n,va,A,h.a,h.na,rfl,hA⟩,⟨false,vb,B,h.b,h.nb,rfl,fun h=>by cases h⟩⟩
theorem q3p {w:World} {v:Value} {n:Nat} (h:Num w v n):∃ p k c,v= .slice p k c:=by
 obtain⟨l,hl,-⟩:=h
 obtain⟨p,c,e,-⟩:=q0p hl
 exact⟨p,_,c,e⟩
/-- A slice of a number above 0, for the test whether it is 1. -/
theorem q1L {w:World} {v:Value} {n:Nat} (h:Num w v n) (h0:0<n):∃ (b o j c d:Nat),v= .slice (some ⟨b,o,none⟩) j c∧b<w.heap.size∧w.cell? ⟨b,o,none⟩=some (.int .u32 (d:Nat))∧d<4294967296∧((j=1∧d=n)∨(j≠1∧n≠1)):=by
 obtain⟨l,hl,hc,rfl⟩:=h
 rcases Sl.cases hl with ⟨rfl,-⟩|⟨hne,b,o,c,rfl,-,hb,hr⟩
 ·simp [val] at h0
 ·have hr0:=hr 0 (List.length_pos_iff.2 hne)
  rw[Nat.add_zero] at hr0
  refine⟨b,o,l.length,c,_,rfl,hb,hr0,q04 hl.1 0,?_⟩
  by_cases h1:l.length=1
  ·refine Or.inl ⟨h1,?_⟩
   obtain⟨x,rfl⟩:=List.length_eq_one_iff.1 h1
   simp [val]
  ·refine Or.inr ⟨h1,fun h2=> ?_⟩
   have h3:=q0Q hc hne
   have h4:2^32≤2^(32*(l.length-1)):=Nat.pow_le_pow_right (by omega) (by have:=List.length_pos_iff.2 hne;omega)
   omega
/-- What norm leaves behind. -/
def NormTo (w:World) (b:Nat) (sa:Int) (sb:Nat) (e:Ending) (w':World):Prop:=e= .returned (.pointer (some ⟨b,0,none⟩))∧GX b w w'∧RatIs w' b sa (sb:Int)
/-- The greatest divisor, twos first. -/
theorem q94 {A B k:Nat}:Nat.gcd (A*2^k) (B*2^k)=Nat.gcd A B*2^k:=Nat.gcd_mul_right A (2^k) B
theorem q9y {A O:Nat} (k:Nat) (h:A%2=1):Nat.gcd A (O*2^k)=Nat.gcd A O:=by
 have h1:Nat.Coprime A (2^k):=by
  refine Nat.Coprime.pow_right k ?_
  rw[Nat.coprime_comm,Nat.Coprime,Nat.gcd_rec,h]
  rfl
 exact Nat.Coprime.gcd_mul_right_cancel_right O h1.symm
set_option maxRecDepth 10000 in
set_option maxHeartbeats 4000000 in
theorem qak (w:World) (b:Nat) (n:Bool) (va vb:Value) (A B K:Nat) (hK:K≤300000) (hA2:A<2^(32*K)) (hB2:B<2^(32*K)) (hB0:0<B) (rF:n=true→A≠0) (hb:b<w.heap.size) (h:RA w b n va A vb B):
  Calls Tryz.prog 90 #[.pointer (some ⟨b,0,none⟩)] w (NormTo w b (sg n (A/Nat.gcd A B)) (B/Nat.gcd A B)):=by
 have oM:Hid (RA w b n va A vb B):=h
 obtain⟨⟨c1,c2,f1,f2⟩,na,⟨c3,c4,f3,f4⟩,nb⟩:=h
 obtain⟨l,hl,hcl,hlv⟩:=na
 obtain⟨m,hm,hcm,hmv⟩:=nb
 obtain⟨pa,ca,rfl,dO,-⟩:=q0p hl
 obtain⟨pb,cb,rfl,hcb,hrb⟩:=q0p hm
 have hm0:m.length≠0:=by
  intro h0
  rw[List.eq_nil_of_length_eq_zero h0] at hmv
  have:B=0:=hmv.symm
  omega
 have rE:((m.length:Int)==0)=false:=by simp;intro h;exact hm0 (by rw[h];rfl)
 by_cases ik:A=0
 ·have hl0:l.length=0:=by
   rw[ik] at hlv
   rw[(q0V hcl).1 hlv];rfl
  have hn:n=false:=by
   cases n
   ·rfl
   ·exact absurd ik (rF rfl)
  subst hn ik
  rw[Nat.gcd_zero_left,Nat.div_self hB0,Nat.zero_div]
  have HS:Hid (Calls Tryz.prog 132 #[.pointer (some ⟨b,2,none⟩),.int .i64 1] w (SetTo w b 2 1)):=q8V w b 2 1 B (by omega) hb (oM.out.is rF).2
  have Cu:Hid (IntIs w b 0 0):=(oM.out.is rF).1
  have HR2:Hid (IntIs w b 2 B):=(oM.out.is rF).2
  rw[hl0] at c2
  generalize m.length=j at *
  clear hl hm hcl hcm hlv hmv hcb dO hm0 hrb hl0 f1 f2 f3 f4
  go_enter Tryz.func90,Tryz.ntmps90
  go_wp2_with fail
  refine Calls.mono (P:=Tryz.prog) HS.out ?_
  intro e w2 hs
  have hk:=SetTo.keep HR2.out hs Cu.out hb (Or.inr (Or.inl (by omega)))
  obtain⟨rfl,h1,-,h2⟩:=hs
  go_wp2_with fail
  go_ret
  exact⟨rfl,h1,hk,h2⟩
 ·have hl0:l.length≠0:=by
   intro h0
   rw[List.eq_nil_of_length_eq_zero h0] at hlv
   exact ik hlv.symm
  have vE:((l.length:Int)==0)=false:=by simp;intro h;exact hl0 (by rw[h];rfl)
  obtain⟨bb,ob,hpb,Af,hcb0⟩:=hrb 0 (by omega)
  subst hpb
  rw[Nat.add_zero] at hcb0
  have qC:Hid (A≠0):=ik
  have HB0:Hid (0<B):=hB0
  have HA2:Hid (A<2^(32*K)):=hA2
  have HB2:Hid (B<2^(32*K)):=hB2
  have M5:Hid (n=true→A≠0):=rF
  have hwd:=q04 hcm.1 0
  have vF:((m.getD 0 0:Nat):Int)≤4294967295:=by omega
  by_cases hm1:m.length=1
  case' pos=>
   have GR:m.getD 0 0=B:=by
    obtain⟨x,rfl⟩:=List.length_eq_one_iff.1 hm1
    rw[q1a] at hmv
    simpa using hmv
   rw[GR] at hcb0 vF
   rw[hm1] at c4 rE oM
   by_cases hB1:B=1
   case pos=>
    subst hB1
    have HR:Hid _:=oM.out.is rF
    rw[Nat.gcd_one_right,Nat.div_one]
    generalize l.length=i at *
    clear hl hm hcl hcm hlv hmv hcb dO hm0 hrb hl0 f1 f2 f3 f4 hA2 hB2 hB0 rF hwd hm1 GR ik
    go_enter Tryz.func90,Tryz.ntmps90
    go_wp2_with fail
    go_ret
    exact⟨rfl,GX.of (G.refl w),HR.out⟩
   have GU:((B:Int)==1)=false:=by simp;omega
   generalize l.length=i at *
   clear hl hm hcl hcm hlv hmv hcb dO hm0 hrb hl0 f1 f2 f3 f4 hA2 hB2 hB0 rF hwd hm1 GR ik hB1
   go_enter Tryz.func90,Tryz.ntmps90
   go_wp2_with fail
   clear hcb0 rE GU vE c1 c3 Af vF
   obtain⟨vb,hvb⟩:∃ vb,vb=Value.slice (some ⟨bb,ob,none⟩) 1 cb:=⟨_,rfl⟩
  case' neg=>
   have GV:((m.length:Int)==1)=false:=by simp;intro h;exact hm1 (by omega)
   generalize l.length=i at *
   generalize m.length=j at *
   clear hl hm hcl hcm hlv hmv hcb dO hm0 hrb hl0 f1 f2 f3 f4 hA2 hB2 hB0 rF hwd hm1 vF hcb0 ik
   go_enter Tryz.func90,Tryz.ntmps90
   go_wp2_with fail
   clear rE GV vE c1 c3 Af
   obtain⟨vb,hvb⟩:∃ vb,vb=Value.slice (some ⟨bb,ob,none⟩) j cb:=⟨_,rfl⟩
  all_goals
   as_aux_lemma=>
    obtain⟨va,hva⟩:∃ va,va=Value.slice pa i ca:=⟨_,rfl⟩
    rw[← hvb] at oM ⊢
    rw[← hva] at oM
    clear hva hvb
    clear c2 c4
    refine Calls.mono (P:=Tryz.prog) (q4p w _ B K (by omega) oM.out.nb HB2.out (by have:=HB0.out;omega)) ?_
    rintro e w1 ⟨k,rfl,hkB,hg1⟩
    have M6:Hid (q2Y B k):=hkB
    have oN:Hid (RA w1 b n va A vb B):=oM.out.grow hb hg1
    have hkk:k<32*K:=(Nat.pow_lt_pow_iff_right (by omega:1<2)).1 (Nat.lt_of_le_of_lt (q2f (by have:=HB0.out;omega) hkB.1) HB2.out)
    have hki:(k:Int)≤9600000:=by omega
    have d1:=oN.out.a.2.1
    have d3:=oN.out.b.2.1
    simp only[Nat.zero_add,Nat.reduceAdd] at d1 d3
    have HT2:Hid _:=q4p w1 _ A K (by omega) oN.out.na HA2.out qC.out
    clear hkB
    go_wp2_with fail
    refine Calls.mono (P:=Tryz.prog) HT2.out ?_
    rintro e w2 ⟨k2,rfl,yA,hg2⟩
    have M7:Hid (q2Y A k2):=yA
    have QC:k2<32*K:=(Nat.pow_lt_pow_iff_right (by omega:1<2)).1 (Nat.lt_of_le_of_lt (q2f qC.out yA.1) HA2.out)
    have QD:(k2:Int)≤9600000:=by omega
    have jH:Hid (RA w2 b n va A vb B):=oN.out.grow (G.lt hg1 hb) hg2
    have hG2:=G.trans hg1 hg2
    clear yA d1 d3 hg1 hg2 oN HT2
    have d1:=jH.out.a.2.1
    have d3:=jH.out.b.2.1
    simp only[Nat.zero_add,Nat.reduceAdd] at d1 d3
    obtain⟨kb,hkb,hkb2⟩:∃ kb:Nat,(if k2<k then (k2:Int) else (k:Int))=kb∧kb=min k k2:=by
     by_cases hk:k2<k
     ·exact⟨k2,by rw[if_pos hk],by omega⟩
     ·exact⟨k,by rw[if_neg hk],by omega⟩
    have TG:Hid (kb=min k k2):=hkb2
    have GY:(kb:Int)≤9600000:=by omega
    have GZ:kb≤k:=by omega
    have nA:Hid (A=A/2^kb*2^kb∧B=B/2^kb*2^kb):=by
     have h1:=M7.out.1
     have h2:=M6.out.1
     have h3:2^kb∣A:=Nat.dvd_trans (Nat.pow_dvd_pow 2 (by omega)) (Nat.dvd_of_mod_eq_zero h1)
     have h4:2^kb∣B:=Nat.dvd_trans (Nat.pow_dvd_pow 2 GZ) (Nat.dvd_of_mod_eq_zero h2)
     exact⟨(Nat.div_mul_cancel h3).symm,(Nat.div_mul_cancel h4).symm⟩
    have yB:Hid (A/2^kb%2=1∨k-kb=0):=by
     show A/2^kb%2=1∨k-kb=0
     by_cases hk:k2<k
     ·have e:kb=k2:=by omega
      rw[e];exact Or.inl M7.out.2
     ·exact Or.inr (by omega)
    have sS:Hid (q2Y (B/2^kb) (k-kb)):=by
     have h5:=nA.out.2
     obtain⟨h6,h7⟩:=M6.out
     have e:2^k=2^kb*2^(k-kb):=by rw[← Nat.pow_add];congr 1;omega
     constructor
     ·rw[e,Nat.mod_mul] at h6
      have:2^kb*(B/2^kb%2^(k-kb))=0:=by omega
      rcases Nat.mul_eq_zero.1 this with h|h
      ·exact absurd h (Nat.pos_iff_ne_zero.1 (Nat.two_pow_pos _))
      ·exact h
     ·rw[e,← Nat.div_div_eq_div_mul] at h7;exact h7
    have H7:=jH.out.a.2.2.2
    have H8:=jH.out.b.2.2.2
    simp only[Nat.zero_add,Nat.reduceAdd] at H7 H8
    clear hkb2
    by_cases vG:0<kb
    case' pos=>
     have oO:decide (0<kb)=true:=by simpa using vG
     have HR1:Hid (Calls Tryz.prog 134 #[va,.int .u64 (kb:Int)] w2 (q0h w2 (A/2^kb))):=q1I w2 va A kb K (by omega) (by omega) jH.out.na HA2.out
     clear vG
     go_wp2_with fail
     refine Calls.mono (P:=Tryz.prog) HR1.out ?_
     rintro e w3 ⟨TH,rfl,hg3,jy⟩
     obtain⟨p3,k3,c3',rfl⟩:=q3p jy
     have hr3:=jH.out.grow (G.lt hG2 hb) hg3
     have vH:Hid (RA (w3.setCell ⟨b,1,none⟩ (Value.slice p3 k3 c3')) b n (Value.slice p3 k3 c3') (A/2^kb) vb B):=RA.setA hr3 jy
     have Ag:Hid (GX b w (w3.setCell ⟨b,1,none⟩ (Value.slice p3 k3 c3'))):=GX.set (GX.of (G.trans hG2 hg3)) (Value.slice p3 k3 c3')
     have hb3:b<(w3.setCell ⟨b,1,none⟩ (Value.slice p3 k3 c3')).heap.size:=by have:=G.lt (G.trans hG2 hg3) hb;simpa [World.setCell] using this
     have e1:=hr3.a.2.1
     have qD:=hr3.a.2.2.2
     have e3:=hr3.b.2.1
     simp only[Nat.zero_add,Nat.reduceAdd] at e1 qD e3
     clear hr3 jy d1 d3 H7 H8 hg3
     go_wp2_with fail
     clear e1 qD e3 jH HR1
     generalize w3.setCell ⟨b,1,none⟩ (Value.slice p3 k3 c3')=w4 at *
     have HR2:Hid (Calls Tryz.prog 134 #[vb,.int .u64 (kb:Int)] w4 (q0h w4 (B/2^kb))):=q1I w4 vb B kb K (by omega) (by omega) vH.out.nb HB2.out
     refine Calls.mono (P:=Tryz.prog) HR2.out ?_
     rintro e w5 ⟨TI,rfl,hg5,vI⟩
     obtain⟨p5,k5,vJ,rfl⟩:=q3p vI
     have Cv:=vH.out.grow hb3 hg5
     have jI:Hid (RA (w5.setCell ⟨b,3,none⟩ (Value.slice p5 k5 vJ)) b n (Value.slice p3 k3 c3') (A/2^kb) (Value.slice p5 k5 vJ) (B/2^kb)):=RA.setB Cv vI
     have vK:Hid (GX b w (w5.setCell ⟨b,3,none⟩ (Value.slice p5 k5 vJ))):=GX.set (GX.trans Ag.out (GX.of hg5)) (Value.slice p5 k5 vJ)
     have hb6:b<(w5.setCell ⟨b,3,none⟩ (Value.slice p5 k5 vJ)).heap.size:=by have:=G.lt hg5 hb3;simpa [World.setCell] using this
     have e3:=Cv.b.2.1
     have qE:=Cv.b.2.2.2
     simp only[Nat.reduceAdd] at e3 qE
     have hwk:IntKind.u64.wrap ((k:Int)-kb)=((k-kb:Nat):Int):=by rw[IntKind.wrap_u64];omega
     clear Cv vI hg5 vH Ag HR2
     go_wp2_with fail
     clear e3 qE hwk hkb oO
     generalize w5.setCell ⟨b,3,none⟩ (Value.slice p5 k5 vJ)=w6 at *
     obtain⟨nE,oP⟩:∃ nE,nE=Value.slice p3 k3 c3':=⟨_,rfl⟩
     obtain⟨qF,jJ⟩:∃ qF,qF=Value.slice p5 k5 vJ:=⟨_,rfl⟩
     rw[← oP,← jJ] at jI
     rw[← jJ]
     clear oP jJ
    case' neg=>
     obtain rfl:kb=0:=by omega
     have oO:decide (0<0)=false:=rfl
     have jI:Hid (RA w2 b n va (A/2^0) vb (B/2^0)):=by rw[Nat.pow_zero,Nat.div_one,Nat.div_one];exact jH.out
     have vK:Hid (GX b w w2):=GX.of hG2
     have hb6:=G.lt hG2 hb
     clear jH vG
     go_wp2_with fail
     clear d1 d3 H7 H8 hkb oO GY
     obtain⟨kb,Ah⟩:∃ kb,kb=0:=⟨_,rfl⟩
     have Ai:Hid (A/2^kb%2=1∨k-kb=0):=by rw[Ah];exact yB.out
     clear yB
     have yB:Hid (A/2^kb%2=1∨k-kb=0):=Ai.out
     clear Ai
     rw[← Ah] at jI nA sS
     obtain⟨nE,oP⟩:∃ nE,nE=va:=⟨_,rfl⟩
     obtain⟨qF,jJ⟩:∃ qF,qF=vb:=⟨_,rfl⟩
     rw[← oP,← jJ] at jI
     rw[← jJ]
     have Aj:k=k-kb:=by omega
     rw[Aj]
     clear oP jJ Aj
    all_goals
     as_aux_lemma=>
      obtain⟨A1,hA1⟩:∃ A1,A1=A/2^kb:=⟨_,rfl⟩
      obtain⟨B1,hB1⟩:∃ B1,B1=B/2^kb:=⟨_,rfl⟩
      obtain⟨k1,hk1⟩:∃ k1,k1=k-kb:=⟨_,rfl⟩
      rw[← hA1] at jI nA yB
      rw[← hB1] at jI nA sS
      rw[← hk1] at yB sS ⊢
      obtain⟨hA,hB⟩:=nA.out
      have QE:k1≤32*K:=by omega
      have Ak:Hid (A1<2^(32*K)∧B1<2^(32*K)):=by
       rw[hA1,hB1]
       exact⟨Nat.lt_of_le_of_lt (Nat.div_le_self _ _) HA2.out,Nat.lt_of_le_of_lt (Nat.div_le_self _ _) HB2.out⟩
      clear hA1 hB1 hk1
      obtain⟨O,hO⟩:∃ O,O=B1/2^k1:=⟨_,rfl⟩
      have vL:B1=O*2^k1:=by rw[hO];exact(Nat.div_mul_cancel (Nat.dvd_of_mod_eq_zero sS.out.1)).symm
      have QF:O%2=1:=by rw[hO];exact sS.out.2
      have eB:Hid (O<2^(32*K)):=by rw[hO];exact Nat.lt_of_le_of_lt (Nat.div_le_self _ _) Ak.out.2
      have Ha:Hid _:=q1I _ _ B1 k1 K (by omega) (by omega) jI.out.nb Ak.out.2
      rw[← hO] at Ha
      have M8:Nat.gcd A1 B1=Nat.gcd A1 O:=by
       rcases yB.out with h|h
       ·rw[vL];exact q9y k1 h
       ·rw[vL,h,Nat.pow_zero,Nat.mul_one]
      have Hd:Hid (Nat.gcd A B=Nat.gcd A1 O*2^kb):=by show Nat.gcd A B=Nat.gcd A1 O*2^kb;rw[hA,hB,q94,M8]
      have He:0<O:=by omega
      clear hO M8
      refine Calls.mono (P:=Tryz.prog) Ha.out ?_
      rintro e w7 ⟨QG,rfl,mh,Hf⟩
      have kJ:Hid (RA w7 b n nE A1 qF B1):=jI.out.grow hb6 mh
      have vM:Hid (GX b w w7):=GX.trans vK.out (GX.of mh)
      have Hg:=G.lt mh hb6
      have QH:Hid (Num w7 QG O):=Hf
      obtain⟨b7,o7,j7,c7,d7,rfl,Hl,Hm,hd7,hor⟩:=q1L Hf He
      have QI:(d7:Int)≤4294967295:=by omega
      have e1:=kJ.out.a.2.1
      have e3:=kJ.out.b.2.1
      have qD:=kJ.out.a.2.2.2
      have qE:=kJ.out.b.2.2.2
      simp only[Nat.zero_add,Nat.reduceAdd] at e1 e3 qD qE
      clear mh Hf jI vK Ha
      have Al:Hid (A=A1*2^kb):=hA
      have M9:Hid (B=B1*2^kb):=hB
      have Ma:Hid (0<O):=He
      clear hA hB vL QF He
      rcases hor with ⟨hj1,vN⟩|⟨QJ,Cw⟩
      case' inl=>
       have Ho:((j7:Int)==1)=true:=by simp;omega
       have QK:(0:Int)<j7:=by omega
       by_cases hd1:d7=1
       case pos=>
        subst hd1
        have hg1:Nat.gcd A B=2^kb:=by rw[Hd.out,← vN,Nat.gcd_one_right,Nat.one_mul]
        have vO:Hid (A/Nat.gcd A B=A1∧B/Nat.gcd A B=B1):=by
         rw[hg1]
         exact⟨by rw[Al.out];exact Nat.mul_div_cancel _ (Nat.two_pow_pos _),by rw[M9.out];exact Nat.mul_div_cancel _ (Nat.two_pow_pos _)⟩
        have vP:Hid (n=true→A1≠0):=fun h h1=>qC.out (by rw[Al.out,h1,Nat.zero_mul])
        clear hg1 hj1 vN
        go_wp2_with fail
        go_ret
        exact⟨rfl,vM.out,by rw[vO.out.1,vO.out.2];exact kJ.out.is vP.out⟩
       have Hq:((d7:Int)==1)=false:=by simp;omega
       clear hd1 hj1 vN
      case' inr=>
       have Ho:((j7:Int)==1)=false:=by simp;omega
       clear QJ Cw
      all_goals
       as_aux_lemma=>
        have Am:0<A1:=by
         rcases Nat.eq_zero_or_pos A1 with h|h
         ·exact absurd (Al.out.trans (by rw[h,Nat.zero_mul])) qC.out
         ·exact h
        have HCM:Hid (Calls Tryz.prog 135 #[nE,.slice (some ⟨b7,o7,none⟩) j7 c7] w7 (q0h w7 (Nat.gcd A1 O))):=q1U w7 nE _ A1 O K hK kJ.out.na QH.out Am Ak.out.1 eB.out
        clear Am
        go_wp2_with fail
        refine Calls.mono (P:=Tryz.prog) HCM.out ?_
        rintro e w8 ⟨QL,rfl,rG,CB⟩
        have CE:0<Nat.gcd A1 O:=Nat.gcd_pos_of_pos_right _ Ma.out
        obtain⟨g,hgg⟩:∃ g,g=Nat.gcd A1 O:=⟨_,rfl⟩
        have CF:Hid (g∣A1∧g∣O):=by rw[hgg];exact⟨Nat.gcd_dvd_left _ _,Nat.gcd_dvd_right _ _⟩
        rw[← hgg] at CB CE Hd
        have jK:Hid (RA w8 b n nE A1 qF B1):=kJ.out.grow Hg rG
        have vQ:Hid (GX b w w8):=GX.trans vM.out (GX.of rG)
        have Hr:=G.lt rG Hg
        have ja:Hid (Num w8 QL g):=CB
        have Ht:Hid (0<g):=CE
        have vO:Hid (A/Nat.gcd A B=A1/g∧B/Nat.gcd A B=B1/g):=by
         rw[Hd.out,Al.out,M9.out]
         exact⟨Nat.mul_div_mul_right _ _ (Nat.two_pow_pos _),Nat.mul_div_mul_right _ _ (Nat.two_pow_pos _)⟩
        have Ao:Hid (A1≠0):=fun h1=>qC.out (by rw[Al.out,h1,Nat.zero_mul])
        have HG2:Hid (g<2^(32*K)):=Nat.lt_of_le_of_lt (Nat.le_of_dvd Ma.out CF.out.2) eB.out
        obtain⟨b8,o8,j8,c8,d8,rfl,Hu,hc8,TJ,hor⟩:=q1L CB CE
        have QM:(d8:Int)≤4294967295:=by omega
        clear e1 e3 qD qE CB CE hgg rG kJ vM HCM Hg Hm Hl
        have e1:=jK.out.a.2.1
        have e3:=jK.out.b.2.1
        have qD:=jK.out.a.2.2.2
        have qE:=jK.out.b.2.2.2
        simp only[Nat.zero_add,Nat.reduceAdd] at e1 e3 qD qE
        rcases hor with ⟨hj1,vN⟩|⟨QN,Ap⟩
        case' inl=>
         have Hw:((j8:Int)==1)=true:=by simp;omega
         have QO:(0:Int)<j8:=by omega
         by_cases hd1:d8=1
         case pos=>
          subst hd1
          have jm:Hid (g=1):=vN.symm
          clear hj1 vN
          go_wp2_with fail
          go_ret
          exact⟨rfl,vQ.out,by rw[vO.out.1,vO.out.2,jm.out,Nat.div_one,Nat.div_one];exact jK.out.is (fun _=>Ao.out)⟩
         have Hq:((d8:Int)==1)=false:=by simp;omega
         clear hd1 hj1 vN
        case' inr=>
         have Hw:((j8:Int)==1)=false:=by simp;omega
         clear QN Ap
        all_goals
         as_aux_lemma=>
          have HD1:Hid (Calls Tryz.prog 136 #[nE,.slice (some ⟨b8,o8,none⟩) j8 c8] w8 (q2C w8 (A1/g) (A1%g))):=q97 w8 nE _ A1 g K hK jK.out.na ja.out Ak.out.1 HG2.out Ht.out
          have HD2:Hid (∀ w9,G w8 w9→Calls Tryz.prog 136 #[qF,.slice (some ⟨b8,o8,none⟩) j8 c8] w9 (q2C w9 (B1/g) (B1%g))):=fun w9 k=>q97 w9 qF _ B1 g K hK (jK.out.nb.G k) (ja.out.G k) Ak.out.2 HG2.out Ht.out
          go_wp2_with fail
          refine Calls.mono (P:=Tryz.prog) HD1.out ?_
          rintro e w9 ⟨TK,TL,rfl,Aq,aD,-⟩
          obtain⟨p9,k9,c9,rfl⟩:=q3p aD
          have rH:Hid (RA w9 b n nE A1 qF B1):=jK.out.grow Hr Aq
          have Ar:Hid (GX b w w9):=GX.trans vQ.out (GX.of Aq)
          have QS:=G.lt Aq Hr
          have eG:Hid (Num w9 (.slice p9 k9 c9) (A1/g)):=aD
          have HD3:Hid _:=HD2.out w9 Aq
          clear e1 e3 qD qE Aq aD jK vQ HD1 HD2 hc8 Hr Hu
          have e1:=rH.out.a.2.1
          have e3:=rH.out.b.2.1
          simp only[Nat.zero_add,Nat.reduceAdd] at e1 e3
          go_wp2_with fail
          refine Calls.mono (P:=Tryz.prog) HD3.out ?_
          rintro e aX ⟨QT,QU,rfl,rJ,vR,-⟩
          obtain⟨Mc,k10,c10,rfl⟩:=q3p vR
          have iw:=rH.out.grow QS rJ
          have Au:Hid (GX b w aX):=GX.trans Ar.out (GX.of rJ)
          have Hy:Hid (RA ((aX.setCell ⟨b,1,none⟩ (.slice p9 k9 c9)).setCell ⟨b,3,none⟩ (.slice Mc k10 c10)) b n (.slice p9 k9 c9) (A1/g) (.slice Mc k10 c10) (B1/g)):=
           RA.setB (RA.setA iw (eG.out.G rJ)) (num_other vR iw.a.2.1 (fun z=>q1x iw.na _ z))
          have vP:Hid (n=true→A1/g≠0):=fun _=>Nat.pos_iff_ne_zero.1 (Nat.div_pos (Nat.le_of_dvd (Nat.pos_of_ne_zero Ao.out) CF.out.1) Ht.out)
          clear e1 e3
          have e1:=iw.a.2.1
          have e3:=iw.b.2.1
          have qD:=iw.a.2.2.2
          have qE:=iw.b.2.2.2
          simp only[Nat.zero_add,Nat.reduceAdd] at e1 e3 qD qE
          clear iw rJ vR rH Ar HD3
          go_wp2_with fail
          go_ret
          exact⟨rfl,GX.set (GX.set Au.out _) _,by rw[vO.out.1,vO.out.2];exact Hy.out.is vP.out⟩
end Go.Proofs.YtljkfjjchkehaaaGreatDoor
