/- What is proved here: contracts of the reference's ratios: norm (lowest terms), over this seat's translation. -/
import Derived.Test.YtemmkninoiclfaaGreatDoorC17
namespace Go.Proofs.YtemmkninoiclfaaGreatDoor
open Go.ChangeShapes Go.WideShapes Go.ChangeAt Go.RowKit
open BN
/-- The Rat at block b, its cells told apart: sign and size of the upper part, size of the lower one. -/
structure RA (w:World) (b:Nat) (n:Bool) (va:Value) (A:Nat) (vb:Value) (B:Nat):Prop where
 a:q5D w b 0 n va
 na:Num w va A
 b:q5D w b 2 false vb
 nb:Num w vb B
theorem RA.grow {w w':World} {b:Nat} {n:Bool} {va vb:Value} {A B:Nat} (h:RA w b n va A vb B) (hb:b<w.heap.size) (g:G w w'):RA w' b n va A vb B:=by
 obtain⟨⟨c1,c2,f1,f2⟩,na,⟨c3,c4,f3,f4⟩,nb⟩:=h
 exact⟨⟨g.cell hb c1,g.cell hb c2,g.frozen hb f1,g.frozen hb f2⟩,na.G g,⟨g.cell hb c3,g.cell hb c4,g.frozen hb f3,g.frozen hb f4⟩,nb.G g⟩
theorem RA.setA {w:World} {b:Nat} {n:Bool} {va vb v:Value} {A B A':Nat} (h:RA w b n va A vb B) (hv:Num w v A'):RA (w.setCell ⟨b,1,none⟩ v) b n v A' vb B:=by
 obtain⟨⟨c1,c2,f1,f2⟩,na,⟨c3,c4,f3,f4⟩,nb⟩:=h
 have hu:∀ z,va≠ .int .u32 z:=fun z=>q1B na _ z
 refine⟨⟨?_,World.cell?_setCell_same _ _ _ c2,by rw[World.frozen?_setCell];exact f1,by rw[World.frozen?_setCell];exact f2⟩,num_other hv c2 hu,⟨?_,?_,by rw[World.frozen?_setCell];exact f3,by rw[World.frozen?_setCell];exact f4⟩,num_other nb c2 hu⟩
 all_goals rw[World.cell?_setCell_other _ _ _ _ (by intro e;injection e with _ e;omega)];assumption
theorem RA.setB {w:World} {b:Nat} {n:Bool} {va vb v:Value} {A B B':Nat} (h:RA w b n va A vb B) (hv:Num w v B'):RA (w.setCell ⟨b,3,none⟩ v) b n va A v B':=by
 obtain⟨⟨c1,c2,f1,f2⟩,na,⟨c3,c4,f3,f4⟩,nb⟩:=h
 have hu:∀ z,vb≠ .int .u32 z:=fun z=>q1B nb _ z
 refine⟨⟨?_,?_,by rw[World.frozen?_setCell];exact f1,by rw[World.frozen?_setCell];exact f2⟩,num_other na c4 hu,⟨?_,World.cell?_setCell_same _ _ _ c4,by rw[World.frozen?_setCell];exact f3,by rw[World.frozen?_setCell];exact f4⟩,num_other hv c4 hu⟩
 all_goals rw[World.cell?_setCell_other _ _ _ _ (by intro e;injection e with _ e;omega)];assumption
theorem RA.is {w:World} {b:Nat} {n:Bool} {va vb:Value} {A B:Nat} (h:RA w b n va A vb B) (hA:n=true→A≠0):RatIs w b (sg n A) (B:Int):=
 ⟨⟨n,va,A,h.a,h.na,rfl,hA⟩,⟨false,vb,B,h.b,h.nb,rfl,fun h=>by cases h⟩⟩
theorem q21 {w:World} {v:Value} {n:Nat} (h:Num w v n):∃ p k c,v= .slice p k c:=by
 obtain⟨l,hl,-⟩:=h
 obtain⟨p,c,e,-⟩:=q0m hl
 exact⟨p,_,c,e⟩
/-- A slice of a number above 0, for the test whether it is 1. -/
theorem q1K {w:World} {v:Value} {n:Nat} (h:Num w v n) (h0:0<n):∃ (b o j c d:Nat),v= .slice (some ⟨b,o,none⟩) j c∧b<w.heap.size∧w.cell? ⟨b,o,none⟩=some (.int .u32 (d:Nat))∧d<4294967296∧((j=1∧d=n)∨(j≠1∧n≠1)):=by
 obtain⟨l,hl,hc,rfl⟩:=h
 rcases Sl.cases hl with ⟨rfl,-⟩|⟨hne,b,o,c,rfl,-,hb,hr⟩
 ·simp [val] at h0
 ·have hr0:=hr 0 (List.length_pos_iff.2 hne)
  rw[Nat.add_zero] at hr0
  refine⟨b,o,l.length,c,_,rfl,hb,hr0,q04 hl.1 0,?_⟩
  by_cases h1:l.length=1
  ·refine Or.inl ⟨h1,?_⟩
   obtain⟨x,rfl⟩:=List.length_eq_one_iff.1 h1
   simp [val]
  ·refine Or.inr ⟨h1,fun h2=> ?_⟩
   have h3:=q0Z hc hne
   have h4:2^32≤2^(32*(l.length-1)):=Nat.pow_le_pow_right (by omega) (by have:=List.length_pos_iff.2 hne;omega)
   omega
/-- What norm leaves behind. -/
def NormTo (w:World) (b:Nat) (sa:Int) (sb:Nat) (e:Ending) (w':World):Prop:=e= .returned (.pointer (some ⟨b,0,none⟩))∧GX b w w'∧RatIs w' b sa (sb:Int)
/-- The greatest divisor, twos first. -/
theorem q78 {A B k:Nat}:Nat.gcd (A*2^k) (B*2^k)=Nat.gcd A B*2^k:=Nat.gcd_mul_right A (2^k) B
theorem q7Q {A O:Nat} (k:Nat) (h:A%2=1):Nat.gcd A (O*2^k)=Nat.gcd A O:=by
 have h1:Nat.Coprime A (2^k):=by
  refine Nat.Coprime.pow_right k ?_
  rw[Nat.coprime_comm,Nat.Coprime,Nat.gcd_rec,h]
  rfl
 exact Nat.Coprime.gcd_mul_right_cancel_right O h1.symm
set_option maxRecDepth 10000 in
set_option maxHeartbeats 4000000 in
theorem q9t (w:World) (b:Nat) (n:Bool) (va vb:Value) (A B K:Nat) (hK:K≤300000) (hA2:A<2^(32*K)) (hB2:B<2^(32*K)) (hB0:0<B) (lC:n=true→A≠0) (hb:b<w.heap.size) (h:RA w b n va A vb B):
  Calls Tryz.prog 116 #[.pointer (some ⟨b,0,none⟩)] w (NormTo w b (sg n (A/Nat.gcd A B)) (B/Nat.gcd A B)):=by
 have jU:Hid (RA w b n va A vb B):=h
 obtain⟨⟨c1,c2,f1,f2⟩,na,⟨c3,c4,f3,f4⟩,nb⟩:=h
 obtain⟨l,hl,hcl,hlv⟩:=na
 obtain⟨m,hm,hcm,hmv⟩:=nb
 obtain⟨pa,ca,rfl,eX,-⟩:=q0m hl
 obtain⟨pb,cb,rfl,hcb,hrb⟩:=q0m hm
 have hm0:m.length≠0:=by
  intro h0
  rw[List.eq_nil_of_length_eq_zero h0] at hmv
  have:B=0:=hmv.symm
  omega
 have kH:((m.length:Int)==0)=false:=by simp;intro h;exact hm0 (by rw[h];rfl)
 by_cases gJ:A=0
 ·have hl0:l.length=0:=by
   rw[gJ] at hlv
   rw[(q0U hcl).1 hlv];rfl
  have hn:n=false:=by
   cases n
   ·rfl
   ·exact absurd gJ (lC rfl)
  subst hn gJ
  rw[Nat.gcd_zero_left,Nat.div_self hB0,Nat.zero_div]
  have HS:Hid (Calls Tryz.prog 145 #[.pointer (some ⟨b,2,none⟩),.int .i64 1] w (SetTo w b 2 1)):=q8g w b 2 1 B (by omega) hb (jU.out.is lC).2
  have IW:Hid (IntIs w b 0 0):=(jU.out.is lC).1
  have HR2:Hid (IntIs w b 2 B):=(jU.out.is lC).2
  rw[hl0] at c2
  generalize m.length=j at *
  clear hl hm hcl hcm hlv hmv hcb eX hm0 hrb hl0 f1 f2 f3 f4
  go_enter Tryz.func116,Tryz.ntmps116
  go_wp2_with fail
  refine Calls.mono (P:=Tryz.prog) HS.out ?_
  intro e w2 hs
  have hk:=SetTo.keep HR2.out hs IW.out hb (Or.inr (Or.inl (by omega)))
  obtain⟨rfl,h1,-,h2⟩:=hs
  go_wp2_with fail
  go_ret
  exact⟨rfl,h1,hk,h2⟩
 ·have hl0:l.length≠0:=by
   intro h0
   rw[List.eq_nil_of_length_eq_zero h0] at hlv
   exact gJ hlv.symm
  have rD:((l.length:Int)==0)=false:=by simp;intro h;exact hl0 (by rw[h];rfl)
  obtain⟨bb,ob,hpb,tZ,hcb0⟩:=hrb 0 (by omega)
  subst hpb
  rw[Nat.add_zero] at hcb0
  have lh:Hid (A≠0):=gJ
  have HB0:Hid (0<B):=hB0
  have HA2:Hid (A<2^(32*K)):=hA2
  have HB2:Hid (B<2^(32*K)):=hB2
  have gP:Hid (n=true→A≠0):=lC
  have hwd:=q04 hcm.1 0
  have pF:((m.getD 0 0:Nat):Int)≤4294967295:=by omega
  by_cases hm1:m.length=1
  case' pos=>
   have zq:m.getD 0 0=B:=by
    obtain⟨x,rfl⟩:=List.length_eq_one_iff.1 hm1
    rw[q1g] at hmv
    simpa using hmv
   rw[zq] at hcb0 pF
   rw[hm1] at c4 kH jU
   by_cases hB1:B=1
   case pos=>
    subst hB1
    have HR:Hid _:=jU.out.is lC
    rw[Nat.gcd_one_right,Nat.div_one]
    generalize l.length=i at *
    clear hl hm hcl hcm hlv hmv hcb eX hm0 hrb hl0 f1 f2 f3 f4 hA2 hB2 hB0 lC hwd hm1 zq gJ
    go_enter Tryz.func116,Tryz.ntmps116
    go_wp2_with fail
    go_ret
    exact⟨rfl,GX.of (G.refl w),HR.out⟩
   have zt:((B:Int)==1)=false:=by simp;omega
   generalize l.length=i at *
   clear hl hm hcl hcm hlv hmv hcb eX hm0 hrb hl0 f1 f2 f3 f4 hA2 hB2 hB0 lC hwd hm1 zq gJ hB1
   go_enter Tryz.func116,Tryz.ntmps116
   go_wp2_with fail
   clear hcb0 kH zt rD c1 c3 tZ pF
   obtain⟨vb,hvb⟩:∃ vb,vb=Value.slice (some ⟨bb,ob,none⟩) 1 cb:=⟨_,rfl⟩
  case' neg=>
   have zu:((m.length:Int)==1)=false:=by simp;intro h;exact hm1 (by omega)
   generalize l.length=i at *
   generalize m.length=j at *
   clear hl hm hcl hcm hlv hmv hcb eX hm0 hrb hl0 f1 f2 f3 f4 hA2 hB2 hB0 lC hwd hm1 pF hcb0 gJ
   go_enter Tryz.func116,Tryz.ntmps116
   go_wp2_with fail
   clear kH zu rD c1 c3 tZ
   obtain⟨vb,hvb⟩:∃ vb,vb=Value.slice (some ⟨bb,ob,none⟩) j cb:=⟨_,rfl⟩
  all_goals
   as_aux_lemma=>
    obtain⟨va,hva⟩:∃ va,va=Value.slice pa i ca:=⟨_,rfl⟩
    rw[← hvb] at jU ⊢
    rw[← hva] at jU
    clear hva hvb
    clear c2 c4
    refine Calls.mono (P:=Tryz.prog) (q3s w _ B K (by omega) jU.out.nb HB2.out (by have:=HB0.out;omega)) ?_
    rintro e w1 ⟨k,rfl,hkB,hg1⟩
    have zw:Hid (q20 B k):=hkB
    have kI:Hid (RA w1 b n va A vb B):=jU.out.grow hb hg1
    have hkk:k<32*K:=(Nat.pow_lt_pow_iff_right (by omega:1<2)).1 (Nat.lt_of_le_of_lt (q1a (by have:=HB0.out;omega) hkB.1) HB2.out)
    have hki:(k:Int)≤9600000:=by omega
    have d1:=kI.out.a.2.1
    have d3:=kI.out.b.2.1
    simp only[Nat.zero_add,Nat.reduceAdd] at d1 d3
    have HT2:Hid _:=q3s w1 _ A K (by omega) kI.out.na HA2.out lh.out
    clear hkB
    go_wp2_with fail
    refine Calls.mono (P:=Tryz.prog) HT2.out ?_
    rintro e w2 ⟨k2,rfl,zx,hg2⟩
    have Dl:Hid (q20 A k2):=zx
    have IX:k2<32*K:=(Nat.pow_lt_pow_iff_right (by omega:1<2)).1 (Nat.lt_of_le_of_lt (q1a lh.out zx.1) HA2.out)
    have IY:(k2:Int)≤9600000:=by omega
    have gu:Hid (RA w2 b n va A vb B):=kI.out.grow (G.lt hg1 hb) hg2
    have hG2:=G.trans hg1 hg2
    clear zx d1 d3 hg1 hg2 kI HT2
    have d1:=gu.out.a.2.1
    have d3:=gu.out.b.2.1
    simp only[Nat.zero_add,Nat.reduceAdd] at d1 d3
    obtain⟨kb,hkb,hkb2⟩:∃ kb:Nat,(if k2<k then (k2:Int) else (k:Int))=kb∧kb=min k k2:=by
     by_cases hk:k2<k
     ·exact⟨k2,by rw[if_pos hk],by omega⟩
     ·exact⟨k,by rw[if_neg hk],by omega⟩
    have PL:Hid (kb=min k k2):=hkb2
    have zy:(kb:Int)≤9600000:=by omega
    have zz:kb≤k:=by omega
    have dC:Hid (A=A/2^kb*2^kb∧B=B/2^kb*2^kb):=by
     have h1:=Dl.out.1
     have h2:=zw.out.1
     have h3:2^kb∣A:=Nat.dvd_trans (Nat.pow_dvd_pow 2 (by omega)) (Nat.dvd_of_mod_eq_zero h1)
     have h4:2^kb∣B:=Nat.dvd_trans (Nat.pow_dvd_pow 2 zz) (Nat.dvd_of_mod_eq_zero h2)
     exact⟨(Nat.div_mul_cancel h3).symm,(Nat.div_mul_cancel h4).symm⟩
    have rE:Hid (A/2^kb%2=1∨k-kb=0):=by
     show A/2^kb%2=1∨k-kb=0
     by_cases hk:k2<k
     ·have e:kb=k2:=by omega
      rw[e];exact Or.inl Dl.out.2
     ·exact Or.inr (by omega)
    have qM:Hid (q20 (B/2^kb) (k-kb)):=by
     have h5:=dC.out.2
     obtain⟨h6,h7⟩:=zw.out
     have e:2^k=2^kb*2^(k-kb):=by rw[← Nat.pow_add];congr 1;omega
     constructor
     ·rw[e,Nat.mod_mul] at h6
      have:2^kb*(B/2^kb%2^(k-kb))=0:=by omega
      rcases Nat.mul_eq_zero.1 this with h|h
      ·exact absurd h (Nat.pos_iff_ne_zero.1 (Nat.two_pow_pos _))
      ·exact h
     ·rw[e,← Nat.div_div_eq_div_mul] at h7;exact h7
    have zA:=gu.out.a.2.2.2
    have zB:=gu.out.b.2.2.2
    simp only[Nat.zero_add,Nat.reduceAdd] at zA zB
    clear hkb2
    by_cases pG:0<kb
    case' pos=>
     have kJ:decide (0<kb)=true:=by simpa using pG
     have HR1:Hid (Calls Tryz.prog 173 #[va,.int .u64 (kb:Int)] w2 (q0e w2 (A/2^kb))):=q1e w2 va A kb K (by omega) (by omega) gu.out.na HA2.out
     clear pG
     go_wp2_with fail
     refine Calls.mono (P:=Tryz.prog) HR1.out ?_
     rintro e w3 ⟨PM,rfl,hg3,ji⟩
     obtain⟨p3,k3,c3',rfl⟩:=q21 ji
     have hr3:=gu.out.grow (G.lt hG2 hb) hg3
     have pI:Hid (RA (w3.setCell ⟨b,1,none⟩ (Value.slice p3 k3 c3')) b n (Value.slice p3 k3 c3') (A/2^kb) vb B):=RA.setA hr3 ji
     have uf:Hid (GX b w (w3.setCell ⟨b,1,none⟩ (Value.slice p3 k3 c3'))):=GX.set (GX.of (G.trans hG2 hg3)) (Value.slice p3 k3 c3')
     have hb3:b<(w3.setCell ⟨b,1,none⟩ (Value.slice p3 k3 c3')).heap.size:=by have:=G.lt (G.trans hG2 hg3) hb;simpa [World.setCell] using this
     have e1:=hr3.a.2.1
     have lD:=hr3.a.2.2.2
     have e3:=hr3.b.2.1
     simp only[Nat.zero_add,Nat.reduceAdd] at e1 lD e3
     clear hr3 ji d1 d3 zA zB hg3
     go_wp2_with fail
     clear e1 lD e3 gu HR1
     generalize w3.setCell ⟨b,1,none⟩ (Value.slice p3 k3 c3')=w4 at *
     have HR2:Hid (Calls Tryz.prog 173 #[vb,.int .u64 (kb:Int)] w4 (q0e w4 (B/2^kb))):=q1e w4 vb B kb K (by omega) (by omega) pI.out.nb HB2.out
     refine Calls.mono (P:=Tryz.prog) HR2.out ?_
     rintro e w5 ⟨PN,rfl,hg5,uh⟩
     obtain⟨p5,k5,pJ,rfl⟩:=q21 uh
     have wS:=pI.out.grow hb3 hg5
     have gy:Hid (RA (w5.setCell ⟨b,3,none⟩ (Value.slice p5 k5 pJ)) b n (Value.slice p3 k3 c3') (A/2^kb) (Value.slice p5 k5 pJ) (B/2^kb)):=RA.setB wS uh
     have pK:Hid (GX b w (w5.setCell ⟨b,3,none⟩ (Value.slice p5 k5 pJ))):=GX.set (GX.trans uf.out (GX.of hg5)) (Value.slice p5 k5 pJ)
     have hb6:b<(w5.setCell ⟨b,3,none⟩ (Value.slice p5 k5 pJ)).heap.size:=by have:=G.lt hg5 hb3;simpa [World.setCell] using this
     have e3:=wS.b.2.1
     have lF:=wS.b.2.2.2
     simp only[Nat.reduceAdd] at e3 lF
     have hwk:IntKind.u64.wrap ((k:Int)-kb)=((k-kb:Nat):Int):=by rw[IntKind.wrap_u64];omega
     clear wS uh hg5 pI uf HR2
     go_wp2_with fail
     clear e3 lF hwk hkb kJ
     generalize w5.setCell ⟨b,3,none⟩ (Value.slice p5 k5 pJ)=w6 at *
     obtain⟨jP,kK⟩:∃ jP,jP=Value.slice p3 k3 c3':=⟨_,rfl⟩
     obtain⟨lG,ic⟩:∃ lG,lG=Value.slice p5 k5 pJ:=⟨_,rfl⟩
     rw[← kK,← ic] at gy
     rw[← ic]
     clear kK ic
    case' neg=>
     obtain rfl:kb=0:=by omega
     have kJ:decide (0<0)=false:=rfl
     have gy:Hid (RA w2 b n va (A/2^0) vb (B/2^0)):=by rw[Nat.pow_zero,Nat.div_one,Nat.div_one];exact gu.out
     have pK:Hid (GX b w w2):=GX.of hG2
     have hb6:=G.lt hG2 hb
     clear gu pG
     go_wp2_with fail
     clear d1 d3 zA zB hkb kJ zy
     obtain⟨kb,ui⟩:∃ kb,kb=0:=⟨_,rfl⟩
     have uj:Hid (A/2^kb%2=1∨k-kb=0):=by rw[ui];exact rE.out
     clear rE
     have rE:Hid (A/2^kb%2=1∨k-kb=0):=uj.out
     clear uj
     rw[← ui] at gy dC qM
     obtain⟨jP,kK⟩:∃ jP,jP=va:=⟨_,rfl⟩
     obtain⟨lG,ic⟩:∃ lG,lG=vb:=⟨_,rfl⟩
     rw[← kK,← ic] at gy
     rw[← ic]
     have uk:k=k-kb:=by omega
     rw[uk]
     clear kK ic uk
    all_goals
     as_aux_lemma=>
      obtain⟨A1,hA1⟩:∃ A1,A1=A/2^kb:=⟨_,rfl⟩
      obtain⟨B1,hB1⟩:∃ B1,B1=B/2^kb:=⟨_,rfl⟩
      obtain⟨k1,hk1⟩:∃ k1,k1=k-kb:=⟨_,rfl⟩
      rw[← hA1] at gy dC rE
      rw[← hB1] at gy dC qM
      rw[← hk1] at rE qM ⊢
      obtain⟨hA,hB⟩:=dC.out
      have IZ:k1≤32*K:=by omega
      have kL:Hid (A1<2^(32*K)∧B1<2^(32*K)):=by
       rw[hA1,hB1]
       exact⟨Nat.lt_of_le_of_lt (Nat.div_le_self _ _) HA2.out,Nat.lt_of_le_of_lt (Nat.div_le_self _ _) HB2.out⟩
      clear hA1 hB1 hk1
      obtain⟨O,hO⟩:∃ O,O=B1/2^k1:=⟨_,rfl⟩
      have pM:B1=O*2^k1:=by rw[hO];exact(Nat.div_mul_cancel (Nat.dvd_of_mod_eq_zero qM.out.1)).symm
      have J2:O%2=1:=by rw[hO];exact qM.out.2
      have jG:Hid (O<2^(32*K)):=by rw[hO];exact Nat.lt_of_le_of_lt (Nat.div_le_self _ _) kL.out.2
      have zC:Hid _:=q1e _ _ B1 k1 K (by omega) (by omega) gy.out.nb kL.out.2
      rw[← hO] at zC
      have Dm:Nat.gcd A1 B1=Nat.gcd A1 O:=by
       rcases rE.out with h|h
       ·rw[pM];exact q7Q k1 h
       ·rw[pM,h,Nat.pow_zero,Nat.mul_one]
      have zD:Hid (Nat.gcd A B=Nat.gcd A1 O*2^kb):=by show Nat.gcd A B=Nat.gcd A1 O*2^kb;rw[hA,hB,q78,Dm]
      have zF:0<O:=by omega
      clear hO Dm
      refine Calls.mono (P:=Tryz.prog) zC.out ?_
      rintro e w7 ⟨J3,rfl,mK,tK⟩
      have ig:Hid (RA w7 b n jP A1 lG B1):=gy.out.grow hb6 mK
      have pO:Hid (GX b w w7):=GX.trans pK.out (GX.of mK)
      have zG:=G.lt mK hb6
      have J4:Hid (Num w7 J3 O):=tK
      obtain⟨b7,o7,j7,c7,d7,rfl,zH,GQ,hd7,hor⟩:=q1K tK zF
      have J5:(d7:Int)≤4294967295:=by omega
      have e1:=ig.out.a.2.1
      have e3:=ig.out.b.2.1
      have lD:=ig.out.a.2.2.2
      have lF:=ig.out.b.2.2.2
      simp only[Nat.zero_add,Nat.reduceAdd] at e1 e3 lD lF
      clear mK tK gy pK zC
      have um:Hid (A=A1*2^kb):=hA
      have Dn:Hid (B=B1*2^kb):=hB
      have Dp:Hid (0<O):=zF
      clear hA hB pM J2 zF
      rcases hor with ⟨hj1,pQ⟩|⟨J6,J7⟩
      case' inl=>
       have zI:((j7:Int)==1)=true:=by simp;omega
       have J8:(0:Int)<j7:=by omega
       by_cases hd1:d7=1
       case pos=>
        subst hd1
        have hg1:Nat.gcd A B=2^kb:=by rw[zD.out,← pQ,Nat.gcd_one_right,Nat.one_mul]
        have pR:Hid (A/Nat.gcd A B=A1∧B/Nat.gcd A B=B1):=by
         rw[hg1]
         exact⟨by rw[um.out];exact Nat.mul_div_cancel _ (Nat.two_pow_pos _),by rw[Dn.out];exact Nat.mul_div_cancel _ (Nat.two_pow_pos _)⟩
        have lH:Hid (n=true→A1≠0):=fun h h1=>lh.out (by rw[um.out,h1,Nat.zero_mul])
        clear hg1 hj1 pQ
        go_wp2_with fail
        go_ret
        exact⟨rfl,pO.out,by rw[pR.out.1,pR.out.2];exact ig.out.is lH.out⟩
       have zJ:((d7:Int)==1)=false:=by simp;omega
       clear hd1 hj1 pQ
      case' inr=>
       have zI:((j7:Int)==1)=false:=by simp;omega
       clear J6 J7
      all_goals
       as_aux_lemma=>
        have uo:0<A1:=by
         rcases Nat.eq_zero_or_pos A1 with h|h
         ·exact absurd (um.out.trans (by rw[h,Nat.zero_mul])) lh.out
         ·exact h
        have HCM:Hid (Calls Tryz.prog 174 #[jP,.slice (some ⟨b7,o7,none⟩) j7 c7] w7 (q0e w7 (Nat.gcd A1 O))):=q1W w7 jP _ A1 O K hK ig.out.na J4.out uo kL.out.1 jG.out
        clear uo
        go_wp2_with fail
        refine Calls.mono (P:=Tryz.prog) HCM.out ?_
        rintro e w8 ⟨J9,rfl,rF,rA⟩
        have wT:0<Nat.gcd A1 O:=Nat.gcd_pos_of_pos_right _ Dp.out
        obtain⟨g,hgg⟩:∃ g,g=Nat.gcd A1 O:=⟨_,rfl⟩
        have zK:Hid (g∣A1∧g∣O):=by rw[hgg];exact⟨Nat.gcd_dvd_left _ _,Nat.gcd_dvd_right _ _⟩
        rw[← hgg] at rA wT zD
        have gz:Hid (RA w8 b n jP A1 lG B1):=ig.out.grow zG rF
        have pU:Hid (GX b w w8):=GX.trans pO.out (GX.of rF)
        have zL:=G.lt rF zG
        have jK:Hid (Num w8 J9 g):=rA
        have zM:Hid (0<g):=wT
        have pR:Hid (A/Nat.gcd A B=A1/g∧B/Nat.gcd A B=B1/g):=by
         rw[zD.out,um.out,Dn.out]
         exact⟨Nat.mul_div_mul_right _ _ (Nat.two_pow_pos _),Nat.mul_div_mul_right _ _ (Nat.two_pow_pos _)⟩
        have uq:Hid (A1≠0):=fun h1=>lh.out (by rw[um.out,h1,Nat.zero_mul])
        have HG2:Hid (g<2^(32*K)):=Nat.lt_of_le_of_lt (Nat.le_of_dvd Dp.out zK.out.2) jG.out
        obtain⟨b8,o8,j8,c8,d8,rfl,zN,hc8,PO,hor⟩:=q1K rA wT
        have Ja:(d8:Int)≤4294967295:=by omega
        clear e1 e3 lD lF rA wT hgg rF ig pO HCM zG GQ zH
        have e1:=gz.out.a.2.1
        have e3:=gz.out.b.2.1
        have lD:=gz.out.a.2.2.2
        have lF:=gz.out.b.2.2.2
        simp only[Nat.zero_add,Nat.reduceAdd] at e1 e3 lD lF
        rcases hor with ⟨hj1,pQ⟩|⟨Jb,Jc⟩
        case' inl=>
         have zO:((j8:Int)==1)=true:=by simp;omega
         have Jd:(0:Int)<j8:=by omega
         by_cases hd1:d8=1
         case pos=>
          subst hd1
          have vW:Hid (g=1):=pQ.symm
          clear hj1 pQ
          go_wp2_with fail
          go_ret
          exact⟨rfl,pU.out,by rw[pR.out.1,pR.out.2,vW.out,Nat.div_one,Nat.div_one];exact gz.out.is (fun _=>uq.out)⟩
         have zJ:((d8:Int)==1)=false:=by simp;omega
         clear hd1 hj1 pQ
        case' inr=>
         have zO:((j8:Int)==1)=false:=by simp;omega
         clear Jb Jc
        all_goals
         as_aux_lemma=>
          have HD1:Hid (Calls Tryz.prog 175 #[jP,.slice (some ⟨b8,o8,none⟩) j8 c8] w8 (q2l w8 (A1/g) (A1%g))):=q6D w8 jP _ A1 g K hK gz.out.na jK.out kL.out.1 HG2.out zM.out
          have HD2:Hid (∀ w9,G w8 w9→Calls Tryz.prog 175 #[lG,.slice (some ⟨b8,o8,none⟩) j8 c8] w9 (q2l w9 (B1/g) (B1%g))):=fun w9 k=>q6D w9 lG _ B1 g K hK (gz.out.nb.G k) (jK.out.G k) kL.out.2 HG2.out zM.out
          go_wp2_with fail
          refine Calls.mono (P:=Tryz.prog) HD1.out ?_
          rintro e w9 ⟨PQ,PS,rfl,nZ,aO,-⟩
          obtain⟨p9,k9,c9,rfl⟩:=q21 aO
          have mM:Hid (RA w9 b n jP A1 lG B1):=gz.out.grow zL nZ
          have uw:Hid (GX b w w9):=GX.trans pU.out (GX.of nZ)
          have Je:=G.lt nZ zL
          have iG:Hid (Num w9 (.slice p9 k9 c9) (A1/g)):=aO
          have HD3:Hid _:=HD2.out w9 nZ
          clear e1 e3 lD lF nZ aO gz pU HD1 HD2 hc8 zL zN
          have e1:=mM.out.a.2.1
          have e3:=mM.out.b.2.1
          simp only[Nat.zero_add,Nat.reduceAdd] at e1 e3
          go_wp2_with fail
          refine Calls.mono (P:=Tryz.prog) HD3.out ?_
          rintro e bE ⟨Jf,Jg,rfl,mO,pV,-⟩
          obtain⟨Dq,k10,c10,rfl⟩:=q21 pV
          have dY:=mM.out.grow Je mO
          have uy:Hid (GX b w bE):=GX.trans uw.out (GX.of mO)
          have zP:Hid (RA ((bE.setCell ⟨b,1,none⟩ (.slice p9 k9 c9)).setCell ⟨b,3,none⟩ (.slice Dq k10 c10)) b n (.slice p9 k9 c9) (A1/g) (.slice Dq k10 c10) (B1/g)):=
           RA.setB (RA.setA dY (iG.out.G mO)) (num_other pV dY.a.2.1 (fun z=>q1B dY.na _ z))
          have lH:Hid (n=true→A1/g≠0):=fun _=>Nat.pos_iff_ne_zero.1 (Nat.div_pos (Nat.le_of_dvd (Nat.pos_of_ne_zero uq.out) zK.out.1) zM.out)
          clear e1 e3
          have e1:=dY.a.2.1
          have e3:=dY.b.2.1
          have lD:=dY.a.2.2.2
          have lF:=dY.b.2.2.2
          simp only[Nat.zero_add,Nat.reduceAdd] at e1 e3 lD lF
          clear dY mO pV mM uw HD3
          go_wp2_with fail
          go_ret
          exact⟨rfl,GX.set (GX.set uy.out _) _,by rw[pR.out.1,pR.out.2];exact zP.out.is lH.out⟩
end Go.Proofs.YtemmkninoiclfaaGreatDoor
