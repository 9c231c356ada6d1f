/- What is proved here: contracts of the reference's ratios: norm (lowest terms), over this seat's translation. -/
import Derived.Test.YtdidnnbpdcanlaaGreatDoorC28
namespace Go.Proofs.YtdidnnbpdcanlaaGreatDoor
open Go.ChangeShapes Go.WideShapes Go.ChangeAt Go.RowKit
open BN
/-- The Rat at block b, its cells told apart: sign and size of the upper part, size of the lower one. -/
structure RA (w:World) (b:Nat) (n:Bool) (va:Value) (A:Nat) (vb:Value) (B:Nat):Prop where
 a:q6C w b 0 n va
 na:Num w va A
 b:q6C w b 2 false vb
 nb:Num w vb B
theorem RA.grow {w w':World} {b:Nat} {n:Bool} {va vb:Value} {A B:Nat} (h:RA w b n va A vb B) (hb:b<w.heap.size) (g:G w w'):RA w' b n va A vb B:=by
 obtain⟨⟨c1,c2,f1,f2⟩,na,⟨c3,c4,f3,f4⟩,nb⟩:=h
 exact⟨⟨g.cell hb c1,g.cell hb c2,g.frozen hb f1,g.frozen hb f2⟩,na.G g,⟨g.cell hb c3,g.cell hb c4,g.frozen hb f3,g.frozen hb f4⟩,nb.G g⟩
theorem RA.setA {w:World} {b:Nat} {n:Bool} {va vb v:Value} {A B A':Nat} (h:RA w b n va A vb B) (hv:Num w v A'):RA (w.setCell ⟨b,1,none⟩ v) b n v A' vb B:=by
 obtain⟨⟨c1,c2,f1,f2⟩,na,⟨c3,c4,f3,f4⟩,nb⟩:=h
 have hu:∀ z,va≠ .int .u32 z:=fun z=>q1C na _ z
 refine⟨⟨?_,World.cell?_setCell_same _ _ _ c2,by rw[World.frozen?_setCell];exact f1,by rw[World.frozen?_setCell];exact f2⟩,num_other hv c2 hu,⟨?_,?_,by rw[World.frozen?_setCell];exact f3,by rw[World.frozen?_setCell];exact f4⟩,num_other nb c2 hu⟩
 all_goals rw[World.cell?_setCell_other _ _ _ _ (by intro e;injection e with _ e;omega)];assumption
theorem RA.setB {w:World} {b:Nat} {n:Bool} {va vb v:Value} {A B B':Nat} (h:RA w b n va A vb B) (hv:Num w v B'):RA (w.setCell ⟨b,3,none⟩ v) b n va A v B':=by
 obtain⟨⟨c1,c2,f1,f2⟩,na,⟨c3,c4,f3,f4⟩,nb⟩:=h
 have hu:∀ z,vb≠ .int .u32 z:=fun z=>q1C nb _ z
 refine⟨⟨?_,?_,by rw[World.frozen?_setCell];exact f1,by rw[World.frozen?_setCell];exact f2⟩,num_other na c4 hu,⟨?_,World.cell?_setCell_same _ _ _ c4,by rw[World.frozen?_setCell];exact f3,by rw[World.frozen?_setCell];exact f4⟩,num_other hv c4 hu⟩
 all_goals rw[World.cell?_setCell_other _ _ _ _ (by intro e;injection e with _ e;omega)];assumption
theorem RA.is {w:World} {b:Nat} {n:Bool} {va vb:Value} {A B:Nat} (h:RA w b n va A vb B) (hA:n=true→A≠0):RatIs w b (sg n A) (B:Int):=
 ⟨⟨n,va,A,h.a,h.na,rfl,hA⟩,⟨false,vb,B,h.b,h.nb,rfl,fun h=>by cases h⟩⟩
theorem q3s {w:World} {v:Value} {n:Nat} (h:Num w v n):∃ p k c,v= .slice p k c:=by
 obtain⟨l,hl,-⟩:=h
 obtain⟨p,c,e,-⟩:=q0o hl
 exact⟨p,_,c,e⟩
/-- A slice of a number above 0, for the test whether it is 1. -/
theorem q1Q {w:World} {v:Value} {n:Nat} (h:Num w v n) (h0:0<n):∃ (b o j c d:Nat),v= .slice (some ⟨b,o,none⟩) j c∧b<w.heap.size∧w.cell? ⟨b,o,none⟩=some (.int .u32 (d:Nat))∧d<4294967296∧((j=1∧d=n)∨(j≠1∧n≠1)):=by
 obtain⟨l,hl,hc,rfl⟩:=h
 rcases Sl.cases hl with ⟨rfl,-⟩|⟨hne,b,o,c,rfl,-,hb,hr⟩
 ·simp [val] at h0
 ·have hr0:=hr 0 (List.length_pos_iff.2 hne)
  rw[Nat.add_zero] at hr0
  refine⟨b,o,l.length,c,_,rfl,hb,hr0,q06 hl.1 0,?_⟩
  by_cases h1:l.length=1
  ·refine Or.inl ⟨h1,?_⟩
   obtain⟨x,rfl⟩:=List.length_eq_one_iff.1 h1
   simp [val]
  ·refine Or.inr ⟨h1,fun h2=> ?_⟩
   have h3:=q0P hc hne
   have h4:2^32≤2^(32*(l.length-1)):=Nat.pow_le_pow_right (by omega) (by have:=List.length_pos_iff.2 hne;omega)
   omega
/-- What norm leaves behind. -/
def NormTo (w:World) (b:Nat) (sa:Int) (sb:Nat) (e:Ending) (w':World):Prop:=e= .returned (.pointer (some ⟨b,0,none⟩))∧GX b w w'∧RatIs w' b sa (sb:Int)
/-- The greatest divisor, twos first. -/
theorem qaj {A B k:Nat}:Nat.gcd (A*2^k) (B*2^k)=Nat.gcd A B*2^k:=Nat.gcd_mul_right A (2^k) B
theorem qa7 {A O:Nat} (k:Nat) (h:A%2=1):Nat.gcd A (O*2^k)=Nat.gcd A O:=by
 have h1:Nat.Coprime A (2^k):=by
  refine Nat.Coprime.pow_right k ?_
  rw[Nat.coprime_comm,Nat.Coprime,Nat.gcd_rec,h]
  rfl
 exact Nat.Coprime.gcd_mul_right_cancel_right O h1.symm
set_option maxRecDepth 10000 in
set_option maxHeartbeats 4000000 in
theorem qbw (w:World) (b:Nat) (n:Bool) (va vb:Value) (A B K:Nat) (hK:K≤300000) (hA2:A<2^(32*K)) (hB2:B<2^(32*K)) (hB0:0<B) (uR:n=true→A≠0) (hb:b<w.heap.size) (h:RA w b n va A vb B):
  Calls Tryz.prog 160 #[.pointer (some ⟨b,0,none⟩)] w (NormTo w b (sg n (A/Nat.gcd A B)) (B/Nat.gcd A B)):=by
 have oH:Hid (RA w b n va A vb B):=h
 obtain⟨⟨c1,c2,f1,f2⟩,na,⟨c3,c4,f3,f4⟩,nb⟩:=h
 obtain⟨l,hl,hcl,hlv⟩:=na
 obtain⟨m,hm,hcm,hmv⟩:=nb
 obtain⟨pa,ca,rfl,dB,-⟩:=q0o hl
 obtain⟨pb,cb,rfl,hcb,hrb⟩:=q0o hm
 have hm0:m.length≠0:=by
  intro h0
  rw[List.eq_nil_of_length_eq_zero h0] at hmv
  have:B=0:=hmv.symm
  omega
 have uQ:((m.length:Int)==0)=false:=by simp;intro h;exact hm0 (by rw[h];rfl)
 by_cases je:A=0
 ·have hl0:l.length=0:=by
   rw[je] at hlv
   rw[(q14 hcl).1 hlv];rfl
  have hn:n=false:=by
   cases n
   ·rfl
   ·exact absurd je (uR rfl)
  subst hn je
  rw[Nat.gcd_zero_left,Nat.div_self hB0,Nat.zero_div]
  have HS:Hid (Calls Tryz.prog 183 #[.pointer (some ⟨b,2,none⟩),.int .i64 1] w (SetTo w b 2 1)):=q9L w b 2 1 B (by omega) hb (oH.out.is uR).2
  have QU:Hid (IntIs w b 0 0):=(oH.out.is uR).1
  have HR2:Hid (IntIs w b 2 B):=(oH.out.is uR).2
  rw[hl0] at c2
  generalize m.length=j at *
  clear hl hm hcl hcm hlv hmv hcb dB hm0 hrb hl0 f1 f2 f3 f4
  go_enter Tryz.func160,Tryz.ntmps160
  go_wp2_with fail
  refine Calls.mono (P:=Tryz.prog) HS.out ?_
  intro e w2 hs
  have hk:=SetTo.keep HR2.out hs QU.out hb (Or.inr (Or.inl (by omega)))
  obtain⟨rfl,h1,-,h2⟩:=hs
  go_wp2_with fail
  go_ret
  exact⟨rfl,h1,hk,h2⟩
 ·have hl0:l.length≠0:=by
   intro h0
   rw[List.eq_nil_of_length_eq_zero h0] at hlv
   exact je hlv.symm
  have yP:((l.length:Int)==0)=false:=by simp;intro h;exact hl0 (by rw[h];rfl)
  obtain⟨bb,ob,hpb,Dw,hcb0⟩:=hrb 0 (by omega)
  subst hpb
  rw[Nat.add_zero] at hcb0
  have tN:Hid (A≠0):=je
  have HB0:Hid (0<B):=hB0
  have HA2:Hid (A<2^(32*K)):=hA2
  have HB2:Hid (B<2^(32*K)):=hB2
  have Ni:Hid (n=true→A≠0):=uR
  have hwd:=q06 hcm.1 0
  have yQ:((m.getD 0 0:Nat):Int)≤4294967295:=by omega
  by_cases hm1:m.length=1
  case' pos=>
   have IM:m.getD 0 0=B:=by
    obtain⟨x,rfl⟩:=List.length_eq_one_iff.1 hm1
    rw[q1b] at hmv
    simpa using hmv
   rw[IM] at hcb0 yQ
   rw[hm1] at c4 uQ oH
   by_cases hB1:B=1
   case pos=>
    subst hB1
    have HR:Hid _:=oH.out.is uR
    rw[Nat.gcd_one_right,Nat.div_one]
    generalize l.length=i at *
    clear hl hm hcl hcm hlv hmv hcb dB hm0 hrb hl0 f1 f2 f3 f4 hA2 hB2 hB0 uR hwd hm1 IM je
    go_enter Tryz.func160,Tryz.ntmps160
    go_wp2_with fail
    go_ret
    exact⟨rfl,GX.of (G.refl w),HR.out⟩
   have IU:((B:Int)==1)=false:=by simp;omega
   generalize l.length=i at *
   clear hl hm hcl hcm hlv hmv hcb dB hm0 hrb hl0 f1 f2 f3 f4 hA2 hB2 hB0 uR hwd hm1 IM je hB1
   go_enter Tryz.func160,Tryz.ntmps160
   go_wp2_with fail
   clear hcb0 uQ IU yP c1 c3 Dw yQ
   obtain⟨vb,hvb⟩:∃ vb,vb=Value.slice (some ⟨bb,ob,none⟩) 1 cb:=⟨_,rfl⟩
  case' neg=>
   have IV:((m.length:Int)==1)=false:=by simp;intro h;exact hm1 (by omega)
   generalize l.length=i at *
   generalize m.length=j at *
   clear hl hm hcl hcm hlv hmv hcb dB hm0 hrb hl0 f1 f2 f3 f4 hA2 hB2 hB0 uR hwd hm1 yQ hcb0 je
   go_enter Tryz.func160,Tryz.ntmps160
   go_wp2_with fail
   clear uQ IV yP c1 c3 Dw
   obtain⟨vb,hvb⟩:∃ vb,vb=Value.slice (some ⟨bb,ob,none⟩) j cb:=⟨_,rfl⟩
  all_goals
   as_aux_lemma=>
    obtain⟨va,hva⟩:∃ va,va=Value.slice pa i ca:=⟨_,rfl⟩
    rw[← hvb] at oH ⊢
    rw[← hva] at oH
    clear hva hvb
    clear c2 c4
    refine Calls.mono (P:=Tryz.prog) (q4P w _ B K (by omega) oH.out.nb HB2.out (by have:=HB0.out;omega)) ?_
    rintro e w1 ⟨k,rfl,hkB,hg1⟩
    have Nj:Hid (q3g B k):=hkB
    have rG:Hid (RA w1 b n va A vb B):=oH.out.grow hb hg1
    have hkk:k<32*K:=(Nat.pow_lt_pow_iff_right (by omega:1<2)).1 (Nat.lt_of_le_of_lt (q2o (by have:=HB0.out;omega) hkB.1) HB2.out)
    have hki:(k:Int)≤9600000:=by omega
    have d1:=rG.out.a.2.1
    have d3:=rG.out.b.2.1
    simp only[Nat.zero_add,Nat.reduceAdd] at d1 d3
    have HT2:Hid _:=q4P w1 _ A K (by omega) rG.out.na HA2.out tN.out
    clear hkB
    go_wp2_with fail
    refine Calls.mono (P:=Tryz.prog) HT2.out ?_
    rintro e w2 ⟨k2,rfl,Bq,hg2⟩
    have Nk:Hid (q3g A k2):=Bq
    have QV:k2<32*K:=(Nat.pow_lt_pow_iff_right (by omega:1<2)).1 (Nat.lt_of_le_of_lt (q2o tN.out Bq.1) HA2.out)
    have QW:(k2:Int)≤9600000:=by omega
    have iZ:Hid (RA w2 b n va A vb B):=rG.out.grow (G.lt hg1 hb) hg2
    have hG2:=G.trans hg1 hg2
    clear Bq d1 d3 hg1 hg2 rG HT2
    have d1:=iZ.out.a.2.1
    have d3:=iZ.out.b.2.1
    simp only[Nat.zero_add,Nat.reduceAdd] at d1 d3
    obtain⟨kb,hkb,hkb2⟩:∃ kb:Nat,(if k2<k then (k2:Int) else (k:Int))=kb∧kb=min k k2:=by
     by_cases hk:k2<k
     ·exact⟨k2,by rw[if_pos hk],by omega⟩
     ·exact⟨k,by rw[if_neg hk],by omega⟩
    have TV:Hid (kb=min k k2):=hkb2
    have IW:(kb:Int)≤9600000:=by omega
    have IX:kb≤k:=by omega
    have iw:Hid (A=A/2^kb*2^kb∧B=B/2^kb*2^kb):=by
     have h1:=Nk.out.1
     have h2:=Nj.out.1
     have h3:2^kb∣A:=Nat.dvd_trans (Nat.pow_dvd_pow 2 (by omega)) (Nat.dvd_of_mod_eq_zero h1)
     have h4:2^kb∣B:=Nat.dvd_trans (Nat.pow_dvd_pow 2 IX) (Nat.dvd_of_mod_eq_zero h2)
     exact⟨(Nat.div_mul_cancel h3).symm,(Nat.div_mul_cancel h4).symm⟩
    have Br:Hid (A/2^kb%2=1∨k-kb=0):=by
     show A/2^kb%2=1∨k-kb=0
     by_cases hk:k2<k
     ·have e:kb=k2:=by omega
      rw[e];exact Or.inl Nk.out.2
     ·exact Or.inr (by omega)
    have wU:Hid (q3g (B/2^kb) (k-kb)):=by
     have h5:=iw.out.2
     obtain⟨h6,h7⟩:=Nj.out
     have e:2^k=2^kb*2^(k-kb):=by rw[← Nat.pow_add];congr 1;omega
     constructor
     ·rw[e,Nat.mod_mul] at h6
      have:2^kb*(B/2^kb%2^(k-kb))=0:=by omega
      rcases Nat.mul_eq_zero.1 this with h|h
      ·exact absurd h (Nat.pos_iff_ne_zero.1 (Nat.two_pow_pos _))
      ·exact h
     ·rw[e,← Nat.div_div_eq_div_mul] at h7;exact h7
    have IY:=iZ.out.a.2.2.2
    have IZ:=iZ.out.b.2.2.2
    simp only[Nat.zero_add,Nat.reduceAdd] at IY IZ
    clear hkb2
    by_cases yR:0<kb
    case' pos=>
     have rH:decide (0<kb)=true:=by simpa using yR
     have HR1:Hid (Calls Tryz.prog 200 #[va,.int .u64 (kb:Int)] w2 (q0i w2 (A/2^kb))):=q1M w2 va A kb K (by omega) (by omega) iZ.out.na HA2.out
     clear yR
     go_wp2_with fail
     refine Calls.mono (P:=Tryz.prog) HR1.out ?_
     rintro e w3 ⟨TW,rfl,hg3,kZ⟩
     obtain⟨p3,k3,c3',rfl⟩:=q3s kZ
     have hr3:=iZ.out.grow (G.lt hG2 hb) hg3
     have yS:Hid (RA (w3.setCell ⟨b,1,none⟩ (Value.slice p3 k3 c3')) b n (Value.slice p3 k3 c3') (A/2^kb) vb B):=RA.setA hr3 kZ
     have DC:Hid (GX b w (w3.setCell ⟨b,1,none⟩ (Value.slice p3 k3 c3'))):=GX.set (GX.of (G.trans hG2 hg3)) (Value.slice p3 k3 c3')
     have hb3:b<(w3.setCell ⟨b,1,none⟩ (Value.slice p3 k3 c3')).heap.size:=by have:=G.lt (G.trans hG2 hg3) hb;simpa [World.setCell] using this
     have e1:=hr3.a.2.1
     have tO:=hr3.a.2.2.2
     have e3:=hr3.b.2.1
     simp only[Nat.zero_add,Nat.reduceAdd] at e1 tO e3
     clear hr3 kZ d1 d3 IY IZ hg3
     go_wp2_with fail
     clear e1 tO e3 iZ HR1
     generalize w3.setCell ⟨b,1,none⟩ (Value.slice p3 k3 c3')=w4 at *
     have HR2:Hid (Calls Tryz.prog 200 #[vb,.int .u64 (kb:Int)] w4 (q0i w4 (B/2^kb))):=q1M w4 vb B kb K (by omega) (by omega) yS.out.nb HB2.out
     refine Calls.mono (P:=Tryz.prog) HR2.out ?_
     rintro e w5 ⟨TY,rfl,hg5,yT⟩
     obtain⟨p5,k5,yU,rfl⟩:=q3s yT
     have FO:=yS.out.grow hb3 hg5
     have lM:Hid (RA (w5.setCell ⟨b,3,none⟩ (Value.slice p5 k5 yU)) b n (Value.slice p3 k3 c3') (A/2^kb) (Value.slice p5 k5 yU) (B/2^kb)):=RA.setB FO yT
     have yV:Hid (GX b w (w5.setCell ⟨b,3,none⟩ (Value.slice p5 k5 yU))):=GX.set (GX.trans DC.out (GX.of hg5)) (Value.slice p5 k5 yU)
     have hb6:b<(w5.setCell ⟨b,3,none⟩ (Value.slice p5 k5 yU)).heap.size:=by have:=G.lt hg5 hb3;simpa [World.setCell] using this
     have e3:=FO.b.2.1
     have tT:=FO.b.2.2.2
     simp only[Nat.reduceAdd] at e3 tT
     have hwk:IntKind.u64.wrap ((k:Int)-kb)=((k-kb:Nat):Int):=by rw[IntKind.wrap_u64];omega
     clear FO yT hg5 yS DC HR2
     go_wp2_with fail
     clear e3 tT hwk hkb rH
     generalize w5.setCell ⟨b,3,none⟩ (Value.slice p5 k5 yU)=w6 at *
     obtain⟨qE,rJ⟩:∃ qE,qE=Value.slice p3 k3 c3':=⟨_,rfl⟩
     obtain⟨tX,lN⟩:∃ tX,tX=Value.slice p5 k5 yU:=⟨_,rfl⟩
     rw[← rJ,← lN] at lM
     rw[← lN]
     clear rJ lN
    case' neg=>
     obtain rfl:kb=0:=by omega
     have rH:decide (0<0)=false:=rfl
     have lM:Hid (RA w2 b n va (A/2^0) vb (B/2^0)):=by rw[Nat.pow_zero,Nat.div_one,Nat.div_one];exact iZ.out
     have yV:Hid (GX b w w2):=GX.of hG2
     have hb6:=G.lt hG2 hb
     clear iZ yR
     go_wp2_with fail
     clear d1 d3 IY IZ hkb rH IW
     obtain⟨kb,DF⟩:∃ kb,kb=0:=⟨_,rfl⟩
     have DJ:Hid (A/2^kb%2=1∨k-kb=0):=by rw[DF];exact Br.out
     clear Br
     have Br:Hid (A/2^kb%2=1∨k-kb=0):=DJ.out
     clear DJ
     rw[← DF] at lM iw wU
     obtain⟨qE,rJ⟩:∃ qE,qE=va:=⟨_,rfl⟩
     obtain⟨tX,lN⟩:∃ tX,tX=vb:=⟨_,rfl⟩
     rw[← rJ,← lN] at lM
     rw[← lN]
     have DK:k=k-kb:=by omega
     rw[DK]
     clear rJ lN DK
    all_goals
     as_aux_lemma=>
      obtain⟨A1,hA1⟩:∃ A1,A1=A/2^kb:=⟨_,rfl⟩
      obtain⟨B1,hB1⟩:∃ B1,B1=B/2^kb:=⟨_,rfl⟩
      obtain⟨k1,hk1⟩:∃ k1,k1=k-kb:=⟨_,rfl⟩
      rw[← hA1] at lM iw Br
      rw[← hB1] at lM iw wU
      rw[← hk1] at Br wU ⊢
      obtain⟨hA,hB⟩:=iw.out
      have QX:k1≤32*K:=by omega
      have DL:Hid (A1<2^(32*K)∧B1<2^(32*K)):=by
       rw[hA1,hB1]
       exact⟨Nat.lt_of_le_of_lt (Nat.div_le_self _ _) HA2.out,Nat.lt_of_le_of_lt (Nat.div_le_self _ _) HB2.out⟩
      clear hA1 hB1 hk1
      obtain⟨O,hO⟩:∃ O,O=B1/2^k1:=⟨_,rfl⟩
      have yX:B1=O*2^k1:=by rw[hO];exact(Nat.div_mul_cancel (Nat.dvd_of_mod_eq_zero wU.out.1)).symm
      have QY:O%2=1:=by rw[hO];exact wU.out.2
      have dL:Hid (O<2^(32*K)):=by rw[hO];exact Nat.lt_of_le_of_lt (Nat.div_le_self _ _) DL.out.2
      have J2:Hid _:=q1M _ _ B1 k1 K (by omega) (by omega) lM.out.nb DL.out.2
      rw[← hO] at J2
      have Nl:Nat.gcd A1 B1=Nat.gcd A1 O:=by
       rcases Br.out with h|h
       ·rw[yX];exact qa7 k1 h
       ·rw[yX,h,Nat.pow_zero,Nat.mul_one]
      have J3:Hid (Nat.gcd A B=Nat.gcd A1 O*2^kb):=by show Nat.gcd A B=Nat.gcd A1 O*2^kb;rw[hA,hB,qaj,Nl]
      have J4:0<O:=by omega
      clear hO Nl
      refine Calls.mono (P:=Tryz.prog) J2.out ?_
      rintro e w7 ⟨QZ,rfl,mG,J5⟩
      have nz:Hid (RA w7 b n qE A1 tX B1):=lM.out.grow hb6 mG
      have yY:Hid (GX b w w7):=GX.trans yV.out (GX.of mG)
      have J6:=G.lt mG hb6
      have GH:Hid (Num w7 QZ O):=J5
      obtain⟨b7,o7,j7,c7,d7,rfl,J7,M7,hd7,hor⟩:=q1Q J5 J4
      have R6:(d7:Int)≤4294967295:=by omega
      have e1:=nz.out.a.2.1
      have e3:=nz.out.b.2.1
      have tO:=nz.out.a.2.2.2
      have tT:=nz.out.b.2.2.2
      simp only[Nat.zero_add,Nat.reduceAdd] at e1 e3 tO tT
      clear mG J5 lM yV J2
      have DN:Hid (A=A1*2^kb):=hA
      have Nn:Hid (B=B1*2^kb):=hB
      have Np:Hid (0<O):=J4
      clear hA hB yX QY J4
      rcases hor with ⟨hj1,yZ⟩|⟨R8,z8⟩
      case' inl=>
       have J8:((j7:Int)==1)=true:=by simp;omega
       have R9:(0:Int)<j7:=by omega
       by_cases hd1:d7=1
       case pos=>
        subst hd1
        have hg1:Nat.gcd A B=2^kb:=by rw[J3.out,← yZ,Nat.gcd_one_right,Nat.one_mul]
        have za:Hid (A/Nat.gcd A B=A1∧B/Nat.gcd A B=B1):=by
         rw[hg1]
         exact⟨by rw[DN.out];exact Nat.mul_div_cancel _ (Nat.two_pow_pos _),by rw[Nn.out];exact Nat.mul_div_cancel _ (Nat.two_pow_pos _)⟩
        have zb:Hid (n=true→A1≠0):=fun h h1=>tN.out (by rw[DN.out,h1,Nat.zero_mul])
        clear hg1 hj1 yZ
        go_wp2_with fail
        go_ret
        exact⟨rfl,yY.out,by rw[za.out.1,za.out.2];exact nz.out.is zb.out⟩
       have J9:((d7:Int)==1)=false:=by simp;omega
       clear hd1 hj1 yZ
      case' inr=>
       have J8:((j7:Int)==1)=false:=by simp;omega
       clear R8 z8
      all_goals
       as_aux_lemma=>
        have DR:0<A1:=by
         rcases Nat.eq_zero_or_pos A1 with h|h
         ·exact absurd (DN.out.trans (by rw[h,Nat.zero_mul])) tN.out
         ·exact h
        have HCM:Hid (Calls Tryz.prog 203 #[qE,.slice (some ⟨b7,o7,none⟩) j7 c7] w7 (q0i w7 (Nat.gcd A1 O))):=q1Z w7 qE _ A1 O K hK nz.out.na GH.out DR DL.out.1 dL.out
        clear DR
        go_wp2_with fail
        refine Calls.mono (P:=Tryz.prog) HCM.out ?_
        rintro e w8 ⟨Ra,rfl,pg,FP⟩
        have BJ:0<Nat.gcd A1 O:=Nat.gcd_pos_of_pos_right _ Np.out
        obtain⟨g,hgg⟩:∃ g,g=Nat.gcd A1 O:=⟨_,rfl⟩
        have Bt:Hid (g∣A1∧g∣O):=by rw[hgg];exact⟨Nat.gcd_dvd_left _ _,Nat.gcd_dvd_right _ _⟩
        rw[← hgg] at FP BJ J3
        have lS:Hid (RA w8 b n qE A1 tX B1):=nz.out.grow J6 pg
        have ze:Hid (GX b w w8):=GX.trans yY.out (GX.of pg)
        have Ja:=G.lt pg J6
        have kE:Hid (Num w8 Ra g):=FP
        have Jb:Hid (0<g):=BJ
        have za:Hid (A/Nat.gcd A B=A1/g∧B/Nat.gcd A B=B1/g):=by
         rw[J3.out,DN.out,Nn.out]
         exact⟨Nat.mul_div_mul_right _ _ (Nat.two_pow_pos _),Nat.mul_div_mul_right _ _ (Nat.two_pow_pos _)⟩
        have DT:Hid (A1≠0):=fun h1=>tN.out (by rw[DN.out,h1,Nat.zero_mul])
        have HG2:Hid (g<2^(32*K)):=Nat.lt_of_le_of_lt (Nat.le_of_dvd Np.out Bt.out.2) dL.out
        obtain⟨b8,o8,j8,c8,d8,rfl,Jc,hc8,TZ,hor⟩:=q1Q FP BJ
        have Rb:(d8:Int)≤4294967295:=by omega
        clear e1 e3 tO tT FP BJ hgg pg nz yY HCM J6 M7 J7
        have e1:=lS.out.a.2.1
        have e3:=lS.out.b.2.1
        have tO:=lS.out.a.2.2.2
        have tT:=lS.out.b.2.2.2
        simp only[Nat.zero_add,Nat.reduceAdd] at e1 e3 tO tT
        rcases hor with ⟨hj1,yZ⟩|⟨Rc,uS⟩
        case' inl=>
         have Jd:((j8:Int)==1)=true:=by simp;omega
         have Re:(0:Int)<j8:=by omega
         by_cases hd1:d8=1
         case pos=>
          subst hd1
          have l6:Hid (g=1):=yZ.symm
          clear hj1 yZ
          go_wp2_with fail
          go_ret
          exact⟨rfl,ze.out,by rw[za.out.1,za.out.2,l6.out,Nat.div_one,Nat.div_one];exact lS.out.is (fun _=>DT.out)⟩
         have J9:((d8:Int)==1)=false:=by simp;omega
         clear hd1 hj1 yZ
        case' inr=>
         have Jd:((j8:Int)==1)=false:=by simp;omega
         clear Rc uS
        all_goals
         as_aux_lemma=>
          have HD1:Hid (Calls Tryz.prog 196 #[qE,.slice (some ⟨b8,o8,none⟩) j8 c8] w8 (q2L w8 (A1/g) (A1%g))):=qal w8 qE _ A1 g K hK lS.out.na kE.out DL.out.1 HG2.out Jb.out
          have HD2:Hid (∀ w9,G w8 w9→Calls Tryz.prog 196 #[tX,.slice (some ⟨b8,o8,none⟩) j8 c8] w9 (q2L w9 (B1/g) (B1%g))):=fun w9 k=>qal w9 tX _ B1 g K hK (lS.out.nb.G k) (kE.out.G k) DL.out.2 HG2.out Jb.out
          go_wp2_with fail
          refine Calls.mono (P:=Tryz.prog) HD1.out ?_
          rintro e w9 ⟨U3,U4,rfl,DU,aH,-⟩
          obtain⟨p9,k9,c9,rfl⟩:=q3s aH
          have uT:Hid (RA w9 b n qE A1 tX B1):=lS.out.grow Ja DU
          have DV:Hid (GX b w w9):=GX.trans ze.out (GX.of DU)
          have Rf:=G.lt DU Ja
          have fJ:Hid (Num w9 (.slice p9 k9 c9) (A1/g)):=aH
          have HD3:Hid _:=HD2.out w9 DU
          clear e1 e3 tO tT DU aH lS ze HD1 HD2 hc8 Ja Jc
          have e1:=uT.out.a.2.1
          have e3:=uT.out.b.2.1
          simp only[Nat.zero_add,Nat.reduceAdd] at e1 e3
          go_wp2_with fail
          refine Calls.mono (P:=Tryz.prog) HD3.out ?_
          rintro e aS ⟨Rh,Ri,rfl,uU,zf,-⟩
          obtain⟨Nq,k10,c10,rfl⟩:=q3s zf
          have ji:=uT.out.grow Rf uU
          have DW:Hid (GX b w aS):=GX.trans DV.out (GX.of uU)
          have Je:Hid (RA ((aS.setCell ⟨b,1,none⟩ (.slice p9 k9 c9)).setCell ⟨b,3,none⟩ (.slice Nq k10 c10)) b n (.slice p9 k9 c9) (A1/g) (.slice Nq k10 c10) (B1/g)):=
           RA.setB (RA.setA ji (fJ.out.G uU)) (num_other zf ji.a.2.1 (fun z=>q1C ji.na _ z))
          have zb:Hid (n=true→A1/g≠0):=fun _=>Nat.pos_iff_ne_zero.1 (Nat.div_pos (Nat.le_of_dvd (Nat.pos_of_ne_zero DT.out) Bt.out.1) Jb.out)
          clear e1 e3
          have e1:=ji.a.2.1
          have e3:=ji.b.2.1
          have tO:=ji.a.2.2.2
          have tT:=ji.b.2.2.2
          simp only[Nat.zero_add,Nat.reduceAdd] at e1 e3 tO tT
          clear ji uU zf uT DV HD3
          go_wp2_with fail
          go_ret
          exact⟨rfl,GX.set (GX.set DW.out _) _,by rw[za.out.1,za.out.2];exact Je.out.is zb.out⟩
end Go.Proofs.YtdidnnbpdcanlaaGreatDoor
