/- What is proved here: contracts of the reference's ratios: norm (lowest terms), over this seat's translation. -/
import Derived.Test.YtljkfjjchkehaaaGreatDoorC24
namespace Go.Proofs.YtljkfjjchkehaaaGreatDoor
open Go.ChangeShapes Go.WideShapes Go.ChangeAt Go.RowKit
open BN
/-- The Rat at block b, its cells told apart: sign and size of the upper part, size of the lower one. -/
structure RA (w:World) (b:Nat) (n:Bool) (va:Value) (A:Nat) (vb:Value) (B:Nat):Prop where
 a:q9o w b 0 n va
 na:Num w va A
 b:q9o w b 2 false vb
 nb:Num w vb B
theorem RA.grow {w w':World} {b:Nat} {n:Bool} {va vb:Value} {A B:Nat} (h:RA w b n va A vb B) (hb:b<w.heap.size) (g:G w w'):RA w' b n va A vb B:=by
 obtain⟨⟨c1,c2,f1,f2⟩,na,⟨c3,c4,f3,f4⟩,nb⟩:=h
 exact⟨⟨g.cell hb c1,g.cell hb c2,g.frozen hb f1,g.frozen hb f2⟩,na.G g,⟨g.cell hb c3,g.cell hb c4,g.frozen hb f3,g.frozen hb f4⟩,nb.G g⟩
theorem RA.setA {w:World} {b:Nat} {n:Bool} {va vb v:Value} {A B A':Nat} (h:RA w b n va A vb B) (hv:Num w v A'):RA (w.setCell ⟨b,1,none⟩ v) b n v A' vb B:=by
 obtain⟨⟨c1,c2,f1,f2⟩,na,⟨c3,c4,f3,f4⟩,nb⟩:=h
 have hu:∀ z,va≠ .int .u32 z:=fun z=>q1F na _ z
 refine⟨⟨?_,World.cell?_setCell_same _ _ _ c2,by rw[World.frozen?_setCell];exact f1,by rw[World.frozen?_setCell];exact f2⟩,q0y hv c2 hu,⟨?_,?_,by rw[World.frozen?_setCell];exact f3,by rw[World.frozen?_setCell];exact f4⟩,q0y nb c2 hu⟩
 all_goals rw[World.cell?_setCell_other _ _ _ _ (by intro e;injection e with _ e;omega)];assumption
theorem RA.setB {w:World} {b:Nat} {n:Bool} {va vb v:Value} {A B B':Nat} (h:RA w b n va A vb B) (hv:Num w v B'):RA (w.setCell ⟨b,3,none⟩ v) b n va A v B':=by
 obtain⟨⟨c1,c2,f1,f2⟩,na,⟨c3,c4,f3,f4⟩,nb⟩:=h
 have hu:∀ z,vb≠ .int .u32 z:=fun z=>q1F nb _ z
 refine⟨⟨?_,?_,by rw[World.frozen?_setCell];exact f1,by rw[World.frozen?_setCell];exact f2⟩,q0y na c4 hu,⟨?_,World.cell?_setCell_same _ _ _ c4,by rw[World.frozen?_setCell];exact f3,by rw[World.frozen?_setCell];exact f4⟩,q0y hv c4 hu⟩
 all_goals rw[World.cell?_setCell_other _ _ _ _ (by intro e;injection e with _ e;omega)];assumption
theorem RA.is {w:World} {b:Nat} {n:Bool} {va vb:Value} {A B:Nat} (h:RA w b n va A vb B) (hA:n=true→A≠0):RatIs w b (sg n A) (B:Int):=
 ⟨⟨n,va,A,h.a,h.na,rfl,hA⟩,⟨false,vb,B,h.b,h.nb,rfl,fun h=>by cases h⟩⟩
theorem q3P {w:World} {v:Value} {n:Nat} (h:Num w v n):∃ p k c,v= .slice p k c:=by
 obtain⟨l,hl,-⟩:=h
 obtain⟨p,c,e,-⟩:=q0o hl
 exact⟨p,_,c,e⟩
/-- A slice of a number above 0, for the test whether it is 1. -/
theorem q1P {w:World} {v:Value} {n:Nat} (h:Num w v n) (h0:0<n):∃ (b o j c d:Nat),v= .slice (some ⟨b,o,none⟩) j c∧b<w.heap.size∧w.cell? ⟨b,o,none⟩=some (.int .u32 (d:Nat))∧d<4294967296∧((j=1∧d=n)∨(j≠1∧n≠1)):=by
 obtain⟨l,hl,hc,rfl⟩:=h
 rcases Sl.cases hl with ⟨rfl,-⟩|⟨hne,b,o,c,rfl,-,hb,hr⟩
 ·simp [val] at h0
 ·have hr0:=hr 0 (List.length_pos_iff.2 hne)
  rw[Nat.add_zero] at hr0
  refine⟨b,o,l.length,c,_,rfl,hb,hr0,q04 hl.1 0,?_⟩
  by_cases h1:l.length=1
  ·refine Or.inl ⟨h1,?_⟩
   obtain⟨x,rfl⟩:=List.length_eq_one_iff.1 h1
   simp [val]
  ·refine Or.inr ⟨h1,fun h2=> ?_⟩
   have h3:=q0U hc hne
   have h4:2^32≤2^(32*(l.length-1)):=Nat.pow_le_pow_right (by omega) (by have:=List.length_pos_iff.2 hne;omega)
   omega
/-- What norm leaves behind. -/
def NormTo (w:World) (b:Nat) (sa:Int) (sb:Nat) (e:Ending) (w':World):Prop:=e= .returned (.pointer (some ⟨b,0,none⟩))∧GX b w w'∧RatIs w' b sa (sb:Int)
/-- The greatest divisor, twos first. -/
theorem qaN {A B k:Nat}:Nat.gcd (A*2^k) (B*2^k)=Nat.gcd A B*2^k:=Nat.gcd_mul_right A (2^k) B
theorem q9S {A O:Nat} (k:Nat) (h:A%2=1):Nat.gcd A (O*2^k)=Nat.gcd A O:=by
 have h1:Nat.Coprime A (2^k):=by
  refine Nat.Coprime.pow_right k ?_
  rw[Nat.coprime_comm,Nat.Coprime,Nat.gcd_rec,h]
  rfl
 exact Nat.Coprime.gcd_mul_right_cancel_right O h1.symm
set_option maxRecDepth 10000 in
set_option maxHeartbeats 4000000 in
theorem qaV (w:World) (b:Nat) (n:Bool) (va vb:Value) (A B K:Nat) (hK:K≤300000) (hA2:A<2^(32*K)) (hB2:B<2^(32*K)) (hB0:0<B) (xK:n=true→A≠0) (hb:b<w.heap.size) (h:RA w b n va A vb B):
  Calls Tryz.prog 90 #[.pointer (some ⟨b,0,none⟩)] w (NormTo w b (sg n (A/Nat.gcd A B)) (B/Nat.gcd A B)):=by
 have uP:Hid (RA w b n va A vb B):=h
 obtain⟨⟨c1,c2,f1,f2⟩,na,⟨c3,c4,f3,f4⟩,nb⟩:=h
 obtain⟨l,hl,hcl,hlv⟩:=na
 obtain⟨m,hm,hcm,hmv⟩:=nb
 obtain⟨pa,ca,rfl,fI,-⟩:=q0o hl
 obtain⟨pb,cb,rfl,hcb,hrb⟩:=q0o hm
 have hm0:m.length≠0:=by
  intro h0
  rw[List.eq_nil_of_length_eq_zero h0] at hmv
  have:B=0:=hmv.symm
  omega
 have xI:((m.length:Int)==0)=false:=by simp;intro h;exact hm0 (by rw[h];rfl)
 by_cases jN:A=0
 ·have hl0:l.length=0:=by
   rw[jN] at hlv
   rw[(q1e hcl).1 hlv];rfl
  have hn:n=false:=by
   cases n
   ·rfl
   ·exact absurd jN (xK rfl)
  subst hn jN
  rw[Nat.gcd_zero_left,Nat.div_self hB0,Nat.zero_div]
  have HS:Hid (Calls Tryz.prog 132 #[.pointer (some ⟨b,2,none⟩),.int .i64 1] w (SetTo w b 2 1)):=q9K w b 2 1 B (by omega) hb (uP.out.is xK).2
  have Ht:Hid (IntIs w b 0 0):=(uP.out.is xK).1
  have HR2:Hid (IntIs w b 2 B):=(uP.out.is xK).2
  rw[hl0] at c2
  generalize m.length=j at *
  clear hl hm hcl hcm hlv hmv hcb fI hm0 hrb hl0 f1 f2 f3 f4
  go_enter Tryz.func90,Tryz.ntmps90
  go_wp2_with fail
  refine Calls.mono (P:=Tryz.prog) HS.out ?_
  intro e w2 hs
  have hk:=SetTo.keep HR2.out hs Ht.out hb (Or.inr (Or.inl (by omega)))
  obtain⟨rfl,h1,-,h2⟩:=hs
  go_wp2_with fail
  go_ret
  exact⟨rfl,h1,hk,h2⟩
 ·have hl0:l.length≠0:=by
   intro h0
   rw[List.eq_nil_of_length_eq_zero h0] at hlv
   exact jN hlv.symm
  have Bo:((l.length:Int)==0)=false:=by simp;intro h;exact hl0 (by rw[h];rfl)
  obtain⟨bb,ob,hpb,EE,hcb0⟩:=hrb 0 (by omega)
  subst hpb
  rw[Nat.add_zero] at hcb0
  have kT:Hid (A≠0):=jN
  have HB0:Hid (0<B):=hB0
  have HA2:Hid (A<2^(32*K)):=hA2
  have HB2:Hid (B<2^(32*K)):=hB2
  have OG:Hid (n=true→A≠0):=xK
  have hwd:=q04 hcm.1 0
  have Bp:((m.getD 0 0:Nat):Int)≤4294967295:=by omega
  by_cases hm1:m.length=1
  case' pos=>
   have JZ:m.getD 0 0=B:=by
    obtain⟨x,rfl⟩:=List.length_eq_one_iff.1 hm1
    rw[q1n] at hmv
    simpa using hmv
   rw[JZ] at hcb0 Bp
   rw[hm1] at c4 xI uP
   by_cases hB1:B=1
   case pos=>
    subst hB1
    have HR:Hid _:=uP.out.is xK
    rw[Nat.gcd_one_right,Nat.div_one]
    generalize l.length=i at *
    clear hl hm hcl hcm hlv hmv hcb fI hm0 hrb hl0 f1 f2 f3 f4 hA2 hB2 hB0 xK hwd hm1 JZ jN
    go_enter Tryz.func90,Tryz.ntmps90
    go_wp2_with fail
    go_ret
    exact⟨rfl,GX.of (G.refl w),HR.out⟩
   have K4:((B:Int)==1)=false:=by simp;omega
   generalize l.length=i at *
   clear hl hm hcl hcm hlv hmv hcb fI hm0 hrb hl0 f1 f2 f3 f4 hA2 hB2 hB0 xK hwd hm1 JZ jN hB1
   go_enter Tryz.func90,Tryz.ntmps90
   go_wp2_with fail
   clear hcb0 xI K4 Bo c1 c3 EE Bp
   obtain⟨vb,hvb⟩:∃ vb,vb=Value.slice (some ⟨bb,ob,none⟩) 1 cb:=⟨_,rfl⟩
  case' neg=>
   have K5:((m.length:Int)==1)=false:=by simp;intro h;exact hm1 (by omega)
   generalize l.length=i at *
   generalize m.length=j at *
   clear hl hm hcl hcm hlv hmv hcb fI hm0 hrb hl0 f1 f2 f3 f4 hA2 hB2 hB0 xK hwd hm1 Bp hcb0 jN
   go_enter Tryz.func90,Tryz.ntmps90
   go_wp2_with fail
   clear xI K5 Bo c1 c3 EE
   obtain⟨vb,hvb⟩:∃ vb,vb=Value.slice (some ⟨bb,ob,none⟩) j cb:=⟨_,rfl⟩
  all_goals
   as_aux_lemma=>
    obtain⟨va,hva⟩:∃ va,va=Value.slice pa i ca:=⟨_,rfl⟩
    rw[← hvb] at uP ⊢
    rw[← hva] at uP
    clear hva hvb
    clear c2 c4
    refine Calls.mono (P:=Tryz.prog) (q50 w _ B K (by omega) uP.out.nb HB2.out (by have:=HB0.out;omega)) ?_
    rintro e w1 ⟨k,rfl,hkB,hg1⟩
    have OH:Hid (q2v B k):=hkB
    have uQ:Hid (RA w1 b n va A vb B):=uP.out.grow hb hg1
    have hkk:k<32*K:=(Nat.pow_lt_pow_iff_right (by omega:1<2)).1 (Nat.lt_of_le_of_lt (q1K (by have:=HB0.out;omega) hkB.1) HB2.out)
    have hki:(k:Int)≤9600000:=by omega
    have d1:=uQ.out.a.2.1
    have d3:=uQ.out.b.2.1
    simp only[Nat.zero_add,Nat.reduceAdd] at d1 d3
    have HT2:Hid _:=q50 w1 _ A K (by omega) uQ.out.na HA2.out kT.out
    clear hkB
    go_wp2_with fail
    refine Calls.mono (P:=Tryz.prog) HT2.out ?_
    rintro e w2 ⟨k2,rfl,K6,hg2⟩
    have OI:Hid (q2v A k2):=K6
    have Ry:k2<32*K:=(Nat.pow_lt_pow_iff_right (by omega:1<2)).1 (Nat.lt_of_le_of_lt (q1K kT.out K6.1) HA2.out)
    have Rz:(k2:Int)≤9600000:=by omega
    have ni:Hid (RA w2 b n va A vb B):=uQ.out.grow (G.lt hg1 hb) hg2
    have hG2:=G.trans hg1 hg2
    clear K6 d1 d3 hg1 hg2 uQ HT2
    have d1:=ni.out.a.2.1
    have d3:=ni.out.b.2.1
    simp only[Nat.zero_add,Nat.reduceAdd] at d1 d3
    obtain⟨kb,hkb,hkb2⟩:∃ kb:Nat,(if k2<k then (k2:Int) else (k:Int))=kb∧kb=min k k2:=by
     by_cases hk:k2<k
     ·exact⟨k2,by rw[if_pos hk],by omega⟩
     ·exact⟨k,by rw[if_neg hk],by omega⟩
    have UQ:Hid (kb=min k k2):=hkb2
    have K7:(kb:Int)≤9600000:=by omega
    have K8:kb≤k:=by omega
    have lZ:Hid (A=A/2^kb*2^kb∧B=B/2^kb*2^kb):=by
     have h1:=OI.out.1
     have h2:=OH.out.1
     have h3:2^kb∣A:=Nat.dvd_trans (Nat.pow_dvd_pow 2 (by omega)) (Nat.dvd_of_mod_eq_zero h1)
     have h4:2^kb∣B:=Nat.dvd_trans (Nat.pow_dvd_pow 2 K8) (Nat.dvd_of_mod_eq_zero h2)
     exact⟨(Nat.div_mul_cancel h3).symm,(Nat.div_mul_cancel h4).symm⟩
    have CU:Hid (A/2^kb%2=1∨k-kb=0):=by
     show A/2^kb%2=1∨k-kb=0
     by_cases hk:k2<k
     ·have e:kb=k2:=by omega
      rw[e];exact Or.inl OI.out.2
     ·exact Or.inr (by omega)
    have zk:Hid (q2v (B/2^kb) (k-kb)):=by
     have h5:=lZ.out.2
     obtain⟨h6,h7⟩:=OH.out
     have e:2^k=2^kb*2^(k-kb):=by rw[← Nat.pow_add];congr 1;omega
     constructor
     ·rw[e,Nat.mod_mul] at h6
      have:2^kb*(B/2^kb%2^(k-kb))=0:=by omega
      rcases Nat.mul_eq_zero.1 this with h|h
      ·exact absurd h (Nat.pos_iff_ne_zero.1 (Nat.two_pow_pos _))
      ·exact h
     ·rw[e,← Nat.div_div_eq_div_mul] at h7;exact h7
    have K9:=ni.out.a.2.2.2
    have Ka:=ni.out.b.2.2.2
    simp only[Nat.zero_add,Nat.reduceAdd] at K9 Ka
    clear hkb2
    by_cases Bq:0<kb
    case' pos=>
     have uR:decide (0<kb)=true:=by simpa using Bq
     have HR1:Hid (Calls Tryz.prog 134 #[va,.int .u64 (kb:Int)] w2 (q0h w2 (A/2^kb))):=q1N w2 va A kb K (by omega) (by omega) ni.out.na HA2.out
     clear Bq
     go_wp2_with fail
     refine Calls.mono (P:=Tryz.prog) HR1.out ?_
     rintro e w3 ⟨UR,rfl,hg3,jY⟩
     obtain⟨p3,k3,c3',rfl⟩:=q3P jY
     have hr3:=ni.out.grow (G.lt hG2 hb) hg3
     have Br:Hid (RA (w3.setCell ⟨b,1,none⟩ (Value.slice p3 k3 c3')) b n (Value.slice p3 k3 c3') (A/2^kb) vb B):=RA.setA hr3 jY
     have EF:Hid (GX b w (w3.setCell ⟨b,1,none⟩ (Value.slice p3 k3 c3'))):=GX.set (GX.of (G.trans hG2 hg3)) (Value.slice p3 k3 c3')
     have hb3:b<(w3.setCell ⟨b,1,none⟩ (Value.slice p3 k3 c3')).heap.size:=by have:=G.lt (G.trans hG2 hg3) hb;simpa [World.setCell] using this
     have e1:=hr3.a.2.1
     have wQ:=hr3.a.2.2.2
     have e3:=hr3.b.2.1
     simp only[Nat.zero_add,Nat.reduceAdd] at e1 wQ e3
     clear hr3 jY d1 d3 K9 Ka hg3
     go_wp2_with fail
     clear e1 wQ e3 ni HR1
     generalize w3.setCell ⟨b,1,none⟩ (Value.slice p3 k3 c3')=w4 at *
     have HR2:Hid (Calls Tryz.prog 134 #[vb,.int .u64 (kb:Int)] w4 (q0h w4 (B/2^kb))):=q1N w4 vb B kb K (by omega) (by omega) Br.out.nb HB2.out
     refine Calls.mono (P:=Tryz.prog) HR2.out ?_
     rintro e w5 ⟨UT,rfl,hg5,Bt⟩
     obtain⟨p5,k5,Bu,rfl⟩:=q3P Bt
     have Hu:=Br.out.grow hb3 hg5
     have nk:Hid (RA (w5.setCell ⟨b,3,none⟩ (Value.slice p5 k5 Bu)) b n (Value.slice p3 k3 c3') (A/2^kb) (Value.slice p5 k5 Bu) (B/2^kb)):=RA.setB Hu Bt
     have Bv:Hid (GX b w (w5.setCell ⟨b,3,none⟩ (Value.slice p5 k5 Bu))):=GX.set (GX.trans EF.out (GX.of hg5)) (Value.slice p5 k5 Bu)
     have hb6:b<(w5.setCell ⟨b,3,none⟩ (Value.slice p5 k5 Bu)).heap.size:=by have:=G.lt hg5 hb3;simpa [World.setCell] using this
     have e3:=Hu.b.2.1
     have wR:=Hu.b.2.2.2
     simp only[Nat.reduceAdd] at e3 wR
     have hwk:IntKind.u64.wrap ((k:Int)-kb)=((k-kb:Nat):Int):=by rw[IntKind.wrap_u64];omega
     clear Hu Bt hg5 Br EF HR2
     go_wp2_with fail
     clear e3 wR hwk hkb uR
     generalize w5.setCell ⟨b,3,none⟩ (Value.slice p5 k5 Bu)=w6 at *
     obtain⟨ui,uS⟩:∃ ui,ui=Value.slice p3 k3 c3':=⟨_,rfl⟩
     obtain⟨wS,nu⟩:∃ wS,wS=Value.slice p5 k5 Bu:=⟨_,rfl⟩
     rw[← uS,← nu] at nk
     rw[← nu]
     clear uS nu
    case' neg=>
     obtain rfl:kb=0:=by omega
     have uR:decide (0<0)=false:=rfl
     have nk:Hid (RA w2 b n va (A/2^0) vb (B/2^0)):=by rw[Nat.pow_zero,Nat.div_one,Nat.div_one];exact ni.out
     have Bv:Hid (GX b w w2):=GX.of hG2
     have hb6:=G.lt hG2 hb
     clear ni Bq
     go_wp2_with fail
     clear d1 d3 K9 Ka hkb uR K7
     obtain⟨kb,EG⟩:∃ kb,kb=0:=⟨_,rfl⟩
     have EH:Hid (A/2^kb%2=1∨k-kb=0):=by rw[EG];exact CU.out
     clear CU
     have CU:Hid (A/2^kb%2=1∨k-kb=0):=EH.out
     clear EH
     rw[← EG] at nk lZ zk
     obtain⟨ui,uS⟩:∃ ui,ui=va:=⟨_,rfl⟩
     obtain⟨wS,nu⟩:∃ wS,wS=vb:=⟨_,rfl⟩
     rw[← uS,← nu] at nk
     rw[← nu]
     have EI:k=k-kb:=by omega
     rw[EI]
     clear uS nu EI
    all_goals
     as_aux_lemma=>
      obtain⟨A1,hA1⟩:∃ A1,A1=A/2^kb:=⟨_,rfl⟩
      obtain⟨B1,hB1⟩:∃ B1,B1=B/2^kb:=⟨_,rfl⟩
      obtain⟨k1,hk1⟩:∃ k1,k1=k-kb:=⟨_,rfl⟩
      rw[← hA1] at nk lZ CU
      rw[← hB1] at nk lZ zk
      rw[← hk1] at CU zk ⊢
      obtain⟨hA,hB⟩:=lZ.out
      have RG:k1≤32*K:=by omega
      have oN:Hid (A1<2^(32*K)∧B1<2^(32*K)):=by
       rw[hA1,hB1]
       exact⟨Nat.lt_of_le_of_lt (Nat.div_le_self _ _) HA2.out,Nat.lt_of_le_of_lt (Nat.div_le_self _ _) HB2.out⟩
      clear hA1 hB1 hk1
      obtain⟨O,hO⟩:∃ O,O=B1/2^k1:=⟨_,rfl⟩
      have Bw:B1=O*2^k1:=by rw[hO];exact(Nat.div_mul_cancel (Nat.dvd_of_mod_eq_zero zk.out.1)).symm
      have RH:O%2=1:=by rw[hO];exact zk.out.2
      have iK:Hid (O<2^(32*K)):=by rw[hO];exact Nat.lt_of_le_of_lt (Nat.div_le_self _ _) oN.out.2
      have Kb:Hid _:=q1N _ _ B1 k1 K (by omega) (by omega) nk.out.nb oN.out.2
      rw[← hO] at Kb
      have OJ:Nat.gcd A1 B1=Nat.gcd A1 O:=by
       rcases CU.out with h|h
       ·rw[Bw];exact q9S k1 h
       ·rw[Bw,h,Nat.pow_zero,Nat.mul_one]
      have Kc:Hid (Nat.gcd A B=Nat.gcd A1 O*2^kb):=by show Nat.gcd A B=Nat.gcd A1 O*2^kb;rw[hA,hB,qaN,OJ]
      have Ke:0<O:=by omega
      clear hO OJ
      refine Calls.mono (P:=Tryz.prog) Kb.out ?_
      rintro e w7 ⟨RI,rfl,rY,Kg⟩
      have oO:Hid (RA w7 b n ui A1 wS B1):=nk.out.grow hb6 rY
      have Bz:Hid (GX b w w7):=GX.trans Bv.out (GX.of rY)
      have Kh:=G.lt rY hb6
      have RJ:Hid (Num w7 RI O):=Kg
      obtain⟨b7,o7,j7,c7,d7,rfl,Ki,OL,hd7,hor⟩:=q1P Kg Ke
      have RL:(d7:Int)≤4294967295:=by omega
      have e1:=oO.out.a.2.1
      have e3:=oO.out.b.2.1
      have wQ:=oO.out.a.2.2.2
      have wR:=oO.out.b.2.2.2
      simp only[Nat.zero_add,Nat.reduceAdd] at e1 e3 wQ wR
      clear rY Kg nk Bv Kb
      have EJ:Hid (A=A1*2^kb):=hA
      have OM:Hid (B=B1*2^kb):=hB
      have OO:Hid (0<O):=Ke
      clear hA hB Bw RH Ke
      rcases hor with ⟨hj1,BA⟩|⟨RN,RO⟩
      case' inl=>
       have Kj:((j7:Int)==1)=true:=by simp;omega
       have RS:(0:Int)<j7:=by omega
       by_cases hd1:d7=1
       case pos=>
        subst hd1
        have hg1:Nat.gcd A B=2^kb:=by rw[Kc.out,← BA,Nat.gcd_one_right,Nat.one_mul]
        have BB:Hid (A/Nat.gcd A B=A1∧B/Nat.gcd A B=B1):=by
         rw[hg1]
         exact⟨by rw[EJ.out];exact Nat.mul_div_cancel _ (Nat.two_pow_pos _),by rw[OM.out];exact Nat.mul_div_cancel _ (Nat.two_pow_pos _)⟩
        have BC:Hid (n=true→A1≠0):=fun h h1=>kT.out (by rw[EJ.out,h1,Nat.zero_mul])
        clear hg1 hj1 BA
        go_wp2_with fail
        go_ret
        exact⟨rfl,Bz.out,by rw[BB.out.1,BB.out.2];exact oO.out.is BC.out⟩
       have Kk:((d7:Int)==1)=false:=by simp;omega
       clear hd1 hj1 BA
      case' inr=>
       have Kj:((j7:Int)==1)=false:=by simp;omega
       clear RN RO
      all_goals
       as_aux_lemma=>
        have EK:0<A1:=by
         rcases Nat.eq_zero_or_pos A1 with h|h
         ·exact absurd (EJ.out.trans (by rw[h,Nat.zero_mul])) kT.out
         ·exact h
        have HCM:Hid (Calls Tryz.prog 135 #[ui,.slice (some ⟨b7,o7,none⟩) j7 c7] w7 (q0h w7 (Nat.gcd A1 O))):=q1X w7 ui _ A1 O K hK oO.out.na RJ.out EK oN.out.1 iK.out
        clear EK
        go_wp2_with fail
        refine Calls.mono (P:=Tryz.prog) HCM.out ?_
        rintro e w8 ⟨RU,rfl,zn,Hw⟩
        have Hy:0<Nat.gcd A1 O:=Nat.gcd_pos_of_pos_right _ OO.out
        obtain⟨g,hgg⟩:∃ g,g=Nat.gcd A1 O:=⟨_,rfl⟩
        have Hz:Hid (g∣A1∧g∣O):=by rw[hgg];exact⟨Nat.gcd_dvd_left _ _,Nat.gcd_dvd_right _ _⟩
        rw[← hgg] at Hw Hy Kc
        have ny:Hid (RA w8 b n ui A1 wS B1):=oO.out.grow Kh zn
        have BD:Hid (GX b w w8):=GX.trans Bz.out (GX.of zn)
        have Kl:=G.lt zn Kh
        have og:Hid (Num w8 RU g):=Hw
        have Km:Hid (0<g):=Hy
        have BB:Hid (A/Nat.gcd A B=A1/g∧B/Nat.gcd A B=B1/g):=by
         rw[Kc.out,EJ.out,OM.out]
         exact⟨Nat.mul_div_mul_right _ _ (Nat.two_pow_pos _),Nat.mul_div_mul_right _ _ (Nat.two_pow_pos _)⟩
        have EL:Hid (A1≠0):=fun h1=>kT.out (by rw[EJ.out,h1,Nat.zero_mul])
        have HG2:Hid (g<2^(32*K)):=Nat.lt_of_le_of_lt (Nat.le_of_dvd OO.out Hz.out.2) iK.out
        obtain⟨b8,o8,j8,c8,d8,rfl,Kn,hc8,UU,hor⟩:=q1P Hw Hy
        have RY:(d8:Int)≤4294967295:=by omega
        clear e1 e3 wQ wR Hw Hy hgg zn oO Bz HCM Kh OL Ki
        have e1:=ny.out.a.2.1
        have e3:=ny.out.b.2.1
        have wQ:=ny.out.a.2.2.2
        have wR:=ny.out.b.2.2.2
        simp only[Nat.zero_add,Nat.reduceAdd] at e1 e3 wQ wR
        rcases hor with ⟨hj1,BA⟩|⟨RZ,Sa⟩
        case' inl=>
         have Ko:((j8:Int)==1)=true:=by simp;omega
         have Sb:(0:Int)<j8:=by omega
         by_cases hd1:d8=1
         case pos=>
          subst hd1
          have zf:Hid (g=1):=BA.symm
          clear hj1 BA
          go_wp2_with fail
          go_ret
          exact⟨rfl,BD.out,by rw[BB.out.1,BB.out.2,zf.out,Nat.div_one,Nat.div_one];exact ny.out.is (fun _=>EL.out)⟩
         have Kk:((d8:Int)==1)=false:=by simp;omega
         clear hd1 hj1 BA
        case' inr=>
         have Ko:((j8:Int)==1)=false:=by simp;omega
         clear RZ Sa
        all_goals
         as_aux_lemma=>
          have HD1:Hid (Calls Tryz.prog 136 #[ui,.slice (some ⟨b8,o8,none⟩) j8 c8] w8 (q2R w8 (A1/g) (A1%g))):=q8B w8 ui _ A1 g K hK ny.out.na og.out oN.out.1 HG2.out Km.out
          have HD2:Hid (∀ w9,G w8 w9→Calls Tryz.prog 136 #[wS,.slice (some ⟨b8,o8,none⟩) j8 c8] w9 (q2R w9 (B1/g) (B1%g))):=fun w9 k=>q8B w9 wS _ B1 g K hK (ny.out.nb.G k) (og.out.G k) oN.out.2 HG2.out Km.out
          go_wp2_with fail
          refine Calls.mono (P:=Tryz.prog) HD1.out ?_
          rintro e w9 ⟨UW,UX,rfl,uT,aQ,-⟩
          obtain⟨p9,k9,c9,rfl⟩:=q3P aQ
          have xL:Hid (RA w9 b n ui A1 wS B1):=ny.out.grow Kl uT
          have EM:Hid (GX b w w9):=GX.trans BD.out (GX.of uT)
          have Sc:=G.lt uT Kl
          have jq:Hid (Num w9 (.slice p9 k9 c9) (A1/g)):=aQ
          have HD3:Hid _:=HD2.out w9 uT
          clear e1 e3 wQ wR uT aQ ny BD HD1 HD2 hc8 Kl Kn
          have e1:=xL.out.a.2.1
          have e3:=xL.out.b.2.1
          simp only[Nat.zero_add,Nat.reduceAdd] at e1 e3
          go_wp2_with fail
          refine Calls.mono (P:=Tryz.prog) HD3.out ?_
          rintro e aS ⟨Sd,Sg,rfl,xM,BF,-⟩
          obtain⟨CV,k10,c10,rfl⟩:=q3P BF
          have fK:=xL.out.grow Sc xM
          have EO:Hid (GX b w aS):=GX.trans EM.out (GX.of xM)
          have Kq:Hid (RA ((aS.setCell ⟨b,1,none⟩ (.slice p9 k9 c9)).setCell ⟨b,3,none⟩ (.slice CV k10 c10)) b n (.slice p9 k9 c9) (A1/g) (.slice CV k10 c10) (B1/g)):=
           RA.setB (RA.setA fK (jq.out.G xM)) (q0y BF fK.a.2.1 (fun z=>q1F fK.na _ z))
          have BC:Hid (n=true→A1/g≠0):=fun _=>Nat.pos_iff_ne_zero.1 (Nat.div_pos (Nat.le_of_dvd (Nat.pos_of_ne_zero EL.out) Hz.out.1) Km.out)
          clear e1 e3
          have e1:=fK.a.2.1
          have e3:=fK.b.2.1
          have wQ:=fK.a.2.2.2
          have wR:=fK.b.2.2.2
          simp only[Nat.zero_add,Nat.reduceAdd] at e1 e3 wQ wR
          clear fK xM BF xL EM HD3
          go_wp2_with fail
          go_ret
          exact⟨rfl,GX.set (GX.set EO.out _) _,by rw[BB.out.1,BB.out.2];exact Kq.out.is BC.out⟩
end Go.Proofs.YtljkfjjchkehaaaGreatDoor
