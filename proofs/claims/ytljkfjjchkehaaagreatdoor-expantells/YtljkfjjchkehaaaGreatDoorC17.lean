/- What is proved here: contracts of the reference's ratios: norm (lowest terms), over this seat's translation. -/
import Derived.Test.YtljkfjjchkehaaaGreatDoorC15
namespace Go.Proofs.YtljkfjjchkehaaaGreatDoor
open Go.ChangeShapes Go.WideShapes Go.ChangeAt Go.RowKit
open BN
/-- The Rat at block b, its cells told apart: sign and size of the upper part, size of the lower one. -/
structure RA (w:World) (b:Nat) (n:Bool) (va:Value) (A:Nat) (vb:Value) (B:Nat):Prop where
 a:q8A w b 0 n va
 na:Num w va A
 b:q8A w b 2 false vb
 nb:Num w vb B
theorem RA.grow {w w':World} {b:Nat} {n:Bool} {va vb:Value} {A B:Nat} (h:RA w b n va A vb B) (hb:b<w.heap.size) (g:G w w'):RA w' b n va A vb B:=by
 obtain⟨⟨c1,c2,f1,f2⟩,na,⟨c3,c4,f3,f4⟩,nb⟩:=h
 exact⟨⟨g.cell hb c1,g.cell hb c2,g.frozen hb f1,g.frozen hb f2⟩,na.G g,⟨g.cell hb c3,g.cell hb c4,g.frozen hb f3,g.frozen hb f4⟩,nb.G g⟩
theorem RA.setA {w:World} {b:Nat} {n:Bool} {va vb v:Value} {A B A':Nat} (h:RA w b n va A vb B) (hv:Num w v A'):RA (w.setCell ⟨b,1,none⟩ v) b n v A' vb B:=by
 obtain⟨⟨c1,c2,f1,f2⟩,na,⟨c3,c4,f3,f4⟩,nb⟩:=h
 have hu:∀ z,va≠ .int .u32 z:=fun z=>q1E na _ z
 refine⟨⟨?_,World.cell?_setCell_same _ _ _ c2,by rw[World.frozen?_setCell];exact f1,by rw[World.frozen?_setCell];exact f2⟩,q0y hv c2 hu,⟨?_,?_,by rw[World.frozen?_setCell];exact f3,by rw[World.frozen?_setCell];exact f4⟩,q0y nb c2 hu⟩
 all_goals rw[World.cell?_setCell_other _ _ _ _ (by intro e;injection e with _ e;omega)];assumption
theorem RA.setB {w:World} {b:Nat} {n:Bool} {va vb v:Value} {A B B':Nat} (h:RA w b n va A vb B) (hv:Num w v B'):RA (w.setCell ⟨b,3,none⟩ v) b n va A v B':=by
 obtain⟨⟨c1,c2,f1,f2⟩,na,⟨c3,c4,f3,f4⟩,nb⟩:=h
 have hu:∀ z,vb≠ .int .u32 z:=fun z=>q1E nb _ z
 refine⟨⟨?_,?_,by rw[World.frozen?_setCell];exact f1,by rw[World.frozen?_setCell];exact f2⟩,q0y na c4 hu,⟨?_,World.cell?_setCell_same _ _ _ c4,by rw[World.frozen?_setCell];exact f3,by rw[World.frozen?_setCell];exact f4⟩,q0y hv c4 hu⟩
 all_goals rw[World.cell?_setCell_other _ _ _ _ (by intro e;injection e with _ e;omega)];assumption
theorem RA.is {w:World} {b:Nat} {n:Bool} {va vb:Value} {A B:Nat} (h:RA w b n va A vb B) (hA:n=true→A≠0):RatIs w b (sg n A) (B:Int):=
 ⟨⟨n,va,A,h.a,h.na,rfl,hA⟩,⟨false,vb,B,h.b,h.nb,rfl,fun h=>by cases h⟩⟩
theorem q3J {w:World} {v:Value} {n:Nat} (h:Num w v n):∃ p k c,v= .slice p k c:=by
 obtain⟨l,hl,-⟩:=h
 obtain⟨p,c,e,-⟩:=q0o hl
 exact⟨p,_,c,e⟩
/-- A slice of a number above 0, for the test whether it is 1. -/
theorem q1V {w:World} {v:Value} {n:Nat} (h:Num w v n) (h0:0<n):∃ (b o j c d:Nat),v= .slice (some ⟨b,o,none⟩) j c∧b<w.heap.size∧w.cell? ⟨b,o,none⟩=some (.int .u32 (d:Nat))∧d<4294967296∧((j=1∧d=n)∨(j≠1∧n≠1)):=by
 obtain⟨l,hl,hc,rfl⟩:=h
 rcases Sl.cases hl with ⟨rfl,-⟩|⟨hne,b,o,c,rfl,-,hb,hr⟩
 ·simp [val] at h0
 ·have hr0:=hr 0 (List.length_pos_iff.2 hne)
  rw[Nat.add_zero] at hr0
  refine⟨b,o,l.length,c,_,rfl,hb,hr0,q04 hl.1 0,?_⟩
  by_cases h1:l.length=1
  ·refine Or.inl ⟨h1,?_⟩
   obtain⟨x,rfl⟩:=List.length_eq_one_iff.1 h1
   simp [val]
  ·refine Or.inr ⟨h1,fun h2=> ?_⟩
   have h3:=q0U hc hne
   have h4:2^32≤2^(32*(l.length-1)):=Nat.pow_le_pow_right (by omega) (by have:=List.length_pos_iff.2 hne;omega)
   omega
/-- What norm leaves behind. -/
def NormTo (w:World) (b:Nat) (sa:Int) (sb:Nat) (e:Ending) (w':World):Prop:=e= .returned (.pointer (some ⟨b,0,none⟩))∧GX b w w'∧RatIs w' b sa (sb:Int)
/-- The greatest divisor, twos first. -/
theorem qa7 {A B k:Nat}:Nat.gcd (A*2^k) (B*2^k)=Nat.gcd A B*2^k:=Nat.gcd_mul_right A (2^k) B
theorem qan {A O:Nat} (k:Nat) (h:A%2=1):Nat.gcd A (O*2^k)=Nat.gcd A O:=by
 have h1:Nat.Coprime A (2^k):=by
  refine Nat.Coprime.pow_right k ?_
  rw[Nat.coprime_comm,Nat.Coprime,Nat.gcd_rec,h]
  rfl
 exact Nat.Coprime.gcd_mul_right_cancel_right O h1.symm
set_option maxRecDepth 10000 in
set_option maxHeartbeats 4000000 in
theorem qbE (w:World) (b:Nat) (n:Bool) (va vb:Value) (A B K:Nat) (hK:K≤300000) (hA2:A<2^(32*K)) (hB2:B<2^(32*K)) (hB0:0<B) (hnA:n=true→A≠0) (hb:b<w.heap.size) (h:RA w b n va A vb B):
  Calls Tryz.prog 90 #[.pointer (some ⟨b,0,none⟩)] w (NormTo w b (sg n (A/Nat.gcd A B)) (B/Nat.gcd A B)):=by
 have HRA:Hid (RA w b n va A vb B):=h
 obtain⟨⟨c1,c2,f1,f2⟩,na,⟨c3,c4,f3,f4⟩,nb⟩:=h
 obtain⟨l,hl,hcl,hlv⟩:=na
 obtain⟨m,hm,hcm,hmv⟩:=nb
 obtain⟨pa,ca,rfl,hca,-⟩:=q0o hl
 obtain⟨pb,cb,rfl,hcb,hrb⟩:=q0o hm
 have hm0:m.length≠0:=by
  intro h0
  rw[List.eq_nil_of_length_eq_zero h0] at hmv
  have:B=0:=hmv.symm
  omega
 have hm00:((m.length:Int)==0)=false:=by simp;intro h;exact hm0 (by rw[h];rfl)
 by_cases hA0:A=0
 ·have hl0:l.length=0:=by
   rw[hA0] at hlv
   rw[(q1c hcl).1 hlv];rfl
  have hn:n=false:=by
   cases n
   ·rfl
   ·exact absurd hA0 (hnA rfl)
  subst hn hA0
  rw[Nat.gcd_zero_left,Nat.div_self hB0,Nat.zero_div]
  have HS:Hid (Calls Tryz.prog 132 #[.pointer (some ⟨b,2,none⟩),.int .i64 1] w (SetTo w b 2 1)):=q9s w b 2 1 B (by omega) hb (HRA.out.is hnA).2
  have HR0:Hid (IntIs w b 0 0):=(HRA.out.is hnA).1
  have HR2:Hid (IntIs w b 2 B):=(HRA.out.is hnA).2
  rw[hl0] at c2
  generalize m.length=j at *
  clear hl hm hcl hcm hlv hmv hcb hca hm0 hrb hl0 f1 f2 f3 f4
  go_enter Tryz.func90,Tryz.ntmps90
  go_wp2_with fail
  refine Calls.mono (P:=Tryz.prog) HS.out ?_
  intro e w2 hs
  have hk:=SetTo.keep HR2.out hs HR0.out hb (Or.inr (Or.inl (by omega)))
  obtain⟨rfl,h1,-,h2⟩:=hs
  go_wp2_with fail
  go_ret
  exact⟨rfl,h1,hk,h2⟩
 ·have hl0:l.length≠0:=by
   intro h0
   rw[List.eq_nil_of_length_eq_zero h0] at hlv
   exact hA0 hlv.symm
  have hl00:((l.length:Int)==0)=false:=by simp;intro h;exact hl0 (by rw[h];rfl)
  obtain⟨bb,ob,hpb,hbbs,hcb0⟩:=hrb 0 (by omega)
  subst hpb
  rw[Nat.add_zero] at hcb0
  have HA0:Hid (A≠0):=hA0
  have HB0:Hid (0<B):=hB0
  have HA2:Hid (A<2^(32*K)):=hA2
  have HB2:Hid (B<2^(32*K)):=hB2
  have HNA:Hid (n=true→A≠0):=hnA
  have hwd:=q04 hcm.1 0
  have hwdi:((m.getD 0 0:Nat):Int)≤4294967295:=by omega
  by_cases hm1:m.length=1
  case' pos=>
   have hmB:m.getD 0 0=B:=by
    obtain⟨x,rfl⟩:=List.length_eq_one_iff.1 hm1
    rw[q1m] at hmv
    simpa using hmv
   rw[hmB] at hcb0 hwdi
   rw[hm1] at c4 hm00 HRA
   by_cases hB1:B=1
   case pos=>
    subst hB1
    have HR:Hid _:=HRA.out.is hnA
    rw[Nat.gcd_one_right,Nat.div_one]
    generalize l.length=i at *
    clear hl hm hcl hcm hlv hmv hcb hca hm0 hrb hl0 f1 f2 f3 f4 hA2 hB2 hB0 hnA hwd hm1 hmB hA0
    go_enter Tryz.func90,Tryz.ntmps90
    go_wp2_with fail
    go_ret
    exact⟨rfl,GX.of (G.refl w),HR.out⟩
   have hB10:((B:Int)==1)=false:=by simp;omega
   generalize l.length=i at *
   clear hl hm hcl hcm hlv hmv hcb hca hm0 hrb hl0 f1 f2 f3 f4 hA2 hB2 hB0 hnA hwd hm1 hmB hA0 hB1
   go_enter Tryz.func90,Tryz.ntmps90
   go_wp2_with fail
   clear hcb0 hm00 hB10 hl00 c1 c3 hbbs hwdi
   obtain⟨vb,hvb⟩:∃ vb,vb=Value.slice (some ⟨bb,ob,none⟩) 1 cb:=⟨_,rfl⟩
  case' neg=>
   have hm10:((m.length:Int)==1)=false:=by simp;intro h;exact hm1 (by omega)
   generalize l.length=i at *
   generalize m.length=j at *
   clear hl hm hcl hcm hlv hmv hcb hca hm0 hrb hl0 f1 f2 f3 f4 hA2 hB2 hB0 hnA hwd hm1 hwdi hcb0 hA0
   go_enter Tryz.func90,Tryz.ntmps90
   go_wp2_with fail
   clear hm00 hm10 hl00 c1 c3 hbbs
   obtain⟨vb,hvb⟩:∃ vb,vb=Value.slice (some ⟨bb,ob,none⟩) j cb:=⟨_,rfl⟩
  all_goals
   as_aux_lemma=>
    obtain⟨va,hva⟩:∃ va,va=Value.slice pa i ca:=⟨_,rfl⟩
    rw[← hvb] at HRA ⊢
    rw[← hva] at HRA
    clear hva hvb
    clear c2 c4
    refine Calls.mono (P:=Tryz.prog) (q50 w _ B K (by omega) HRA.out.nb HB2.out (by have:=HB0.out;omega)) ?_
    rintro e w1 ⟨k,rfl,hkB,hg1⟩
    have HKB:Hid (q2h B k):=hkB
    have HRA1:Hid (RA w1 b n va A vb B):=HRA.out.grow hb hg1
    have hkk:k<32*K:=(Nat.pow_lt_pow_iff_right (by omega:1<2)).1 (Nat.lt_of_le_of_lt (q1J (by have:=HB0.out;omega) hkB.1) HB2.out)
    have hki:(k:Int)≤9600000:=by omega
    have d1:=HRA1.out.a.2.1
    have d3:=HRA1.out.b.2.1
    simp only[Nat.zero_add,Nat.reduceAdd] at d1 d3
    have HT2:Hid _:=q50 w1 _ A K (by omega) HRA1.out.na HA2.out HA0.out
    clear hkB
    go_wp2_with fail
    refine Calls.mono (P:=Tryz.prog) HT2.out ?_
    rintro e w2 ⟨k2,rfl,hkA,hg2⟩
    have HKA:Hid (q2h A k2):=hkA
    have hkk2:k2<32*K:=(Nat.pow_lt_pow_iff_right (by omega:1<2)).1 (Nat.lt_of_le_of_lt (q1J HA0.out hkA.1) HA2.out)
    have hki2:(k2:Int)≤9600000:=by omega
    have HRA2:Hid (RA w2 b n va A vb B):=HRA1.out.grow (G.lt hg1 hb) hg2
    have hG2:=G.trans hg1 hg2
    clear hkA d1 d3 hg1 hg2 HRA1 HT2
    have d1:=HRA2.out.a.2.1
    have d3:=HRA2.out.b.2.1
    simp only[Nat.zero_add,Nat.reduceAdd] at d1 d3
    obtain⟨kb,hkb,hkb2⟩:∃ kb:Nat,(if k2<k then (k2:Int) else (k:Int))=kb∧kb=min k k2:=by
     by_cases hk:k2<k
     ·exact⟨k2,by rw[if_pos hk],by omega⟩
     ·exact⟨k,by rw[if_neg hk],by omega⟩
    have HKM:Hid (kb=min k k2):=hkb2
    have hkbi:(kb:Int)≤9600000:=by omega
    have hkbk:kb≤k:=by omega
    have HNE:Hid (A=A/2^kb*2^kb∧B=B/2^kb*2^kb):=by
     have h1:=HKA.out.1
     have h2:=HKB.out.1
     have h3:2^kb∣A:=Nat.dvd_trans (Nat.pow_dvd_pow 2 (by omega)) (Nat.dvd_of_mod_eq_zero h1)
     have h4:2^kb∣B:=Nat.dvd_trans (Nat.pow_dvd_pow 2 hkbk) (Nat.dvd_of_mod_eq_zero h2)
     exact⟨(Nat.div_mul_cancel h3).symm,(Nat.div_mul_cancel h4).symm⟩
    have HOD:Hid (A/2^kb%2=1∨k-kb=0):=by
     show A/2^kb%2=1∨k-kb=0
     by_cases hk:k2<k
     ·have e:kb=k2:=by omega
      rw[e];exact Or.inl HKA.out.2
     ·exact Or.inr (by omega)
    have HTB:Hid (q2h (B/2^kb) (k-kb)):=by
     have h5:=HNE.out.2
     obtain⟨h6,h7⟩:=HKB.out
     have e:2^k=2^kb*2^(k-kb):=by rw[← Nat.pow_add];congr 1;omega
     constructor
     ·rw[e,Nat.mod_mul] at h6
      have:2^kb*(B/2^kb%2^(k-kb))=0:=by omega
      rcases Nat.mul_eq_zero.1 this with h|h
      ·exact absurd h (Nat.pos_iff_ne_zero.1 (Nat.two_pow_pos _))
      ·exact h
     ·rw[e,← Nat.div_div_eq_div_mul] at h7;exact h7
    have df1:=HRA2.out.a.2.2.2
    have df3:=HRA2.out.b.2.2.2
    simp only[Nat.zero_add,Nat.reduceAdd] at df1 df3
    clear hkb2
    by_cases hkb0:0<kb
    case' pos=>
     have hkb00:decide (0<kb)=true:=by simpa using hkb0
     have HR1:Hid (Calls Tryz.prog 134 #[va,.int .u64 (kb:Int)] w2 (q0h w2 (A/2^kb))):=q1K w2 va A kb K (by omega) (by omega) HRA2.out.na HA2.out
     clear hkb0
     go_wp2_with fail
     refine Calls.mono (P:=Tryz.prog) HR1.out ?_
     rintro e w3 ⟨v3',rfl,hg3,hn3⟩
     obtain⟨p3,k3,c3',rfl⟩:=q3J hn3
     have hr3:=HRA2.out.grow (G.lt hG2 hb) hg3
     have HRA3:Hid (RA (w3.setCell ⟨b,1,none⟩ (Value.slice p3 k3 c3')) b n (Value.slice p3 k3 c3') (A/2^kb) vb B):=RA.setA hr3 hn3
     have HGX3:Hid (GX b w (w3.setCell ⟨b,1,none⟩ (Value.slice p3 k3 c3'))):=GX.set (GX.of (G.trans hG2 hg3)) (Value.slice p3 k3 c3')
     have hb3:b<(w3.setCell ⟨b,1,none⟩ (Value.slice p3 k3 c3')).heap.size:=by have:=G.lt (G.trans hG2 hg3) hb;simpa [World.setCell] using this
     have e1:=hr3.a.2.1
     have ef1:=hr3.a.2.2.2
     have e3:=hr3.b.2.1
     simp only[Nat.zero_add,Nat.reduceAdd] at e1 ef1 e3
     clear hr3 hn3 d1 d3 df1 df3 hg3
     go_wp2_with fail
     clear e1 ef1 e3 HRA2 HR1
     generalize w3.setCell ⟨b,1,none⟩ (Value.slice p3 k3 c3')=w4 at *
     have HR2:Hid (Calls Tryz.prog 134 #[vb,.int .u64 (kb:Int)] w4 (q0h w4 (B/2^kb))):=q1K w4 vb B kb K (by omega) (by omega) HRA3.out.nb HB2.out
     refine Calls.mono (P:=Tryz.prog) HR2.out ?_
     rintro e w5 ⟨v5',rfl,hg5,hn5⟩
     obtain⟨p5,k5,c5',rfl⟩:=q3J hn5
     have hr5:=HRA3.out.grow hb3 hg5
     have HRA6:Hid (RA (w5.setCell ⟨b,3,none⟩ (Value.slice p5 k5 c5')) b n (Value.slice p3 k3 c3') (A/2^kb) (Value.slice p5 k5 c5') (B/2^kb)):=RA.setB hr5 hn5
     have HGX6:Hid (GX b w (w5.setCell ⟨b,3,none⟩ (Value.slice p5 k5 c5'))):=GX.set (GX.trans HGX3.out (GX.of hg5)) (Value.slice p5 k5 c5')
     have hb6:b<(w5.setCell ⟨b,3,none⟩ (Value.slice p5 k5 c5')).heap.size:=by have:=G.lt hg5 hb3;simpa [World.setCell] using this
     have e3:=hr5.b.2.1
     have ef3:=hr5.b.2.2.2
     simp only[Nat.reduceAdd] at e3 ef3
     have hwk:IntKind.u64.wrap ((k:Int)-kb)=((k-kb:Nat):Int):=by rw[IntKind.wrap_u64];omega
     clear hr5 hn5 hg5 HRA3 HGX3 HR2
     go_wp2_with fail
     clear e3 ef3 hwk hkb hkb00
     generalize w5.setCell ⟨b,3,none⟩ (Value.slice p5 k5 c5')=w6 at *
     obtain⟨va6,hva6⟩:∃ va6,va6=Value.slice p3 k3 c3':=⟨_,rfl⟩
     obtain⟨vb6,hvb6⟩:∃ vb6,vb6=Value.slice p5 k5 c5':=⟨_,rfl⟩
     rw[← hva6,← hvb6] at HRA6
     rw[← hvb6]
     clear hva6 hvb6
    case' neg=>
     obtain rfl:kb=0:=by omega
     have hkb00:decide (0<0)=false:=rfl
     have HRA6:Hid (RA w2 b n va (A/2^0) vb (B/2^0)):=by rw[Nat.pow_zero,Nat.div_one,Nat.div_one];exact HRA2.out
     have HGX6:Hid (GX b w w2):=GX.of hG2
     have hb6:=G.lt hG2 hb
     clear HRA2 hkb0
     go_wp2_with fail
     clear d1 d3 df1 df3 hkb hkb00 hkbi
     obtain⟨kb,hkbz⟩:∃ kb,kb=0:=⟨_,rfl⟩
     have HOD':Hid (A/2^kb%2=1∨k-kb=0):=by rw[hkbz];exact HOD.out
     clear HOD
     have HOD:Hid (A/2^kb%2=1∨k-kb=0):=HOD'.out
     clear HOD'
     rw[← hkbz] at HRA6 HNE HTB
     obtain⟨va6,hva6⟩:∃ va6,va6=va:=⟨_,rfl⟩
     obtain⟨vb6,hvb6⟩:∃ vb6,vb6=vb:=⟨_,rfl⟩
     rw[← hva6,← hvb6] at HRA6
     rw[← hvb6]
     have hkk':k=k-kb:=by omega
     rw[hkk']
     clear hva6 hvb6 hkk'
    all_goals
     as_aux_lemma=>
      obtain⟨A1,hA1⟩:∃ A1,A1=A/2^kb:=⟨_,rfl⟩
      obtain⟨B1,hB1⟩:∃ B1,B1=B/2^kb:=⟨_,rfl⟩
      obtain⟨k1,hk1⟩:∃ k1,k1=k-kb:=⟨_,rfl⟩
      rw[← hA1] at HRA6 HNE HOD
      rw[← hB1] at HRA6 HNE HTB
      rw[← hk1] at HOD HTB ⊢
      obtain⟨hA,hB⟩:=HNE.out
      have hk1b:k1≤32*K:=by omega
      have HAB:Hid (A1<2^(32*K)∧B1<2^(32*K)):=by
       rw[hA1,hB1]
       exact⟨Nat.lt_of_le_of_lt (Nat.div_le_self _ _) HA2.out,Nat.lt_of_le_of_lt (Nat.div_le_self _ _) HB2.out⟩
      clear hA1 hB1 hk1
      obtain⟨O,hO⟩:∃ O,O=B1/2^k1:=⟨_,rfl⟩
      have hB1O:B1=O*2^k1:=by rw[hO];exact(Nat.div_mul_cancel (Nat.dvd_of_mod_eq_zero HTB.out.1)).symm
      have hO1:O%2=1:=by rw[hO];exact HTB.out.2
      have HO2:Hid (O<2^(32*K)):=by rw[hO];exact Nat.lt_of_le_of_lt (Nat.div_le_self _ _) HAB.out.2
      have HRO:Hid _:=q1K _ _ B1 k1 K (by omega) (by omega) HRA6.out.nb HAB.out.2
      rw[← hO] at HRO
      have hgO:Nat.gcd A1 B1=Nat.gcd A1 O:=by
       rcases HOD.out with h|h
       ·rw[hB1O];exact qan k1 h
       ·rw[hB1O,h,Nat.pow_zero,Nat.mul_one]
      have HGO:Hid (Nat.gcd A B=Nat.gcd A1 O*2^kb):=by show Nat.gcd A B=Nat.gcd A1 O*2^kb;rw[hA,hB,qa7,hgO]
      have hO0:0<O:=by omega
      clear hO hgO
      refine Calls.mono (P:=Tryz.prog) HRO.out ?_
      rintro e w7 ⟨v7',rfl,hg7,hn7⟩
      have HRA7:Hid (RA w7 b n va6 A1 vb6 B1):=HRA6.out.grow hb6 hg7
      have HGX7:Hid (GX b w w7):=GX.trans HGX6.out (GX.of hg7)
      have hb7:=G.lt hg7 hb6
      have HN7:Hid (Num w7 v7' O):=hn7
      obtain⟨b7,o7,j7,c7,d7,rfl,hb7s,hc7,hd7,hor⟩:=q1V hn7 hO0
      have hd7i:(d7:Int)≤4294967295:=by omega
      have e1:=HRA7.out.a.2.1
      have e3:=HRA7.out.b.2.1
      have ef1:=HRA7.out.a.2.2.2
      have ef3:=HRA7.out.b.2.2.2
      simp only[Nat.zero_add,Nat.reduceAdd] at e1 e3 ef1 ef3
      clear hg7 hn7 HRA6 HGX6 HRO
      have HAe:Hid (A=A1*2^kb):=hA
      have HBe:Hid (B=B1*2^kb):=hB
      have HO0:Hid (0<O):=hO0
      clear hA hB hB1O hO1 hO0
      rcases hor with ⟨hj1,hdO⟩|⟨hj7,hO7⟩
      case' inl=>
       have hj70:((j7:Int)==1)=true:=by simp;omega
       have hj7p:(0:Int)<j7:=by omega
       by_cases hd1:d7=1
       case pos=>
        subst hd1
        have hg1:Nat.gcd A B=2^kb:=by rw[HGO.out,← hdO,Nat.gcd_one_right,Nat.one_mul]
        have HAE:Hid (A/Nat.gcd A B=A1∧B/Nat.gcd A B=B1):=by
         rw[hg1]
         exact⟨by rw[HAe.out];exact Nat.mul_div_cancel _ (Nat.two_pow_pos _),by rw[HBe.out];exact Nat.mul_div_cancel _ (Nat.two_pow_pos _)⟩
        have HNA1:Hid (n=true→A1≠0):=fun h h1=>HA0.out (by rw[HAe.out,h1,Nat.zero_mul])
        clear hg1 hj1 hdO
        go_wp2_with fail
        go_ret
        exact⟨rfl,HGX7.out,by rw[HAE.out.1,HAE.out.2];exact HRA7.out.is HNA1.out⟩
       have hd10:((d7:Int)==1)=false:=by simp;omega
       clear hd1 hj1 hdO
      case' inr=>
       have hj70:((j7:Int)==1)=false:=by simp;omega
       clear hj7 hO7
      all_goals
       as_aux_lemma=>
        have hA1p:0<A1:=by
         rcases Nat.eq_zero_or_pos A1 with h|h
         ·exact absurd (HAe.out.trans (by rw[h,Nat.zero_mul])) HA0.out
         ·exact h
        have HCM:Hid (Calls Tryz.prog 135 #[va6,.slice (some ⟨b7,o7,none⟩) j7 c7] w7 (q0h w7 (Nat.gcd A1 O))):=q1X w7 va6 _ A1 O K hK HRA7.out.na HN7.out hA1p HAB.out.1 HO2.out
        clear hA1p
        go_wp2_with fail
        refine Calls.mono (P:=Tryz.prog) HCM.out ?_
        rintro e w8 ⟨v8',rfl,hg8,hn8⟩
        have hgp:0<Nat.gcd A1 O:=Nat.gcd_pos_of_pos_right _ HO0.out
        obtain⟨g,hgg⟩:∃ g,g=Nat.gcd A1 O:=⟨_,rfl⟩
        have HGA:Hid (g∣A1∧g∣O):=by rw[hgg];exact⟨Nat.gcd_dvd_left _ _,Nat.gcd_dvd_right _ _⟩
        rw[← hgg] at hn8 hgp HGO
        have HRA8:Hid (RA w8 b n va6 A1 vb6 B1):=HRA7.out.grow hb7 hg8
        have HGX8:Hid (GX b w w8):=GX.trans HGX7.out (GX.of hg8)
        have hb8:=G.lt hg8 hb7
        have HN8:Hid (Num w8 v8' g):=hn8
        have HGP:Hid (0<g):=hgp
        have HAE:Hid (A/Nat.gcd A B=A1/g∧B/Nat.gcd A B=B1/g):=by
         rw[HGO.out,HAe.out,HBe.out]
         exact⟨Nat.mul_div_mul_right _ _ (Nat.two_pow_pos _),Nat.mul_div_mul_right _ _ (Nat.two_pow_pos _)⟩
        have HA1p:Hid (A1≠0):=fun h1=>HA0.out (by rw[HAe.out,h1,Nat.zero_mul])
        have HG2:Hid (g<2^(32*K)):=Nat.lt_of_le_of_lt (Nat.le_of_dvd HO0.out HGA.out.2) HO2.out
        obtain⟨b8,o8,j8,c8,d8,rfl,hb8s,hc8,hd8,hor⟩:=q1V hn8 hgp
        have hd8i:(d8:Int)≤4294967295:=by omega
        clear e1 e3 ef1 ef3 hn8 hgp hgg hg8 HRA7 HGX7 HCM hb7 hc7 hb7s
        have e1:=HRA8.out.a.2.1
        have e3:=HRA8.out.b.2.1
        have ef1:=HRA8.out.a.2.2.2
        have ef3:=HRA8.out.b.2.2.2
        simp only[Nat.zero_add,Nat.reduceAdd] at e1 e3 ef1 ef3
        rcases hor with ⟨hj1,hdO⟩|⟨hj8,hO8⟩
        case' inl=>
         have hj80:((j8:Int)==1)=true:=by simp;omega
         have hj8p:(0:Int)<j8:=by omega
         by_cases hd1:d8=1
         case pos=>
          subst hd1
          have HG1:Hid (g=1):=hdO.symm
          clear hj1 hdO
          go_wp2_with fail
          go_ret
          exact⟨rfl,HGX8.out,by rw[HAE.out.1,HAE.out.2,HG1.out,Nat.div_one,Nat.div_one];exact HRA8.out.is (fun _=>HA1p.out)⟩
         have hd10:((d8:Int)==1)=false:=by simp;omega
         clear hd1 hj1 hdO
        case' inr=>
         have hj80:((j8:Int)==1)=false:=by simp;omega
         clear hj8 hO8
        all_goals
         as_aux_lemma=>
          have HD1:Hid (Calls Tryz.prog 136 #[va6,.slice (some ⟨b8,o8,none⟩) j8 c8] w8 (q2Q w8 (A1/g) (A1%g))):=q8O w8 va6 _ A1 g K hK HRA8.out.na HN8.out HAB.out.1 HG2.out HGP.out
          have HD2:Hid (∀ w9,G w8 w9→Calls Tryz.prog 136 #[vb6,.slice (some ⟨b8,o8,none⟩) j8 c8] w9 (q2Q w9 (B1/g) (B1%g))):=fun w9 k=>q8O w9 vb6 _ B1 g K hK (HRA8.out.nb.G k) (HN8.out.G k) HAB.out.2 HG2.out HGP.out
          go_wp2_with fail
          refine Calls.mono (P:=Tryz.prog) HD1.out ?_
          rintro e w9 ⟨v9',r9',rfl,hg9,hn9,-⟩
          obtain⟨p9,k9,c9,rfl⟩:=q3J hn9
          have HRA9:Hid (RA w9 b n va6 A1 vb6 B1):=HRA8.out.grow hb8 hg9
          have HGX9:Hid (GX b w w9):=GX.trans HGX8.out (GX.of hg9)
          have hb9:=G.lt hg9 hb8
          have HN9:Hid (Num w9 (.slice p9 k9 c9) (A1/g)):=hn9
          have HD3:Hid _:=HD2.out w9 hg9
          clear e1 e3 ef1 ef3 hg9 hn9 HRA8 HGX8 HD1 HD2 hc8 hb8 hb8s
          have e1:=HRA9.out.a.2.1
          have e3:=HRA9.out.b.2.1
          simp only[Nat.zero_add,Nat.reduceAdd] at e1 e3
          go_wp2_with fail
          refine Calls.mono (P:=Tryz.prog) HD3.out ?_
          rintro e w10 ⟨v10',r10',rfl,hg10,hn10,-⟩
          obtain⟨p10,k10,c10,rfl⟩:=q3J hn10
          have hr10:=HRA9.out.grow hb9 hg10
          have HGX10:Hid (GX b w w10):=GX.trans HGX9.out (GX.of hg10)
          have HRAF:Hid (RA ((w10.setCell ⟨b,1,none⟩ (.slice p9 k9 c9)).setCell ⟨b,3,none⟩ (.slice p10 k10 c10)) b n (.slice p9 k9 c9) (A1/g) (.slice p10 k10 c10) (B1/g)):=
           RA.setB (RA.setA hr10 (HN9.out.G hg10)) (q0y hn10 hr10.a.2.1 (fun z=>q1E hr10.na _ z))
          have HNA1:Hid (n=true→A1/g≠0):=fun _=>Nat.pos_iff_ne_zero.1 (Nat.div_pos (Nat.le_of_dvd (Nat.pos_of_ne_zero HA1p.out) HGA.out.1) HGP.out)
          clear e1 e3
          have e1:=hr10.a.2.1
          have e3:=hr10.b.2.1
          have ef1:=hr10.a.2.2.2
          have ef3:=hr10.b.2.2.2
          simp only[Nat.zero_add,Nat.reduceAdd] at e1 e3 ef1 ef3
          clear hr10 hg10 hn10 HRA9 HGX9 HD3
          go_wp2_with fail
          go_ret
          exact⟨rfl,GX.set (GX.set HGX10.out _) _,by rw[HAE.out.1,HAE.out.2];exact HRAF.out.is HNA1.out⟩
end Go.Proofs.YtljkfjjchkehaaaGreatDoor
