/- What is proved here: contracts of the reference's ratios: norm, of a lower part below 0, over this seat's translation (the walk is M24's, behind the two signs). -/
import Derived.Test.YtemmkninoiclfaaGreatDoorC18
import Derived.Test.YtemmkninoiclfaaGreatDoorC12
namespace Go.Proofs.YtemmkninoiclfaaGreatDoor
open Go.ChangeShapes Go.WideShapes Go.ChangeAt Go.RowKit
open BN
set_option maxRecDepth 10000 in
set_option maxHeartbeats 4000000 in
theorem q6g {w:World} {b:Nat} {n:Bool} {A B pd:Nat} {pn:Int} (h1:sg n (A/Nat.gcd A B)=pn) (h2:B/Nat.gcd A B=pd) (h:RatIs w b (sg n (A/Nat.gcd A B)) ((B/Nat.gcd A B:Nat):Int)):RatIs w b pn (pd:Int):=by
 rw[h1,h2] at h;exact h
theorem q9P (n:Bool) (a g:Nat):sg n (a/g)=Int.tdiv (sg n a) g:=by
 unfold sg
 cases n<;>simp [Int.neg_tdiv]
set_option maxRecDepth 10000 in
set_option maxHeartbeats 4000000 in
theorem q71 (w0:World) (b:Nat) (sa:Int) (B K:Nat) (hK:K≤300000) (hsa:sa.natAbs<2^(32*K)) (hB2:B<2^(32*K)) (hB0:0<B) (hb0:b<w0.heap.size) (ha:IntIs w0 b 0 sa) (hb':IntIs w0 b 2 (-(B:Int))):
  Calls Tryz.prog 116 #[.pointer (some ⟨b,0,none⟩)] w0 (NormTo w0 b (Int.tdiv (-sa) (Nat.gcd sa.natAbs B:Nat)) (B/Nat.gcd sa.natAbs B)):=by
 obtain⟨pn,hpn⟩:∃ pn,pn=Int.tdiv (-sa) (Nat.gcd sa.natAbs B:Nat):=⟨_,rfl⟩
 obtain⟨pd,rJ⟩:∃ pd,pd=B/Nat.gcd sa.natAbs B:=⟨_,rfl⟩
 rw[← hpn,← rJ]
 have kG:Hid (∀ w,G w0 w→Calls Tryz.prog 120 #[.pointer (some ⟨b,0,none⟩),.pointer (some ⟨b,0,none⟩)] w (SetTo w b 0 (-sa))):=fun w g=>q4K w b 0 b 0 sa sa K (by omega) hsa (Nat.lt_of_lt_of_le hb0 g.size) (Nat.lt_of_lt_of_le hb0 g.size) (ha.G hb0 g) (ha.G hb0 g)
 have Fs:Hid (∀ w1,b<w1.heap.size→IntIs w1 b 2 (-(B:Int))→Calls Tryz.prog 120 #[.pointer (some ⟨b,2,none⟩),.pointer (some ⟨b,2,none⟩)] w1 (SetTo w1 b 2 (B:Int))):=fun w1 h1 h2=>by
  have h:=q4K w1 b 2 b 2 _ _ K (by omega) (by rw[Int.natAbs_neg,Int.natAbs_natCast];exact hB2) h1 h1 h2 h2
  rw[Int.neg_neg] at h
  exact h
 have Fp:Hid (IntIs w0 b 0 sa):=ha
 have xD:Hid (IntIs w0 b 2 (-(B:Int))):=hb'
 obtain⟨nb,vb,b',⟨c1,c2,-,-⟩,hvb,hsb,-⟩:=hb'
 have hnb:nb=true:=by
  cases nb
  ·unfold sg at hsb;simp at hsb;omega
  ·rfl
 subst hnb
 obtain⟨m,hm,hcm,hmv⟩:=hvb
 obtain⟨pb,cb,rfl,-,-⟩:=q0m hm
 have hm0:m.length≠0:=by
  intro h0
  rw[List.eq_nil_of_length_eq_zero h0] at hmv
  have:b'=0:=hmv.symm
  rw[this] at hsb
  unfold sg at hsb
  simp at hsb
  omega
 have jD:((m.length:Int)==0)=false:=by simp;intro h;exact hm0 (by rw[h];rfl)
 generalize m.length=j at *
 simp only[Nat.reduceAdd] at c2
 have Oz:Hid (0<B):=hB0
 have mJ:Hid (sa.natAbs<2^(32*K)):=hsa
 have o6:Hid (B<2^(32*K)):=hB2
 clear hm hcm hmv hsb hm0 ha hB0 hsa hB2
 go_enter Tryz.func116,Tryz.ntmps116
 go_wp2_with fail
 refine q08 6 1 #[true,true,true,true,true,true,false] [.is (.pointer (some ⟨b,0,none⟩)),.is (.pointer (some ⟨b,0,none⟩)),.is (.pointer (some ⟨b,0,none⟩)),.is (.pointer (some ⟨b,0,none⟩)),.is (.pointer (some ⟨b,0,none⟩)),.is (.pointer (some ⟨b,0,none⟩))] [some 27,some 28,some 29,some 30,some 31,some 32] (by kernel_rfl) (by kernel_rfl) rfl (by kernel_rfl) (by repeat (first|exact trivial|refine⟨fun _ _ _ g h=>by first|exact h.G g|exact fun w3 g3=>h w3 (G.trans g g3),?_⟩)) (by kernel_rfl) (by kernel_rfl) ?_
 refine Letters.is ?_
 refine Letters.is ?_
 refine Letters.is ?_
 refine Letters.is ?_
 refine Letters.is ?_
 refine Letters.is ?_
 refine Letters.nil ?_
 intro A hA
 simp only[q0V,Act.put,List.setIfInBounds_toArray,List.set_cons_zero,List.set_cons_succ] at hA
 subst hA
 refine⟨?_,?_⟩
 ·skip
  refine Eaches.cons rfl ?gH (Eaches.cons rfl ?gW (Eaches.cons rfl ?gI (Eaches.cons rfl ?gX (Eaches.cons rfl ?jq (Eaches.cons rfl ?jr (Eaches.nil))))))
  case gH|gW|gI|gX|jq|jr=>
   intro W hW hD K hK
   clear hD
   go_simp
   exact hK.out _ _ ⟨_,rfl,G.refl _,rfl⟩
 intro wa ga hH
 clear hH
 refine wpAny_ready (rs:=[6]) (by kernel_rfl) (by simp) ?_
 refine AllReady.cons rfl (fun K hK=> ?_) AllReady.nil
 go_simp
 go_wp2_with (go_at_call 120;refine Calls.mono (P:=Tryz.prog) (kG.out wa ga) ?_;intro e w1 hs;have hs':=hs;obtain⟨rfl,-,-,-⟩:=hs)
 refine wpAny_done (by kernel_rfl) ?_ _
 have hs:=SetTo.after hb0 ga hs'
 have hk1:=SetTo.keep Fp.out hs xD.out hb0 (Or.inr (Or.inr (by omega)))
 obtain⟨-,AB,-,hi1⟩:=hs
 have hb1:b<w1.heap.size:=Nat.lt_of_lt_of_le hb0 AB.size
 have Fu:Hid (∀ w,G w1 w→_):=fun w g=>Fs.out w (Nat.lt_of_lt_of_le hb1 g.size) (hk1.G hb1 g)
 have HI1:Hid (IntIs w1 b 0 (-sa)):=hi1
 have oW:Hid (IntIs w1 b 2 (-(B:Int))):=hk1
 clear kG Fs Fp xD hk1 hi1 c1 c2 jD hs' ga
 go_wp2_with fail
 refine q08 6 1 #[true,true,true,true,true,true,false] [.is (.pointer (some ⟨b,0,none⟩)),.is (.pointer (some ⟨b,0,none⟩)),.is (.pointer (some ⟨b,2,none⟩)),.is (.pointer (some ⟨b,0,none⟩)),.is (.pointer (some ⟨b,0,none⟩)),.is (.pointer (some ⟨b,2,none⟩))] [some 34,some 35,some 36,some 37,some 38,some 39] (by kernel_rfl) (by kernel_rfl) rfl (by kernel_rfl) (by repeat (first|exact trivial|refine⟨fun _ _ _ g h=>by first|exact h.G g|exact fun w3 g3=>h w3 (G.trans g g3),?_⟩)) (by kernel_rfl) (by kernel_rfl) ?_
 refine Letters.is ?_
 refine Letters.is ?_
 refine Letters.is ?_
 refine Letters.is ?_
 refine Letters.is ?_
 refine Letters.is ?_
 refine Letters.nil ?_
 intro A hA
 simp only[q0V,Act.put,List.setIfInBounds_toArray,List.set_cons_zero,List.set_cons_succ] at hA
 subst hA
 refine⟨?_,?_⟩
 ·skip
  refine Eaches.cons rfl ?jN (Eaches.cons rfl ?lM (Eaches.cons rfl ?jO (Eaches.cons rfl ?kK (Eaches.cons rfl ?mW (Eaches.cons rfl ?lN (Eaches.nil))))))
  case jN|lM|jO|kK|mW|lN=>
   intro W hW hD K hK
   clear hD
   go_simp
   exact hK.out _ _ ⟨_,rfl,G.refl _,rfl⟩
 intro wb gb hH
 clear hH
 refine wpAny_ready (rs:=[6]) (by kernel_rfl) (by simp) ?_
 refine AllReady.cons rfl (fun K hK=> ?_) AllReady.nil
 go_simp
 go_wp2_with (go_at_call 120;refine Calls.mono (P:=Tryz.prog) (Fu.out wb gb) ?_;intro e w hs;have hs':=hs;obtain⟨rfl,-,-,-⟩:=hs)
 refine wpAny_done (by kernel_rfl) ?_ _
 have hs:=SetTo.after hb1 gb hs'
 have hk2:=SetTo.keep oW.out hs HI1.out hb1 (Or.inr (Or.inl (by omega)))
 obtain⟨-,hgx2,-,hi2⟩:=hs
 have hb:b<w.heap.size:=Nat.lt_of_lt_of_le hb1 hgx2.size
 have uz:Hid (GX b w0 w):=GX.trans AB hgx2
 clear Fu HI1 oW AB hgx2 hb0 hb1 hs' gb
 obtain⟨n,va,A,ia,Gz,ea,kC⟩:=hk2
 obtain⟨n2,vb,B',ib,GA,eb,GD⟩:=hi2
 have hn2:n2=false:=by
  cases n2
  ·rfl
  ·have h1:=GD rfl
   unfold sg at eb;simp at eb;omega
 subst hn2
 have Bj:B'=B:=by unfold sg at eb;simp at eb;omega
 subst Bj
 have hAs:A=sa.natAbs:=by have h1:=q0Q ea;rw[Int.natAbs_neg] at h1;exact h1
 have Fv:Hid (sg n (A/Nat.gcd A B')=pn):=by
  show sg n (A/Nat.gcd A B')=pn
  rw[q9P,ea,hpn,← hAs]
 have Fw:Hid (B'/Nat.gcd A B'=pd):=by show B'/Nat.gcd A B'=pd;rw[rJ,← hAs]
 clear hpn rJ
 have hA2:A<2^(32*K):=by rw[hAs];exact mJ.out
 have hB2:=o6.out
 have hB0:=Oz.out
 have h:RA w b n va A vb B':=⟨ia,Gz,ib,GA⟩
 clear ia Gz ib GA ea eb GD hAs mJ o6 Oz
 have jv:Hid (RA w b n va A vb B'):=h
 obtain⟨⟨c1,c2,f1,f2⟩,na,⟨c3,c4,f3,f4⟩,nb⟩:=h
 obtain⟨l,hl,hcl,hlv⟩:=na
 obtain⟨m,hm,hcm,hmv⟩:=nb
 obtain⟨pa,ca,rfl,dQ,-⟩:=q0m hl
 obtain⟨pb,cb,rfl,hcb,hrb⟩:=q0m hm
 have hm0:m.length≠0:=by
  intro h0
  rw[List.eq_nil_of_length_eq_zero h0] at hmv
  have:B'=0:=hmv.symm
  omega
 have jD:((m.length:Int)==0)=false:=by simp;intro h;exact hm0 (by rw[h];rfl)
 by_cases fO:A=0
 ·have hl0:l.length=0:=by
   rw[fO] at hlv
   rw[(q0U hcl).1 hlv];rfl
  have hn:n=false:=by
   cases n
   ·rfl
   ·exact absurd fO (kC rfl)
  subst hn fO
  have Bl:Hid (pn=0):=by show pn=0;rw[← Fv.out,Nat.zero_div];rfl
  have iZ:Hid (pd=1):=by show pd=1;rw[← Fw.out,Nat.gcd_zero_left,Nat.div_self hB0]
  have HS:Hid (Calls Tryz.prog 145 #[.pointer (some ⟨b,2,none⟩),.int .i64 1] w (SetTo w b 2 1)):=q8g w b 2 1 B' (by omega) hb (jv.out.is kC).2
  have Ie:Hid (IntIs w b 0 0):=(jv.out.is kC).1
  have HR2:Hid (IntIs w b 2 B'):=(jv.out.is kC).2
  rw[hl0] at c2
  generalize m.length=j at *
  clear hl hm hcl hcm hlv hmv hcb dQ hm0 hrb hl0 f1 f2 f3 f4
  go_wp2_with fail
  refine Calls.mono (P:=Tryz.prog) HS.out ?_
  intro e w2 hs
  have hk:=SetTo.keep HR2.out hs Ie.out hb (Or.inr (Or.inl (by omega)))
  obtain⟨rfl,h1,-,h2⟩:=hs
  go_wp2_with fail
  go_ret
  exact⟨rfl,GX.trans uz.out h1,by rw[Bl.out];exact hk,by rw[iZ.out];exact h2⟩
 ·have hl0:l.length≠0:=by
   intro h0
   rw[List.eq_nil_of_length_eq_zero h0] at hlv
   exact fO hlv.symm
  have qd:((l.length:Int)==0)=false:=by simp;intro h;exact hl0 (by rw[h];rfl)
  obtain⟨bb,ob,hpb,rO,hcb0⟩:=hrb 0 (by omega)
  subst hpb
  rw[Nat.add_zero] at hcb0
  have ko:Hid (A≠0):=fO
  have HB0:Hid (0<B'):=hB0
  have HA2:Hid (A<2^(32*K)):=hA2
  have HB2:Hid (B'<2^(32*K)):=hB2
  have fU:Hid (n=true→A≠0):=kC
  have hwd:=q04 hcm.1 0
  have nP:((m.getD 0 0:Nat):Int)≤4294967295:=by omega
  by_cases hm1:m.length=1
  case' pos=>
   have xZ:m.getD 0 0=B':=by
    obtain⟨x,rfl⟩:=List.length_eq_one_iff.1 hm1
    rw[q1g] at hmv
    simpa using hmv
   rw[xZ] at hcb0 nP
   rw[hm1] at c4 jD jv
   by_cases hB1:B'=1
   case pos=>
    subst hB1
    have HR:Hid _:=jv.out.is kC
    have Bl:Hid (pn=sg n A):=by show pn=sg n A;rw[← Fv.out,Nat.gcd_one_right,Nat.div_one]
    have iZ:Hid (pd=1):=by show pd=1;rw[← Fw.out,Nat.gcd_one_right,Nat.div_one]
    generalize l.length=i at *
    clear hl hm hcl hcm hlv hmv hcb dQ hm0 hrb hl0 f1 f2 f3 f4 hA2 hB2 hB0 kC hwd hm1 xZ fO
    go_wp2_with fail
    go_ret
    exact⟨rfl,uz.out,by rw[Bl.out,iZ.out];exact HR.out⟩
   have yc:((B':Int)==1)=false:=by simp;omega
   generalize l.length=i at *
   clear hl hm hcl hcm hlv hmv hcb dQ hm0 hrb hl0 f1 f2 f3 f4 hA2 hB2 hB0 kC hwd hm1 xZ fO hB1
   go_wp2_with fail
   clear hcb0 jD yc qd c1 c3 rO nP
   obtain⟨vb,hvb⟩:∃ vb,vb=Value.slice (some ⟨bb,ob,none⟩) 1 cb:=⟨_,rfl⟩
  case' neg=>
   have yf:((m.length:Int)==1)=false:=by simp;intro h;exact hm1 (by omega)
   generalize l.length=i at *
   generalize m.length=j at *
   clear hl hm hcl hcm hlv hmv hcb dQ hm0 hrb hl0 f1 f2 f3 f4 hA2 hB2 hB0 kC hwd hm1 nP hcb0 fO
   go_wp2_with fail
   clear jD yf qd c1 c3 rO
   obtain⟨vb,hvb⟩:∃ vb,vb=Value.slice (some ⟨bb,ob,none⟩) j cb:=⟨_,rfl⟩
  all_goals
   as_aux_lemma=>
    obtain⟨va,hva⟩:∃ va,va=Value.slice pa i ca:=⟨_,rfl⟩
    rw[← hvb] at jv ⊢
    rw[← hva] at jv
    clear hva hvb
    clear c2 c4
    refine Calls.mono (P:=Tryz.prog) (q3q w _ B' K (by omega) jv.out.nb HB2.out (by have:=HB0.out;omega)) ?_
    rintro e w1 ⟨k,rfl,hkB,hg1⟩
    have yg:Hid (q1X B' k):=hkB
    have jE:Hid (RA w1 b n va A vb B'):=jv.out.grow hb hg1
    have hkk:k<32*K:=(Nat.pow_lt_pow_iff_right (by omega:1<2)).1 (Nat.lt_of_le_of_lt (q1a (by have:=HB0.out;omega) hkB.1) HB2.out)
    have hki:(k:Int)≤9600000:=by omega
    have d1:=jE.out.a.2.1
    have d3:=jE.out.b.2.1
    simp only[Nat.zero_add,Nat.reduceAdd] at d1 d3
    have HT2:Hid _:=q3q w1 _ A K (by omega) jE.out.na HA2.out ko.out
    clear hkB
    go_wp2_with fail
    refine Calls.mono (P:=Tryz.prog) HT2.out ?_
    rintro e w2 ⟨k2,rfl,yh,hg2⟩
    have Cw:Hid (q1X A k2):=yh
    have Ig:k2<32*K:=(Nat.pow_lt_pow_iff_right (by omega:1<2)).1 (Nat.lt_of_le_of_lt (q1a ko.out yh.1) HA2.out)
    have Ih:(k2:Int)≤9600000:=by omega
    have fE:Hid (RA w2 b n va A vb B'):=jE.out.grow (G.lt hg1 hb) hg2
    have hG2:=G.trans hg1 hg2
    clear yh d1 d3 hg1 hg2 jE HT2
    have d1:=fE.out.a.2.1
    have d3:=fE.out.b.2.1
    simp only[Nat.zero_add,Nat.reduceAdd] at d1 d3
    obtain⟨kb,hkb,hkb2⟩:∃ kb:Nat,(if k2<k then (k2:Int) else (k:Int))=kb∧kb=min k k2:=by
     by_cases hk:k2<k
     ·exact⟨k2,by rw[if_pos hk],by omega⟩
     ·exact⟨k,by rw[if_neg hk],by omega⟩
    have Ph:Hid (kb=min k k2):=hkb2
    have yj:(kb:Int)≤9600000:=by omega
    have yl:kb≤k:=by omega
    have gP:Hid (A=A/2^kb*2^kb∧B'=B'/2^kb*2^kb):=by
     have h1:=Cw.out.1
     have h2:=yg.out.1
     have h3:2^kb∣A:=Nat.dvd_trans (Nat.pow_dvd_pow 2 (by omega)) (Nat.dvd_of_mod_eq_zero h1)
     have h4:2^kb∣B':=Nat.dvd_trans (Nat.pow_dvd_pow 2 yl) (Nat.dvd_of_mod_eq_zero h2)
     exact⟨(Nat.div_mul_cancel h3).symm,(Nat.div_mul_cancel h4).symm⟩
    have qf:Hid (A/2^kb%2=1∨k-kb=0):=by
     show A/2^kb%2=1∨k-kb=0
     by_cases hk:k2<k
     ·have e:kb=k2:=by omega
      rw[e];exact Or.inl Cw.out.2
     ·exact Or.inr (by omega)
    have oZ:Hid (q1X (B'/2^kb) (k-kb)):=by
     have h5:=gP.out.2
     obtain⟨h6,h7⟩:=yg.out
     have e:2^k=2^kb*2^(k-kb):=by rw[← Nat.pow_add];congr 1;omega
     constructor
     ·rw[e,Nat.mod_mul] at h6
      have:2^kb*(B'/2^kb%2^(k-kb))=0:=by omega
      rcases Nat.mul_eq_zero.1 this with h|h
      ·exact absurd h (Nat.pos_iff_ne_zero.1 (Nat.two_pow_pos _))
      ·exact h
     ·rw[e,← Nat.div_div_eq_div_mul] at h7;exact h7
    have ym:=fE.out.a.2.2.2
    have yo:=fE.out.b.2.2.2
    simp only[Nat.zero_add,Nat.reduceAdd] at ym yo
    clear hkb2
    by_cases nQ:0<kb
    case' pos=>
     have jF:decide (0<kb)=true:=by simpa using nQ
     have HR1:Hid (Calls Tryz.prog 173 #[va,.int .u64 (kb:Int)] w2 (q0e w2 (A/2^kb))):=q1e w2 va A kb K (by omega) (by omega) fE.out.na HA2.out
     clear nQ
     go_wp2_with fail
     refine Calls.mono (P:=Tryz.prog) HR1.out ?_
     rintro e w3 ⟨Pj,rfl,hg3,iM⟩
     obtain⟨p3,k3,c3',rfl⟩:=q1Y iM
     have hr3:=fE.out.grow (G.lt hG2 hb) hg3
     have nS:Hid (RA (w3.setCell ⟨b,1,none⟩ (Value.slice p3 k3 c3')) b n (Value.slice p3 k3 c3') (A/2^kb) vb B'):=RA.setA hr3 iM
     have rP:Hid (GX b w (w3.setCell ⟨b,1,none⟩ (Value.slice p3 k3 c3'))):=GX.set (GX.of (G.trans hG2 hg3)) (Value.slice p3 k3 c3')
     have hb3:b<(w3.setCell ⟨b,1,none⟩ (Value.slice p3 k3 c3')).heap.size:=by have:=G.lt (G.trans hG2 hg3) hb;simpa [World.setCell] using this
     have e1:=hr3.a.2.1
     have kD:=hr3.a.2.2.2
     have e3:=hr3.b.2.1
     simp only[Nat.zero_add,Nat.reduceAdd] at e1 kD e3
     clear hr3 iM d1 d3 ym yo hg3
     go_wp2_with fail
     clear e1 kD e3 fE HR1
     generalize w3.setCell ⟨b,1,none⟩ (Value.slice p3 k3 c3')=w4 at *
     have HR2:Hid (Calls Tryz.prog 173 #[vb,.int .u64 (kb:Int)] w4 (q0e w4 (B'/2^kb))):=q1e w4 vb B' kb K (by omega) (by omega) nS.out.nb HB2.out
     refine Calls.mono (P:=Tryz.prog) HR2.out ?_
     rintro e w5 ⟨Pk,rfl,hg5,rQ⟩
     obtain⟨p5,k5,nT,rfl⟩:=q1Y rQ
     have vJ:=nS.out.grow hb3 hg5
     have fF:Hid (RA (w5.setCell ⟨b,3,none⟩ (Value.slice p5 k5 nT)) b n (Value.slice p3 k3 c3') (A/2^kb) (Value.slice p5 k5 nT) (B'/2^kb)):=RA.setB vJ rQ
     have nU:Hid (GX b w (w5.setCell ⟨b,3,none⟩ (Value.slice p5 k5 nT))):=GX.set (GX.trans rP.out (GX.of hg5)) (Value.slice p5 k5 nT)
     have hb6:b<(w5.setCell ⟨b,3,none⟩ (Value.slice p5 k5 nT)).heap.size:=by have:=G.lt hg5 hb3;simpa [World.setCell] using this
     have e3:=vJ.b.2.1
     have kE:=vJ.b.2.2.2
     simp only[Nat.reduceAdd] at e3 kE
     have hwk:IntKind.u64.wrap ((k:Int)-kb)=((k-kb:Nat):Int):=by rw[IntKind.wrap_u64];omega
     clear vJ rQ hg5 nS rP HR2
     go_wp2_with fail
     clear e3 kE hwk hkb jF
     generalize w5.setCell ⟨b,3,none⟩ (Value.slice p5 k5 nT)=w6 at *
     obtain⟨jl,jG⟩:∃ jl,jl=Value.slice p3 k3 c3':=⟨_,rfl⟩
     obtain⟨kF,gD⟩:∃ kF,kF=Value.slice p5 k5 nT:=⟨_,rfl⟩
     rw[← jG,← gD] at fF
     rw[← gD]
     clear jG gD
    case' neg=>
     obtain rfl:kb=0:=by omega
     have jF:decide (0<0)=false:=rfl
     have fF:Hid (RA w2 b n va (A/2^0) vb (B'/2^0)):=by rw[Nat.pow_zero,Nat.div_one,Nat.div_one];exact fE.out
     have nU:Hid (GX b w w2):=GX.of hG2
     have hb6:=G.lt hG2 hb
     clear fE nQ
     go_wp2_with fail
     clear d1 d3 ym yo hkb jF yj
     obtain⟨kb,rR⟩:∃ kb,kb=0:=⟨_,rfl⟩
     have rT:Hid (A/2^kb%2=1∨k-kb=0):=by rw[rR];exact qf.out
     clear qf
     have qf:Hid (A/2^kb%2=1∨k-kb=0):=rT.out
     clear rT
     rw[← rR] at fF gP oZ
     obtain⟨jl,jG⟩:∃ jl,jl=va:=⟨_,rfl⟩
     obtain⟨kF,gD⟩:∃ kF,kF=vb:=⟨_,rfl⟩
     rw[← jG,← gD] at fF
     rw[← gD]
     have rU:k=k-kb:=by omega
     rw[rU]
     clear jG gD rU
    all_goals
     as_aux_lemma=>
      obtain⟨A1,hA1⟩:∃ A1,A1=A/2^kb:=⟨_,rfl⟩
      obtain⟨B1,hB1⟩:∃ B1,B1=B'/2^kb:=⟨_,rfl⟩
      obtain⟨k1,hk1⟩:∃ k1,k1=k-kb:=⟨_,rfl⟩
      rw[← hA1] at fF gP qf
      rw[← hB1] at fF gP oZ
      rw[← hk1] at qf oZ ⊢
      obtain⟨hA,hB⟩:=gP.out
      have Ii:k1≤32*K:=by omega
      have jH:Hid (A1<2^(32*K)∧B1<2^(32*K)):=by
       rw[hA1,hB1]
       exact⟨Nat.lt_of_le_of_lt (Nat.div_le_self _ _) HA2.out,Nat.lt_of_le_of_lt (Nat.div_le_self _ _) HB2.out⟩
      clear hA1 hB1 hk1
      obtain⟨O,hO⟩:∃ O,O=B1/2^k1:=⟨_,rfl⟩
      have nV:B1=O*2^k1:=by rw[hO];exact(Nat.div_mul_cancel (Nat.dvd_of_mod_eq_zero oZ.out.1)).symm
      have Ij:O%2=1:=by rw[hO];exact oZ.out.2
      have ja:Hid (O<2^(32*K)):=by rw[hO];exact Nat.lt_of_le_of_lt (Nat.div_le_self _ _) jH.out.2
      have yu:Hid _:=q1e _ _ B1 k1 K (by omega) (by omega) fF.out.nb jH.out.2
      rw[← hO] at yu
      have Cx:Nat.gcd A1 B1=Nat.gcd A1 O:=by
       rcases qf.out with h|h
       ·rw[nV];exact q7Q k1 h
       ·rw[nV,h,Nat.pow_zero,Nat.mul_one]
      have yw:Hid (Nat.gcd A B'=Nat.gcd A1 O*2^kb):=by show Nat.gcd A B'=Nat.gcd A1 O*2^kb;rw[hA,hB,q78,Cx]
      have yz:0<O:=by omega
      clear hO Cx
      refine Calls.mono (P:=Tryz.prog) yu.out ?_
      rintro e w7 ⟨Ik,rfl,lh,rA⟩
      have gF:Hid (RA w7 b n jl A1 kF B1):=fF.out.grow hb6 lh
      have nW:Hid (GX b w w7):=GX.trans nU.out (GX.of lh)
      have yA:=G.lt lh hb6
      have Il:Hid (Num w7 Ik O):=rA
      obtain⟨b7,o7,j7,c7,d7,rfl,yB,G8,hd7,hor⟩:=q1I rA yz
      have Im:(d7:Int)≤4294967295:=by omega
      have e1:=gF.out.a.2.1
      have e3:=gF.out.b.2.1
      have kD:=gF.out.a.2.2.2
      have kE:=gF.out.b.2.2.2
      simp only[Nat.zero_add,Nat.reduceAdd] at e1 e3 kD kE
      clear lh rA fF nU yu
      have rW:Hid (A=A1*2^kb):=hA
      have Cy:Hid (B'=B1*2^kb):=hB
      have Cz:Hid (0<O):=yz
      clear hA hB nV Ij yz
      rcases hor with ⟨hj1,nX⟩|⟨Io,Ip⟩
      case' inl=>
       have yC:((j7:Int)==1)=true:=by simp;omega
       have Iq:(0:Int)<j7:=by omega
       by_cases hd1:d7=1
       case pos=>
        subst hd1
        have hg1:Nat.gcd A B'=2^kb:=by rw[yw.out,← nX,Nat.gcd_one_right,Nat.one_mul]
        have nY:Hid (A/Nat.gcd A B'=A1∧B'/Nat.gcd A B'=B1):=by
         rw[hg1]
         exact⟨by rw[rW.out];exact Nat.mul_div_cancel _ (Nat.two_pow_pos _),by rw[Cy.out];exact Nat.mul_div_cancel _ (Nat.two_pow_pos _)⟩
        have kG:Hid (n=true→A1≠0):=fun h h1=>ko.out (by rw[rW.out,h1,Nat.zero_mul])
        clear hg1 hj1 nX
        go_wp2_with fail
        go_ret
        exact⟨rfl,GX.trans uz.out nW.out,q6g Fv.out Fw.out (by rw[nY.out.1,nY.out.2];exact gF.out.is kG.out)⟩
       have yD:((d7:Int)==1)=false:=by simp;omega
       clear hd1 hj1 nX
      case' inr=>
       have yC:((j7:Int)==1)=false:=by simp;omega
       clear Io Ip
      all_goals
       as_aux_lemma=>
        have rX:0<A1:=by
         rcases Nat.eq_zero_or_pos A1 with h|h
         ·exact absurd (rW.out.trans (by rw[h,Nat.zero_mul])) ko.out
         ·exact h
        have HCM:Hid (Calls Tryz.prog 174 #[jl,.slice (some ⟨b7,o7,none⟩) j7 c7] w7 (q0e w7 (Nat.gcd A1 O))):=q1T w7 jl _ A1 O K hK gF.out.na Il.out rX jH.out.1 ja.out
        clear rX
        go_wp2_with fail
        refine Calls.mono (P:=Tryz.prog) HCM.out ?_
        rintro e w8 ⟨Ir,rfl,qg,pX⟩
        have vK:0<Nat.gcd A1 O:=Nat.gcd_pos_of_pos_right _ Cz.out
        obtain⟨g,hgg⟩:∃ g,g=Nat.gcd A1 O:=⟨_,rfl⟩
        have yE:Hid (g∣A1∧g∣O):=by rw[hgg];exact⟨Nat.gcd_dvd_left _ _,Nat.gcd_dvd_right _ _⟩
        rw[← hgg] at pX vK yw
        have fG:Hid (RA w8 b n jl A1 kF B1):=gF.out.grow yA qg
        have nZ:Hid (GX b w w8):=GX.trans nW.out (GX.of qg)
        have yF:=G.lt qg yA
        have jf:Hid (Num w8 Ir g):=pX
        have yG:Hid (0<g):=vK
        have nY:Hid (A/Nat.gcd A B'=A1/g∧B'/Nat.gcd A B'=B1/g):=by
         rw[yw.out,rW.out,Cy.out]
         exact⟨Nat.mul_div_mul_right _ _ (Nat.two_pow_pos _),Nat.mul_div_mul_right _ _ (Nat.two_pow_pos _)⟩
        have rY:Hid (A1≠0):=fun h1=>ko.out (by rw[rW.out,h1,Nat.zero_mul])
        have HG2:Hid (g<2^(32*K)):=Nat.lt_of_le_of_lt (Nat.le_of_dvd Cz.out yE.out.2) ja.out
        obtain⟨b8,o8,j8,c8,d8,rfl,yH,hc8,Pm,hor⟩:=q1I pX vK
        have Iu:(d8:Int)≤4294967295:=by omega
        clear e1 e3 kD kE pX vK hgg qg gF nW HCM yA G8 yB
        have e1:=fG.out.a.2.1
        have e3:=fG.out.b.2.1
        have kD:=fG.out.a.2.2.2
        have kE:=fG.out.b.2.2.2
        simp only[Nat.zero_add,Nat.reduceAdd] at e1 e3 kD kE
        rcases hor with ⟨hj1,nX⟩|⟨Iw,Iy⟩
        case' inl=>
         have yI:((j8:Int)==1)=true:=by simp;omega
         have Iz:(0:Int)<j8:=by omega
         by_cases hd1:d8=1
         case pos=>
          subst hd1
          have uJ:Hid (g=1):=nX.symm
          clear hj1 nX
          go_wp2_with fail
          go_ret
          exact⟨rfl,GX.trans uz.out nZ.out,q6g Fv.out Fw.out (by rw[nY.out.1,nY.out.2,uJ.out,Nat.div_one,Nat.div_one];exact fG.out.is (fun _=>rY.out))⟩
         have yD:((d8:Int)==1)=false:=by simp;omega
         clear hd1 hj1 nX
        case' inr=>
         have yI:((j8:Int)==1)=false:=by simp;omega
         clear Iw Iy
        all_goals
         as_aux_lemma=>
          have HD1:Hid (Calls Tryz.prog 175 #[jl,.slice (some ⟨b8,o8,none⟩) j8 c8] w8 (q2i w8 (A1/g) (A1%g))):=q6C w8 jl _ A1 g K hK fG.out.na jf.out jH.out.1 HG2.out yG.out
          have HD2:Hid (∀ w9,G w8 w9→Calls Tryz.prog 175 #[kF,.slice (some ⟨b8,o8,none⟩) j8 c8] w9 (q2i w9 (B1/g) (B1%g))):=fun w9 k=>q6C w9 kF _ B1 g K hK (fG.out.nb.G k) (jf.out.G k) jH.out.2 HG2.out yG.out
          go_wp2_with fail
          refine Calls.mono (P:=Tryz.prog) HD1.out ?_
          rintro e w9 ⟨Pn,Po,rfl,mK,aN,-⟩
          obtain⟨p9,k9,c9,rfl⟩:=q1Y aN
          have ll:Hid (RA w9 b n jl A1 kF B1):=fG.out.grow yF mK
          have rZ:Hid (GX b w w9):=GX.trans nZ.out (GX.of mK)
          have IA:=G.lt mK yF
          have gU:Hid (Num w9 (.slice p9 k9 c9) (A1/g)):=aN
          have HD3:Hid _:=HD2.out w9 mK
          clear e1 e3 kD kE mK aN fG nZ HD1 HD2 hc8 yF yH
          have e1:=ll.out.a.2.1
          have e3:=ll.out.b.2.1
          simp only[Nat.zero_add,Nat.reduceAdd] at e1 e3
          go_wp2_with fail
          refine Calls.mono (P:=Tryz.prog) HD3.out ?_
          rintro e aU ⟨IB,IC,rfl,lq,o5,-⟩
          obtain⟨CB,k10,c10,rfl⟩:=q1Y o5
          have dJ:=ll.out.grow IA lq
          have sj:Hid (GX b w aU):=GX.trans rZ.out (GX.of lq)
          have yJ:Hid (RA ((aU.setCell ⟨b,1,none⟩ (.slice p9 k9 c9)).setCell ⟨b,3,none⟩ (.slice CB k10 c10)) b n (.slice p9 k9 c9) (A1/g) (.slice CB k10 c10) (B1/g)):=
           RA.setB (RA.setA dJ (gU.out.G lq)) (num_other o5 dJ.a.2.1 (fun z=>q1y dJ.na _ z))
          have kG:Hid (n=true→A1/g≠0):=fun _=>Nat.pos_iff_ne_zero.1 (Nat.div_pos (Nat.le_of_dvd (Nat.pos_of_ne_zero rY.out) yE.out.1) yG.out)
          clear e1 e3
          have e1:=dJ.a.2.1
          have e3:=dJ.b.2.1
          have kD:=dJ.a.2.2.2
          have kE:=dJ.b.2.2.2
          simp only[Nat.zero_add,Nat.reduceAdd] at e1 e3 kD kE
          clear dJ lq o5 ll rZ HD3
          go_wp2_with fail
          go_ret
          exact⟨rfl,GX.trans uz.out (GX.set (GX.set sj.out _) _),q6g Fv.out Fw.out (by rw[nY.out.1,nY.out.2];exact yJ.out.is kG.out)⟩
end Go.Proofs.YtemmkninoiclfaaGreatDoor
