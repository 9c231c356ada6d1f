/- What is proved here: contracts of the reference's ratios: norm, of a lower part below 0, over this seat's translation (the walk is M24's, behind the two signs). -/
import Derived.Test.YtljkfjjchkehaaaGreatDoorP20
import Derived.Test.YtljkfjjchkehaaaGreatDoorP13
namespace Go.Proofs.YtljkfjjchkehaaaGreatDoor
open Go.ChangeShapes Go.WideShapes Go.ChangeAt Go.RowKit
open BN
set_option maxRecDepth 10000 in
set_option maxHeartbeats 4000000 in
theorem q4Q {w:World} {b:Nat} {n:Bool} {A B pd:Nat} {pn:Int} (h1:sg n (A/Nat.gcd A B)=pn) (h2:B/Nat.gcd A B=pd) (h:RatIs w b (sg n (A/Nat.gcd A B)) ((B/Nat.gcd A B:Nat):Int)):RatIs w b pn (pd:Int):=by
 rw[h1,h2] at h;exact h
theorem qad (n:Bool) (a g:Nat):sg n (a/g)=Int.tdiv (sg n a) g:=by
 unfold sg
 cases n<;>simp [Int.neg_tdiv]
set_option maxRecDepth 10000 in
set_option maxHeartbeats 4000000 in
theorem q6T (w0:World) (b:Nat) (sa:Int) (B K:Nat) (hK:K≤300000) (hsa:sa.natAbs<2^(32*K)) (hB2:B<2^(32*K)) (hB0:0<B) (hb0:b<w0.heap.size) (ha:IntIs w0 b 0 sa) (hb':IntIs w0 b 2 (-(B:Int))):
  Calls Tryz.prog 90 #[.pointer (some ⟨b,0,none⟩)] w0 (NormTo w0 b (Int.tdiv (-sa) (Nat.gcd sa.natAbs B:Nat)) (B/Nat.gcd sa.natAbs B)):=by
 obtain⟨pn,hpn⟩:∃ pn,pn=Int.tdiv (-sa) (Nat.gcd sa.natAbs B:Nat):=⟨_,rfl⟩
 obtain⟨pd,vI⟩:∃ pd,pd=B/Nat.gcd sa.natAbs B:=⟨_,rfl⟩
 rw[← hpn,← vI]
 have nM:Hid (∀ w,G w0 w→Calls Tryz.prog 112 #[.pointer (some ⟨b,0,none⟩),.pointer (some ⟨b,0,none⟩)] w (SetTo w b 0 (-sa))):=fun w g=>q4R w b 0 b 0 sa sa K (by omega) hsa (Nat.lt_of_lt_of_le hb0 g.size) (Nat.lt_of_lt_of_le hb0 g.size) (ha.G hb0 g) (ha.G hb0 g)
 have FU:Hid (∀ w1,b<w1.heap.size→IntIs w1 b 2 (-(B:Int))→Calls Tryz.prog 112 #[.pointer (some ⟨b,2,none⟩),.pointer (some ⟨b,2,none⟩)] w1 (SetTo w1 b 2 (B:Int))):=fun w1 h1 h2=>by
  have h:=q4R w1 b 2 b 2 _ _ K (by omega) (by rw[Int.natAbs_neg,Int.natAbs_natCast];exact hB2) h1 h1 h2 h2
  rw[Int.neg_neg] at h
  exact h
 have FN:Hid (IntIs w0 b 0 sa):=ha
 have FO:Hid (IntIs w0 b 2 (-(B:Int))):=hb'
 obtain⟨nb,vb,b',⟨c1,c2,-,-⟩,hvb,hsb,-⟩:=hb'
 have hnb:nb=true:=by
  cases nb
  ·unfold sg at hsb;simp at hsb;omega
  ·rfl
 subst hnb
 obtain⟨m,hm,hcm,hmv⟩:=hvb
 obtain⟨pb,cb,rfl,-,-⟩:=q0p hm
 have hm0:m.length≠0:=by
  intro h0
  rw[List.eq_nil_of_length_eq_zero h0] at hmv
  have:b'=0:=hmv.symm
  rw[this] at hsb
  unfold sg at hsb
  simp at hsb
  omega
 have lY:((m.length:Int)==0)=false:=by simp;intro h;exact hm0 (by rw[h];rfl)
 generalize m.length=j at *
 simp only[Nat.reduceAdd] at c2
 have P6:Hid (0<B):=hB0
 have sD:Hid (sa.natAbs<2^(32*K)):=hsa
 have rD:Hid (B<2^(32*K)):=hB2
 clear hm hcm hmv hsb hm0 ha hB0 hsa hB2
 go_enter Tryz.func90,Tryz.ntmps90
 go_wp2_with fail
 refine q09 6 1 #[true,true,true,true,true,true,false] [.is (.pointer (some ⟨b,0,none⟩)),.is (.pointer (some ⟨b,0,none⟩)),.is (.pointer (some ⟨b,0,none⟩)),.is (.pointer (some ⟨b,0,none⟩)),.is (.pointer (some ⟨b,0,none⟩)),.is (.pointer (some ⟨b,0,none⟩))] [some 27,some 28,some 29,some 30,some 31,some 32] (by kernel_rfl) (by kernel_rfl) rfl (by kernel_rfl) (by repeat (first|exact trivial|refine⟨fun _ _ _ g h=>by first|exact h.G g|exact fun w3 g3=>h w3 (G.trans g g3),?_⟩)) (by kernel_rfl) (by kernel_rfl) ?_
 refine Letters.is ?_
 refine Letters.is ?_
 refine Letters.is ?_
 refine Letters.is ?_
 refine Letters.is ?_
 refine Letters.is ?_
 refine Letters.nil ?_
 intro A hA
 simp only[q19,Act.put,List.setIfInBounds_toArray,List.set_cons_zero,List.set_cons_succ] at hA
 subst hA
 refine⟨?_,?_⟩
 ·skip
  refine Eaches.cons rfl ?jh (Eaches.cons rfl ?jH (Eaches.cons rfl ?jI (Eaches.cons rfl ?jS (Eaches.cons rfl ?l7 (Eaches.cons rfl ?l8 (Eaches.nil))))))
  case jh|jH|jI|jS|l7|l8=>
   intro W hW hD K hK
   clear hD
   go_simp
   exact hK.out _ _ ⟨_,rfl,G.refl _,rfl⟩
 intro wa ga hH
 clear hH
 refine wpAny_ready (rs:=[6]) (by kernel_rfl) (by simp) ?_
 refine AllReady.cons rfl (fun K hK=> ?_) AllReady.nil
 go_simp
 go_wp2_with (go_at_call 112;refine Calls.mono (P:=Tryz.prog) (nM.out wa ga) ?_;intro e w1 hs;have hs':=hs;obtain⟨rfl,-,-,-⟩:=hs)
 refine wpAny_done (by kernel_rfl) ?_ _
 have hs:=SetTo.after hb0 ga hs'
 have hk1:=SetTo.keep FN.out hs FO.out hb0 (Or.inr (Or.inr (by omega)))
 obtain⟨-,Cc,-,hi1⟩:=hs
 have hb1:b<w1.heap.size:=Nat.lt_of_lt_of_le hb0 Cc.size
 have FV:Hid (∀ w,G w1 w→_):=fun w g=>FU.out w (Nat.lt_of_lt_of_le hb1 g.size) (hk1.G hb1 g)
 have HI1:Hid (IntIs w1 b 0 (-sa)):=hi1
 have zu:Hid (IntIs w1 b 2 (-(B:Int))):=hk1
 clear nM FU FN FO hk1 hi1 c1 c2 lY hs' ga
 go_wp2_with fail
 refine q09 6 1 #[true,true,true,true,true,true,false] [.is (.pointer (some ⟨b,0,none⟩)),.is (.pointer (some ⟨b,0,none⟩)),.is (.pointer (some ⟨b,2,none⟩)),.is (.pointer (some ⟨b,0,none⟩)),.is (.pointer (some ⟨b,0,none⟩)),.is (.pointer (some ⟨b,2,none⟩))] [some 34,some 35,some 36,some 37,some 38,some 39] (by kernel_rfl) (by kernel_rfl) rfl (by kernel_rfl) (by repeat (first|exact trivial|refine⟨fun _ _ _ g h=>by first|exact h.G g|exact fun w3 g3=>h w3 (G.trans g g3),?_⟩)) (by kernel_rfl) (by kernel_rfl) ?_
 refine Letters.is ?_
 refine Letters.is ?_
 refine Letters.is ?_
 refine Letters.is ?_
 refine Letters.is ?_
 refine Letters.is ?_
 refine Letters.nil ?_
 intro A hA
 simp only[q19,Act.put,List.setIfInBounds_toArray,List.set_cons_zero,List.set_cons_succ] at hA
 subst hA
 refine⟨?_,?_⟩
 ·skip
  refine Eaches.cons rfl ?kS (Eaches.cons rfl ?lN (Eaches.cons rfl ?lh (Eaches.cons rfl ?lQ (Eaches.cons rfl ?nz (Eaches.cons rfl ?lS (Eaches.nil))))))
  case kS|lN|lh|lQ|nz|lS=>
   intro W hW hD K hK
   clear hD
   go_simp
   exact hK.out _ _ ⟨_,rfl,G.refl _,rfl⟩
 intro wb gb hH
 clear hH
 refine wpAny_ready (rs:=[6]) (by kernel_rfl) (by simp) ?_
 refine AllReady.cons rfl (fun K hK=> ?_) AllReady.nil
 go_simp
 go_wp2_with (go_at_call 112;refine Calls.mono (P:=Tryz.prog) (FV.out wb gb) ?_;intro e w hs;have hs':=hs;obtain⟨rfl,-,-,-⟩:=hs)
 refine wpAny_done (by kernel_rfl) ?_ _
 have hs:=SetTo.after hb1 gb hs'
 have hk2:=SetTo.keep zu.out hs HI1.out hb1 (Or.inr (Or.inl (by omega)))
 obtain⟨-,hgx2,-,hi2⟩:=hs
 have hb:b<w.heap.size:=Nat.lt_of_lt_of_le hb1 hgx2.size
 have wW:Hid (GX b w0 w):=GX.trans Cc hgx2
 clear FV HI1 zu Cc hgx2 hb0 hb1 hs' gb
 obtain⟨n,va,A,ia,Hl,ea,nI⟩:=hk2
 obtain⟨n2,vb,B',ib,Hm,eb,Ho⟩:=hi2
 have hn2:n2=false:=by
  cases n2
  ·rfl
  ·have h1:=Ho rfl
   unfold sg at eb;simp at eb;omega
 subst hn2
 have CJ:B'=B:=by unfold sg at eb;simp at eb;omega
 subst CJ
 have hAs:A=sa.natAbs:=by have h1:=q0O ea;rw[Int.natAbs_neg] at h1;exact h1
 have FW:Hid (sg n (A/Nat.gcd A B')=pn):=by
  show sg n (A/Nat.gcd A B')=pn
  rw[qad,ea,hpn,← hAs]
 have yJ:Hid (B'/Nat.gcd A B'=pd):=by show B'/Nat.gcd A B'=pd;rw[vI,← hAs]
 clear hpn vI
 have hA2:A<2^(32*K):=by rw[hAs];exact sD.out
 have hB2:=rD.out
 have hB0:=P6.out
 have h:RA w b n va A vb B':=⟨ia,Hl,ib,Hm⟩
 clear ia Hl ib Hm ea eb Ho hAs sD rD P6
 have nH:Hid (RA w b n va A vb B'):=h
 obtain⟨⟨c1,c2,f1,f2⟩,na,⟨c3,c4,f3,f4⟩,nb⟩:=h
 obtain⟨l,hl,hcl,hlv⟩:=na
 obtain⟨m,hm,hcm,hmv⟩:=nb
 obtain⟨pa,ca,rfl,fK,-⟩:=q0p hl
 obtain⟨pb,cb,rfl,hcb,hrb⟩:=q0p hm
 have hm0:m.length≠0:=by
  intro h0
  rw[List.eq_nil_of_length_eq_zero h0] at hmv
  have:B'=0:=hmv.symm
  omega
 have lY:((m.length:Int)==0)=false:=by simp;intro h;exact hm0 (by rw[h];rfl)
 by_cases iU:A=0
 ·have hl0:l.length=0:=by
   rw[iU] at hlv
   rw[(q0X hcl).1 hlv];rfl
  have hn:n=false:=by
   cases n
   ·rfl
   ·exact absurd iU (nI rfl)
  subst hn iU
  have CP:Hid (pn=0):=by show pn=0;rw[← FW.out,Nat.zero_div];rfl
  have iV:Hid (pd=1):=by show pd=1;rw[← yJ.out,Nat.gcd_zero_left,Nat.div_self hB0]
  have HS:Hid (Calls Tryz.prog 132 #[.pointer (some ⟨b,2,none⟩),.int .i64 1] w (SetTo w b 2 1)):=q75 w b 2 1 B' (by omega) hb (nH.out.is nI).2
  have Jt:Hid (IntIs w b 0 0):=(nH.out.is nI).1
  have HR2:Hid (IntIs w b 2 B'):=(nH.out.is nI).2
  rw[hl0] at c2
  generalize m.length=j at *
  clear hl hm hcl hcm hlv hmv hcb fK hm0 hrb hl0 f1 f2 f3 f4
  go_wp2_with fail
  refine Calls.mono (P:=Tryz.prog) HS.out ?_
  intro e w2 hs
  have hk:=SetTo.keep HR2.out hs Jt.out hb (Or.inr (Or.inl (by omega)))
  obtain⟨rfl,h1,-,h2⟩:=hs
  go_wp2_with fail
  go_ret
  exact⟨rfl,GX.trans wW.out h1,by rw[CP.out];exact hk,by rw[iV.out];exact h2⟩
 ·have hl0:l.length≠0:=by
   intro h0
   rw[List.eq_nil_of_length_eq_zero h0] at hlv
   exact iU hlv.symm
  have u7:((l.length:Int)==0)=false:=by simp;intro h;exact hl0 (by rw[h];rfl)
  obtain⟨bb,ob,hpb,vJ,hcb0⟩:=hrb 0 (by omega)
  subst hpb
  rw[Nat.add_zero] at hcb0
  have ng:Hid (A≠0):=iU
  have HB0:Hid (0<B'):=hB0
  have HA2:Hid (A<2^(32*K)):=hA2
  have HB2:Hid (B'<2^(32*K)):=hB2
  have Js:Hid (n=true→A≠0):=nI
  have hwd:=q04 hcm.1 0
  have qX:((m.getD 0 0:Nat):Int)≤4294967295:=by omega
  by_cases hm1:m.length=1
  case' pos=>
   have AJ:m.getD 0 0=B':=by
    obtain⟨x,rfl⟩:=List.length_eq_one_iff.1 hm1
    rw[q1f] at hmv
    simpa using hmv
   rw[AJ] at hcb0 qX
   rw[hm1] at c4 lY nH
   by_cases hB1:B'=1
   case pos=>
    subst hB1
    have HR:Hid _:=nH.out.is nI
    have CP:Hid (pn=sg n A):=by show pn=sg n A;rw[← FW.out,Nat.gcd_one_right,Nat.div_one]
    have iV:Hid (pd=1):=by show pd=1;rw[← yJ.out,Nat.gcd_one_right,Nat.div_one]
    generalize l.length=i at *
    clear hl hm hcl hcm hlv hmv hcb fK hm0 hrb hl0 f1 f2 f3 f4 hA2 hB2 hB0 nI hwd hm1 AJ iU
    go_wp2_with fail
    go_ret
    exact⟨rfl,wW.out,by rw[CP.out,iV.out];exact HR.out⟩
   have AL:((B':Int)==1)=false:=by simp;omega
   generalize l.length=i at *
   clear hl hm hcl hcm hlv hmv hcb fK hm0 hrb hl0 f1 f2 f3 f4 hA2 hB2 hB0 nI hwd hm1 AJ iU hB1
   go_wp2_with fail
   clear hcb0 lY AL u7 c1 c3 vJ qX
   obtain⟨vb,hvb⟩:∃ vb,vb=Value.slice (some ⟨bb,ob,none⟩) 1 cb:=⟨_,rfl⟩
  case' neg=>
   have AO:((m.length:Int)==1)=false:=by simp;intro h;exact hm1 (by omega)
   generalize l.length=i at *
   generalize m.length=j at *
   clear hl hm hcl hcm hlv hmv hcb fK hm0 hrb hl0 f1 f2 f3 f4 hA2 hB2 hB0 nI hwd hm1 qX hcb0 iU
   go_wp2_with fail
   clear lY AO u7 c1 c3 vJ
   obtain⟨vb,hvb⟩:∃ vb,vb=Value.slice (some ⟨bb,ob,none⟩) j cb:=⟨_,rfl⟩
  all_goals
   as_aux_lemma=>
    obtain⟨va,hva⟩:∃ va,va=Value.slice pa i ca:=⟨_,rfl⟩
    rw[← hvb] at nH ⊢
    rw[← hva] at nH
    clear hva hvb
    clear c2 c4
    refine Calls.mono (P:=Tryz.prog) (q3o w _ B' K (by omega) nH.out.nb HB2.out (by have:=HB0.out;omega)) ?_
    rintro e w1 ⟨k,rfl,hkB,hg1⟩
    have EB:Hid (q1R B' k):=hkB
    have ma:Hid (RA w1 b n va A vb B'):=nH.out.grow hb hg1
    have hkk:k<32*K:=(Nat.pow_lt_pow_iff_right (by omega:1<2)).1 (Nat.lt_of_le_of_lt (q0Z (by have:=HB0.out;omega) hkB.1) HB2.out)
    have hki:(k:Int)≤9600000:=by omega
    have d1:=ma.out.a.2.1
    have d3:=ma.out.b.2.1
    simp only[Nat.zero_add,Nat.reduceAdd] at d1 d3
    have HT2:Hid _:=q3o w1 _ A K (by omega) ma.out.na HA2.out ng.out
    clear hkB
    go_wp2_with fail
    refine Calls.mono (P:=Tryz.prog) HT2.out ?_
    rintro e w2 ⟨k2,rfl,AP,hg2⟩
    have EC:Hid (q1R A k2):=AP
    have Ju:k2<32*K:=(Nat.pow_lt_pow_iff_right (by omega:1<2)).1 (Nat.lt_of_le_of_lt (q0Z ng.out AP.1) HA2.out)
    have Jv:(k2:Int)≤9600000:=by omega
    have iH:Hid (RA w2 b n va A vb B'):=ma.out.grow (G.lt hg1 hb) hg2
    have hG2:=G.trans hg1 hg2
    clear AP d1 d3 hg1 hg2 ma HT2
    have d1:=iH.out.a.2.1
    have d3:=iH.out.b.2.1
    simp only[Nat.zero_add,Nat.reduceAdd] at d1 d3
    obtain⟨kb,hkb,hkb2⟩:∃ kb:Nat,(if k2<k then (k2:Int) else (k:Int))=kb∧kb=min k k2:=by
     by_cases hk:k2<k
     ·exact⟨k2,by rw[if_pos hk],by omega⟩
     ·exact⟨k,by rw[if_neg hk],by omega⟩
    have Qu:Hid (kb=min k k2):=hkb2
    have AQ:(kb:Int)≤9600000:=by omega
    have AR:kb≤k:=by omega
    have kP:Hid (A=A/2^kb*2^kb∧B'=B'/2^kb*2^kb):=by
     have h1:=EC.out.1
     have h2:=EB.out.1
     have h3:2^kb∣A:=Nat.dvd_trans (Nat.pow_dvd_pow 2 (by omega)) (Nat.dvd_of_mod_eq_zero h1)
     have h4:2^kb∣B':=Nat.dvd_trans (Nat.pow_dvd_pow 2 AR) (Nat.dvd_of_mod_eq_zero h2)
     exact⟨(Nat.div_mul_cancel h3).symm,(Nat.div_mul_cancel h4).symm⟩
    have uf:Hid (A/2^kb%2=1∨k-kb=0):=by
     show A/2^kb%2=1∨k-kb=0
     by_cases hk:k2<k
     ·have e:kb=k2:=by omega
      rw[e];exact Or.inl EC.out.2
     ·exact Or.inr (by omega)
    have sQ:Hid (q1R (B'/2^kb) (k-kb)):=by
     have h5:=kP.out.2
     obtain⟨h6,h7⟩:=EB.out
     have e:2^k=2^kb*2^(k-kb):=by rw[← Nat.pow_add];congr 1;omega
     constructor
     ·rw[e,Nat.mod_mul] at h6
      have:2^kb*(B'/2^kb%2^(k-kb))=0:=by omega
      rcases Nat.mul_eq_zero.1 this with h|h
      ·exact absurd h (Nat.pos_iff_ne_zero.1 (Nat.two_pow_pos _))
      ·exact h
     ·rw[e,← Nat.div_div_eq_div_mul] at h7;exact h7
    have AU:=iH.out.a.2.2.2
    have AV:=iH.out.b.2.2.2
    simp only[Nat.zero_add,Nat.reduceAdd] at AU AV
    clear hkb2
    by_cases qY:0<kb
    case' pos=>
     have mf:decide (0<kb)=true:=by simpa using qY
     have HR1:Hid (Calls Tryz.prog 134 #[va,.int .u64 (kb:Int)] w2 (q0e w2 (A/2^kb))):=q1m w2 va A kb K (by omega) (by omega) iH.out.na HA2.out
     clear qY
     go_wp2_with fail
     refine Calls.mono (P:=Tryz.prog) HR1.out ?_
     rintro e w3 ⟨Qv,rfl,hg3,kT⟩
     obtain⟨p3,k3,c3',rfl⟩:=q1S kT
     have hr3:=iH.out.grow (G.lt hG2 hb) hg3
     have qZ:Hid (RA (w3.setCell ⟨b,1,none⟩ (Value.slice p3 k3 c3')) b n (Value.slice p3 k3 c3') (A/2^kb) vb B'):=RA.setA hr3 kT
     have vK:Hid (GX b w (w3.setCell ⟨b,1,none⟩ (Value.slice p3 k3 c3'))):=GX.set (GX.of (G.trans hG2 hg3)) (Value.slice p3 k3 c3')
     have hb3:b<(w3.setCell ⟨b,1,none⟩ (Value.slice p3 k3 c3')).heap.size:=by have:=G.lt (G.trans hG2 hg3) hb;simpa [World.setCell] using this
     have e1:=hr3.a.2.1
     have nJ:=hr3.a.2.2.2
     have e3:=hr3.b.2.1
     simp only[Nat.zero_add,Nat.reduceAdd] at e1 nJ e3
     clear hr3 kT d1 d3 AU AV hg3
     go_wp2_with fail
     clear e1 nJ e3 iH HR1
     generalize w3.setCell ⟨b,1,none⟩ (Value.slice p3 k3 c3')=w4 at *
     have HR2:Hid (Calls Tryz.prog 134 #[vb,.int .u64 (kb:Int)] w4 (q0e w4 (B'/2^kb))):=q1m w4 vb B' kb K (by omega) (by omega) qZ.out.nb HB2.out
     refine Calls.mono (P:=Tryz.prog) HR2.out ?_
     rintro e w5 ⟨Qw,rfl,hg5,vL⟩
     obtain⟨p5,k5,r9,rfl⟩:=q1S vL
     have ny:=qZ.out.grow hb3 hg5
     have iI:Hid (RA (w5.setCell ⟨b,3,none⟩ (Value.slice p5 k5 r9)) b n (Value.slice p3 k3 c3') (A/2^kb) (Value.slice p5 k5 r9) (B'/2^kb)):=RA.setB ny vL
     have rf:Hid (GX b w (w5.setCell ⟨b,3,none⟩ (Value.slice p5 k5 r9))):=GX.set (GX.trans vK.out (GX.of hg5)) (Value.slice p5 k5 r9)
     have hb6:b<(w5.setCell ⟨b,3,none⟩ (Value.slice p5 k5 r9)).heap.size:=by have:=G.lt hg5 hb3;simpa [World.setCell] using this
     have e3:=ny.b.2.1
     have nK:=ny.b.2.2.2
     simp only[Nat.reduceAdd] at e3 nK
     have hwk:IntKind.u64.wrap ((k:Int)-kb)=((k-kb:Nat):Int):=by rw[IntKind.wrap_u64];omega
     clear ny vL hg5 qZ vK HR2
     go_wp2_with fail
     clear e3 nK hwk hkb mf
     generalize w5.setCell ⟨b,3,none⟩ (Value.slice p5 k5 r9)=w6 at *
     obtain⟨lq,mg⟩:∃ lq,lq=Value.slice p3 k3 c3':=⟨_,rfl⟩
     obtain⟨nL,jl⟩:∃ nL,nL=Value.slice p5 k5 r9:=⟨_,rfl⟩
     rw[← mg,← jl] at iI
     rw[← jl]
     clear mg jl
    case' neg=>
     obtain rfl:kb=0:=by omega
     have mf:decide (0<0)=false:=rfl
     have iI:Hid (RA w2 b n va (A/2^0) vb (B'/2^0)):=by rw[Nat.pow_zero,Nat.div_one,Nat.div_one];exact iH.out
     have rf:Hid (GX b w w2):=GX.of hG2
     have hb6:=G.lt hG2 hb
     clear iH qY
     go_wp2_with fail
     clear d1 d3 AU AV hkb mf AQ
     obtain⟨kb,vM⟩:∃ kb,kb=0:=⟨_,rfl⟩
     have vN:Hid (A/2^kb%2=1∨k-kb=0):=by rw[vM];exact uf.out
     clear uf
     have uf:Hid (A/2^kb%2=1∨k-kb=0):=vN.out
     clear vN
     rw[← vM] at iI kP sQ
     obtain⟨lq,mg⟩:∃ lq,lq=va:=⟨_,rfl⟩
     obtain⟨nL,jl⟩:∃ nL,nL=vb:=⟨_,rfl⟩
     rw[← mg,← jl] at iI
     rw[← jl]
     have vO:k=k-kb:=by omega
     rw[vO]
     clear mg jl vO
    all_goals
     as_aux_lemma=>
      obtain⟨A1,hA1⟩:∃ A1,A1=A/2^kb:=⟨_,rfl⟩
      obtain⟨B1,hB1⟩:∃ B1,B1=B'/2^kb:=⟨_,rfl⟩
      obtain⟨k1,hk1⟩:∃ k1,k1=k-kb:=⟨_,rfl⟩
      rw[← hA1] at iI kP uf
      rw[← hB1] at iI kP sQ
      rw[← hk1] at uf sQ ⊢
      obtain⟨hA,hB⟩:=kP.out
      have Jw:k1≤32*K:=by omega
      have mh:Hid (A1<2^(32*K)∧B1<2^(32*K)):=by
       rw[hA1,hB1]
       exact⟨Nat.lt_of_le_of_lt (Nat.div_le_self _ _) HA2.out,Nat.lt_of_le_of_lt (Nat.div_le_self _ _) HB2.out⟩
      clear hA1 hB1 hk1
      obtain⟨O,hO⟩:∃ O,O=B1/2^k1:=⟨_,rfl⟩
      have rq:B1=O*2^k1:=by rw[hO];exact(Nat.div_mul_cancel (Nat.dvd_of_mod_eq_zero sQ.out.1)).symm
      have Jy:O%2=1:=by rw[hO];exact sQ.out.2
      have iW:Hid (O<2^(32*K)):=by rw[hO];exact Nat.lt_of_le_of_lt (Nat.div_le_self _ _) mh.out.2
      have AX:Hid _:=q1m _ _ B1 k1 K (by omega) (by omega) iI.out.nb mh.out.2
      rw[← hO] at AX
      have ED:Nat.gcd A1 B1=Nat.gcd A1 O:=by
       rcases uf.out with h|h
       ·rw[rq];exact q74 k1 h
       ·rw[rq,h,Nat.pow_zero,Nat.mul_one]
      have AY:Hid (Nat.gcd A B'=Nat.gcd A1 O*2^kb):=by show Nat.gcd A B'=Nat.gcd A1 O*2^kb;rw[hA,hB,q8l,ED]
      have AZ:0<O:=by omega
      clear hO ED
      refine Calls.mono (P:=Tryz.prog) AX.out ?_
      rintro e w7 ⟨Jz,rfl,ou,Ba⟩
      have jm:Hid (RA w7 b n lq A1 nL B1):=iI.out.grow hb6 ou
      have ru:Hid (GX b w w7):=GX.trans rf.out (GX.of ou)
      have Bb:=G.lt ou hb6
      have JA:Hid (Num w7 Jz O):=Ba
      obtain⟨b7,o7,j7,c7,d7,rfl,Bc,Gx,hd7,hor⟩:=q1G Ba AZ
      have JB:(d7:Int)≤4294967295:=by omega
      have e1:=jm.out.a.2.1
      have e3:=jm.out.b.2.1
      have nJ:=jm.out.a.2.2.2
      have nK:=jm.out.b.2.2.2
      simp only[Nat.zero_add,Nat.reduceAdd] at e1 e3 nJ nK
      clear ou Ba iI rf AX
      have vP:Hid (A=A1*2^kb):=hA
      have EE:Hid (B'=B1*2^kb):=hB
      have xX:Hid (0<O):=AZ
      clear hA hB rq Jy AZ
      rcases hor with ⟨hj1,ry⟩|⟨JC,JD⟩
      case' inl=>
       have Bd:((j7:Int)==1)=true:=by simp;omega
       have JE:(0:Int)<j7:=by omega
       by_cases hd1:d7=1
       case pos=>
        subst hd1
        have hg1:Nat.gcd A B'=2^kb:=by rw[AY.out,← ry,Nat.gcd_one_right,Nat.one_mul]
        have rz:Hid (A/Nat.gcd A B'=A1∧B'/Nat.gcd A B'=B1):=by
         rw[hg1]
         exact⟨by rw[vP.out];exact Nat.mul_div_cancel _ (Nat.two_pow_pos _),by rw[EE.out];exact Nat.mul_div_cancel _ (Nat.two_pow_pos _)⟩
        have nM:Hid (n=true→A1≠0):=fun h h1=>ng.out (by rw[vP.out,h1,Nat.zero_mul])
        clear hg1 hj1 ry
        go_wp2_with fail
        go_ret
        exact⟨rfl,GX.trans wW.out ru.out,q4Q FW.out yJ.out (by rw[rz.out.1,rz.out.2];exact jm.out.is nM.out)⟩
       have Be:((d7:Int)==1)=false:=by simp;omega
       clear hd1 hj1 ry
      case' inr=>
       have Bd:((j7:Int)==1)=false:=by simp;omega
       clear JC JD
      all_goals
       as_aux_lemma=>
        have vQ:0<A1:=by
         rcases Nat.eq_zero_or_pos A1 with h|h
         ·exact absurd (vP.out.trans (by rw[h,Nat.zero_mul])) ng.out
         ·exact h
        have HCM:Hid (Calls Tryz.prog 135 #[lq,.slice (some ⟨b7,o7,none⟩) j7 c7] w7 (q0e w7 (Nat.gcd A1 O))):=q1O w7 lq _ A1 O K hK jm.out.na JA.out vQ mh.out.1 iW.out
        clear vQ
        go_wp2_with fail
        refine Calls.mono (P:=Tryz.prog) HCM.out ?_
        rintro e w8 ⟨JF,rfl,uh,xY⟩
        have xZ:0<Nat.gcd A1 O:=Nat.gcd_pos_of_pos_right _ xX.out
        obtain⟨g,hgg⟩:∃ g,g=Nat.gcd A1 O:=⟨_,rfl⟩
        have Bf:Hid (g∣A1∧g∣O):=by rw[hgg];exact⟨Nat.gcd_dvd_left _ _,Nat.gcd_dvd_right _ _⟩
        rw[← hgg] at xY xZ AY
        have iJ:Hid (RA w8 b n lq A1 nL B1):=jm.out.grow Bb uh
        have rA:Hid (GX b w w8):=GX.trans ru.out (GX.of uh)
        have yU:=G.lt uh Bb
        have lK:Hid (Num w8 JF g):=xY
        have Bg:Hid (0<g):=xZ
        have rz:Hid (A/Nat.gcd A B'=A1/g∧B'/Nat.gcd A B'=B1/g):=by
         rw[AY.out,vP.out,EE.out]
         exact⟨Nat.mul_div_mul_right _ _ (Nat.two_pow_pos _),Nat.mul_div_mul_right _ _ (Nat.two_pow_pos _)⟩
        have vR:Hid (A1≠0):=fun h1=>ng.out (by rw[vP.out,h1,Nat.zero_mul])
        have HG2:Hid (g<2^(32*K)):=Nat.lt_of_le_of_lt (Nat.le_of_dvd xX.out Bf.out.2) iW.out
        obtain⟨b8,o8,j8,c8,d8,rfl,Bh,hc8,Qx,hor⟩:=q1G xY xZ
        have JG:(d8:Int)≤4294967295:=by omega
        clear e1 e3 nJ nK xY xZ hgg uh jm ru HCM Bb Gx Bc
        have e1:=iJ.out.a.2.1
        have e3:=iJ.out.b.2.1
        have nJ:=iJ.out.a.2.2.2
        have nK:=iJ.out.b.2.2.2
        simp only[Nat.zero_add,Nat.reduceAdd] at e1 e3 nJ nK
        rcases hor with ⟨hj1,ry⟩|⟨JH,JI⟩
        case' inl=>
         have Bi:((j8:Int)==1)=true:=by simp;omega
         have JJ:(0:Int)<j8:=by omega
         by_cases hd1:d8=1
         case pos=>
          subst hd1
          have xm:Hid (g=1):=ry.symm
          clear hj1 ry
          go_wp2_with fail
          go_ret
          exact⟨rfl,GX.trans wW.out rA.out,q4Q FW.out yJ.out (by rw[rz.out.1,rz.out.2,xm.out,Nat.div_one,Nat.div_one];exact iJ.out.is (fun _=>vR.out))⟩
         have Be:((d8:Int)==1)=false:=by simp;omega
         clear hd1 hj1 ry
        case' inr=>
         have Bi:((j8:Int)==1)=false:=by simp;omega
         clear JH JI
        all_goals
         as_aux_lemma=>
          have HD1:Hid (Calls Tryz.prog 136 #[lq,.slice (some ⟨b8,o8,none⟩) j8 c8] w8 (q28 w8 (A1/g) (A1%g))):=q6D w8 lq _ A1 g K hK iJ.out.na lK.out mh.out.1 HG2.out Bg.out
          have HD2:Hid (∀ w9,G w8 w9→Calls Tryz.prog 136 #[nL,.slice (some ⟨b8,o8,none⟩) j8 c8] w9 (q28 w9 (B1/g) (B1%g))):=fun w9 k=>q6D w9 nL _ B1 g K hK (iJ.out.nb.G k) (lK.out.G k) mh.out.2 HG2.out Bg.out
          go_wp2_with fail
          refine Calls.mono (P:=Tryz.prog) HD1.out ?_
          rintro e w9 ⟨Qy,Qz,rfl,pY,bL,-⟩
          obtain⟨p9,k9,c9,rfl⟩:=q1S bL
          have oz:Hid (RA w9 b n lq A1 nL B1):=iJ.out.grow yU pY
          have vS:Hid (GX b w w9):=GX.trans rA.out (GX.of pY)
          have JK:=G.lt pY yU
          have jg:Hid (Num w9 (.slice p9 k9 c9) (A1/g)):=bL
          have HD3:Hid _:=HD2.out w9 pY
          clear e1 e3 nJ nK pY bL iJ rA HD1 HD2 hc8 yU Bh
          have e1:=oz.out.a.2.1
          have e3:=oz.out.b.2.1
          simp only[Nat.zero_add,Nat.reduceAdd] at e1 e3
          go_wp2_with fail
          refine Calls.mono (P:=Tryz.prog) HD3.out ?_
          rintro e aM ⟨JL,JM,rfl,oC,rC,-⟩
          obtain⟨EF,k10,c10,rfl⟩:=q1S rC
          have fH:=oz.out.grow JK oC
          have vT:Hid (GX b w aM):=GX.trans vS.out (GX.of oC)
          have Bj:Hid (RA ((aM.setCell ⟨b,1,none⟩ (.slice p9 k9 c9)).setCell ⟨b,3,none⟩ (.slice EF k10 c10)) b n (.slice p9 k9 c9) (A1/g) (.slice EF k10 c10) (B1/g)):=
           RA.setB (RA.setA fH (jg.out.G oC)) (q0t rC fH.a.2.1 (fun z=>q1r fH.na _ z))
          have nM:Hid (n=true→A1/g≠0):=fun _=>Nat.pos_iff_ne_zero.1 (Nat.div_pos (Nat.le_of_dvd (Nat.pos_of_ne_zero vR.out) Bf.out.1) Bg.out)
          clear e1 e3
          have e1:=fH.a.2.1
          have e3:=fH.b.2.1
          have nJ:=fH.a.2.2.2
          have nK:=fH.b.2.2.2
          simp only[Nat.zero_add,Nat.reduceAdd] at e1 e3 nJ nK
          clear fH oC rC oz vS HD3
          go_wp2_with fail
          go_ret
          exact⟨rfl,GX.trans wW.out (GX.set (GX.set vT.out _) _),q4Q FW.out yJ.out (by rw[rz.out.1,rz.out.2];exact Bj.out.is nM.out)⟩
end Go.Proofs.YtljkfjjchkehaaaGreatDoor
