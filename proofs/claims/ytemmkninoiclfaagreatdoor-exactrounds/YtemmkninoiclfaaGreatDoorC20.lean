/- What is proved here: contracts of the reference's ratios: norm, of a lower part below 0, over this seat's translation (the walk is M24's, behind the two signs). -/
import Derived.Test.YtemmkninoiclfaaGreatDoorC18
import Derived.Test.YtemmkninoiclfaaGreatDoorC12
namespace Go.Proofs.YtemmkninoiclfaaGreatDoor
open Go.ChangeShapes Go.WideShapes Go.ChangeAt Go.RowKit
open BN
set_option maxRecDepth 10000 in
set_option maxHeartbeats 4000000 in
theorem q6h {w:World} {b:Nat} {n:Bool} {A B pd:Nat} {pn:Int} (h1:sg n (A/Nat.gcd A B)=pn) (h2:B/Nat.gcd A B=pd) (h:RatIs w b (sg n (A/Nat.gcd A B)) ((B/Nat.gcd A B:Nat):Int)):RatIs w b pn (pd:Int):=by
 rw[h1,h2] at h;exact h
theorem q9P (n:Bool) (a g:Nat):sg n (a/g)=Int.tdiv (sg n a) g:=by
 unfold sg
 cases n<;>simp [Int.neg_tdiv]
set_option maxRecDepth 10000 in
set_option maxHeartbeats 4000000 in
theorem q72 (w0:World) (b:Nat) (sa:Int) (B K:Nat) (hK:K≤300000) (hsa:sa.natAbs<2^(32*K)) (hB2:B<2^(32*K)) (hB0:0<B) (hb0:b<w0.heap.size) (ha:IntIs w0 b 0 sa) (hb':IntIs w0 b 2 (-(B:Int))):
  Calls Tryz.prog 116 #[.pointer (some ⟨b,0,none⟩)] w0 (NormTo w0 b (Int.tdiv (-sa) (Nat.gcd sa.natAbs B:Nat)) (B/Nat.gcd sa.natAbs B)):=by
 obtain⟨pn,hpn⟩:∃ pn,pn=Int.tdiv (-sa) (Nat.gcd sa.natAbs B:Nat):=⟨_,rfl⟩
 obtain⟨pd,tX⟩:∃ pd,pd=B/Nat.gcd sa.natAbs B:=⟨_,rfl⟩
 rw[← hpn,← tX]
 have lH:Hid (∀ w,G w0 w→Calls Tryz.prog 120 #[.pointer (some ⟨b,0,none⟩),.pointer (some ⟨b,0,none⟩)] w (SetTo w b 0 (-sa))):=fun w g=>q4M w b 0 b 0 sa sa K (by omega) hsa (Nat.lt_of_lt_of_le hb0 g.size) (Nat.lt_of_lt_of_le hb0 g.size) (ha.G hb0 g) (ha.G hb0 g)
 have Gh:Hid (∀ w1,b<w1.heap.size→IntIs w1 b 2 (-(B:Int))→Calls Tryz.prog 120 #[.pointer (some ⟨b,2,none⟩),.pointer (some ⟨b,2,none⟩)] w1 (SetTo w1 b 2 (B:Int))):=fun w1 h1 h2=>by
  have h:=q4M w1 b 2 b 2 _ _ K (by omega) (by rw[Int.natAbs_neg,Int.natAbs_natCast];exact hB2) h1 h1 h2 h2
  rw[Int.neg_neg] at h
  exact h
 have Gf:Hid (IntIs w0 b 0 sa):=ha
 have yV:Hid (IntIs w0 b 2 (-(B:Int))):=hb'
 obtain⟨nb,vb,b',⟨c1,c2,-,-⟩,hvb,hsb,-⟩:=hb'
 have hnb:nb=true:=by
  cases nb
  ·unfold sg at hsb;simp at hsb;omega
  ·rfl
 subst hnb
 obtain⟨m,hm,hcm,hmv⟩:=hvb
 obtain⟨pb,cb,rfl,-,-⟩:=q0m hm
 have hm0:m.length≠0:=by
  intro h0
  rw[List.eq_nil_of_length_eq_zero h0] at hmv
  have:b'=0:=hmv.symm
  rw[this] at hsb
  unfold sg at hsb
  simp at hsb
  omega
 have kH:((m.length:Int)==0)=false:=by simp;intro h;exact hm0 (by rw[h];rfl)
 generalize m.length=j at *
 simp only[Nat.reduceAdd] at c2
 have Pd:Hid (0<B):=hB0
 have nY:Hid (sa.natAbs<2^(32*K)):=hsa
 have pW:Hid (B<2^(32*K)):=hB2
 clear hm hcm hmv hsb hm0 ha hB0 hsa hB2
 go_enter Tryz.func116,Tryz.ntmps116
 go_wp2_with fail
 refine q08 6 1 #[true,true,true,true,true,true,false] [.is (.pointer (some ⟨b,0,none⟩)),.is (.pointer (some ⟨b,0,none⟩)),.is (.pointer (some ⟨b,0,none⟩)),.is (.pointer (some ⟨b,0,none⟩)),.is (.pointer (some ⟨b,0,none⟩)),.is (.pointer (some ⟨b,0,none⟩))] [some 27,some 28,some 29,some 30,some 31,some 32] (by kernel_rfl) (by kernel_rfl) rfl (by kernel_rfl) (by repeat (first|exact trivial|refine⟨fun _ _ _ g h=>by first|exact h.G g|exact fun w3 g3=>h w3 (G.trans g g3),?_⟩)) (by kernel_rfl) (by kernel_rfl) ?_
 refine Letters.is ?_
 refine Letters.is ?_
 refine Letters.is ?_
 refine Letters.is ?_
 refine Letters.is ?_
 refine Letters.is ?_
 refine Letters.nil ?_
 intro A hA
 simp only[q0V,Act.put,List.setIfInBounds_toArray,List.set_cons_zero,List.set_cons_succ] at hA
 subst hA
 refine⟨?_,?_⟩
 ·skip
  refine Eaches.cons rfl ?il (Eaches.cons rfl ?iI (Eaches.cons rfl ?iq (Eaches.cons rfl ?iJ (Eaches.cons rfl ?jS (Eaches.cons rfl ?jT (Eaches.nil))))))
  case il|iI|iq|iJ|jS|jT=>
   intro W hW hD K hK
   clear hD
   go_simp
   exact hK.out _ _ ⟨_,rfl,G.refl _,rfl⟩
 intro wa ga hH
 clear hH
 refine wpAny_ready (rs:=[6]) (by kernel_rfl) (by simp) ?_
 refine AllReady.cons rfl (fun K hK=> ?_) AllReady.nil
 go_simp
 go_wp2_with (go_at_call 120;refine Calls.mono (P:=Tryz.prog) (lH.out wa ga) ?_;intro e w1 hs;have hs':=hs;obtain⟨rfl,-,-,-⟩:=hs)
 refine wpAny_done (by kernel_rfl) ?_ _
 have hs:=SetTo.after hb0 ga hs'
 have hk1:=SetTo.keep Gf.out hs yV.out hb0 (Or.inr (Or.inr (by omega)))
 obtain⟨-,BS,-,hi1⟩:=hs
 have hb1:b<w1.heap.size:=Nat.lt_of_lt_of_le hb0 BS.size
 have Gi:Hid (∀ w,G w1 w→_):=fun w g=>Gh.out w (Nat.lt_of_lt_of_le hb1 g.size) (hk1.G hb1 g)
 have HI1:Hid (IntIs w1 b 0 (-sa)):=hi1
 have qL:Hid (IntIs w1 b 2 (-(B:Int))):=hk1
 clear lH Gh Gf yV hk1 hi1 c1 c2 kH hs' ga
 go_wp2_with fail
 refine q08 6 1 #[true,true,true,true,true,true,false] [.is (.pointer (some ⟨b,0,none⟩)),.is (.pointer (some ⟨b,0,none⟩)),.is (.pointer (some ⟨b,2,none⟩)),.is (.pointer (some ⟨b,0,none⟩)),.is (.pointer (some ⟨b,0,none⟩)),.is (.pointer (some ⟨b,2,none⟩))] [some 34,some 35,some 36,some 37,some 38,some 39] (by kernel_rfl) (by kernel_rfl) rfl (by kernel_rfl) (by repeat (first|exact trivial|refine⟨fun _ _ _ g h=>by first|exact h.G g|exact fun w3 g3=>h w3 (G.trans g g3),?_⟩)) (by kernel_rfl) (by kernel_rfl) ?_
 refine Letters.is ?_
 refine Letters.is ?_
 refine Letters.is ?_
 refine Letters.is ?_
 refine Letters.is ?_
 refine Letters.is ?_
 refine Letters.nil ?_
 intro A hA
 simp only[q0V,Act.put,List.setIfInBounds_toArray,List.set_cons_zero,List.set_cons_succ] at hA
 subst hA
 refine⟨?_,?_⟩
 ·skip
  refine Eaches.cons rfl ?kS (Eaches.cons rfl ?nk (Eaches.cons rfl ?kT (Eaches.cons rfl ?lL (Eaches.cons rfl ?ou (Eaches.cons rfl ?nu (Eaches.nil))))))
  case kS|nk|kT|lL|ou|nu=>
   intro W hW hD K hK
   clear hD
   go_simp
   exact hK.out _ _ ⟨_,rfl,G.refl _,rfl⟩
 intro wb gb hH
 clear hH
 refine wpAny_ready (rs:=[6]) (by kernel_rfl) (by simp) ?_
 refine AllReady.cons rfl (fun K hK=> ?_) AllReady.nil
 go_simp
 go_wp2_with (go_at_call 120;refine Calls.mono (P:=Tryz.prog) (Gi.out wb gb) ?_;intro e w hs;have hs':=hs;obtain⟨rfl,-,-,-⟩:=hs)
 refine wpAny_done (by kernel_rfl) ?_ _
 have hs:=SetTo.after hb1 gb hs'
 have hk2:=SetTo.keep qL.out hs HI1.out hb1 (Or.inr (Or.inl (by omega)))
 obtain⟨-,hgx2,-,hi2⟩:=hs
 have hb:b<w.heap.size:=Nat.lt_of_lt_of_le hb1 hgx2.size
 have vO:Hid (GX b w0 w):=GX.trans BS hgx2
 clear Gi HI1 qL BS hgx2 hb0 hb1 hs' gb
 obtain⟨n,va,A,ia,I4,ea,lC⟩:=hk2
 obtain⟨n2,vb,B',ib,I5,eb,I6⟩:=hi2
 have hn2:n2=false:=by
  cases n2
  ·rfl
  ·have h1:=I6 rfl
   unfold sg at eb;simp at eb;omega
 subst hn2
 have Cm:B'=B:=by unfold sg at eb;simp at eb;omega
 subst Cm
 have hAs:A=sa.natAbs:=by have h1:=q0Q ea;rw[Int.natAbs_neg] at h1;exact h1
 have Gj:Hid (sg n (A/Nat.gcd A B')=pn):=by
  show sg n (A/Nat.gcd A B')=pn
  rw[q9P,ea,hpn,← hAs]
 have Gl:Hid (B'/Nat.gcd A B'=pd):=by show B'/Nat.gcd A B'=pd;rw[tX,← hAs]
 clear hpn tX
 have hA2:A<2^(32*K):=by rw[hAs];exact nY.out
 have hB2:=pW.out
 have hB0:=Pd.out
 have h:RA w b n va A vb B':=⟨ia,I4,ib,I5⟩
 clear ia I4 ib I5 ea eb I6 hAs nY pW Pd
 have jU:Hid (RA w b n va A vb B'):=h
 obtain⟨⟨c1,c2,f1,f2⟩,na,⟨c3,c4,f3,f4⟩,nb⟩:=h
 obtain⟨l,hl,hcl,hlv⟩:=na
 obtain⟨m,hm,hcm,hmv⟩:=nb
 obtain⟨pa,ca,rfl,eX,-⟩:=q0m hl
 obtain⟨pb,cb,rfl,hcb,hrb⟩:=q0m hm
 have hm0:m.length≠0:=by
  intro h0
  rw[List.eq_nil_of_length_eq_zero h0] at hmv
  have:B'=0:=hmv.symm
  omega
 have kH:((m.length:Int)==0)=false:=by simp;intro h;exact hm0 (by rw[h];rfl)
 by_cases gJ:A=0
 ·have hl0:l.length=0:=by
   rw[gJ] at hlv
   rw[(q0U hcl).1 hlv];rfl
  have hn:n=false:=by
   cases n
   ·rfl
   ·exact absurd gJ (lC rfl)
  subst hn gJ
  have Cn:Hid (pn=0):=by show pn=0;rw[← Gj.out,Nat.zero_div];rfl
  have jD:Hid (pd=1):=by show pd=1;rw[← Gl.out,Nat.gcd_zero_left,Nat.div_self hB0]
  have HS:Hid (Calls Tryz.prog 145 #[.pointer (some ⟨b,2,none⟩),.int .i64 1] w (SetTo w b 2 1)):=q8g w b 2 1 B' (by omega) hb (jU.out.is lC).2
  have IW:Hid (IntIs w b 0 0):=(jU.out.is lC).1
  have HR2:Hid (IntIs w b 2 B'):=(jU.out.is lC).2
  rw[hl0] at c2
  generalize m.length=j at *
  clear hl hm hcl hcm hlv hmv hcb eX hm0 hrb hl0 f1 f2 f3 f4
  go_wp2_with fail
  refine Calls.mono (P:=Tryz.prog) HS.out ?_
  intro e w2 hs
  have hk:=SetTo.keep HR2.out hs IW.out hb (Or.inr (Or.inl (by omega)))
  obtain⟨rfl,h1,-,h2⟩:=hs
  go_wp2_with fail
  go_ret
  exact⟨rfl,GX.trans vO.out h1,by rw[Cn.out];exact hk,by rw[jD.out];exact h2⟩
 ·have hl0:l.length≠0:=by
   intro h0
   rw[List.eq_nil_of_length_eq_zero h0] at hlv
   exact gJ hlv.symm
  have rD:((l.length:Int)==0)=false:=by simp;intro h;exact hl0 (by rw[h];rfl)
  obtain⟨bb,ob,hpb,tZ,hcb0⟩:=hrb 0 (by omega)
  subst hpb
  rw[Nat.add_zero] at hcb0
  have lh:Hid (A≠0):=gJ
  have HB0:Hid (0<B'):=hB0
  have HA2:Hid (A<2^(32*K)):=hA2
  have HB2:Hid (B'<2^(32*K)):=hB2
  have gP:Hid (n=true→A≠0):=lC
  have hwd:=q04 hcm.1 0
  have pF:((m.getD 0 0:Nat):Int)≤4294967295:=by omega
  by_cases hm1:m.length=1
  case' pos=>
   have zq:m.getD 0 0=B':=by
    obtain⟨x,rfl⟩:=List.length_eq_one_iff.1 hm1
    rw[q1g] at hmv
    simpa using hmv
   rw[zq] at hcb0 pF
   rw[hm1] at c4 kH jU
   by_cases hB1:B'=1
   case pos=>
    subst hB1
    have HR:Hid _:=jU.out.is lC
    have Cn:Hid (pn=sg n A):=by show pn=sg n A;rw[← Gj.out,Nat.gcd_one_right,Nat.div_one]
    have jD:Hid (pd=1):=by show pd=1;rw[← Gl.out,Nat.gcd_one_right,Nat.div_one]
    generalize l.length=i at *
    clear hl hm hcl hcm hlv hmv hcb eX hm0 hrb hl0 f1 f2 f3 f4 hA2 hB2 hB0 lC hwd hm1 zq gJ
    go_wp2_with fail
    go_ret
    exact⟨rfl,vO.out,by rw[Cn.out,jD.out];exact HR.out⟩
   have zt:((B':Int)==1)=false:=by simp;omega
   generalize l.length=i at *
   clear hl hm hcl hcm hlv hmv hcb eX hm0 hrb hl0 f1 f2 f3 f4 hA2 hB2 hB0 lC hwd hm1 zq gJ hB1
   go_wp2_with fail
   clear hcb0 kH zt rD c1 c3 tZ pF
   obtain⟨vb,hvb⟩:∃ vb,vb=Value.slice (some ⟨bb,ob,none⟩) 1 cb:=⟨_,rfl⟩
  case' neg=>
   have zu:((m.length:Int)==1)=false:=by simp;intro h;exact hm1 (by omega)
   generalize l.length=i at *
   generalize m.length=j at *
   clear hl hm hcl hcm hlv hmv hcb eX hm0 hrb hl0 f1 f2 f3 f4 hA2 hB2 hB0 lC hwd hm1 pF hcb0 gJ
   go_wp2_with fail
   clear kH zu rD c1 c3 tZ
   obtain⟨vb,hvb⟩:∃ vb,vb=Value.slice (some ⟨bb,ob,none⟩) j cb:=⟨_,rfl⟩
  all_goals
   as_aux_lemma=>
    obtain⟨va,hva⟩:∃ va,va=Value.slice pa i ca:=⟨_,rfl⟩
    rw[← hvb] at jU ⊢
    rw[← hva] at jU
    clear hva hvb
    clear c2 c4
    refine Calls.mono (P:=Tryz.prog) (q3s w _ B' K (by omega) jU.out.nb HB2.out (by have:=HB0.out;omega)) ?_
    rintro e w1 ⟨k,rfl,hkB,hg1⟩
    have zw:Hid (q20 B' k):=hkB
    have kI:Hid (RA w1 b n va A vb B'):=jU.out.grow hb hg1
    have hkk:k<32*K:=(Nat.pow_lt_pow_iff_right (by omega:1<2)).1 (Nat.lt_of_le_of_lt (q1a (by have:=HB0.out;omega) hkB.1) HB2.out)
    have hki:(k:Int)≤9600000:=by omega
    have d1:=kI.out.a.2.1
    have d3:=kI.out.b.2.1
    simp only[Nat.zero_add,Nat.reduceAdd] at d1 d3
    have HT2:Hid _:=q3s w1 _ A K (by omega) kI.out.na HA2.out lh.out
    clear hkB
    go_wp2_with fail
    refine Calls.mono (P:=Tryz.prog) HT2.out ?_
    rintro e w2 ⟨k2,rfl,zx,hg2⟩
    have Dl:Hid (q20 A k2):=zx
    have IX:k2<32*K:=(Nat.pow_lt_pow_iff_right (by omega:1<2)).1 (Nat.lt_of_le_of_lt (q1a lh.out zx.1) HA2.out)
    have IY:(k2:Int)≤9600000:=by omega
    have gu:Hid (RA w2 b n va A vb B'):=kI.out.grow (G.lt hg1 hb) hg2
    have hG2:=G.trans hg1 hg2
    clear zx d1 d3 hg1 hg2 kI HT2
    have d1:=gu.out.a.2.1
    have d3:=gu.out.b.2.1
    simp only[Nat.zero_add,Nat.reduceAdd] at d1 d3
    obtain⟨kb,hkb,hkb2⟩:∃ kb:Nat,(if k2<k then (k2:Int) else (k:Int))=kb∧kb=min k k2:=by
     by_cases hk:k2<k
     ·exact⟨k2,by rw[if_pos hk],by omega⟩
     ·exact⟨k,by rw[if_neg hk],by omega⟩
    have PL:Hid (kb=min k k2):=hkb2
    have zy:(kb:Int)≤9600000:=by omega
    have zz:kb≤k:=by omega
    have dC:Hid (A=A/2^kb*2^kb∧B'=B'/2^kb*2^kb):=by
     have h1:=Dl.out.1
     have h2:=zw.out.1
     have h3:2^kb∣A:=Nat.dvd_trans (Nat.pow_dvd_pow 2 (by omega)) (Nat.dvd_of_mod_eq_zero h1)
     have h4:2^kb∣B':=Nat.dvd_trans (Nat.pow_dvd_pow 2 zz) (Nat.dvd_of_mod_eq_zero h2)
     exact⟨(Nat.div_mul_cancel h3).symm,(Nat.div_mul_cancel h4).symm⟩
    have rE:Hid (A/2^kb%2=1∨k-kb=0):=by
     show A/2^kb%2=1∨k-kb=0
     by_cases hk:k2<k
     ·have e:kb=k2:=by omega
      rw[e];exact Or.inl Dl.out.2
     ·exact Or.inr (by omega)
    have qM:Hid (q20 (B'/2^kb) (k-kb)):=by
     have h5:=dC.out.2
     obtain⟨h6,h7⟩:=zw.out
     have e:2^k=2^kb*2^(k-kb):=by rw[← Nat.pow_add];congr 1;omega
     constructor
     ·rw[e,Nat.mod_mul] at h6
      have:2^kb*(B'/2^kb%2^(k-kb))=0:=by omega
      rcases Nat.mul_eq_zero.1 this with h|h
      ·exact absurd h (Nat.pos_iff_ne_zero.1 (Nat.two_pow_pos _))
      ·exact h
     ·rw[e,← Nat.div_div_eq_div_mul] at h7;exact h7
    have zA:=gu.out.a.2.2.2
    have zB:=gu.out.b.2.2.2
    simp only[Nat.zero_add,Nat.reduceAdd] at zA zB
    clear hkb2
    by_cases pG:0<kb
    case' pos=>
     have kJ:decide (0<kb)=true:=by simpa using pG
     have HR1:Hid (Calls Tryz.prog 173 #[va,.int .u64 (kb:Int)] w2 (q0e w2 (A/2^kb))):=q1e w2 va A kb K (by omega) (by omega) gu.out.na HA2.out
     clear pG
     go_wp2_with fail
     refine Calls.mono (P:=Tryz.prog) HR1.out ?_
     rintro e w3 ⟨PM,rfl,hg3,ji⟩
     obtain⟨p3,k3,c3',rfl⟩:=q21 ji
     have hr3:=gu.out.grow (G.lt hG2 hb) hg3
     have pI:Hid (RA (w3.setCell ⟨b,1,none⟩ (Value.slice p3 k3 c3')) b n (Value.slice p3 k3 c3') (A/2^kb) vb B'):=RA.setA hr3 ji
     have uf:Hid (GX b w (w3.setCell ⟨b,1,none⟩ (Value.slice p3 k3 c3'))):=GX.set (GX.of (G.trans hG2 hg3)) (Value.slice p3 k3 c3')
     have hb3:b<(w3.setCell ⟨b,1,none⟩ (Value.slice p3 k3 c3')).heap.size:=by have:=G.lt (G.trans hG2 hg3) hb;simpa [World.setCell] using this
     have e1:=hr3.a.2.1
     have lD:=hr3.a.2.2.2
     have e3:=hr3.b.2.1
     simp only[Nat.zero_add,Nat.reduceAdd] at e1 lD e3
     clear hr3 ji d1 d3 zA zB hg3
     go_wp2_with fail
     clear e1 lD e3 gu HR1
     generalize w3.setCell ⟨b,1,none⟩ (Value.slice p3 k3 c3')=w4 at *
     have HR2:Hid (Calls Tryz.prog 173 #[vb,.int .u64 (kb:Int)] w4 (q0e w4 (B'/2^kb))):=q1e w4 vb B' kb K (by omega) (by omega) pI.out.nb HB2.out
     refine Calls.mono (P:=Tryz.prog) HR2.out ?_
     rintro e w5 ⟨PN,rfl,hg5,uh⟩
     obtain⟨p5,k5,pJ,rfl⟩:=q21 uh
     have wS:=pI.out.grow hb3 hg5
     have gy:Hid (RA (w5.setCell ⟨b,3,none⟩ (Value.slice p5 k5 pJ)) b n (Value.slice p3 k3 c3') (A/2^kb) (Value.slice p5 k5 pJ) (B'/2^kb)):=RA.setB wS uh
     have pK:Hid (GX b w (w5.setCell ⟨b,3,none⟩ (Value.slice p5 k5 pJ))):=GX.set (GX.trans uf.out (GX.of hg5)) (Value.slice p5 k5 pJ)
     have hb6:b<(w5.setCell ⟨b,3,none⟩ (Value.slice p5 k5 pJ)).heap.size:=by have:=G.lt hg5 hb3;simpa [World.setCell] using this
     have e3:=wS.b.2.1
     have lF:=wS.b.2.2.2
     simp only[Nat.reduceAdd] at e3 lF
     have hwk:IntKind.u64.wrap ((k:Int)-kb)=((k-kb:Nat):Int):=by rw[IntKind.wrap_u64];omega
     clear wS uh hg5 pI uf HR2
     go_wp2_with fail
     clear e3 lF hwk hkb kJ
     generalize w5.setCell ⟨b,3,none⟩ (Value.slice p5 k5 pJ)=w6 at *
     obtain⟨jP,kK⟩:∃ jP,jP=Value.slice p3 k3 c3':=⟨_,rfl⟩
     obtain⟨lG,ic⟩:∃ lG,lG=Value.slice p5 k5 pJ:=⟨_,rfl⟩
     rw[← kK,← ic] at gy
     rw[← ic]
     clear kK ic
    case' neg=>
     obtain rfl:kb=0:=by omega
     have kJ:decide (0<0)=false:=rfl
     have gy:Hid (RA w2 b n va (A/2^0) vb (B'/2^0)):=by rw[Nat.pow_zero,Nat.div_one,Nat.div_one];exact gu.out
     have pK:Hid (GX b w w2):=GX.of hG2
     have hb6:=G.lt hG2 hb
     clear gu pG
     go_wp2_with fail
     clear d1 d3 zA zB hkb kJ zy
     obtain⟨kb,ui⟩:∃ kb,kb=0:=⟨_,rfl⟩
     have uj:Hid (A/2^kb%2=1∨k-kb=0):=by rw[ui];exact rE.out
     clear rE
     have rE:Hid (A/2^kb%2=1∨k-kb=0):=uj.out
     clear uj
     rw[← ui] at gy dC qM
     obtain⟨jP,kK⟩:∃ jP,jP=va:=⟨_,rfl⟩
     obtain⟨lG,ic⟩:∃ lG,lG=vb:=⟨_,rfl⟩
     rw[← kK,← ic] at gy
     rw[← ic]
     have uk:k=k-kb:=by omega
     rw[uk]
     clear kK ic uk
    all_goals
     as_aux_lemma=>
      obtain⟨A1,hA1⟩:∃ A1,A1=A/2^kb:=⟨_,rfl⟩
      obtain⟨B1,hB1⟩:∃ B1,B1=B'/2^kb:=⟨_,rfl⟩
      obtain⟨k1,hk1⟩:∃ k1,k1=k-kb:=⟨_,rfl⟩
      rw[← hA1] at gy dC rE
      rw[← hB1] at gy dC qM
      rw[← hk1] at rE qM ⊢
      obtain⟨hA,hB⟩:=dC.out
      have IZ:k1≤32*K:=by omega
      have kL:Hid (A1<2^(32*K)∧B1<2^(32*K)):=by
       rw[hA1,hB1]
       exact⟨Nat.lt_of_le_of_lt (Nat.div_le_self _ _) HA2.out,Nat.lt_of_le_of_lt (Nat.div_le_self _ _) HB2.out⟩
      clear hA1 hB1 hk1
      obtain⟨O,hO⟩:∃ O,O=B1/2^k1:=⟨_,rfl⟩
      have pM:B1=O*2^k1:=by rw[hO];exact(Nat.div_mul_cancel (Nat.dvd_of_mod_eq_zero qM.out.1)).symm
      have J2:O%2=1:=by rw[hO];exact qM.out.2
      have jG:Hid (O<2^(32*K)):=by rw[hO];exact Nat.lt_of_le_of_lt (Nat.div_le_self _ _) kL.out.2
      have zC:Hid _:=q1e _ _ B1 k1 K (by omega) (by omega) gy.out.nb kL.out.2
      rw[← hO] at zC
      have Dm:Nat.gcd A1 B1=Nat.gcd A1 O:=by
       rcases rE.out with h|h
       ·rw[pM];exact q7Q k1 h
       ·rw[pM,h,Nat.pow_zero,Nat.mul_one]
      have zD:Hid (Nat.gcd A B'=Nat.gcd A1 O*2^kb):=by show Nat.gcd A B'=Nat.gcd A1 O*2^kb;rw[hA,hB,q78,Dm]
      have zF:0<O:=by omega
      clear hO Dm
      refine Calls.mono (P:=Tryz.prog) zC.out ?_
      rintro e w7 ⟨J3,rfl,mK,tK⟩
      have ig:Hid (RA w7 b n jP A1 lG B1):=gy.out.grow hb6 mK
      have pO:Hid (GX b w w7):=GX.trans pK.out (GX.of mK)
      have zG:=G.lt mK hb6
      have J4:Hid (Num w7 J3 O):=tK
      obtain⟨b7,o7,j7,c7,d7,rfl,zH,GQ,hd7,hor⟩:=q1K tK zF
      have J5:(d7:Int)≤4294967295:=by omega
      have e1:=ig.out.a.2.1
      have e3:=ig.out.b.2.1
      have lD:=ig.out.a.2.2.2
      have lF:=ig.out.b.2.2.2
      simp only[Nat.zero_add,Nat.reduceAdd] at e1 e3 lD lF
      clear mK tK gy pK zC
      have um:Hid (A=A1*2^kb):=hA
      have Dn:Hid (B'=B1*2^kb):=hB
      have Dp:Hid (0<O):=zF
      clear hA hB pM J2 zF
      rcases hor with ⟨hj1,pQ⟩|⟨J6,J7⟩
      case' inl=>
       have zI:((j7:Int)==1)=true:=by simp;omega
       have J8:(0:Int)<j7:=by omega
       by_cases hd1:d7=1
       case pos=>
        subst hd1
        have hg1:Nat.gcd A B'=2^kb:=by rw[zD.out,← pQ,Nat.gcd_one_right,Nat.one_mul]
        have pR:Hid (A/Nat.gcd A B'=A1∧B'/Nat.gcd A B'=B1):=by
         rw[hg1]
         exact⟨by rw[um.out];exact Nat.mul_div_cancel _ (Nat.two_pow_pos _),by rw[Dn.out];exact Nat.mul_div_cancel _ (Nat.two_pow_pos _)⟩
        have lH:Hid (n=true→A1≠0):=fun h h1=>lh.out (by rw[um.out,h1,Nat.zero_mul])
        clear hg1 hj1 pQ
        go_wp2_with fail
        go_ret
        exact⟨rfl,GX.trans vO.out pO.out,q6h Gj.out Gl.out (by rw[pR.out.1,pR.out.2];exact ig.out.is lH.out)⟩
       have zJ:((d7:Int)==1)=false:=by simp;omega
       clear hd1 hj1 pQ
      case' inr=>
       have zI:((j7:Int)==1)=false:=by simp;omega
       clear J6 J7
      all_goals
       as_aux_lemma=>
        have uo:0<A1:=by
         rcases Nat.eq_zero_or_pos A1 with h|h
         ·exact absurd (um.out.trans (by rw[h,Nat.zero_mul])) lh.out
         ·exact h
        have HCM:Hid (Calls Tryz.prog 174 #[jP,.slice (some ⟨b7,o7,none⟩) j7 c7] w7 (q0e w7 (Nat.gcd A1 O))):=q1W w7 jP _ A1 O K hK ig.out.na J4.out uo kL.out.1 jG.out
        clear uo
        go_wp2_with fail
        refine Calls.mono (P:=Tryz.prog) HCM.out ?_
        rintro e w8 ⟨J9,rfl,rF,rA⟩
        have wT:0<Nat.gcd A1 O:=Nat.gcd_pos_of_pos_right _ Dp.out
        obtain⟨g,hgg⟩:∃ g,g=Nat.gcd A1 O:=⟨_,rfl⟩
        have zK:Hid (g∣A1∧g∣O):=by rw[hgg];exact⟨Nat.gcd_dvd_left _ _,Nat.gcd_dvd_right _ _⟩
        rw[← hgg] at rA wT zD
        have gz:Hid (RA w8 b n jP A1 lG B1):=ig.out.grow zG rF
        have pU:Hid (GX b w w8):=GX.trans pO.out (GX.of rF)
        have zL:=G.lt rF zG
        have jK:Hid (Num w8 J9 g):=rA
        have zM:Hid (0<g):=wT
        have pR:Hid (A/Nat.gcd A B'=A1/g∧B'/Nat.gcd A B'=B1/g):=by
         rw[zD.out,um.out,Dn.out]
         exact⟨Nat.mul_div_mul_right _ _ (Nat.two_pow_pos _),Nat.mul_div_mul_right _ _ (Nat.two_pow_pos _)⟩
        have uq:Hid (A1≠0):=fun h1=>lh.out (by rw[um.out,h1,Nat.zero_mul])
        have HG2:Hid (g<2^(32*K)):=Nat.lt_of_le_of_lt (Nat.le_of_dvd Dp.out zK.out.2) jG.out
        obtain⟨b8,o8,j8,c8,d8,rfl,zN,hc8,PO,hor⟩:=q1K rA wT
        have Ja:(d8:Int)≤4294967295:=by omega
        clear e1 e3 lD lF rA wT hgg rF ig pO HCM zG GQ zH
        have e1:=gz.out.a.2.1
        have e3:=gz.out.b.2.1
        have lD:=gz.out.a.2.2.2
        have lF:=gz.out.b.2.2.2
        simp only[Nat.zero_add,Nat.reduceAdd] at e1 e3 lD lF
        rcases hor with ⟨hj1,pQ⟩|⟨Jb,Jc⟩
        case' inl=>
         have zO:((j8:Int)==1)=true:=by simp;omega
         have Jd:(0:Int)<j8:=by omega
         by_cases hd1:d8=1
         case pos=>
          subst hd1
          have vW:Hid (g=1):=pQ.symm
          clear hj1 pQ
          go_wp2_with fail
          go_ret
          exact⟨rfl,GX.trans vO.out pU.out,q6h Gj.out Gl.out (by rw[pR.out.1,pR.out.2,vW.out,Nat.div_one,Nat.div_one];exact gz.out.is (fun _=>uq.out))⟩
         have zJ:((d8:Int)==1)=false:=by simp;omega
         clear hd1 hj1 pQ
        case' inr=>
         have zO:((j8:Int)==1)=false:=by simp;omega
         clear Jb Jc
        all_goals
         as_aux_lemma=>
          have HD1:Hid (Calls Tryz.prog 175 #[jP,.slice (some ⟨b8,o8,none⟩) j8 c8] w8 (q2l w8 (A1/g) (A1%g))):=q6D w8 jP _ A1 g K hK gz.out.na jK.out kL.out.1 HG2.out zM.out
          have HD2:Hid (∀ w9,G w8 w9→Calls Tryz.prog 175 #[lG,.slice (some ⟨b8,o8,none⟩) j8 c8] w9 (q2l w9 (B1/g) (B1%g))):=fun w9 k=>q6D w9 lG _ B1 g K hK (gz.out.nb.G k) (jK.out.G k) kL.out.2 HG2.out zM.out
          go_wp2_with fail
          refine Calls.mono (P:=Tryz.prog) HD1.out ?_
          rintro e w9 ⟨PQ,PS,rfl,nZ,aO,-⟩
          obtain⟨p9,k9,c9,rfl⟩:=q21 aO
          have mM:Hid (RA w9 b n jP A1 lG B1):=gz.out.grow zL nZ
          have uw:Hid (GX b w w9):=GX.trans pU.out (GX.of nZ)
          have Je:=G.lt nZ zL
          have iG:Hid (Num w9 (.slice p9 k9 c9) (A1/g)):=aO
          have HD3:Hid _:=HD2.out w9 nZ
          clear e1 e3 lD lF nZ aO gz pU HD1 HD2 hc8 zL zN
          have e1:=mM.out.a.2.1
          have e3:=mM.out.b.2.1
          simp only[Nat.zero_add,Nat.reduceAdd] at e1 e3
          go_wp2_with fail
          refine Calls.mono (P:=Tryz.prog) HD3.out ?_
          rintro e bE ⟨Jf,Jg,rfl,mO,pV,-⟩
          obtain⟨Dq,k10,c10,rfl⟩:=q21 pV
          have dY:=mM.out.grow Je mO
          have uy:Hid (GX b w bE):=GX.trans uw.out (GX.of mO)
          have zP:Hid (RA ((bE.setCell ⟨b,1,none⟩ (.slice p9 k9 c9)).setCell ⟨b,3,none⟩ (.slice Dq k10 c10)) b n (.slice p9 k9 c9) (A1/g) (.slice Dq k10 c10) (B1/g)):=
           RA.setB (RA.setA dY (iG.out.G mO)) (num_other pV dY.a.2.1 (fun z=>q1B dY.na _ z))
          have lH:Hid (n=true→A1/g≠0):=fun _=>Nat.pos_iff_ne_zero.1 (Nat.div_pos (Nat.le_of_dvd (Nat.pos_of_ne_zero uq.out) zK.out.1) zM.out)
          clear e1 e3
          have e1:=dY.a.2.1
          have e3:=dY.b.2.1
          have lD:=dY.a.2.2.2
          have lF:=dY.b.2.2.2
          simp only[Nat.zero_add,Nat.reduceAdd] at e1 e3 lD lF
          clear dY mO pV mM uw HD3
          go_wp2_with fail
          go_ret
          exact⟨rfl,GX.trans vO.out (GX.set (GX.set uy.out _) _),q6h Gj.out Gl.out (by rw[pR.out.1,pR.out.2];exact zP.out.is lH.out)⟩
end Go.Proofs.YtemmkninoiclfaaGreatDoor
