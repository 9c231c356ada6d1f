/- What is proved here: contracts of the reference's ratios: norm, of a lower part below 0, over this seat's translation (the walk is M24's, behind the two signs). -/
import Derived.Test.YtbfjihniphldaaaGreatDoorC14
import Derived.Test.YtbfjihniphldaaaGreatDoorC28
import Derived.Test.YtbfjihniphldaaaGreatDoorC7
namespace Go.Proofs.YtbfjihniphldaaaGreatDoor
open Go.ChangeShapes Go.WideShapes Go.ChangeAt Go.RowKit
open BN
set_option maxRecDepth 10000 in
set_option maxHeartbeats 4000000 in
theorem q6i {w:World} {b:Nat} {n:Bool} {A B pd:Nat} {pn:Int} (h1:sg n (A/Nat.gcd A B)=pn) (h2:B/Nat.gcd A B=pd) (h:RatIs w b (sg n (A/Nat.gcd A B)) ((B/Nat.gcd A B:Nat):Int)):RatIs w b pn (pd:Int):=by
 rw[h1,h2] at h;exact h
theorem q9S (n:Bool) (a g:Nat):sg n (a/g)=Int.tdiv (sg n a) g:=by
 unfold sg;cases n<;>simp [Int.neg_tdiv]
set_option maxRecDepth 10000 in
set_option maxHeartbeats 4000000 in
theorem q74 (w0:World) (b:Nat) (sa:Int) (B K:Nat) (hK:K≤300000) (hsa:sa.natAbs<2^(32*K)) (hB2:B<2^(32*K)) (hB0:0<B) (hb0:b<w0.heap.size) (ha:IntIs w0 b 0 sa) (hb':IntIs w0 b 2 (-(B:Int))):
  Calls Tryz.prog 116 #[.pointer (some ⟨b,0,none⟩)] w0 (NormTo w0 b (Int.tdiv (-sa) (Nat.gcd sa.natAbs B:Nat)) (B/Nat.gcd sa.natAbs B)):=by
 obtain⟨pn,hpn⟩:∃ pn,pn=Int.tdiv (-sa) (Nat.gcd sa.natAbs B:Nat):=⟨_,rfl⟩;obtain⟨pd,ru⟩:∃ pd,pd=B/Nat.gcd sa.natAbs B:=⟨_,rfl⟩;rw[← hpn,← ru];have ku:Hid (∀ w,G w0 w→Calls Tryz.prog 120 #[.pointer (some ⟨b,0,none⟩),.pointer (some ⟨b,0,none⟩)] w (SetTo w b 0 (-sa))):=fun w g=>q4M w b 0 b 0 sa sa K (by omega) hsa (Nat.lt_of_lt_of_le hb0 g.size) (Nat.lt_of_lt_of_le hb0 g.size) (ha.G hb0 g) (ha.G hb0 g);have Fb:Hid (∀ w1,b<w1.heap.size→IntIs w1 b 2 (-(B:Int))→Calls Tryz.prog 120 #[.pointer (some ⟨b,2,none⟩),.pointer (some ⟨b,2,none⟩)] w1 (SetTo w1 b 2 (B:Int))):=fun w1 h1 h2=>by
  have h:=q4M w1 b 2 b 2 _ _ K (by omega) (by rw[Int.natAbs_neg,Int.natAbs_natCast];exact hB2) h1 h1 h2 h2;rw[Int.neg_neg] at h;exact h
 have F9:Hid (IntIs w0 b 0 sa):=ha;have xg:Hid (IntIs w0 b 2 (-(B:Int))):=hb';obtain⟨nb,vb,b',⟨c1,c2,-,-⟩,hvb,hsb,-⟩:=hb';have hnb:nb=true:=by
  cases nb
  ·unfold sg at hsb;simp at hsb;omega
  ·rfl
 subst hnb;obtain⟨m,hm,hcm,hmv⟩:=hvb;obtain⟨pb,cb,rfl,-,-⟩:=q0n hm;have hm0:m.length≠0:=by
  intro h0;rw[List.eq_nil_of_length_eq_zero h0] at hmv;have:b'=0:=hmv.symm;rw[this] at hsb;unfold sg at hsb;simp at hsb;omega
 have jr:((m.length:Int)==0)=false:=by simp;intro h;exact hm0 (by rw[h];rfl)
 generalize m.length=j at *;simp only[Nat.reduceAdd] at c2;have Ov:Hid (0<B):=hB0;have mr:Hid (sa.natAbs<2^(32*K)):=hsa;have nS:Hid (B<2^(32*K)):=hB2;clear hm hcm hmv hsb hm0 ha hB0 hsa hB2;go_enter Tryz.func116,Tryz.ntmps116;go_wp2_with fail;refine q09 6 1 #[true,true,true,true,true,true,false] [.is (.pointer (some ⟨b,0,none⟩)),.is (.pointer (some ⟨b,0,none⟩)),.is (.pointer (some ⟨b,0,none⟩)),.is (.pointer (some ⟨b,0,none⟩)),.is (.pointer (some ⟨b,0,none⟩)),.is (.pointer (some ⟨b,0,none⟩))] [some 27,some 28,some 29,some 30,some 31,some 32] (by kernel_rfl) (by kernel_rfl) rfl (by kernel_rfl) (by repeat (first|exact trivial|refine⟨fun _ _ _ g h=>by first|exact h.G g|exact fun w3 g3=>h w3 (G.trans g g3),?_⟩)) (by kernel_rfl) (by kernel_rfl) ?_;refine Letters.is ?_;refine Letters.is ?_;refine Letters.is ?_;refine Letters.is ?_;refine Letters.is ?_;refine Letters.is ?_;refine Letters.nil ?_;intro A hA;simp only[q0W,Act.put,List.setIfInBounds_toArray,List.set_cons_zero,List.set_cons_succ] at hA;subst hA;refine⟨?_,?_⟩
 ·skip
  refine Eaches.cons rfl ?gy (Eaches.cons rfl ?gQ (Eaches.cons rfl ?gz (Eaches.cons rfl ?gT (Eaches.cons rfl ?jh (Eaches.cons rfl ?ji (Eaches.nil))))))
  case gy|gQ|gz|gT|jh|ji=>
   intro W hW hD K hK;clear hD;go_simp;exact hK.out _ _ ⟨_,rfl,G.refl _,rfl⟩
 intro wa ga hH;clear hH;refine wpAny_ready (rs:=[6]) (by kernel_rfl) (by simp) ?_;refine AllReady.cons rfl (fun K hK=> ?_) AllReady.nil;go_simp;go_wp2_with (go_at_call 120;refine q00 (ku.out wa ga) ?_;intro e w1 hs;have hs':=hs;obtain⟨rfl,-,-,-⟩:=hs);refine wpAny_done (by kernel_rfl) ?_ _;have hs:=SetTo.after hb0 ga hs';have hk1:=SetTo.keep F9.out hs xg.out hb0 (Or.inr (Or.inr (by omega)));obtain⟨-,Am,-,hi1⟩:=hs;have hb1:b<w1.heap.size:=Nat.lt_of_lt_of_le hb0 Am.size;have Fe:Hid (∀ w,G w1 w→_):=fun w g=>Fb.out w (Nat.lt_of_lt_of_le hb1 g.size) (hk1.G hb1 g);have HI1:Hid (IntIs w1 b 0 (-sa)):=hi1;have oI:Hid (IntIs w1 b 2 (-(B:Int))):=hk1;clear ku Fb F9 xg hk1 hi1 c1 c2 jr hs' ga;go_wp2_with fail;refine q09 6 1 #[true,true,true,true,true,true,false] [.is (.pointer (some ⟨b,0,none⟩)),.is (.pointer (some ⟨b,0,none⟩)),.is (.pointer (some ⟨b,2,none⟩)),.is (.pointer (some ⟨b,0,none⟩)),.is (.pointer (some ⟨b,0,none⟩)),.is (.pointer (some ⟨b,2,none⟩))] [some 34,some 35,some 36,some 37,some 38,some 39] (by kernel_rfl) (by kernel_rfl) rfl (by kernel_rfl) (by repeat (first|exact trivial|refine⟨fun _ _ _ g h=>by first|exact h.G g|exact fun w3 g3=>h w3 (G.trans g g3),?_⟩)) (by kernel_rfl) (by kernel_rfl) ?_;refine Letters.is ?_;refine Letters.is ?_;refine Letters.is ?_;refine Letters.is ?_;refine Letters.is ?_;refine Letters.is ?_;refine Letters.nil ?_;intro A hA;simp only[q0W,Act.put,List.setIfInBounds_toArray,List.set_cons_zero,List.set_cons_succ] at hA;subst hA;refine⟨?_,?_⟩
 ·skip
  refine Eaches.cons rfl ?jG (Eaches.cons rfl ?lF (Eaches.cons rfl ?jH (Eaches.cons rfl ?kD (Eaches.cons rfl ?mM (Eaches.cons rfl ?lG (Eaches.nil))))))
  case jG|lF|jH|kD|mM|lG=>
   intro W hW hD K hK;clear hD;go_simp;exact hK.out _ _ ⟨_,rfl,G.refl _,rfl⟩
 intro wb gb hH;clear hH;refine wpAny_ready (rs:=[6]) (by kernel_rfl) (by simp) ?_;refine AllReady.cons rfl (fun K hK=> ?_) AllReady.nil;go_simp;go_wp2_with (go_at_call 120;refine q00 (Fe.out wb gb) ?_;intro e w hs;have hs':=hs;obtain⟨rfl,-,-,-⟩:=hs);refine wpAny_done (by kernel_rfl) ?_ _;have hs:=SetTo.after hb1 gb hs';have hk2:=SetTo.keep oI.out hs HI1.out hb1 (Or.inr (Or.inl (by omega)));obtain⟨-,hgx2,-,hi2⟩:=hs;have hb:b<w.heap.size:=Nat.lt_of_lt_of_le hb1 hgx2.size;have uf:Hid (GX b w0 w):=GX.trans Am hgx2;clear Fe HI1 oI Am hgx2 hb0 hb1 hs' gb;obtain⟨n,va,A,ia,Gr,ea,jY⟩:=hk2;obtain⟨n2,vb,B',ib,Gs,eb,Gt⟩:=hi2;have hn2:n2=false:=by
  cases n2
  ·rfl
  ·have h1:=Gt rfl;unfold sg at eb;simp at eb;omega
 subst hn2;have AY:B'=B:=by unfold sg at eb;simp at eb;omega
 subst AY;have hAs:A=sa.natAbs:=by have h1:=q0R ea;rw[Int.natAbs_neg] at h1;exact h1
 have Ff:Hid (sg n (A/Nat.gcd A B')=pn):=by
  show sg n (A/Nat.gcd A B')=pn;rw[q9S,ea,hpn,← hAs]
 have Fg:Hid (B'/Nat.gcd A B'=pd):=by show B'/Nat.gcd A B'=pd;rw[ru,← hAs]
 clear hpn ru;have hA2:A<2^(32*K):=by rw[hAs];exact mr.out
 have hB2:=nS.out;have hB0:=Ov.out;have h:RA w b n va A vb B':=⟨ia,Gr,ib,Gs⟩;clear ia Gr ib Gs ea eb Gt hAs mr nS Ov;have jk:Hid (RA w b n va A vb B'):=h;obtain⟨⟨c1,c2,f1,f2⟩,na,⟨c3,c4,f3,f4⟩,nb⟩:=h;obtain⟨l,hl,hcl,hlv⟩:=na;obtain⟨m,hm,hcm,hmv⟩:=nb;obtain⟨pa,ca,rfl,dL,-⟩:=q0n hl;obtain⟨pb,cb,rfl,hcb,hrb⟩:=q0n hm;have hm0:m.length≠0:=by
  intro h0;rw[List.eq_nil_of_length_eq_zero h0] at hmv;have:B'=0:=hmv.symm;omega
 have jr:((m.length:Int)==0)=false:=by simp;intro h;exact hm0 (by rw[h];rfl)
 by_cases fH:A=0
 ·have hl0:l.length=0:=by
   rw[fH] at hlv;rw[(q0V hcl).1 hlv];rfl
  have hn:n=false:=by
   cases n
   ·rfl
   ·exact absurd fH (jY rfl)
  subst hn fH;have AZ:Hid (pn=0):=by show pn=0;rw[← Ff.out,Nat.zero_div];rfl
  have iR:Hid (pd=1):=by show pd=1;rw[← Fg.out,Nat.gcd_zero_left,Nat.div_self hB0]
  have HS:Hid (Calls Tryz.prog 145 #[.pointer (some ⟨b,2,none⟩),.int .i64 1] w (SetTo w b 2 1)):=q8k w b 2 1 B' (by omega) hb (jk.out.is jY).2;have I5:Hid (IntIs w b 0 0):=(jk.out.is jY).1;have HR2:Hid (IntIs w b 2 B'):=(jk.out.is jY).2;rw[hl0] at c2;generalize m.length=j at *;clear hl hm hcl hcm hlv hmv hcb dL hm0 hrb hl0 f1 f2 f3 f4;go_wp2_with fail;refine q00 HS.out ?_;intro e w2 hs;have hk:=SetTo.keep HR2.out hs I5.out hb (Or.inr (Or.inl (by omega)));obtain⟨rfl,h1,-,h2⟩:=hs;go_wp2_with fail;go_ret;exact⟨rfl,GX.trans uf.out h1,by rw[AZ.out];exact hk,by rw[iR.out];exact h2⟩
 ·have hl0:l.length≠0:=by
   intro h0;rw[List.eq_nil_of_length_eq_zero h0] at hlv;exact fH hlv.symm
  have pK:((l.length:Int)==0)=false:=by simp;intro h;exact hl0 (by rw[h];rfl)
  obtain⟨bb,ob,hpb,rz,hcb0⟩:=hrb 0 (by omega);subst hpb;rw[Nat.add_zero] at hcb0;have jU:Hid (A≠0):=fH;have HB0:Hid (0<B'):=hB0;have HA2:Hid (A<2^(32*K)):=hA2;have HB2:Hid (B'<2^(32*K)):=hB2;have fM:Hid (n=true→A≠0):=jY;have hwd:=q05 hcm.1 0;have nG:((m.getD 0 0:Nat):Int)≤4294967295:=by omega
  by_cases hm1:m.length=1
  case' pos=>
   have xN:m.getD 0 0=B':=by
    obtain⟨x,rfl⟩:=List.length_eq_one_iff.1 hm1;rw[q1h] at hmv;simpa using hmv
   rw[xN] at hcb0 nG;rw[hm1] at c4 jr jk;by_cases hB1:B'=1
   case pos=>
    subst hB1;have HR:Hid _:=jk.out.is jY;have AZ:Hid (pn=sg n A):=by show pn=sg n A;rw[← Ff.out,Nat.gcd_one_right,Nat.div_one]
    have iR:Hid (pd=1):=by show pd=1;rw[← Fg.out,Nat.gcd_one_right,Nat.div_one]
    generalize l.length=i at *;clear hl hm hcl hcm hlv hmv hcb dL hm0 hrb hl0 f1 f2 f3 f4 hA2 hB2 hB0 jY hwd hm1 xN fH;go_wp2_with fail;go_ret;exact⟨rfl,uf.out,by rw[AZ.out,iR.out];exact HR.out⟩
   have xO:((B':Int)==1)=false:=by simp;omega
   generalize l.length=i at *;clear hl hm hcl hcm hlv hmv hcb dL hm0 hrb hl0 f1 f2 f3 f4 hA2 hB2 hB0 jY hwd hm1 xN fH hB1;go_wp2_with fail;clear hcb0 jr xO pK c1 c3 rz nG;obtain⟨vb,hvb⟩:∃ vb,vb=Value.slice (some ⟨bb,ob,none⟩) 1 cb:=⟨_,rfl⟩
  case' neg=>
   have xP:((m.length:Int)==1)=false:=by simp;intro h;exact hm1 (by omega)
   generalize l.length=i at *;generalize m.length=j at *;clear hl hm hcl hcm hlv hmv hcb dL hm0 hrb hl0 f1 f2 f3 f4 hA2 hB2 hB0 jY hwd hm1 nG hcb0 fH;go_wp2_with fail;clear jr xP pK c1 c3 rz;obtain⟨vb,hvb⟩:∃ vb,vb=Value.slice (some ⟨bb,ob,none⟩) j cb:=⟨_,rfl⟩
  all_goals
   as_aux_lemma=>
    obtain⟨va,hva⟩:∃ va,va=Value.slice pa i ca:=⟨_,rfl⟩;rw[← hvb] at jk ⊢;rw[← hva] at jk;clear hva hvb;clear c2 c4;refine q00 (q35 w _ B' K (by omega) jk.out.nb HB2.out (by have:=HB0.out;omega)) ?_;rintro e w1 ⟨k,rfl,hkB,hg1⟩;have xQ:Hid (q1Y B' k):=hkB;have jv:Hid (RA w1 b n va A vb B'):=jk.out.grow hb hg1;have hkk:k<32*K:=(Nat.pow_lt_pow_iff_right (by omega:1<2)).1 (Nat.lt_of_le_of_lt (q1c (by have:=HB0.out;omega) hkB.1) HB2.out);have hki:(k:Int)≤9600000:=by omega
    have d1:=jv.out.a.2.1;have d3:=jv.out.b.2.1;simp only[Nat.zero_add,Nat.reduceAdd] at d1 d3;have HT2:Hid _:=q35 w1 _ A K (by omega) jv.out.na HA2.out jU.out;clear hkB;go_wp2_with fail;refine q00 HT2.out ?_;rintro e w2 ⟨k2,rfl,xR,hg2⟩;have Cj:Hid (q1Y A k2):=xR;have I6:k2<32*K:=(Nat.pow_lt_pow_iff_right (by omega:1<2)).1 (Nat.lt_of_le_of_lt (q1c jU.out xR.1) HA2.out);have I7:(k2:Int)≤9600000:=by omega
    have fo:Hid (RA w2 b n va A vb B'):=jv.out.grow (G.lt hg1 hb) hg2;have hG2:=G.trans hg1 hg2;clear xR d1 d3 hg1 hg2 jv HT2;have d1:=fo.out.a.2.1;have d3:=fo.out.b.2.1;simp only[Nat.zero_add,Nat.reduceAdd] at d1 d3;obtain⟨kb,hkb,hkb2⟩:∃ kb:Nat,(if k2<k then (k2:Int) else (k:Int))=kb∧kb=min k k2:=by
     by_cases hk:k2<k
     ·exact⟨k2,by rw[if_pos hk],by omega⟩
     ·exact⟨k,by rw[if_neg hk],by omega⟩
    have Pd:Hid (kb=min k k2):=hkb2;have xS:(kb:Int)≤9600000:=by omega
    have xU:kb≤k:=by omega
    have gJ:Hid (A=A/2^kb*2^kb∧B'=B'/2^kb*2^kb):=by
     have h1:=Cj.out.1;have h2:=xQ.out.1;have h3:2^kb∣A:=Nat.dvd_trans (Nat.pow_dvd_pow 2 (by omega)) (Nat.dvd_of_mod_eq_zero h1);have h4:2^kb∣B':=Nat.dvd_trans (Nat.pow_dvd_pow 2 xU) (Nat.dvd_of_mod_eq_zero h2);exact⟨(Nat.div_mul_cancel h3).symm,(Nat.div_mul_cancel h4).symm⟩
    have pM:Hid (A/2^kb%2=1∨k-kb=0):=by
     show A/2^kb%2=1∨k-kb=0;by_cases hk:k2<k
     ·have e:kb=k2:=by omega
      rw[e];exact Or.inl Cj.out.2
     ·exact Or.inr (by omega)
    have oJ:Hid (q1Y (B'/2^kb) (k-kb)):=by
     have h5:=gJ.out.2;obtain⟨h6,h7⟩:=xQ.out;have e:2^k=2^kb*2^(k-kb):=by rw[← Nat.pow_add];congr 1;omega
     constructor
     ·rw[e,Nat.mod_mul] at h6;have:2^kb*(B'/2^kb%2^(k-kb))=0:=by omega
      rcases Nat.mul_eq_zero.1 this with h|h
      ·exact absurd h (Nat.pos_iff_ne_zero.1 (Nat.two_pow_pos _))
      ·exact h
     ·rw[e,← Nat.div_div_eq_div_mul] at h7;exact h7
    have xV:=fo.out.a.2.2.2;have xW:=fo.out.b.2.2.2;simp only[Nat.zero_add,Nat.reduceAdd] at xV xW;clear hkb2;by_cases nH:0<kb
    case' pos=>
     have jw:decide (0<kb)=true:=by simpa using nH
     have HR1:Hid (Calls Tryz.prog 173 #[va,.int .u64 (kb:Int)] w2 (q0e w2 (A/2^kb))):=q1b w2 va A kb K (by omega) (by omega) fo.out.na HA2.out;clear nH;go_wp2_with fail;refine q00 HR1.out ?_;rintro e w3 ⟨Pe,rfl,hg3,iF⟩;obtain⟨p3,k3,c3',rfl⟩:=q1Z iF;have hr3:=fo.out.grow (G.lt hG2 hb) hg3;have nI:Hid (RA (w3.setCell ⟨b,1,none⟩ (Value.slice p3 k3 c3')) b n (Value.slice p3 k3 c3') (A/2^kb) vb B'):=RA.setA hr3 iF;have rA:Hid (GX b w (w3.setCell ⟨b,1,none⟩ (Value.slice p3 k3 c3'))):=GX.set (GX.of (G.trans hG2 hg3)) (Value.slice p3 k3 c3');have hb3:b<(w3.setCell ⟨b,1,none⟩ (Value.slice p3 k3 c3')).heap.size:=by have:=G.lt (G.trans hG2 hg3) hb;simpa [World.setCell] using this
     have e1:=hr3.a.2.1;have jZ:=hr3.a.2.2.2;have e3:=hr3.b.2.1;simp only[Nat.zero_add,Nat.reduceAdd] at e1 jZ e3;clear hr3 iF d1 d3 xV xW hg3;go_wp2_with fail;clear e1 jZ e3 fo HR1;generalize w3.setCell ⟨b,1,none⟩ (Value.slice p3 k3 c3')=w4 at *;have HR2:Hid (Calls Tryz.prog 173 #[vb,.int .u64 (kb:Int)] w4 (q0e w4 (B'/2^kb))):=q1b w4 vb B' kb K (by omega) (by omega) nI.out.nb HB2.out;refine q00 HR2.out ?_;rintro e w5 ⟨Pf,rfl,hg5,rC⟩;obtain⟨p5,k5,nJ,rfl⟩:=q1Z rC;have ve:=nI.out.grow hb3 hg5;have fq:Hid (RA (w5.setCell ⟨b,3,none⟩ (Value.slice p5 k5 nJ)) b n (Value.slice p3 k3 c3') (A/2^kb) (Value.slice p5 k5 nJ) (B'/2^kb)):=RA.setB ve rC;have nK:Hid (GX b w (w5.setCell ⟨b,3,none⟩ (Value.slice p5 k5 nJ))):=GX.set (GX.trans rA.out (GX.of hg5)) (Value.slice p5 k5 nJ);have hb6:b<(w5.setCell ⟨b,3,none⟩ (Value.slice p5 k5 nJ)).heap.size:=by have:=G.lt hg5 hb3;simpa [World.setCell] using this
     have e3:=ve.b.2.1;have kg:=ve.b.2.2.2;simp only[Nat.reduceAdd] at e3 kg;have hwk:IntKind.u64.wrap ((k:Int)-kb)=((k-kb:Nat):Int):=by rw[IntKind.wrap_u64];omega
     clear ve rC hg5 nI rA HR2;go_wp2_with fail;clear e3 kg hwk hkb jw;generalize w5.setCell ⟨b,3,none⟩ (Value.slice p5 k5 nJ)=w6 at *;obtain⟨je,jy⟩:∃ je,je=Value.slice p3 k3 c3':=⟨_,rfl⟩;obtain⟨ko,gp⟩:∃ ko,ko=Value.slice p5 k5 nJ:=⟨_,rfl⟩;rw[← jy,← gp] at fq;rw[← gp];clear jy gp
    case' neg=>
     obtain rfl:kb=0:=by omega
     have jw:decide (0<0)=false:=rfl;have fq:Hid (RA w2 b n va (A/2^0) vb (B'/2^0)):=by rw[Nat.pow_zero,Nat.div_one,Nat.div_one];exact fo.out
     have nK:Hid (GX b w w2):=GX.of hG2;have hb6:=G.lt hG2 hb;clear fo nH;go_wp2_with fail;clear d1 d3 xV xW hkb jw xS;obtain⟨kb,rD⟩:∃ kb,kb=0:=⟨_,rfl⟩;have rE:Hid (A/2^kb%2=1∨k-kb=0):=by rw[rD];exact pM.out
     clear pM;have pM:Hid (A/2^kb%2=1∨k-kb=0):=rE.out;clear rE;rw[← rD] at fq gJ oJ;obtain⟨je,jy⟩:∃ je,je=va:=⟨_,rfl⟩;obtain⟨ko,gp⟩:∃ ko,ko=vb:=⟨_,rfl⟩;rw[← jy,← gp] at fq;rw[← gp];have rF:k=k-kb:=by omega
     rw[rF];clear jy gp rF
    all_goals
     as_aux_lemma=>
      obtain⟨A1,hA1⟩:∃ A1,A1=A/2^kb:=⟨_,rfl⟩;obtain⟨B1,hB1⟩:∃ B1,B1=B'/2^kb:=⟨_,rfl⟩;obtain⟨k1,hk1⟩:∃ k1,k1=k-kb:=⟨_,rfl⟩;rw[← hA1] at fq gJ pM;rw[← hB1] at fq gJ oJ;rw[← hk1] at pM oJ ⊢;obtain⟨hA,hB⟩:=gJ.out;have I8:k1≤32*K:=by omega
      have jA:Hid (A1<2^(32*K)∧B1<2^(32*K)):=by
       rw[hA1,hB1];exact⟨Nat.lt_of_le_of_lt (Nat.div_le_self _ _) HA2.out,Nat.lt_of_le_of_lt (Nat.div_le_self _ _) HB2.out⟩
      clear hA1 hB1 hk1;obtain⟨O,hO⟩:∃ O,O=B1/2^k1:=⟨_,rfl⟩;have nL:B1=O*2^k1:=by rw[hO];exact(Nat.div_mul_cancel (Nat.dvd_of_mod_eq_zero oJ.out.1)).symm
      have I9:O%2=1:=by rw[hO];exact oJ.out.2
      have iT:Hid (O<2^(32*K)):=by rw[hO];exact Nat.lt_of_le_of_lt (Nat.div_le_self _ _) jA.out.2
      have xX:Hid _:=q1b _ _ B1 k1 K (by omega) (by omega) fq.out.nb jA.out.2;rw[← hO] at xX;have Ck:Nat.gcd A1 B1=Nat.gcd A1 O:=by
       rcases pM.out with h|h
       ·rw[nL];exact q7U k1 h
       ·rw[nL,h,Nat.pow_zero,Nat.mul_one]
      have xY:Hid (Nat.gcd A B'=Nat.gcd A1 O*2^kb):=by show Nat.gcd A B'=Nat.gcd A1 O*2^kb;rw[hA,hB,q7c,Ck]
      have xZ:0<O:=by omega
      clear hO Ck;refine q00 xX.out ?_;rintro e w7 ⟨Ia,rfl,kY,qV⟩;have gq:Hid (RA w7 b n je A1 ko B1):=fq.out.grow hb6 kY;have nM:Hid (GX b w w7):=GX.trans nK.out (GX.of kY);have yc:=G.lt kY hb6;have Ib:Hid (Num w7 Ia O):=qV;obtain⟨b7,o7,j7,c7,d7,rfl,yf,FP,hd7,hor⟩:=q1J qV xZ;have Ic:(d7:Int)≤4294967295:=by omega
      have e1:=gq.out.a.2.1;have e3:=gq.out.b.2.1;have jZ:=gq.out.a.2.2.2;have kg:=gq.out.b.2.2.2;simp only[Nat.zero_add,Nat.reduceAdd] at e1 e3 jZ kg;clear kY qV fq nK xX;have rG:Hid (A=A1*2^kb):=hA;have Cm:Hid (B'=B1*2^kb):=hB;have Cn:Hid (0<O):=xZ;clear hA hB nL I9 xZ;rcases hor with ⟨hj1,nN⟩|⟨Ie,Ig⟩
      case' inl=>
       have yg:((j7:Int)==1)=true:=by simp;omega
       have Ih:(0:Int)<j7:=by omega
       by_cases hd1:d7=1
       case pos=>
        subst hd1;have hg1:Nat.gcd A B'=2^kb:=by rw[xY.out,← nN,Nat.gcd_one_right,Nat.one_mul]
        have nO:Hid (A/Nat.gcd A B'=A1∧B'/Nat.gcd A B'=B1):=by
         rw[hg1];exact⟨by rw[rG.out];exact Nat.mul_div_cancel _ (Nat.two_pow_pos _),by rw[Cm.out];exact Nat.mul_div_cancel _ (Nat.two_pow_pos _)⟩
        have ku:Hid (n=true→A1≠0):=fun h h1=>jU.out (by rw[rG.out,h1,Nat.zero_mul]);clear hg1 hj1 nN;go_wp2_with fail;go_ret;exact⟨rfl,GX.trans uf.out nM.out,q6i Ff.out Fg.out (by rw[nO.out.1,nO.out.2];exact gq.out.is ku.out)⟩
       have yh:((d7:Int)==1)=false:=by simp;omega
       clear hd1 hj1 nN
      case' inr=>
       have yg:((j7:Int)==1)=false:=by simp;omega
       clear Ie Ig
      all_goals
       as_aux_lemma=>
        have rH:0<A1:=by
         rcases Nat.eq_zero_or_pos A1 with h|h
         ·exact absurd (rG.out.trans (by rw[h,Nat.zero_mul])) jU.out
         ·exact h
        have HCM:Hid (Calls Tryz.prog 174 #[je,.slice (some ⟨b7,o7,none⟩) j7 c7] w7 (q0e w7 (Nat.gcd A1 O))):=q1U w7 je _ A1 O K hK gq.out.na Ib.out rH jA.out.1 iT.out;clear rH;go_wp2_with fail;refine q00 HCM.out ?_;rintro e w8 ⟨Ii,rfl,pO,pI⟩;have vo:0<Nat.gcd A1 O:=Nat.gcd_pos_of_pos_right _ Cn.out;obtain⟨g,hgg⟩:∃ g,g=Nat.gcd A1 O:=⟨_,rfl⟩;have yj:Hid (g∣A1∧g∣O):=by rw[hgg];exact⟨Nat.gcd_dvd_left _ _,Nat.gcd_dvd_right _ _⟩
        rw[← hgg] at pI vo xY;have fu:Hid (RA w8 b n je A1 ko B1):=gq.out.grow yc pO;have nP:Hid (GX b w w8):=GX.trans nM.out (GX.of pO);have yl:=G.lt pO yc;have iY:Hid (Num w8 Ii g):=pI;have ym:Hid (0<g):=vo;have nO:Hid (A/Nat.gcd A B'=A1/g∧B'/Nat.gcd A B'=B1/g):=by
         rw[xY.out,rG.out,Cm.out];exact⟨Nat.mul_div_mul_right _ _ (Nat.two_pow_pos _),Nat.mul_div_mul_right _ _ (Nat.two_pow_pos _)⟩
        have rJ:Hid (A1≠0):=fun h1=>jU.out (by rw[rG.out,h1,Nat.zero_mul]);have HG2:Hid (g<2^(32*K)):=Nat.lt_of_le_of_lt (Nat.le_of_dvd Cn.out yj.out.2) iT.out;obtain⟨b8,o8,j8,c8,d8,rfl,yo,hc8,Pg,hor⟩:=q1J pI vo;have Ij:(d8:Int)≤4294967295:=by omega
        clear e1 e3 jZ kg pI vo hgg pO gq nM HCM yc FP yf;have e1:=fu.out.a.2.1;have e3:=fu.out.b.2.1;have jZ:=fu.out.a.2.2.2;have kg:=fu.out.b.2.2.2;simp only[Nat.zero_add,Nat.reduceAdd] at e1 e3 jZ kg;rcases hor with ⟨hj1,nN⟩|⟨Ik,Il⟩
        case' inl=>
         have yu:((j8:Int)==1)=true:=by simp;omega
         have Im:(0:Int)<j8:=by omega
         by_cases hd1:d8=1
         case pos=>
          subst hd1;have uy:Hid (g=1):=nN.symm;clear hj1 nN;go_wp2_with fail;go_ret;exact⟨rfl,GX.trans uf.out nP.out,q6i Ff.out Fg.out (by rw[nO.out.1,nO.out.2,uy.out,Nat.div_one,Nat.div_one];exact fu.out.is (fun _=>rJ.out))⟩
         have yh:((d8:Int)==1)=false:=by simp;omega
         clear hd1 hj1 nN
        case' inr=>
         have yu:((j8:Int)==1)=false:=by simp;omega
         clear Ik Il
        all_goals
         as_aux_lemma=>
          have HD1:Hid (Calls Tryz.prog 175 #[je,.slice (some ⟨b8,o8,none⟩) j8 c8] w8 (q2j w8 (A1/g) (A1%g))):=q6F w8 je _ A1 g K hK fu.out.na iY.out jA.out.1 HG2.out ym.out;have HD2:Hid (∀ w9,G w8 w9→Calls Tryz.prog 175 #[ko,.slice (some ⟨b8,o8,none⟩) j8 c8] w9 (q2j w9 (B1/g) (B1%g))):=fun w9 k=>q6F w9 ko _ B1 g K hK (fu.out.nb.G k) (iY.out.G k) jA.out.2 HG2.out ym.out;go_wp2_with fail;refine q00 HD1.out ?_;rintro e w9 ⟨Ph,Pj,rfl,mD,aL,-⟩;obtain⟨p9,k9,c9,rfl⟩:=q1Z aL;have kZ:Hid (RA w9 b n je A1 ko B1):=fu.out.grow yl mD;have rM:Hid (GX b w w9):=GX.trans nP.out (GX.of mD);have Io:=G.lt mD yl;have gM:Hid (Num w9 (.slice p9 k9 c9) (A1/g)):=aL;have HD3:Hid _:=HD2.out w9 mD;clear e1 e3 jZ kg mD aL fu nP HD1 HD2 hc8 yl yo;have e1:=kZ.out.a.2.1;have e3:=kZ.out.b.2.1;simp only[Nat.zero_add,Nat.reduceAdd] at e1 e3;go_wp2_with fail;refine q00 HD3.out ?_;rintro e aR ⟨Ip,Iq,rfl,l5,nQ,-⟩;obtain⟨Co,k10,c10,rfl⟩:=q1Z nQ;have dE:=kZ.out.grow Io l5;have rO:Hid (GX b w aR):=GX.trans rM.out (GX.of l5);have yw:Hid (RA ((aR.setCell ⟨b,1,none⟩ (.slice p9 k9 c9)).setCell ⟨b,3,none⟩ (.slice Co k10 c10)) b n (.slice p9 k9 c9) (A1/g) (.slice Co k10 c10) (B1/g)):=
           RA.setB (RA.setA dE (gM.out.G l5)) (num_other nQ dE.a.2.1 (fun z=>q1A dE.na _ z))
          have ku:Hid (n=true→A1/g≠0):=fun _=>Nat.pos_iff_ne_zero.1 (Nat.div_pos (Nat.le_of_dvd (Nat.pos_of_ne_zero rJ.out) yj.out.1) ym.out);clear e1 e3;have e1:=dE.a.2.1;have e3:=dE.b.2.1;have jZ:=dE.a.2.2.2;have kg:=dE.b.2.2.2;simp only[Nat.zero_add,Nat.reduceAdd] at e1 e3 jZ kg;clear dE l5 nQ kZ rM HD3;go_wp2_with fail;go_ret;exact⟨rfl,GX.trans uf.out (GX.set (GX.set rO.out _) _),q6i Ff.out Fg.out (by rw[nO.out.1,nO.out.2];exact yw.out.is ku.out)⟩
end Go.Proofs.YtbfjihniphldaaaGreatDoor
