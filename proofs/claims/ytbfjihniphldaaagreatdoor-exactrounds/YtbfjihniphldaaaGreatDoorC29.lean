/- What is proved here: contracts of the reference's ratios: SetFrac, over this seat's translation. -/
import Derived.Test.YtbfjihniphldaaaGreatDoorC28
namespace Go.Proofs.YtbfjihniphldaaaGreatDoor
open Go.ChangeShapes Go.WideShapes Go.ChangeAt Go.RowKit
open BN
/-- A Rat laid cell by cell. -/
theorem RA.lay {w:World} {b:Nat} {n1 m1 m2:Bool} {u1 u2 va vb:Value} {x1 x2 A B:Nat} (z1:w.cell? ⟨b,0,none⟩=some (.bool m1)) (z2:w.cell? ⟨b,1,none⟩=some u1) (z3:w.cell? ⟨b,2,none⟩=some (.bool m2)) (z4:w.cell? ⟨b,3,none⟩=some u2)
  (f1:w.frozen? ⟨b,0,none⟩=false) (f2:w.frozen? ⟨b,1,none⟩=false) (f3:w.frozen? ⟨b,2,none⟩=false) (f4:w.frozen? ⟨b,3,none⟩=false) (hu1:Num w u1 x1) (hu2:Num w u2 x2) (ha:Num w va A) (hb:Num w vb B):
  RA ((((w.setCell ⟨b,0,none⟩ (.bool n1)).setCell ⟨b,1,none⟩ va).setCell ⟨b,2,none⟩ (.bool false)).setCell ⟨b,3,none⟩ vb) b n1 va A vb B:=by
 have kM:∀ (x:Bool) (z:Int),Value.bool x≠ .int .u32 z:=fun x z h=>by cases h
 have e1:(w.setCell ⟨b,0,none⟩ (.bool n1)).cell? ⟨b,1,none⟩=some u1:=by rw[World.cell?_setCell_other _ _ _ _ (by intro e;injection e with _ e;omega)];exact z2
 have e2:(w.setCell ⟨b,0,none⟩ (.bool n1)).cell? ⟨b,2,none⟩=some (.bool m2):=by rw[World.cell?_setCell_other _ _ _ _ (by intro e;injection e with _ e;omega)];exact z3
 have e3:(w.setCell ⟨b,0,none⟩ (.bool n1)).cell? ⟨b,3,none⟩=some u2:=by rw[World.cell?_setCell_other _ _ _ _ (by intro e;injection e with _ e;omega)];exact z4
 have e0:(w.setCell ⟨b,0,none⟩ (.bool n1)).cell? ⟨b,0,none⟩=some (.bool n1):=World.cell?_setCell_same _ _ _ z1;have k1:=num_other ha (u':= .bool n1) z1 (kM m1);have k2:=num_other hb (u':= .bool n1) z1 (kM m1);have k3:=num_other hu2 (u':= .bool n1) z1 (kM m1);have hw1:World.frozen? (w.setCell ⟨b,0,none⟩ (.bool n1))=w.frozen? :=by funext p;exact World.frozen?_setCell ..
 generalize w.setCell ⟨b,0,none⟩ (.bool n1)=w1 at *;have g0:(w1.setCell ⟨b,1,none⟩ va).cell? ⟨b,0,none⟩=some (.bool n1):=by rw[World.cell?_setCell_other _ _ _ _ (by intro e;injection e with _ e;omega)];exact e0
 have g1:(w1.setCell ⟨b,1,none⟩ va).cell? ⟨b,1,none⟩=some va:=World.cell?_setCell_same _ _ _ e1;have g2:(w1.setCell ⟨b,1,none⟩ va).cell? ⟨b,2,none⟩=some (.bool m2):=by rw[World.cell?_setCell_other _ _ _ _ (by intro e;injection e with _ e;omega)];exact e2
 have g3:(w1.setCell ⟨b,1,none⟩ va).cell? ⟨b,3,none⟩=some u2:=by rw[World.cell?_setCell_other _ _ _ _ (by intro e;injection e with _ e;omega)];exact e3
 have xM:∀ z,u1≠ .int .u32 z:=fun z=>q1A hu1 _ z;have l1:=num_other k1 (u':=va) e1 xM;have l2:=num_other k2 (u':=va) e1 xM;have l3:=num_other k3 (u':=va) e1 xM;have hw2:World.frozen? (w1.setCell ⟨b,1,none⟩ va)=w.frozen? :=by funext p;rw[World.frozen?_setCell,hw1]
 generalize w1.setCell ⟨b,1,none⟩ va=w2 at *;have h0:(w2.setCell ⟨b,2,none⟩ (.bool false)).cell? ⟨b,0,none⟩=some (.bool n1):=by rw[World.cell?_setCell_other _ _ _ _ (by intro e;injection e with _ e;omega)];exact g0
 have h1:(w2.setCell ⟨b,2,none⟩ (.bool false)).cell? ⟨b,1,none⟩=some va:=by rw[World.cell?_setCell_other _ _ _ _ (by intro e;injection e with _ e;omega)];exact g1
 have h2:(w2.setCell ⟨b,2,none⟩ (.bool false)).cell? ⟨b,2,none⟩=some (.bool false):=World.cell?_setCell_same _ _ _ g2;have h3:(w2.setCell ⟨b,2,none⟩ (.bool false)).cell? ⟨b,3,none⟩=some u2:=by rw[World.cell?_setCell_other _ _ _ _ (by intro e;injection e with _ e;omega)];exact g3
 have p1:=num_other l1 (u':= .bool false) g2 (kM m2);have p2:=num_other l2 (u':= .bool false) g2 (kM m2);have p3:=num_other l3 (u':= .bool false) g2 (kM m2);have hw3:World.frozen? (w2.setCell ⟨b,2,none⟩ (.bool false))=w.frozen? :=by funext p;rw[World.frozen?_setCell,hw2]
 generalize w2.setCell ⟨b,2,none⟩ (.bool false)=w3 at *;refine RA.setB (B:=x2) (vb:=u2) ⟨⟨h0,h1,?_,?_⟩,p1,⟨h2,h3,?_,?_⟩,p3⟩ p2
 all_goals rw[hw3];assumption
theorem q7u (n:Bool) (a g:Nat):sg n (a/g)=Int.tdiv (sg n a) g:=by
 unfold sg;cases n<;>simp [Int.neg_tdiv]
set_option maxRecDepth 10000 in
set_option maxHeartbeats 2000000 in
theorem q0Z (w:World) (bz ba oa bb ob:Nat) (s1 s2 sa:Int) (B K:Nat) (hK:K≤300000) (hA2:sa.natAbs<2^(32*K)) (hB2:B<2^(32*K)) (hB0:0<B) (hbz:bz<w.heap.size) (gX:ba<w.heap.size) (hbb:bb<w.heap.size)
  (hz:RatIs w bz s1 s2) (ha:IntIs w ba oa sa) (hb:IntIs w bb ob (B:Int)):
  Calls Tryz.prog 49 #[.pointer (some ⟨bz,0,none⟩),.pointer (some ⟨ba,oa,none⟩),.pointer (some ⟨bb,ob,none⟩)] w (NormTo w bz (Int.tdiv sa (Nat.gcd sa.natAbs B:Nat)) (B/Nat.gcd sa.natAbs B)):=by
 have mr:Hid (∀ w1 p,G w w1→NI w w1 p 0→_):=fun w1 p g h=>q5j w1 p 0 ba oa 0 sa K (by omega) hA2 h.2.1 (G.lt g gX) h.2.2 (ha.G gX g);have jT:Hid (∀ w1 p,G w w1→NI w w1 p 0→_):=fun w1 p g h=>q5j w1 p 0 bb ob 0 B K (by omega) (by rw[Int.natAbs_natCast];exact hB2) h.2.1 (G.lt g hbb) h.2.2 (hb.G hbb g);have HZ:Hid (RatIs w bz s1 s2):=hz;have HA2:Hid (sa.natAbs<2^(32*K)):=hA2;have HB2:Hid (B<2^(32*K)):=hB2;have HB0:Hid (0<B):=hB0;obtain⟨nb,vb,b',⟨-,c2,-,-⟩,hvb,hsb,-⟩:=hb;obtain⟨m,hm,hcm,hmv⟩:=hvb;obtain⟨pb,cb,rfl,-,-⟩:=q0n hm;have hm0:m.length≠0:=by
  intro h0;rw[List.eq_nil_of_length_eq_zero h0] at hmv;have:b'=0:=hmv.symm;rw[this] at hsb;unfold sg at hsb;simp at hsb;omega
 have jr:((m.length:Int)==0)=false:=by simp;intro h;exact hm0 (by rw[h];rfl)
 generalize m.length=j at *;clear hz ha hm hcm hmv hsb hm0 hA2 hB2 hB0;go_enter Tryz.func49,Tryz.ntmps49;go_wp2_with fail;have hn0:=NI.new (G.refl w) 38;have bK:=(G.refl w).alloc (.cells #[.bool false,.slice none 0 0] 38);refine Calls.mono (P:=Tryz.prog) (mr.out _ _ bK hn0) ?_;intro e w3 hs;obtain⟨rfl,hG3,fV,-,-⟩:=SetTo.step bK hn0 hs;clear hs hn0 bK c2;have hlt:bz<w.heap.size:=hbz;generalize hpn:w.heap.size=pn at *;go_wp2_with fail;have hn0:=NI.new hG3 38;have nz:=fV.G ((G.refl w3).alloc (.cells #[.bool false,.slice none 0 0] 38));have bK:=G.trans hG3 ((G.refl w3).alloc (.cells #[.bool false,.slice none 0 0] 38));have hne:w3.heap.size≠pn:=by have:=fV.2.1;omega
 refine Calls.mono (P:=Tryz.prog) (jT.out _ _ bK hn0) ?_;intro e w4 hs;obtain⟨rfl,hG4,hD4,-,hkp⟩:=SetTo.step bK hn0 hs;have AJ:=hkp pn sa hne.symm nz;clear hs hn0 bK hkp nz fV hG3 mr jT;generalize w3.heap.size=pd at *;have ru:=hD4.1;have Hy:=AJ.1;obtain⟨-,Hz,n1,v1,a1,⟨c1,c2,-,-⟩,hv1,h1,Ch⟩:=AJ;obtain⟨-,I1,n2,v2,a2,⟨c3,c4,-,-⟩,hv2,h2,Ci⟩:=hD4;have hzz:=HZ.out.G (by omega) hG4;obtain⟨⟨m1,u1,x1,⟨z1,z2,f1,f2⟩,hu1,-,-⟩,⟨m2,u2,x2,⟨z3,z4,f3,f4⟩,hu2,-,-⟩⟩:=hzz;obtain⟨q1,r1,t1,rfl⟩:=q1Z hv1;obtain⟨q2,r2,t2,rfl⟩:=q1Z hv2;simp only[Nat.zero_add,Nat.reduceAdd] at z2 z4 f2 f4 c2 c4;have uw:¬ bz=pn:=by omega
 have hnd:¬ bz=pd:=by omega
 have I4:¬ pn=bz:=by omega
 have hnd':¬ pd=bz:=by omega
 have hn2:n2=false:=by
  cases n2
  ·rfl
  ·have:=Ci rfl;unfold sg at h2;simp at h2;omega
 subst hn2;have ea:=q0R h1;have eb:a2=B:=by unfold sg at h2;simp at h2;omega
 subst eb;have fM:Hid (n1=true→a1≠0):=Ch;have FO:Hid (sg n1 (a1/Nat.gcd a1 a2)=Int.tdiv sa (Nat.gcd sa.natAbs a2:Nat)):=by
  show sg n1 (a1/Nat.gcd a1 a2)=Int.tdiv sa (Nat.gcd sa.natAbs a2:Nat);rw[q7u,h1,← ea]
 have HE2:Hid (a2/Nat.gcd a1 a2=a2/Nat.gcd sa.natAbs a2):=by rw[← ea];exact rfl
 rw[← ea] at HA2;have jk:Hid (RA ((((w4.setCell ⟨bz,0,none⟩ (.bool n1)).setCell ⟨bz,1,none⟩ (.slice q1 r1 t1)).setCell ⟨bz,2,none⟩ (.bool false)).setCell ⟨bz,3,none⟩ (.slice q2 r2 t2)) bz n1 (.slice q1 r1 t1) a1 (.slice q2 r2 t2) a2):=
  RA.lay z1 z2 z3 z4 f1 f2 f3 f4 hu1 hu2 hv1 hv2
 have ry:Hid (GX bz w ((((w4.setCell ⟨bz,0,none⟩ (.bool n1)).setCell ⟨bz,1,none⟩ (.slice q1 r1 t1)).setCell ⟨bz,2,none⟩ (.bool false)).setCell ⟨bz,3,none⟩ (.slice q2 r2 t2))):=GX.set (GX.set (GX.set (GX.set (GX.of hG4) _) _) _) _;have hsz:bz<((((w4.setCell ⟨bz,0,none⟩ (.bool n1)).setCell ⟨bz,1,none⟩ (.slice q1 r1 t1)).setCell ⟨bz,2,none⟩ (.bool false)).setCell ⟨bz,3,none⟩ (.slice q2 r2 t2)).heap.size:=by
  have:bz<w4.heap.size:=by omega
  simpa [World.setCell] using this
 clear Ch h1 h2 Ci ea hv1 hv2 hu1 hu2 HZ;go_wp2_with fail;refine Calls.mono (P:=Tryz.prog) (q9w _ bz n1 _ _ a1 a2 K hK HA2.out HB2.out HB0.out fM.out hsz jk.out) ?_;intro e w6 hs;obtain⟨rfl,k1,k2⟩:=hs;rw[FO.out,HE2.out] at k2;have iP:Hid _:=k2;have oI:Hid (GX bz w w6):=GX.trans ry.out k1;clear k1 k2;go_wp2_with fail;go_ret;exact⟨rfl,oI.out,iP.out⟩
end Go.Proofs.YtbfjihniphldaaaGreatDoor
