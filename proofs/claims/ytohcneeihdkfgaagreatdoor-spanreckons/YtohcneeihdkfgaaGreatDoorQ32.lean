/- What is proved here: contracts of the reference's ratios: SetFrac, over this seat's translation. -/
import Derived.Test.YtohcneeihdkfgaaGreatDoorQ1
import Derived.Test.YtohcneeihdkfgaaGreatDoorQ3
import Derived.Test.YtohcneeihdkfgaaGreatDoorQ31
namespace Go.Proofs.YtohcneeihdkfgaaGreatDoor
open Go.ChangeShapes Go.WideShapes Go.ChangeAt Go.RowKit
open BN
/-- A Rat laid cell by cell. -/
theorem RA.lay {w:World} {b:Nat} {n1 m1 m2:Bool} {u1 u2 va vb:Value} {o R A B:Nat} (J:w.cell? ⟨b,0,none⟩=some (.bool m1)) (z2:w.cell? ⟨b,1,none⟩=some u1) (z3:w.cell? ⟨b,2,none⟩=some (.bool m2)) (z4:w.cell? ⟨b,3,none⟩=some u2)
  (f1:w.frozen? ⟨b,0,none⟩=false) (f2:w.frozen? ⟨b,1,none⟩=false) (f3:w.frozen? ⟨b,2,none⟩=false) (f4:w.frozen? ⟨b,3,none⟩=false) (K:Num w u1 o) (L:Num w u2 R) (X:Num w va A) (hb:Num w vb B):
  RA ((((w.setCell ⟨b,0,none⟩ (.bool n1)).setCell ⟨b,1,none⟩ va).setCell ⟨b,2,none⟩ (.bool false)).setCell ⟨b,3,none⟩ vb) b n1 va A vb B:=by
 have C:∀ (x:Bool) (z:Int),Value.bool x≠ .int .u32 z:=fun x z h=>by cases h
 have I:(w.setCell ⟨b,0,none⟩ (.bool n1)).cell? ⟨b,1,none⟩=some u1:=by rw[World.cell?_setCell_other _ _ _ _ (by intro e;injection e with _ e;omega)];exact z2
 have S:(w.setCell ⟨b,0,none⟩ (.bool n1)).cell? ⟨b,2,none⟩=some (.bool m2):=by rw[World.cell?_setCell_other _ _ _ _ (by intro e;injection e with _ e;omega)];exact z3
 have U:(w.setCell ⟨b,0,none⟩ (.bool n1)).cell? ⟨b,3,none⟩=some u2:=by rw[World.cell?_setCell_other _ _ _ _ (by intro e;injection e with _ e;omega)];exact z4
 have e0:(w.setCell ⟨b,0,none⟩ (.bool n1)).cell? ⟨b,0,none⟩=some (.bool n1):=World.cell?_setCell_same _ _ _ J;have Y:=num_other X (u':= .bool n1) J (C m1);have Z:=num_other hb (u':= .bool n1) J (C m1);have c:=num_other L (u':= .bool n1) J (C m1);have M:World.frozen? (w.setCell ⟨b,0,none⟩ (.bool n1))=w.frozen? :=by funext p;exact World.frozen?_setCell ..
 generalize w.setCell ⟨b,0,none⟩ (.bool n1)=E at *;have g0:(E.setCell ⟨b,1,none⟩ va).cell? ⟨b,0,none⟩=some (.bool n1):=by rw[World.cell?_setCell_other _ _ _ _ (by intro e;injection e with _ e;omega)];exact e0
 have g1:(E.setCell ⟨b,1,none⟩ va).cell? ⟨b,1,none⟩=some va:=World.cell?_setCell_same _ _ _ I;have g2:(E.setCell ⟨b,1,none⟩ va).cell? ⟨b,2,none⟩=some (.bool m2):=by rw[World.cell?_setCell_other _ _ _ _ (by intro e;injection e with _ e;omega)];exact S
 have g3:(E.setCell ⟨b,1,none⟩ va).cell? ⟨b,3,none⟩=some u2:=by rw[World.cell?_setCell_other _ _ _ _ (by intro e;injection e with _ e;omega)];exact U
 have D:∀ z,u1≠ .int .u32 z:=fun z=>jk K _ z;have d:=num_other Y (u':=va) I D;have i:=num_other Z (u':=va) I D;have l3:=num_other c (u':=va) I D;have N:World.frozen? (E.setCell ⟨b,1,none⟩ va)=w.frozen? :=by funext p;rw[World.frozen?_setCell,M]
 generalize E.setCell ⟨b,1,none⟩ va=F at *;have W:(F.setCell ⟨b,2,none⟩ (.bool false)).cell? ⟨b,0,none⟩=some (.bool n1):=by rw[World.cell?_setCell_other _ _ _ _ (by intro e;injection e with _ e;omega)];exact g0
 have h1:(F.setCell ⟨b,2,none⟩ (.bool false)).cell? ⟨b,1,none⟩=some va:=by rw[World.cell?_setCell_other _ _ _ _ (by intro e;injection e with _ e;omega)];exact g1
 have h2:(F.setCell ⟨b,2,none⟩ (.bool false)).cell? ⟨b,2,none⟩=some (.bool false):=World.cell?_setCell_same _ _ _ g2;have h3:(F.setCell ⟨b,2,none⟩ (.bool false)).cell? ⟨b,3,none⟩=some u2:=by rw[World.cell?_setCell_other _ _ _ _ (by intro e;injection e with _ e;omega)];exact g3
 have j:=num_other d (u':= .bool false) g2 (C m2);have k:=num_other i (u':= .bool false) g2 (C m2);have m:=num_other l3 (u':= .bool false) g2 (C m2);have O:World.frozen? (F.setCell ⟨b,2,none⟩ (.bool false))=w.frozen? :=by funext p;rw[World.frozen?_setCell,N]
 generalize F.setCell ⟨b,2,none⟩ (.bool false)=s at *;refine RA.setB (B:=R) (vb:=u2) ⟨⟨W,h1,?_,?_⟩,j,⟨h2,h3,?_,?_⟩,m⟩ k
 all_goals rw[O];assumption
theorem q0P (n:Bool) (a g:Nat):sg n (a/g)=Int.tdiv (sg n a) g:=by
 unfold sg;cases n<;>simp [Int.neg_tdiv]
set_option maxRecDepth 10000 in
set_option maxHeartbeats 2000000 in
theorem gM (w:World) (A ba oa bb ob:Nat) (s1 s2 sa:Int) (B K:Nat) (hK:K≤300000) (J:sa.natAbs<2^(32*K)) (L:B<2^(32*K)) (d:0<B) (bv:A<w.heap.size) (y:ba<w.heap.size) (af:bb<w.heap.size)
  (hz:RatIs w A s1 s2) (ha:IntIs w ba oa sa) (hb:IntIs w bb ob (B:Int)):
  Calls Tryz.prog 61 #[.pointer (some ⟨A,0,none⟩),.pointer (some ⟨ba,oa,none⟩),.pointer (some ⟨bb,ob,none⟩)] w (NormTo w A (Int.tdiv sa (Nat.gcd sa.natAbs B:Nat)) (B/Nat.gcd sa.natAbs B)):=by
 have X:Hid (∀ F p,G w F→NI w F p 0→_):=fun F p g h=>my F p 0 ba oa 0 sa K eX J h.2.1 (de g y) h.2.2 (ha.G y g);have Y:Hid (∀ F p,G w F→NI w F p 0→_):=fun F p g h=>my F p 0 bb ob 0 B K eX (by rw[aA];exact L) h.2.1 (de g af) h.2.2 (hb.G af g);have HZ:Hid (RatIs w A s1 s2):=hz;have W:Hid (sa.natAbs<2^(32*K)):=J;have ap:Hid (B<2^(32*K)):=L;have an:Hid (0<B):=d;obtain⟨nb,vb,b',⟨-,c2,-,-⟩,ce,E,-⟩:=hb;obtain⟨m,hm,bw,O⟩:=ce;obtain⟨pb,cb,rfl,-,-⟩:=fF hm;have ai:m.length≠0:=by
  intro h0;rw[aN h0] at O;have:b'=0:=O.symm;rw[this] at E;unfold sg at E;simp at E;omega
 have cl:((m.length:Int)==0)=false:=by simp;intro h;exact ai (by rw[h];rfl)
 generalize m.length=j at *;clear hz ha hm bw O E ai J L d;go_enter Tryz.func61,Tryz.ntmps61;go_wp2_with fail;have D:=ei (ad w) 43;have C:=(ad w).alloc (.cells #[.bool false,.slice none 0 0] 43);refine Calls.mono (P:=Tryz.prog) (X.out _ _ C D) ?_;intro e w3 R;obtain⟨rfl,M,N,-,-⟩:=bj C D R;clear R D C c2;have dq:A<w.heap.size:=bv;generalize ee:w.heap.size=pn at *;go_wp2_with fail;have D:=ei M 43;have o:=N.G ((ad w3).alloc (.cells #[.bool false,.slice none 0 0] 43));have C:=ab M ((ad w3).alloc (.cells #[.bool false,.slice none 0 0] 43));have cc:w3.heap.size≠pn:=by have:=N.2.1;omega
 refine Calls.mono (P:=Tryz.prog) (Y.out _ _ C D) ?_;intro e w4 R;obtain⟨rfl,k,i,-,ag⟩:=bj C D R;have s:=ag pn sa cc.symm o;clear R D C ag o N M X Y;generalize w3.heap.size=pd at *;have ec:=i.1;have di:=s.1;obtain⟨-,dl,n1,v1,I,⟨c1,c2,-,-⟩,S,h1,Z⟩:=s;obtain⟨-,cz,n2,v2,a2,⟨c3,c4,-,-⟩,U,h2,c⟩:=i;have ci:=HZ.out.G eX k;obtain⟨⟨m1,u1,x1,⟨z1,z2,f1,f2⟩,al,-,-⟩,⟨m2,u2,x2,⟨z3,z4,f3,f4⟩,am,-,-⟩⟩:=ci;obtain⟨q1,r1,t1,rfl⟩:=kz S;obtain⟨q2,r2,t2,rfl⟩:=kz U;simp only[aK,Nat.reduceAdd] at z2 z4 f2 f4 c2 c4;have ds:¬ A=pn:=by omega
 have dr:¬ A=pd:=by omega
 have cs:¬ pn=A:=by omega
 have cr:¬ pd=A:=by omega
 have ca:n2=false:=by
  cases n2
  ·rfl
  ·have:=c rfl;unfold sg at h2;simp at h2;omega
 subst ca;have ea:=gp h1;have eb:a2=B:=by unfold sg at h2;simp at h2;omega
 subst eb;have bs:Hid (n1=true→I≠0):=Z;have bl:Hid (sg n1 (I/Nat.gcd I a2)=Int.tdiv sa (Nat.gcd sa.natAbs a2:Nat)):=by
  show sg n1 (I/Nat.gcd I a2)=Int.tdiv sa (Nat.gcd sa.natAbs a2:Nat);rw[q0P,h1,← ea]
 have bi:Hid (a2/Nat.gcd I a2=a2/Nat.gcd sa.natAbs a2):=by rw[← ea];exact rfl
 rw[← ea] at W;have bu:Hid (RA ((((w4.setCell ⟨A,0,none⟩ (.bool n1)).setCell ⟨A,1,none⟩ (.slice q1 r1 t1)).setCell ⟨A,2,none⟩ (.bool false)).setCell ⟨A,3,none⟩ (.slice q2 r2 t2)) A n1 (.slice q1 r1 t1) I (.slice q2 r2 t2) a2):=
  RA.lay z1 z2 z3 z4 f1 f2 f3 f4 al am S U
 have bm:Hid (GX A w ((((w4.setCell ⟨A,0,none⟩ (.bool n1)).setCell ⟨A,1,none⟩ (.slice q1 r1 t1)).setCell ⟨A,2,none⟩ (.bool false)).setCell ⟨A,3,none⟩ (.slice q2 r2 t2))):=GX.set (GX.set (GX.set (GX.set (GX.of k) _) _) _) _;have cd:A<((((w4.setCell ⟨A,0,none⟩ (.bool n1)).setCell ⟨A,1,none⟩ (.slice q1 r1 t1)).setCell ⟨A,2,none⟩ (.bool false)).setCell ⟨A,3,none⟩ (.slice q2 r2 t2)).heap.size:=by
  have:A<w4.heap.size:=by omega
  simpa [World.setCell] using this
 clear Z h1 h2 c ea S U al am HZ;go_wp2_with fail;refine Calls.mono (P:=Tryz.prog) (q2Z _ A n1 _ _ I a2 K hK W.out ap.out an.out bs.out cd bu.out) ?_;intro e w6 R;obtain⟨rfl,k1,k2⟩:=R;rw[bl.out,bi.out] at k2;have bq:=hi9 k2;have bn:Hid (GX A w w6):=GX.trans bm.out k1;clear k1 k2;go_wp2_with fail;go_ret;exact⟨rfl,bn.out,bq.out⟩
end Go.Proofs.YtohcneeihdkfgaaGreatDoor
