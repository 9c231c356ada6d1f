/- What is proved here: contracts of the reference's ratios: SetFrac, over this seat's translation. -/
import Derived.Test.YtfnkkkcojnffdaaGreatDoorQ1
import Derived.Test.YtfnkkkcojnffdaaGreatDoorQ3
import Derived.Test.YtfnkkkcojnffdaaGreatDoorQ34
namespace Go.Proofs.YtfnkkkcojnffdaaGreatDoor
open Go.ChangeShapes Go.WideShapes Go.ChangeAt Go.RowKit
open BN
/-- A Rat laid cell by cell. -/
theorem RA.lay {w:World} {b:Nat} {n1 m1 m2:Bool} {u1 u2 va vb:Value} {o R A B:Nat} (J:w.cell? ⟨b,0,none⟩=some (.bool m1)) (z2:w.cell? ⟨b,1,none⟩=some u1) (z3:w.cell? ⟨b,2,none⟩=some (.bool m2)) (z4:w.cell? ⟨b,3,none⟩=some u2)
  (f1:w.frozen? ⟨b,0,none⟩=false) (f2:w.frozen? ⟨b,1,none⟩=false) (f3:w.frozen? ⟨b,2,none⟩=false) (f4:w.frozen? ⟨b,3,none⟩=false) (K:Num w u1 o) (L:Num w u2 R) (X:Num w va A) (hb:Num w vb B):
  RA ((((w.setCell ⟨b,0,none⟩ (.bool n1)).setCell ⟨b,1,none⟩ va).setCell ⟨b,2,none⟩ (.bool false)).setCell ⟨b,3,none⟩ vb) b n1 va A vb B:=by
 have C:∀ (x:Bool) (z:Int),Value.bool x≠ .int .u32 z:=fun x z h=>by cases h
 have I:(w.setCell ⟨b,0,none⟩ (.bool n1)).cell? ⟨b,1,none⟩=some u1:=by rw[World.cell?_setCell_other _ _ _ _ (by intro e;injection e with _ e;omega)];exact z2
 have S:(w.setCell ⟨b,0,none⟩ (.bool n1)).cell? ⟨b,2,none⟩=some (.bool m2):=by rw[World.cell?_setCell_other _ _ _ _ (by intro e;injection e with _ e;omega)];exact z3
 have U:(w.setCell ⟨b,0,none⟩ (.bool n1)).cell? ⟨b,3,none⟩=some u2:=by rw[World.cell?_setCell_other _ _ _ _ (by intro e;injection e with _ e;omega)];exact z4
 have e0:(w.setCell ⟨b,0,none⟩ (.bool n1)).cell? ⟨b,0,none⟩=some (.bool n1):=World.cell?_setCell_same _ _ _ J;have Y:=num_other X (u':= .bool n1) J (C m1);have Z:=num_other hb (u':= .bool n1) J (C m1);have c:=num_other L (u':= .bool n1) J (C m1);have M:World.frozen? (w.setCell ⟨b,0,none⟩ (.bool n1))=w.frozen? :=by funext p;exact World.frozen?_setCell ..
 generalize w.setCell ⟨b,0,none⟩ (.bool n1)=E at *;have g0:(E.setCell ⟨b,1,none⟩ va).cell? ⟨b,0,none⟩=some (.bool n1):=by rw[World.cell?_setCell_other _ _ _ _ (by intro e;injection e with _ e;omega)];exact e0
 have g1:(E.setCell ⟨b,1,none⟩ va).cell? ⟨b,1,none⟩=some va:=World.cell?_setCell_same _ _ _ I;have g2:(E.setCell ⟨b,1,none⟩ va).cell? ⟨b,2,none⟩=some (.bool m2):=by rw[World.cell?_setCell_other _ _ _ _ (by intro e;injection e with _ e;omega)];exact S
 have g3:(E.setCell ⟨b,1,none⟩ va).cell? ⟨b,3,none⟩=some u2:=by rw[World.cell?_setCell_other _ _ _ _ (by intro e;injection e with _ e;omega)];exact U
 have D:∀ z,u1≠ .int .u32 z:=fun z=>iu K _ z;have d:=num_other Y (u':=va) I D;have i:=num_other Z (u':=va) I D;have l3:=num_other c (u':=va) I D;have N:World.frozen? (E.setCell ⟨b,1,none⟩ va)=w.frozen? :=by funext p;rw[World.frozen?_setCell,M]
 generalize E.setCell ⟨b,1,none⟩ va=F at *;have W:(F.setCell ⟨b,2,none⟩ (.bool false)).cell? ⟨b,0,none⟩=some (.bool n1):=by rw[World.cell?_setCell_other _ _ _ _ (by intro e;injection e with _ e;omega)];exact g0
 have h1:(F.setCell ⟨b,2,none⟩ (.bool false)).cell? ⟨b,1,none⟩=some va:=by rw[World.cell?_setCell_other _ _ _ _ (by intro e;injection e with _ e;omega)];exact g1
 have h2:(F.setCell ⟨b,2,none⟩ (.bool false)).cell? ⟨b,2,none⟩=some (.bool false):=World.cell?_setCell_same _ _ _ g2;have h3:(F.setCell ⟨b,2,none⟩ (.bool false)).cell? ⟨b,3,none⟩=some u2:=by rw[World.cell?_setCell_other _ _ _ _ (by intro e;injection e with _ e;omega)];exact g3
 have j:=num_other d (u':= .bool false) g2 (C m2);have k:=num_other i (u':= .bool false) g2 (C m2);have m:=num_other l3 (u':= .bool false) g2 (C m2);have O:World.frozen? (F.setCell ⟨b,2,none⟩ (.bool false))=w.frozen? :=by funext p;rw[World.frozen?_setCell,N]
 generalize F.setCell ⟨b,2,none⟩ (.bool false)=s at *;refine RA.setB (B:=R) (vb:=u2) ⟨⟨W,h1,?_,?_⟩,j,⟨h2,h3,?_,?_⟩,m⟩ k
 all_goals rw[O];assumption
theorem qg (n:Bool) (a g:Nat):sg n (a/g)=Int.tdiv (sg n a) g:=by
 unfold sg;cases n<;>simp [Int.neg_tdiv]
set_option maxRecDepth 10000 in
set_option maxHeartbeats 2000000 in
theorem gN (w:World) (A ba oa bb ob:Nat) (s1 s2 sa:Int) (B K:Nat) (hK:K≤300000) (J:sa.natAbs<2^(32*K)) (L:B<2^(32*K)) (d:0<B) (cd:A<w.heap.size) (y:ba<w.heap.size) (al:bb<w.heap.size)
  (hz:RatIs w A s1 s2) (ha:IntIs w ba oa sa) (hb:IntIs w bb ob (B:Int)):
  Calls Tryz.prog 43 #[.pointer (some ⟨A,0,none⟩),.pointer (some ⟨ba,oa,none⟩),.pointer (some ⟨bb,ob,none⟩)] w (NormTo w A (Int.tdiv sa (Nat.gcd sa.natAbs B:Nat)) (B/Nat.gcd sa.natAbs B)):=by
 have X:Hid (∀ F p,G w F→NI w F p 0→_):=fun F p g h=>jY F p 0 ba oa 0 sa K eK J h.2.1 (dp g y) h.2.2 (ha.G y g);have Y:Hid (∀ F p,G w F→NI w F p 0→_):=fun F p g h=>jY F p 0 bb ob 0 B K eK (by rw[ar];exact L) h.2.1 (dp g al) h.2.2 (hb.G al g);have HZ:Hid (RatIs w A s1 s2):=hz;have W:Hid (sa.natAbs<2^(32*K)):=J;have bl:Hid (B<2^(32*K)):=L;have bi:Hid (0<B):=d;obtain⟨nb,vb,b',⟨-,c2,-,-⟩,cn,E,-⟩:=hb;obtain⟨m,hm,ce,O⟩:=cn;obtain⟨pb,cb,rfl,-,-⟩:=fa hm;have an:m.length≠0:=by
  intro h0;rw[aH h0] at O;have:b'=0:=O.symm;rw[this] at E;unfold sg at E;simp at E;omega
 have cs:((m.length:Int)==0)=false:=by simp;intro h;exact an (by rw[h];rfl)
 generalize m.length=j at *;clear hz ha hm ce O E an J L d;go_enter Tryz.func43,Tryz.ntmps43;go_wp2_with fail;have D:=eu (ag w) 43;have C:=(ag w).alloc (.cells #[.bool false,.slice none 0 0] 43);refine Calls.mono (P:=Tryz.prog) (X.out _ _ C D) ?_;intro e w3 R;obtain⟨rfl,M,N,-,-⟩:=cf C D R;clear R D C c2;have dq:A<w.heap.size:=cd;generalize ed:w.heap.size=pn at *;go_wp2_with fail;have D:=eu M 43;have o:=N.G ((ag w3).alloc (.cells #[.bool false,.slice none 0 0] 43));have C:=aa M ((ag w3).alloc (.cells #[.bool false,.slice none 0 0] 43));have cl:w3.heap.size≠pn:=by have:=N.2.1;omega
 refine Calls.mono (P:=Tryz.prog) (Y.out _ _ C D) ?_;intro e w4 R;obtain⟨rfl,k,i,-,am⟩:=cf C D R;have s:=am pn sa cl.symm o;clear R D C am o N M X Y;generalize w3.heap.size=pd at *;have ec:=i.1;have dk:=s.1;obtain⟨-,dl,n1,v1,I,⟨c1,c2,-,-⟩,S,h1,Z⟩:=s;obtain⟨-,cz,n2,v2,a2,⟨c3,c4,-,-⟩,U,h2,c⟩:=i;have cr:=HZ.out.G eK k;obtain⟨⟨m1,u1,x1,⟨z1,z2,f1,f2⟩,ao,-,-⟩,⟨m2,u2,x2,⟨z3,z4,f3,f4⟩,ap,-,-⟩⟩:=cr;obtain⟨q1,r1,t1,rfl⟩:=jb S;obtain⟨q2,r2,t2,rfl⟩:=jb U;simp only[aD,Nat.reduceAdd] at z2 z4 f2 f4 c2 c4;have ds:¬ A=pn:=by omega
 have dr:¬ A=pd:=by omega
 have cy:¬ pn=A:=by omega
 have cx:¬ pd=A:=by omega
 have ci:n2=false:=by
  cases n2
  ·rfl
  ·have:=c rfl;unfold sg at h2;simp at h2;omega
 subst ci;have ea:=fP h1;have eb:a2=B:=by unfold sg at h2;simp at h2;omega
 subst eb;have ca:Hid (n1=true→I≠0):=Z;have bq:Hid (sg n1 (I/Nat.gcd I a2)=Int.tdiv sa (Nat.gcd sa.natAbs a2:Nat)):=by
  show sg n1 (I/Nat.gcd I a2)=Int.tdiv sa (Nat.gcd sa.natAbs a2:Nat);rw[qg,h1,← ea]
 have bn:Hid (a2/Nat.gcd I a2=a2/Nat.gcd sa.natAbs a2):=by rw[← ea];exact rfl
 rw[← ea] at W;have cc:Hid (RA ((((w4.setCell ⟨A,0,none⟩ (.bool n1)).setCell ⟨A,1,none⟩ (.slice q1 r1 t1)).setCell ⟨A,2,none⟩ (.bool false)).setCell ⟨A,3,none⟩ (.slice q2 r2 t2)) A n1 (.slice q1 r1 t1) I (.slice q2 r2 t2) a2):=
  RA.lay z1 z2 z3 z4 f1 f2 f3 f4 ao ap S U
 have bs:Hid (GX A w ((((w4.setCell ⟨A,0,none⟩ (.bool n1)).setCell ⟨A,1,none⟩ (.slice q1 r1 t1)).setCell ⟨A,2,none⟩ (.bool false)).setCell ⟨A,3,none⟩ (.slice q2 r2 t2))):=GX.set (GX.set (GX.set (GX.set (GX.of k) _) _) _) _;have cm:A<((((w4.setCell ⟨A,0,none⟩ (.bool n1)).setCell ⟨A,1,none⟩ (.slice q1 r1 t1)).setCell ⟨A,2,none⟩ (.bool false)).setCell ⟨A,3,none⟩ (.slice q2 r2 t2)).heap.size:=by
  have:A<w4.heap.size:=by omega
  simpa [World.setCell] using this
 clear Z h1 h2 c ea S U ao ap HZ;go_wp2_with fail;refine Calls.mono (P:=Tryz.prog) (q0s _ A n1 _ _ I a2 K hK W.out bl.out bi.out ca.out cm cc.out) ?_;intro e w6 R;obtain⟨rfl,k1,k2⟩:=R;rw[bq.out,bn.out] at k2;have bv:=hi9 k2;have bu:Hid (GX A w w6):=GX.trans bs.out k1;clear k1 k2;go_wp2_with fail;go_ret;exact⟨rfl,bu.out,bv.out⟩
end Go.Proofs.YtfnkkkcojnffdaaGreatDoor
