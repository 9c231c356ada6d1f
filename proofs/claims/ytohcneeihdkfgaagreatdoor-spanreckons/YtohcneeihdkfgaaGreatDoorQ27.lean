/- What is proved here: contracts of package exact: divide, over this seat's translation.
What is proved here: contracts of package exact: divide, over, over this seat's translation.
What is proved here: contracts of package exact: root, over this seat's translation.
What is proved here: Lehmer's steps, their arithmetic (no program).
What is proved here: contracts of package exact: shares, over this seat's translation.
What is proved here: contracts of package exact: mix, over this seat's translation.
What is proved here: contracts of package exact: nearer, over this seat's translation.
What is proved here: contracts of package exact: euclid, over this seat's translation.
What is proved here: contracts of package exact: common, over this seat's translation.
What is proved here: contracts of package exact: whole numbers with a sign, over this seat's translation. -/
import Derived.Test.YtohcneeihdkfgaaGreatDoorQ1
import Derived.Test.YtohcneeihdkfgaaGreatDoorQ10
import Derived.Test.YtohcneeihdkfgaaGreatDoorQ3
import Derived.Test.YtohcneeihdkfgaaGreatDoorQ8
import Derived.Test.YtohcneeihdkfgaaGreatDoorQ26
import Derived.Test.YtohcneeihdkfgaaGreatDoorQ6
import Derived.Test.YtohcneeihdkfgaaGreatDoorQ9
namespace Go.Proofs.YtohcneeihdkfgaaGreatDoor.EN
open Go.ChangeShapes Go.WideShapes Go.ChangeAt Go.RowKit
/-- A quotient and a rest, both numbers. -/
def q0u (w:World) (q r:Nat) (e:Ending) (A:World):Prop:=∃ B v2,e= .returned (.tuple #[B,v2])∧G w A∧Num A B q∧Num A v2 r
theorem pE (w:World) (va vb:Value) (a b K:Nat) (R:K≤400000) (I:Num w va a) (hb:Num w vb b) (B:a<2^(64*K)) (D:b<2^(64*K)) (A:a<b):
  Calls Tryz.prog 89 #[va,vb] w (q0u w (a/b) (a%b)):=by
 have F:=hi9 (jx w va vb a b K eX I hb B D);rw[show cmpV a b= -1 from by unfold cmpV;rw[if_pos A]] at F;have J:Hid (∀ E,G w E→_):=fun E g=>q2t E va a K eX (I.G g) B;rw[b9 A,bh A];clear I hb B D A;go_enter Tryz.func89,Tryz.ntmps89;go_wp2_with fail;refine eW F.out ?_;rintro e E ⟨rfl,g1⟩;have C:=hi9 (J.out E g1);clear J F;go_wp2_with fail;refine eW C.out ?_;intro e O N;obtain⟨v,rfl,g2,L⟩:=N;have M:Hid (Num O v a):=L;clear L C;go_wp2_with fail
 go_ret2
 exact⟨_,v,rfl,ab g1 g2,⟨[],⟨iv,Or.inl ⟨rfl,_,_,rfl⟩⟩,gT,rfl⟩,M.out⟩
theorem qF (w:World) (va vb:Value) (a b K:Nat) (hK:K≤400000) (Z:Num w va a) (hb:Num w vb b) (D:a<2^(64*K)) (J:b<2^64) (I:0<b) (d:b≤a) (af:1≤K):
  Calls Tryz.prog 89 #[va,vb] w (q0u w (a/b) (a%b)):=by
 have X:=hi9 (jx w va vb a b K eX Z hb D eX);have O:cmpV a b=0∨cmpV a b=1:=by unfold cmpV;rw[if_neg eX];split;exact Or.inl rfl;exact Or.inr rfl
 have ai:decide (cmpV a b<0)=false:=by rcases O with h|h<;>rw[h]<;>rfl
 have s:Hid (∀ W,G w W→_):=fun W g=>jW W va a b K eX (Z.G g) D I J;have y:Hid _:=fun w=>nS w (a%b) (by have:=aW a I;omega);obtain⟨m,hm,N,A⟩:=hb;have i:=fg (k:=1) N (by rw[A];simpa using J);have B:m≠[]:=by intro e;rw[e] at A;simp [val] at A;omega
 have R:m.length=1:=by have:=cq.2 B;omega
 have L:m.getD 0 0=b:=by
  have:=fT (l:=m) (k:=0) eX;rw[aR (show m.length≤0+1 by omega),A] at this;simpa [val] using this.symm
 obtain⟨pb,cb,rfl,c,U⟩:=fF hm;obtain⟨b1,o1,rfl,C,E⟩:=U 0 eX;rw[L,aP] at E;rw[R] at X ⊢;generalize cmpV a b=cv at *;have ag:(b:Int)≤18446744073709551615:=by omega
 clear Z U hm N A i B R L c D d hK O;go_enter Tryz.func89,Tryz.ntmps89;go_wp2_with fail;refine eW X.out ?_;rintro e W ⟨rfl,g1⟩;have M:=g1.cell C E;have o:=aj C g1.size;have F:=hi9 (s.out W g1);clear X s E C;go_wp2_with fail;refine eW F.out ?_;intro e w2 j;obtain⟨v,rfl,g2,hn⟩:=j;have HN:Hid (Num w2 v (a/b)):=hn;clear hn F M o;go_wp2_with fail;refine eW (y.out _) ?_;intro e w3 j;obtain⟨v2,rfl,g3,S⟩:=j;have Y:Hid (Num w3 v2 (a%b)):=S;clear S y;go_wp2_with fail
 go_ret2
 exact⟨v,v2,rfl,ab (ab g1 g2) g3,HN.out.G g3,Y.out⟩
theorem Own.gb {w B:World} {b c o n:Nat} {l:List Nat} (h:Own w b l) (g:GB c o n w B) (A:b≠c):Own B b l:=by
 have hb:=g.gx.block b h.2.1 (by intro e;cases e;exact A rfl);refine⟨h.1,aj h.2.1 g.size,fun i hi=> ?_,fun i hi=> ?_⟩
 ·exact(World.cell?_of_block hb).trans (h.2.2.1 i hi)
 ·exact(World.frozen?_of_block hb).trans (h.2.2.2 i hi)
theorem Own.setOther {w:World} {b c i:Nat} {l:List Nat} {u:Value} (h:Own w b l) (A:b≠c):Own (w.setCell ⟨c,i,none⟩ u) b l:=
 ⟨h.1,by simpa [World.setCell] using h.2.1,h.2.2.1.set A,fun j B=>by rw[World.frozen?_setCell];exact h.2.2.2 j B⟩
theorem Sl.setOther {w:World} {B D cv m c i:Nat} {vl:List Nat} {u:Value} (h:Sl w (.slice (some ⟨B,D,none⟩) m cv) vl) (C:B≠c):Sl (w.setCell ⟨c,i,none⟩ u) (.slice (some ⟨B,D,none⟩) m cv) vl:=by
 refine⟨h.1,?_⟩;rcases h.2 with ⟨h1,h2⟩|⟨J,K,c1,e,h1,h2,h3⟩
 ·exact Or.inl ⟨h1,h2⟩
 ·injection e with A E F;injection A with A;injection A with A I;subst A;subst I;subst E;subst F;exact Or.inr ⟨B,D,cv,rfl,h1,by simpa [World.setCell] using h2,h3.set C⟩
set_option maxHeartbeats 4000000 in
set_option maxRecDepth 100000 in
theorem qE (w:World) (va vb:Value) (a b K:Nat) (X:K≤400000) (ha:Num w va a) (hb:Num w vb b) (ce:a<2^(64*K)) (ci:b<2^(64*K)) (pm:b≤a) (lc:2^64≤b):
  Calls Tryz.prog 89 #[va,vb] w (q0u w (a/b) (a%b)):=by
 have HC:=hi9 (jx w va vb a b K eX ha hb ce ci);have E:cmpV a b=0∨cmpV a b=1:=by unfold cmpV;rw[if_neg eX];split;exact Or.inl rfl;exact Or.inr rfl
 have qd:decide (cmpV a b<0)=false:=by rcases E with h|h<;>rw[h]<;>rfl
 obtain⟨l,hl,B,I⟩:=ha;obtain⟨m,hm,Y,bn⟩:=hb;have po:=fg B (by rw[I];exact ce);have pq:=fg Y (by rw[bn];exact ci);have nc:2≤m.length:=by
  by_cases h:2≤m.length
  ·exact h
  ·have h1:=fO Y.1;have h2:2^(64*m.length)≤2^(64*1):=ao eX eX;rw[bn] at h1;omega
 have ms:m.length≤l.length:=by
  by_cases h:m.length≤l.length
  ·exact h
  ·have:=gq B Y eX;omega
 obtain⟨n,hn⟩:∃ n,m.length=n+1:=⟨m.length-1,by omega⟩;obtain⟨s,s1,s2,s3,s4,s5⟩:=lR Y hn;rw[bn] at s3 s4 s5;have hx:=ff Y.1 n;have hc:Hid _:=fun w=>Tryz.bits_LeadingZeros64 (m.getD n 0:Int) w eX eX;rw[dw,← s2] at hc;have gm:Hid (∀ w1,G w w1→_):=fun w1 g=>jq w1 vb b s K eX eX (Num.G ⟨m,hm,Y,bn⟩ g) ci;have ii:Hid (∀ w1,G w w1→_):=fun w1 g=>jq w1 va a s K eX eX (Num.G ⟨l,hl,B,I⟩ g) ce;obtain⟨pa,ca,rfl,pi,-⟩:=fF hl;obtain⟨pb,cb,rfl,mm,hq⟩:=fF hm;obtain⟨b1,o1,rfl,hj,ls⟩:=hq n eX;generalize m.getD n 0=top at *;have mp:2^(64*l.length)>a:=by have:=fO B.1;rw[I] at this;exact this
 generalize pp:l.length=A at *;rw[hn] at HC gm ms nc mm hq ⊢;generalize cmpV a b=cv at *;have y:Hid (a<2^(64*A)):=mp;have bw:Hid (b*2^s<2^(64*(n+1))):=s3;have oo:Hid (2^(64*n)≤b):=s4;have kp:Hid (2^(64*n)≤b*2^s):=s5;have af:Hid (0<b):=by show 0<b;omega
 have qy:(n:Int)≤400000:=by omega
 have qx:(A:Int)≤400000:=by omega
 have qz:(n:Int)+1≤A:=by omega
 have hp:(1:Int)≤n:=by omega
 have ra:(s:Int)≤63:=by omega
 have rb:((n:Int)+1==1)=false:=by simp;omega
 clear hl B I hm Y bn po pq hx hq mp pp pi mm s1 s2 s3 s4 s5 E pm lc ce ci hn ms nc;go_enter Tryz.func89,Tryz.ntmps89;go_wp2_with fail;refine eW HC.out ?_;rintro e w1 ⟨rfl,g1⟩;have lw:=g1.cell hj ls;have pr:=aj hj g1.size;clear HC ls hj;go_wp2_with fail;refine eW (hc.out _) ?_;rintro e w2 ⟨rfl,rfl⟩;clear hc lw pr;have ea:=hi9 (gm.out _ g1);clear gm;go_wp2_with fail;refine eW ea.out ?_;intro e w3 hs;obtain⟨v,rfl,g3,cr⟩:=hs;have it:Hid (Num w3 v (b*2^s)):=cr;have g13:=ab g1 g3;clear cr ea g1 g3;have ni:=gV (A+1) eX;rw[show ((A+1:Nat):Int)=(A:Int)+1 from by omega] at ni;go_wp2_with fail;have c:=hi9 (gh w3 (A+1) 90);have cl:G w3 (w3.alloc (.cells (madeCells #[.int .u64 0] (A+1)) 90)):=(ad _).alloc _;obtain⟨vl,C,Z,bs⟩:=it.out;have I:vl.length=n+1:=by
  have k1:=fg Z (by rw[bs];exact bw.out);by_cases h:n+1≤vl.length
  ·omega
  ·have k2:=fO Z.1;have k3:2^(64*vl.length)≤2^(64*n):=ao eX eX;have:=kp.out;omega
 have ps:=jL Z I;obtain⟨pv,N,rfl,E,oa⟩:=fF C;obtain⟨L,ov,rfl,pe,-⟩:=oa n eX;rw[I] at C E ⊢;have ga:=C.G cl;have G4:=ab g13 cl;have ds:=hi9 (ii.out _ G4);have di:w3.heap.size<(w3.alloc (.cells (madeCells #[.int .u64 0] (A+1)) 90)).heap.size:=by simp
 generalize w3.alloc (.cells (madeCells #[.int .u64 0] (A+1)) 90)=w4 at *;have hy:=g13.size;obtain⟨U,li⟩:∃ U,U=w3.heap.size:=⟨_,rfl⟩;rw[← li] at c pe hy di ⊢;have bz:Hid (Sl w4 (.slice (some ⟨L,ov,none⟩) (n+1) N) vl):=ga;have ox:Hid (vl.length=n+1):=I;have hh:Hid (val vl=b*2^s):=bs;have oy:Hid (0<vl.getD n 0):=by show 0<vl.getD n 0;omega
 have lm:L<w4.heap.size:=by omega
 have fb:L≠U:=by omega
 have em:Hid (Sl w3 (.slice (some ⟨L,ov,none⟩) (n+1) N) vl):=C;clear C ga Z bs I ps oa E ii it kp ni bz;refine eW ds.out ?_;intro e w5 hs;obtain⟨v2,rfl,g5,cr⟩:=hs;obtain⟨al,hr,fh,bm⟩:=cr;have fa:al.length≤A+1:=by
  refine fg fh ?_;rw[bm];have h1:a*2^s<2^(64*A)*2^s:=av y.out (ae s);rw[← ah] at h1;exact aj h1 (ao eX eX)
 have fr:=Own.grow c.out g5;obtain⟨w6,nz,bl,hk⟩:=qB (w0:=w3) (n:=A+1) (va:=v2) fr fX hr fa (ab cl g5) eX 3;have gd:(al++(List.replicate (A+1) 0).drop al.length).length=A+1:=by rw[br,dt,List.length_replicate];omega
 have gg:val (al++(List.replicate (A+1) 0).drop al.length)=a*2^s:=by
  rw[val_append,eG,mP,bG,aP,bm]
 obtain⟨pz,cz,rfl,-,-⟩:=fF hr;generalize al++(List.replicate (A+1) 0).drop al.length=dq at *;obtain⟨M,hM⟩:∃ M,A=n+M:=⟨A-n,by omega⟩;have qc:1≤M:=by omega
 have kx:a*2^s<2^(64*M)*(b*2^s):=by
  have k1:2^(64*M)*2^(64*n)≤2^(64*M)*b:=aB _ oo.out;rw[← ah,show 64*M+64*n=64*A from by omega] at k1;rw[← ar];exact av (by have:=y.out;omega) (ae s)
 have ia:Hid (DI dq (List.replicate M 0) M (A+1) M (b*2^s) (a*2^s)):=DI.start gd gg kx;have ec:Hid (Own w6 U dq):=bl;have ep:Hid (Sl w6 (.slice (some ⟨L,ov,none⟩) (n+1) N) vl):=em.out.G hk;have G6:=ab g13 hk;have lg:U<w6.heap.size:=bl.2.1;have an:L<w6.heap.size:=by omega
 have nl:=gV M eX;have ph:(A:Int)-((n:Int)+1)+1=(M:Int):=by omega
 have pu:(M:Int)≤400000:=by omega
 have HM:Hid (A=n+M):=hM;have hz:Hid (L≠U):=fb;clear hr fh bm fa fr bl hk gd gg kx ds c g5 cl G4 g13 em lm di li y hM fb;go_wp2_with fail;have ag:=hi9 (gh w6 M 90);have ap:G w6 (w6.alloc (.cells (madeCells #[.int .u64 0] M) 90)):=(ad _).alloc _;have di:w6.heap.size<(w6.alloc (.cells (madeCells #[.int .u64 0] M) 90)).heap.size:=by simp
 generalize w6.alloc (.cells (madeCells #[.int .u64 0] M) 90)=w7 at *;have dr:Hid (L<w7.heap.size):=aj an ap.size;have ob:=G6.size;generalize w6.heap.size=d at *;have ee:Hid (Own w7 U dq):=Own.grow ec.out ap;have eu:Hid (Sl w7 (.slice (some ⟨L,ov,none⟩) (n+1) N) vl):=ep.out.G ap;have G7:=ab G6 ap;have kb:Hid (d≠U):=by show d≠U;omega
 have ol:Hid (d≠L):=by show d≠L;omega
 have pc:Hid (w.heap.size≤d):=ob;have pd:Hid (w.heap.size≤U):=hy;clear ec ep G6 ap lg an nl di ob hy ph nz
 go_loopw [11] (fun vi wr=>∃ (t:Nat) (us k:List Nat),t≤M∧vi= .int .i64 ((t:Int)-1)∧DI us k t (A+1) M (b*2^s) (a*2^s)∧Own wr U us∧Own wr d k∧Sl wr (.slice (some ⟨L,ov,none⟩) (n+1) N) vl∧L<wr.heap.size∧G w wr) (fun vi _=>(intOf vi+1).toNat)
 case atStart=>exact⟨M,dq,_,aI _,rfl,ia.out,ee.out,ag.out,eu.out,dr.out,G7⟩
 case round=>
  clear ia ee ag eu G7 dr;obtain⟨t,us,k,ht,rfl,R,S,bi,C,O,hG⟩:=hrel;cases t with
  |succ j=>
   have dl:us.length=A+1:=R.1;have hw:=fun cs=>DI.step (cs:=cs) (n:=n+1) R S.1 eX (by have:=HM.out;omega) bw.out (aM af.out (ae s));have D:=At.sub (i:=j) (n:=n+1+1) S.at (by have:=HM.out;omega);have F:((us.drop j).take (n+1+1)).length=n+2:=by rw[bD,dt];have:=HM.out;omega
   rw[aK] at D;have ih:Hid _:=q4g wr U j (A+1-j) L ov N _ vl n eX F ox.out D (by rw[F];have:=HM.out;omega) C hz.out O oy.out (by rw[hh.out];exact(hw []).1);have hg:=hi9 hw;have c:Hid (Own wr U us):=S;have ag:Hid (Own wr d k):=bi;have bz:Hid (Sl wr (.slice (some ⟨L,ov,none⟩) (n+1) N) vl):=C;have kq:=hi9 F;have kw:Hid (us.length=A+1):=dl;have he:Hid (k.length=M):=R.2.1;have qm:(j:Int)+1≤M:=by omega
   have pn:(j:Int)+((n:Int)+1)+1≤(A:Int)+1:=by have:=HM.out;omega
   have py:U<wr.heap.size:=S.2.1;have px:d<wr.heap.size:=bi.2.1;clear hw D F dl R S bi C;go_wp2_with fail;rw[show j+(n+1)+1-j=n+2 from by omega];refine eW ih.out ?_;rintro e w8 ⟨cs,rfl,B,ky,W,E⟩;rw[kq.out] at B W;rw[hh.out] at E;have fp:=(hg.out cs).2 B E;have mn:=At.join (o:=0) (i:=j) (n:=n+2) c.out.at (by rw[aK];exact W) (by rw[aK];exact ky) B (by have:=kw.out;have:=HM.out;omega);have jj:Hid (Own w8 U (us.take j++(cs++us.drop (j+(n+2))))):=mn.own;have ai:Hid (Own w8 d k):=Own.gb ag.out W kb.out;have kr:Hid (Sl w8 (.slice (some ⟨L,ov,none⟩) (n+1) N) vl):=Sl.gb bz.out W hz.out O;have pf:=GB.fresh hG W pd.out;have ib:Hid (DI (us.take j++(cs++us.drop (j+(n+2)))) (k.set j (val ((us.drop j).take (n+1+1))/(b*2^s))) j (A+1) M (b*2^s) (a*2^s)):=fp;have lk:L<w8.heap.size:=aj O W.size;have fs:val ((us.drop j).take (n+1+1))/(b*2^s)<2^64:=by
    have h1:=(hg.out []).1;exact(aO (aM af.out (ae s))).2 h1
   rw[hh.out];generalize val ((us.drop j).take (n+1+1))/(b*2^s)=q at *;generalize us.take j++(cs++us.drop (j+(n+2)))=pt at *;have ho:=Own.cell (w:=w8) (b:=d) (l:=k) (i:=j) ai.out (by have:=he.out;omega);have hf:=Own.frozen (w:=w8) (b:=d) (l:=k) (i:=j) ai.out (by have:=he.out;omega);have jp:Hid (q<2^64):=fs;generalize k.getD j 0=z at *;clear fp mn B ky W E ih hg kq kw c ag bz fs hG O pn;go_wp2_with fail
   go_roundw
   case rel=>exact⟨j,pt,k.set j q,by omega,by congr 1,ib.out,Own.setOther jj.out kb.out.symm,Own.set ai.out j q (by have:=he.out;omega) jp.out,Sl.setOther kr.out ol.out.symm,by simpa [World.setCell] using lk,pf.setCell (p:=⟨d,j,none⟩) pc.out _⟩
   case measure=>simp [intOf]
  |zero=>
   obtain⟨f1,f2⟩:=DI.fin R (ae s) af.out;have dl:us.length=A+1:=R.1;have nx:k.length=M:=R.2.1;have ez:Hid (∀ J,G wr J→Calls Tryz.prog 167 #[.slice (some ⟨d,0,none⟩) M M] J (fo J (a/b))):=by
    intro J g;have h2:=gi (Own.grow bi g) nx eX;rw[f1] at h2;exact h2
   have D:=At.sub (i:=0) (n:=n+1) S.at eX;have F:((us.drop 0).take (n+1)).length=n+1:=by rw[List.drop_zero,bD];omega
   have fv:val ((us.drop 0).take (n+1))=(a%b)*2^s:=by
    have k1:=mg us 0 (n+1) eX;have k2:val (us.drop (n+1))=0:=by
     rw[iD S.1];refine b9 ?_;rw[f2];have k3:(a%b)*2^s<b*2^s:=av (aW _ af.out) (ae s);have:=bw.out;omega
    simp only[aK] at k1;rw[k2] at k1;simp only[List.take_zero,bG,cf,aT,aP,val,aK] at k1;rw[← k1,f2]
   have ks:Hid (∀ J,G wr J→Calls Tryz.prog 167 #[.slice (some ⟨U,0,none⟩) (n+1) (A+1)] J (fo J ((a%b)*2^s))):=by
    intro J g;have h1:=(At.gr D g).sl (A+1) (by rw[F];omega);rw[F] at h1;have h2:=trim_c J _ _ h1 (by rw[F];omega);rw[fv] at h2;exact h2
   have HR:Hid (∀ J v,Num J v ((a%b)*2^s)→Calls Tryz.prog 165 #[v,.int .i64 (s:Int)] J (fo J (a%b))):=by
    intro J v hv;have h1:=iN J v _ s (n+1) eX eX hv (by
     have k3:(a%b)*2^s<b*2^s:=av (aW _ af.out) (ae s);have:=bw.out;omega)
    rw[dk _ (ae s)] at h1;exact h1
   clear f1 f2 dl nx D F fv R S bi C O;have qa:n≤A:=by omega
   have qb:(0:Int)≤(n:Int)+1:=by omega
   go_wp2_with fail;refine gL 9 (G wr) eZ (by first|exact(ad _).drew|exact G.drew mB) ?_;intro cd;refine eY 0 (v:= ?_) rfl eZ (fun _ _ _ h=>h) rfl ?_ ‹_› ?_;rotate_left
   ·exact mA
   try simp only[aput,List.set]
   refine eY 2 (v:= ?_) rfl eZ (fun _ _ _ h=>h) rfl ?_ ‹_› ?_;rotate_left
   ·exact mA
   try simp only[aput,List.set]
   refine eY 3 (v:= ?_) rfl eZ (fun _ _ _ h=>h) rfl ?_ ‹_› ?_;rotate_left
   ·exact mA
   try simp only[aput,List.set]
   refine eY 4 (v:= ?_) rfl eZ (fun _ _ _ h=>h) rfl ?_ ‹_› ?_;rotate_left
   ·exact mA
   try simp only[aput,List.set]
   refine eY 5 (v:= ?_) rfl eZ (fun _ _ _ h=>h) rfl ?_ ‹_› ?_;rotate_left
   ·exact mA
   try simp only[aput,List.set]
   refine eY 7 (v:= ?_) rfl eZ (fun _ _ _ h=>h) rfl ?_ ‹_› ?_;rotate_left
   ·exact mA
   try simp only[aput,List.set]
   refine fc (i:=1) eZ rfl ?_;intro K X;go_simp;go_wp2_with (go_at_call 167;refine eW (ez.out _ cd) ?_;intro e J hs;obtain⟨v1,rfl,g9,hp⟩:=hs);refine X.out _ _ (Or.inr (ab cd g9)) ?_;clear X K;have cc:=ab cd g9;have io:Hid (Num J v1 (a/b)):=hp;clear hp cd g9;refine fc (i:=6) eZ rfl ?_;intro K X;go_simp;go_wp2_with (go_at_call 167;refine eW (ks.out _ cc) ?_;intro e oe hs;obtain⟨v2,rfl,g10,np⟩:=hs);refine X.out _ _ (Or.inr (ab cc g10)) ?_;clear X K;have am:=ab cc g10;have eb:Hid (Num oe v1 (a/b)):=io.out.G g10;have kk:=hi9 (HR.out oe v2 np);clear np cc g10 io HR ks ez;refine fc (i:=8) eZ rfl ?_;intro K X;go_simp;go_wp2_with (go_at_call 165;refine eW kk.out ?_;intro e oi hs;obtain⟨v3,rfl,g11,nr⟩:=hs);refine X.out _ _ (Or.inr (ab am g11)) ?_;clear X K;have lb:=ab am g11;have oj:Hid (Num oi v3 (a%b)):=nr;have hd:Hid (Num oi v1 (a/b)):=eb.out.G g11;clear nr am g11 eb kk;refine fc (i:=9) eZ rfl ?_;intro K X;go_simp;refine X.out _ _ (Or.inl fk) ?_;clear X K;refine fc (i:=10) eZ rfl ?_;intro K X;go_simp;refine X.out _ _ (Or.inl fk) ?_;clear X K;refine fS eZ ?_ _;go_wp2_with fail
   go_ret2
   exact⟨v1,v3,rfl,ab hG lb,hd.out,oj.out⟩
theorem kn (w:World) (va vb:Value) (a b K:Nat) (C:K≤400000) (D:1≤K) (E:Num w va a) (hb:Num w vb b) (A:a<2^(64*K)) (B:b<2^(64*K)) (F:0<b):
  Calls Tryz.prog 89 #[va,vb] w (q0u w (a/b) (a%b)):=by
 by_cases h:a<b
 ·exact pE w va vb a b K C E hb A B h
 ·by_cases h2:b<2^64
  ·exact qF w va vb a b K C E hb A h2 F eX D
  ·exact qE w va vb a b K C E hb A B eX eX
theorem mS {p n:Nat}:n+1=blen ((2*p+1)*2^n)↔p=0:=by
 have A:(2*p+1)*2^n≠0:=bK eX (Nat.ne_of_gt (ae n));unfold blen;rw[if_neg A];constructor
 ·intro h;have h1:=(dS (k:=n) A).1 eX;have h2:(2*p+1)*2^n<2*2^n:=by rw[← dT];exact h1.2
  have:=bJ h2;omega
 ·rintro rfl;have B:=ae n;have h1:=(dS (k:=n) A).2 ⟨by omega,by rw[bH];omega⟩;omega
theorem q5j {a p i K:Nat} (B:a=(2*p+1)*2^i) (A:a<2^(64*K)):i<64*K:=by
 have:2^i≤a:=by rw[B];exact Nat.le_mul_of_pos_left _ eX
 exact(aV (by omega:1<2)).1 (aD this A)
theorem kB (w:World) (va vb:Value) (a b K:Nat) (hK:K≤150000) (X:1≤K) (Y:Tab w) (U:Num w va a) (hb:Num w vb b) (I:a<2^(64*K)) (B:b<2^(64*K)) (J:0<b):
  Calls Tryz.prog 78 #[va,vb] w (fo w (a/b)):=by
 obtain⟨p,n,L⟩:=lI b J;have m:=q5j L B;have F:=hi9 (me w vb b p n K eX Y hb B L);have S:Hid (∀ A,G w A→Calls Tryz.prog 162 #[vb] A fun e w'=>e= .returned (.int .i64 (blen b))∧G A w'):=fun A g=>kg A vb b K eX (hb.G g) B;have D:=mS (p:=p) (n:=n);rw[← L] at D;have o:(n:Int)≤9600000:=by omega
 by_cases h1:p=0
 ·have O:b=2^n:=by rw[L,h1];omega
  have y:(((n:Int)+1)==(blen b:Int))=true:=by have:=D.2 h1;simp;omega
  have k:Hid (∀ A,G w A→Calls Tryz.prog 165 #[va,.int .i64 (n:Int)] A (fo A (a/b))):=fun A g=>by
   rw[O];exact iN A va a n K eX eX (U.G g) I
  generalize blen b=s at *;clear U hb I B J h1 O L D m Y;go_enter Tryz.func78,Tryz.ntmps78;go_wp2_with fail;refine eW F.out ?_;rintro e A ⟨rfl,g1⟩;have C:=hi9 (S.out A g1);clear F S;go_wp2_with fail;refine eW C.out ?_;rintro e d ⟨rfl,g2⟩;have g12:=ab g1 g2;have N:=hi9 (k.out d g12);clear C k g1 g2;go_wp2_with fail;refine eW N.out ?_;intro e i c;obtain⟨R,rfl,g3,E⟩:=c;have W:Hid (Num i R (a/b)):=E;clear E N;go_wp2_with fail;go_ret;exact⟨R,rfl,ab g12 g3,W.out⟩
 ·have y:(((n:Int)+1)==(blen b:Int))=false:=by have:=fun h=>h1 (D.1 h);simp;omega
  have j:Hid (∀ A,G w A→_):=fun A g=>kn A va vb a b K eX X (U.G g) (hb.G g) I B J;generalize blen b=s at *;clear U hb I B J h1 L D m Y;go_enter Tryz.func78,Tryz.ntmps78;go_wp2_with fail;refine eW F.out ?_;rintro e A ⟨rfl,g1⟩;have C:=hi9 (S.out A g1);clear F S;go_wp2_with fail;refine eW C.out ?_;rintro e d ⟨rfl,g2⟩;have g12:=ab g1 g2;have M:=hi9 (j.out d g12);clear C j g1 g2;go_wp2_with fail;refine eW M.out ?_;intro e i c;obtain⟨R,v2,rfl,g3,E,Z⟩:=c;have W:Hid (Num i R (a/b)):=E;clear E Z M;go_wp2_with fail;go_ret;exact⟨R,rfl,ab g12 g3,W.out⟩
/-- The number that a slice of words holds. -/
def numV (w:World):Value→Nat
 | .slice (some a) n _=>val ((List.range n).map fun i=>match w.cell? ⟨a.block,a.off+i,none⟩ with
  |some (.int _ z)=>z.toNat
  |_=>0)
 |_=>0
theorem ji {w:World} {v:Value} {n:Nat} (h:Num w v n):numV w v=n:=by
 obtain⟨l,A,-,rfl⟩:=h;rcases Sl.cases A with ⟨rfl,a,c,rfl⟩|⟨-,b,o,c,rfl,-,-,B⟩
 ·cases a<;>rfl
 ·show val _=val l
  congr 1
  refine List.ext_getElem fX fun i h1 h2=> ?_;rw[List.getElem_map,List.getElem_range];rw[B i h2];simp [List.getD_eq_getElem?_getD,h2]
/-- Newton's steps. -/
theorem q1G {a r s:Nat} (h:r*r≤a) (C:0<s):r≤(s+a/s)/2:=by
 rw[aZ eX];by_cases h2:2*r≤s
 ·generalize a/s=f;omega
 ·obtain⟨t,D⟩:∃ t,2*r=s+t:=⟨2*r-s,by omega⟩;have h3:t*s≤r*r:=by
   have E:(s+t)*(s+t)=4*(r*r):=by rw[← D,show 2*r*(2*r)=2*2*(r*r) from by ac_rfl]
   have F:(s+t)*(s+t)=s*s+t*t+2*(t*s):=by rw[aL,aE,aE,aJ s t];omega
   have I:2*(t*s)≤s*s+t*t:=by
    rcases Nat.le_total s t with h|h
    ·obtain⟨d,rfl⟩:∃ d,t=s+d:=⟨t-s,by omega⟩;have A:(s+d)*(s+d)=s*s+2*(s*d)+d*d:=by rw[aL,aE,aE,aJ d s];omega
     have B:(s+d)*s=s*s+s*d:=by rw[aL,aJ d s]
     omega
    ·obtain⟨d,rfl⟩:∃ d,s=t+d:=⟨s-t,by omega⟩;have A:(t+d)*(t+d)=t*t+2*(t*d)+d*d:=by rw[aL,aE,aE,aJ d t];omega
     have B:t*(t+d)=t*t+t*d:=by rw[aE]
     omega
   omega
  have J:t≤a/s:=(aZ C).2 eX;omega
theorem q06 {a r s:Nat} (h1:a<(r+1)*(r+1)) (A:0<s) (C:r≤s) (h:s≤(s+a/s)/2):s=r:=by
 have h2:s≤a/s:=by omega
 have h3:=(aZ A).1 h2;by_cases B:s≤r
 ·omega
 ·have:(r+1)*(r+1)≤s*s:=bF eX eX;omega
theorem pU {a r:Nat} (h:r*r≤a):r≤2^((blen a+1)/2):=by
 by_cases A:r≤2^((blen a+1)/2)
 ·exact A
 ·exfalso;have h1:2^((blen a+1)/2)*2^((blen a+1)/2)≤r*r:=bF eX eX;rw[← ah] at h1;have h2:a<2^blen a:=by
   unfold blen;split
   ·omega
   ·exact cK
  have h3:2^blen a≤2^((blen a+1)/2+(blen a+1)/2):=ao eX eX;omega
set_option maxHeartbeats 4000000 in
set_option maxRecDepth 100000 in
theorem q6q (w:World) (va:Value) (a r K:Nat) (hK:K≤100000) (fa:1≤K) (ha:Num w va a) (B:a<2^(64*K)) (L:r*r≤a) (i:a<(r+1)*(r+1)):
  Calls Tryz.prog 94 #[va] w (fo w r):=by
 have HA:Hid (Num w va a):=ha;have HS:Hid (∀ w1,G w w1→_):=fun w1 g=>kg w1 va a K eX (ha.G g) B;obtain⟨l,hl,Y,J⟩:=ha;obtain⟨pa,ca,rfl,bl,-⟩:=fF hl;have bv:=fg Y (by rw[J];exact B);by_cases h0:l.length=0
 ·have bs:l=[]:=aN h0;have X:a=0:=by rw[← J,bs];rfl
  have cc:r=0:=by
   rcases cm r with h|h
   ·exact h
   ·have:=bF h h;omega
  rw[h0,cc];clear hl Y J bl bv h0 bs X cc HA HS L i B;go_enter Tryz.func94,Tryz.ntmps94;go_wp2_with fail;go_ret;exact⟨_,rfl,ad _,[],⟨iv,Or.inl ⟨rfl,_,_,rfl⟩⟩,gT,rfl⟩
 ·have ce:((l.length:Int)==0)=false:=by simp;exact fun e=>h0 (by rw[e];rfl)
  have bi:blen a≤64*K:=by
   unfold blen;split
   ·omega
   ·have:=(cT eX).2 B;omega
  generalize l.length=j at *;have dr:Hid (r*r≤a):=L;have al:Hid (a<(r+1)*(r+1)):=i;have cl:Hid (a<2^(64*K)):=B;have ez:Hid (blen a≤64*K):=bi;have fr:((blen a:Nat):Int)≤6400000:=by omega
  have ec:((blen a:Nat):Int)+1=((blen a+1:Nat):Int):=by omega
  obtain⟨k,hk⟩:∃ k,k=(blen a+1)/2:=⟨_,rfl⟩;have fp:(((blen a:Nat):Int)+1)/2=(k:Int):=by omega
  have ds:Hid (r≤2^k):=by show r≤2^k;rw[hk];exact pU L
  have cz:Hid (2^k<2^(64*(2*K))):=bk eX eX;have fs:(k:Int)≤3200001:=by omega
  generalize eb:blen a=bb at *;have fh:(j:Int)≤100000:=by omega
  clear hl Y J bl bv h0 bi L i B hk ec;go_enter Tryz.func94,Tryz.ntmps94;go_wp2_with fail;have Z:G w (w.alloc (.cells #[.int .u64 1] 90)):=(ad _).alloc _;have D:=ma w 1 90 eX;have O:Hid (Num (w.alloc (.cells #[.int .u64 1] 90)) (.slice (some ⟨w.heap.size,0,none⟩) 1 1) 1):=⟨[1],D,⟨D.1,fun _=>by simp⟩,rfl⟩;have am:=hi9 (HS.out _ Z);generalize w.alloc (.cells #[.int .u64 1] 90)=w1 at *;clear D HS eb;refine eW am.out ?_;rintro e w2 ⟨rfl,g2⟩;have HL:=hi9 (jq w2 _ 1 k 1 eX eX (O.out.G g2) eX);have G2:=ab Z g2;clear O am Z g2;go_wp2_with fail;refine eW HL.out ?_;intro e w3 m;obtain⟨v,rfl,g3,F⟩:=m;rw[aT] at F;have HN:Hid (Num w3 v (2^k)):=F;have G3:=ab G2 g3;clear F HL G2 g3;go_wp2_with fail
  go_loopw [3] (fun vs wr=>∃ t:Nat,Num wr vs t∧0<t∧r≤t∧t≤2^k∧G w wr) (fun vs wr=>numV wr vs)
  case atStart=>exact⟨2^k,HN.out,ae k,ds.out,aI _,G3⟩
  case round=>
   clear HN G3;obtain⟨t,F,E,cd,o,hG⟩:=hrel;have bw:=ji F;have di:Hid (numV wr u3=t):=bw;have C:a<2^(64*(2*K)):=aj cl.out (ao eX eX);have M:t<2^(64*(2*K)):=aD o cz.out;have HD:=hi9 (kn wr _ u3 a t (2*K) eX eX (HA.out.G hG) F C M E);have hq:a/t<2^(64*(2*K)):=aD (aX a t) C;have HP:Hid (∀ A v,G wr A→Num A v (a/t)→Calls Tryz.prog 90 #[u3,v] A (fo A (t+a/t))):=fun A v g hv=>q39 A u3 v t (a/t) (2*K) eX (F.G g) hv M hq;have R:t+a/t<2^(64*(2*K+1)):=by
    have:2^(64*(2*K+1))=2^(64*(2*K))*2^64:=by rw[← ah];rfl
    omega
   have HH:Hid (∀ A v,Num A v (t+a/t)→Calls Tryz.prog 165 #[v,.int .i64 1] A (fo A ((t+a/t)/2))):=by
    intro A v hv;have h1:=iN A v _ 1 (2*K+1) eX eX hv R;rw[Nat.pow_one] at h1;exact h1
   have bq:=q1G dr.out E;have bn:=q06 al.out E cd;have s:Hid (∀ A v,G wr A→Num A v ((t+a/t)/2)→_):=fun A v g hv=>jx A v u3 ((t+a/t)/2) t (2*K+1) eX hv (F.G g) eX (aj M (ao eX eX));have cs:Hid (r≤(t+a/t)/2):=bq;have cr:Hid (t≤(t+a/t)/2→t=r):=bn;have dq:Hid (Num wr u3 t):=F;have ea:Hid (t≤2^k):=o;have ai:Hid (0<(t+a/t)/2):=by
    show 0<(t+a/t)/2;by_cases h1:2≤t
    ·generalize a/t=f;omega
    ·have h2:t=1:=by omega
     have h3:1≤r∨r=0:=by omega
     rcases h3 with h3|h3
     ·omega
     ·exfalso;have:=al.out;rw[h3] at this;have X:a=0:=by omega
      have ap:=HA.out;rw[X] at ap;obtain⟨l2,em,ee,eu⟩:=ap;have bu:=(ie ee).1 eu;obtain⟨a2,c2,e2,-,-⟩:=fF em;rw[bu] at e2;injection e2 with e3 e4 e5;rw[e4] at ce;simp at ce
   generalize (t+a/t)/2=N at *;generalize t+a/t=sm at *;generalize a/t=q at *;clear bw C M hq R bq bn F o cd;go_wp2_with fail;refine eW HD.out ?_;intro e A m;obtain⟨v1,v2,rfl,g5,bz,ep⟩:=m;have ag:=hi9 (HP.out A v1 g5 bz);clear bz ep HD HP;go_wp2_with fail;refine eW ag.out ?_;intro e w6 m;obtain⟨v3,rfl,g6,cb⟩:=m;have y:=hi9 (HH.out w6 v3 cb);have an:=ab g5 g6;clear cb ag HH g5 g6;go_wp2_with fail;refine eW y.out ?_;intro e w7 m;obtain⟨v4,rfl,g7,d⟩:=m;have I:=ab an g7;have U:Hid (Num w7 v4 N):=d;have S:=hi9 (s.out w7 v4 I d);clear d y an g7 s;go_wp2_with fail;refine eW S.out ?_;rintro e w8 ⟨rfl,g8⟩;have W:=ab I g8;by_cases c:N<t
   ·rw[show cmpV N t= -1 from by unfold cmpV;rw[if_pos c]];have af:Hid (Num w8 v4 N):=U.out.G g8;clear S U I g8;go_wp2_with fail
    go_roundw
    case rel=>exact⟨N,af.out,ai.out,cs.out,by have:=ea.out;omega,ab hG W⟩
    case measure=>
     have h1:=ji af.out;have h2:=di.out;show numV w8 v4<numV wr u3;omega
   ·have bm:cmpV N t=0∨cmpV N t=1:=by unfold cmpV;rw[if_neg c];split;exact Or.inl rfl;exact Or.inr rfl
    have fb:decide (0≤cmpV N t)=true:=by rcases bm with h|h<;>rw[h]<;>rfl
    have ci:t=r:=cr.out eX;have dl:Hid (Num w8 u3 r):=by show Num w8 u3 r;rw[← ci];exact dq.out.G W
    generalize cmpV N t=cv at *;clear S U I g8 bm ci c;go_wp2_with fail;go_ret;exact⟨_,rfl,ab hG W,dl.out⟩
/-- A share's number: of a and b, the sign told by s. -/
def mx (s:Bool) (a b p q:Nat):Int:=if s then (a:Int)*p-(b:Int)*q else (b:Int)*q-(a:Int)*p
/-- Along the row of rests: x, y are rests of the first words x0, y0; sure and next are their shares. -/
structure LR (a b x0 y0 x y la lb sa sb na nb:Nat) (tn:Bool):Prop where
 f1:x*nb+y*sb=x0
 fx:(x:Int)=mx tn x0 y0 sa sb
 fy:(y:Int)=mx (!tn) x0 y0 na nb
 yx:y≤x
 nn:na≤nb
 sn:sa+na≤sb+nb
 n1:1≤nb
 sx:sb≤x
 sw:tn=false→sa≤sb
 det:(if tn then (sa:Int)*nb-(sb:Int)*na else (sb:Int)*na-(sa:Int)*nb)=1
 sure:sb=0∨mx tn a b sa sb≤b
 last:lb=0∨((if tn then (lb:Int)*sa-(la:Int)*sb else (la:Int)*sb-(lb:Int)*sa)=1∧0≤mx tn a b sa sb∧mx tn a b sa sb<mx (!tn) a b la lb∧mx (!tn) a b la lb≤b)
/-- A number of first words and what is behind them. -/
theorem re {s:Bool} {a b B y0 p q P A be:Nat} (C:a=B*P+A) (hb:b=y0*P+be):mx s a b p q=mx s B y0 p q*P+(if s then (A:Int)*p-(be:Int)*q else (be:Int)*q-(A:Int)*p):=by
 have h1:(a:Int)*p=(B:Int)*p*P+(A:Int)*p:=by
  rw[C];push_cast;rw[Int.add_mul];congr 1;ac_rfl
 have h2:(b:Int)*q=(y0:Int)*q*P+(be:Int)*q:=by
  rw[hb];push_cast;rw[Int.add_mul];congr 1;ac_rfl
 unfold mx;cases s
 ·simp only[ax,if_false];rw[h1,h2,cO];omega
 ·simp only[if_true];rw[h1,h2,cO];omega
/-- It isn't below 0, if its first words are enough. -/
theorem q65 {s:Bool} {a b C y0 p q P A be z:Nat} (D:a=C*P+A) (hb:b=y0*P+be) (h1:A<P) (h2:be<P) (F:(z:Int)=mx s C y0 p q) (M:q≤z) (E:s=false→p≤q):0≤mx s a b p q:=by
 rw[re D hb,← F];have I:(q:Int)*P≤(z:Int)*P:=Int.mul_le_mul_of_nonneg_right eX eX;cases s
 ·have B:=E rfl;have J:(A:Int)*p≤(P:Int)*q:=by
   have:A*p≤P*q:=bF eX B;have h:=Int.ofNat_le.2 this
   rwa[aG,aG] at h
  have K:(0:Int)≤(be:Int)*q:=dM eX eX;have L:(P:Int)*q=(q:Int)*P:=dz _ _;simp only[ax,if_false];omega
 ·have J:(be:Int)*q≤(P:Int)*q:=Int.mul_le_mul_of_nonneg_right eX eX;have K:(0:Int)≤(A:Int)*p:=dM eX eX;have L:(P:Int)*q=(q:Int)*P:=dz _ _;simp only[if_true];omega
theorem q6W {s:Bool} {a b C y0 p q P A be:Nat} {z:Int} (E:a=C*P+A) (hb:b=y0*P+be) (h1:A<P) (h2:be<P) (K:z=mx s C y0 p q) (I:(q:Int)≤z) (B:p≤q) (J:1≤q):0<mx s a b p q:=by
 rw[re E hb,← K];have L:(q:Int)*P≤z*P:=Int.mul_le_mul_of_nonneg_right I eX;have R:(P:Int)*q=(q:Int)*P:=dz _ _;have lt:∀ c p:Nat,c<P→p≤q→(c:Int)*p<(P:Int)*q:=by
  intro c p F B;have h3:(c+1)*q≤P*q:=au _ F;have O:c*p≤c*q:=aB _ B;have D:c*p<P*q:=by rw[aL,aT] at h3;omega
  have h:=Int.ofNat_lt.2 D
  rwa[aG,aG] at h
 cases s
 ·have M:=lt A p h1 B;have N:(0:Int)≤(be:Int)*q:=dM eX eX;simp only[ax,if_false];omega
 ·have M:=lt be q h2 (aI _);have N:(0:Int)≤(A:Int)*p:=dM eX eX;simp only[if_true];omega
theorem q05 (s:Bool) (a b p q A B:Nat):mx s a b (p+A) (q+B)=mx s a b p q-mx (!s) a b A B:=by
 unfold mx;cases s<;>simp only[dX,dv,ax,if_false,if_true]<;>push_cast<;>rw[Int.mul_add,Int.mul_add]<;>omega
theorem q63 (s:Bool) (a b p q k:Nat):mx s a b (k*p) (k*q)=k*mx s a b p q:=by
 unfold mx;have A:(a:Int)*((k*p:Nat):Int)=k*((a:Int)*p):=by push_cast;ac_rfl
 have B:(b:Int)*((k*q:Nat):Int)=k*((b:Int)*q):=by push_cast;ac_rfl
 rw[A,B];cases s
 ·simp only[ax,if_false];rw[dW]
 ·simp only[if_true];rw[dW]
theorem LR.start {a b A y0:Nat} (h:y0≤A):LR a b A y0 A y0 0 0 1 0 0 1 true:=
 {f1:=by omega
  fx:=by simp [mx]
  fy:=by simp [mx]
  yx:=h
  nn:=by omega
  sn:=by omega
  n1:=by omega
  sx:=by omega
  sw:=fun h=>by cases h
  det:=by simp
  sure:=Or.inl rfl
  last:=Or.inl rfl}
theorem LR.step {a b I y0 x y m o sa A na nb P S be:Nat} {tn:Bool} (h:LR a b I y0 x y m o sa A na nb tn) (U:a=I*P+S) (hb:b=y0*P+be) (h1:S<P) (h2:be<P) (W:nb≤y) (hc:A+nb≤x-y):
  LR a b I y0 y (x%y) sa A na nb (sa+x/y*na) (A+x/y*nb) (!tn):=by
 obtain⟨f1,fx,fy,yx,nn,sn,n1,sx,sw,det,sure,last⟩:=h;have E:0<y:=by omega
 have N:1≤x/y:=(aZ E).2 eX;have L:=cu x y;have D:=aW x E;have K:0≤mx (!tn) a b na nb:=q65 U hb h1 h2 fy W (fun _=>nn);have J:mx (!tn) a b na nb<mx tn a b sa A:=by
  have k:(x:Int)-y=mx tn I y0 (sa+na) (A+nb):=by rw[q05,← fx,← fy]
  have:=q6W U hb h1 h2 k eX sn eX;rw[q05] at this;omega
 have B:(!(!tn))=tn:=by cases tn<;>rfl
 obtain⟨q,Z⟩:∃ q,q=x/y:=⟨_,rfl⟩;rw[← Z] at L N ⊢;have i:na+(q-1)*na=q*na:=by
  obtain⟨F,rfl⟩:∃ F,q=F+1:=⟨q-1,by omega⟩;rw[eh,aL,aT,cR]
 have c:nb+(q-1)*nb=q*nb:=by
  obtain⟨F,rfl⟩:∃ F,q=F+1:=⟨q-1,by omega⟩;rw[eh,aL,aT,cR]
 have d:(q-1)*na≤(q-1)*nb:=aB _ nn;refine⟨?_,fy,?_,dc D,by omega,by omega,by omega,W,fun _=>nn,?_,?_,?_⟩
 ·have s:y*(A+q*nb)=y*A+y*q*nb:=by rw[aE,ar]
  have e:x*nb=y*q*nb+x%y*nb:=by rw[← aL,L]
  omega
 ·rw[B,q05,q63,← fx];have X:mx (!tn) I y0 na nb=y:=fy.symm;rw[X];have:((y*q+x%y:Nat):Int)=(x:Int):=by rw[L]
  push_cast at this
  rw[dz (q:Int) y];omega
 ·cases tn
  ·simp only[dX,if_true,ax,if_false] at det ⊢
   push_cast
   rw[Int.mul_add,Int.mul_add,show (na:Int)*((q:Int)*nb)=(nb:Int)*((q:Int)*na) from by ac_rfl];rw[dz (sa:Int) nb,dz (A:Int) na] at det;omega
  ·simp only[dv,if_true,ax,if_false] at det ⊢
   push_cast
   rw[Int.mul_add,Int.mul_add,show (na:Int)*((q:Int)*nb)=(nb:Int)*((q:Int)*na) from by ac_rfl];rw[dz (sa:Int) nb,dz (A:Int) na] at det;omega
 ·right;rcases sure with C|C
  ·subst C;have j:(sa:Int)*nb=1∨ -((sa:Int)*nb)=1:=by
    cases tn
    ·right;simp only[ax,if_false] at det;omega
    ·left;simp only[if_true] at det;omega
   have Y:(0:Int)≤(sa:Int)*nb:=dM eX eX;have O:(sa:Int)*nb=1:=by omega
   have R:sa*nb=1:=by
    have:=O;rw[← aG] at this;omega
   have M:nb=1:=Nat.eq_one_of_mul_eq_one_left R;cases tn
   ·simp only[ax,if_false] at det;omega
   ·unfold mx;simp only[dv,ax,if_false];have:(0:Int)≤(a:Int)*na:=dM eX eX;rw[M];simp only[Int.natCast_one,cU];omega
  ·omega
 ·rcases sure with C|C
  ·exact Or.inl C
  ·right;rw[B];refine⟨?_,K,J,C⟩;cases tn
   ·simp only[dX,if_true,ax,if_false] at det ⊢;omega
   ·simp only[dv,if_true,ax,if_false] at det ⊢;omega
/-- What two shares of a and b have in common. -/
theorem q4x {a b C D sa E:Nat} {tn:Bool} {X Y:Nat} (R:(if tn then (D:Int)*sa-(C:Int)*E else (C:Int)*E-(D:Int)*sa)=1) (N:(X:Int)=mx (!tn) a b C D) (O:(Y:Int)=mx tn a b sa E):Nat.gcd X Y=Nat.gcd a b:=by
 have S:((Nat.gcd a b:Nat):Int)∣(a:Int):=cE.2 (cj _ _);have U:((Nat.gcd a b:Nat):Int)∣(b:Int):=cE.2 (bW _ _);have K:((Nat.gcd X Y:Nat):Int)∣(X:Int):=cE.2 (cj _ _);have L:((Nat.gcd X Y:Nat):Int)∣(Y:Int):=cE.2 (bW _ _);have main:∀ s:Bool,s=tn→∃ A B:Int,A=a∧B=b∧((X:Int)=B*D-A*C∧(Y:Int)=A*sa-B*E∧(D:Int)*sa-(C:Int)*E=1∨(X:Int)=A*C-B*D∧(Y:Int)=B*E-A*sa∧(C:Int)*E-(D:Int)*sa=1):=by
  intro s W;refine⟨a,b,rfl,rfl,?_⟩;cases tn
  ·right;simp only[mx,dX,if_true,ax,if_false] at N O R;exact⟨N,O,R⟩
  ·left;simp only[mx,dv,if_true,ax,if_false] at N O R;exact⟨N,O,R⟩
 obtain⟨A,B,rfl,rfl,F⟩:=main tn rfl;apply Nat.dvd_antisymm
 ·refine Nat.dvd_gcd (cE.1 ?_) (cE.1 ?_)
  ·rcases F with ⟨I,J,M⟩|⟨I,J,M⟩
   ·have:(a:Int)=X*E+Y*D:=by
     rw[I,J,cO,cO];have:(a:Int)*((D:Int)*sa-(C:Int)*E)=a:=by rw[M,cU]
     rw[dW] at this;rw[show (a:Int)*C*E=a*((C:Int)*E) from by ac_rfl,show (a:Int)*sa*D=a*((D:Int)*sa) from by ac_rfl,show (b:Int)*E*D=(b:Int)*D*E from by ac_rfl];omega
    rw[this];exact Int.dvd_add (dJ K (dH _ _)) (dJ L (dH _ _))
   ·have:(a:Int)=X*E+Y*D:=by
     rw[I,J,cO,cO];have:(a:Int)*((C:Int)*E-(D:Int)*sa)=a:=by rw[M,cU]
     rw[dW] at this;rw[show (a:Int)*C*E=a*((C:Int)*E) from by ac_rfl,show (a:Int)*sa*D=a*((D:Int)*sa) from by ac_rfl,show (b:Int)*E*D=(b:Int)*D*E from by ac_rfl];omega
    rw[this];exact Int.dvd_add (dJ K (dH _ _)) (dJ L (dH _ _))
  ·rcases F with ⟨I,J,M⟩|⟨I,J,M⟩
   ·have:(b:Int)=X*sa+Y*C:=by
     rw[I,J,cO,cO];have:(b:Int)*((D:Int)*sa-(C:Int)*E)=b:=by rw[M,cU]
     rw[dW] at this;rw[show (b:Int)*D*sa=b*((D:Int)*sa) from by ac_rfl,show (b:Int)*E*C=b*((C:Int)*E) from by ac_rfl,show (a:Int)*sa*C=(a:Int)*C*sa from by ac_rfl];omega
    rw[this];exact Int.dvd_add (dJ K (dH _ _)) (dJ L (dH _ _))
   ·have:(b:Int)=X*sa+Y*C:=by
     rw[I,J,cO,cO];have:(b:Int)*((C:Int)*E-(D:Int)*sa)=b:=by rw[M,cU]
     rw[dW] at this;rw[show (b:Int)*D*sa=b*((D:Int)*sa) from by ac_rfl,show (b:Int)*E*C=b*((C:Int)*E) from by ac_rfl,show (a:Int)*sa*C=(a:Int)*C*sa from by ac_rfl];omega
    rw[this];exact Int.dvd_add (dJ K (dH _ _)) (dJ L (dH _ _))
 ·refine Nat.dvd_gcd (cE.1 ?_) (cE.1 ?_)
  ·rcases F with ⟨I,-,-⟩|⟨I,-,-⟩<;>rw[I]<;>exact Int.dvd_sub (eV mB) (eV mB)
  ·rcases F with ⟨-,J,-⟩|⟨-,J,-⟩<;>rw[J]<;>exact Int.dvd_sub (eV mB) (eV mB)
/-- What two shares are to the numbers that their row begins with. -/
def LEnd (a b B A sa C:Nat) (tn:Bool):Prop:=A=0∨((if tn then (A:Int)*sa-(B:Int)*C else (B:Int)*C-(A:Int)*sa)=1∧0≤mx tn a b sa C∧mx tn a b sa C<mx (!tn) a b B A∧mx (!tn) a b B A≤b)
def q15 (a b:Nat) (w:World) (e:Ending) (D:World):Prop:=∃ (A B sa C:Nat) (tn:Bool),e= .returned (.tuple #[.agg #[.int .u64 (A:Int),.int .u64 (B:Int)],.agg #[.int .u64 (sa:Int),.int .u64 (C:Int)],.bool tn])∧G w D∧A<2^64∧B<2^64∧sa<2^64∧C<2^64∧LEnd a b A B sa C tn
/-- The walk's state: all that is in it is below a word. -/
structure LW (a b x0 y0 x y la lb sa sb na nb:Nat) (tn:Bool):Prop where
 lr:LR a b x0 y0 x y la lb sa sb na nb tn
 bx:x≤x0
 ba:la<18446744073709551616
 bb:lb<18446744073709551616
 bc:sa<18446744073709551616
 bd:sb<18446744073709551616
 be:na<18446744073709551616
 bf:nb<18446744073709551616
theorem LW.start {a b A y0:Nat} (h:y0≤A):LW a b A y0 A y0 0 0 1 0 0 1 true:=
 ⟨LR.start h,aI _,by omega,by omega,by omega,by omega,by omega,by omega⟩
/-- What is below a word in a step. -/
theorem LW.small {a b C y0 x y E F sa A na nb:Nat} {tn:Bool} (h:LW a b C y0 x y E F sa A na nb tn) (I:nb≤y):0<y∧y≤x∧A+nb≤C:=by
 have D:=h.lr.n1;have B:=h.lr.yx;have f1:=h.lr.f1;refine⟨by omega,B,?_⟩;have h1:1*nb≤x*nb:=au _ eX;have h2:1*A≤y*A:=au _ eX;omega
theorem LW.next {a b C y0 x y R S sa A na nb P D be q:Nat} {tn:Bool} (h:LW a b C y0 x y R S sa A na nb tn) (M:C<18446744073709551616) (F:a=C*P+D) (hb:b=y0*P+be) (h1:D<P) (h2:be<P) (N:nb≤y) (J:A+nb≤x-y) (L:q=x/y):
  LW a b C y0 y (x%y) sa A na nb (sa+q*na) (A+q*nb) (!tn)∧sa+q*na<18446744073709551616∧A+q*nb<18446744073709551616:=by
 have B:=h.lr.step F hb h1 h2 N J;rw[← L] at B;have K:=h.lr.n1;have O:=h.lr.yx;have I:=h.bx;have f1:=B.f1;have h3:1*(A+q*nb)≤y*(A+q*nb):=au _ eX;have U:=B.nn;have W:A+q*nb≤C:=by
  generalize y*(A+q*nb)=u at *;generalize x%y*nb=v at *;omega
 have h6:sa+q*na<18446744073709551616:=by omega
 have E:A+q*nb<18446744073709551616:=by omega
 exact⟨⟨B,by omega,h.bc,h.bd,h.be,h.bf,h6,E⟩,h6,E⟩
theorem nQ (w:World) (va:Value) (a n K:Nat) (F:n≤100000000) (L:K≤1040000) (C:Num w va a) (A:a<2^(64*K)) (I:a/2^n<2^64):
  Calls Tryz.prog 239 #[va,.int .i64 (n:Int)] w fun e J=>e= .returned (.int .u64 ((a/2^n:Nat):Int))∧G w J:=by
 obtain⟨l,D,B,rfl⟩:=C;have E:=fg B A;have h:=rS w va l n F D eX;rw[bh I] at h;exact h
theorem kC (w:World) (x y t:Nat) (B:x<2^64) (C:y<2^64):Own (w.alloc (.cells #[.int .u64 (x:Int),.int .u64 (y:Int)] t)) w.heap.size [x,y]:=by
 refine⟨?_,by simp,fun i hi=> ?_,fun i hi=> ?_⟩
 ·intro d A;simp only[cP,eA,or_false] at A;rcases A with rfl|rfl
  ·exact B
  ·exact C
 ·have h2:i<2:=hi;have h3:i=0∨i=1:=by omega
  rcases h3 with rfl|rfl<;>simp [go_sem]
 ·have h2:i<2:=hi;have h3:i=0∨i=1:=by omega
  rcases h3 with rfl|rfl<;>simp [go_sem]
theorem kc {w:World} {b x y x' y':Nat} (h:Own w b [x,y]) (A:x'<2^64) (B:y'<2^64):Own ((w.setCell ⟨b,0,none⟩ (.int .u64 (x':Int))).setCell ⟨b,1,none⟩ (.int .u64 (y':Int))) b [x',y']:=
 (h.set 0 x' fX A).set 1 y' fX B
theorem fZ {w:World} {b c:Nat} {u v:Value} {l:List Nat} (h:Own w b l) (A:b≠c):Own ((w.setCell ⟨c,0,none⟩ u).setCell ⟨c,1,none⟩ v) b l:=
 (h.setOther A).setOther A
theorem fJ {w:World} {b x y:Nat} (h:Own w b [x,y]):w.cell? ⟨b,0,none⟩=some (.int .u64 (x:Int))∧w.cell? ⟨b,1,none⟩=some (.int .u64 (y:Int))∧w.frozen? ⟨b,0,none⟩=false∧w.frozen? ⟨b,1,none⟩=false:=
 ⟨h.cell (i:=0) fX,h.cell (i:=1) fX,h.2.2.2 0 fX,h.2.2.2 1 fX⟩
theorem mX {w0 w:World} {b:Nat} {u v:Value} (g:G w0 w) (h:w0.heap.size≤b):G w0 ((w.setCell ⟨b,0,none⟩ u).setCell ⟨b,1,none⟩ v):=
 (g.setCell (p:=⟨b,0,none⟩) h _).setCell (p:=⟨b,1,none⟩) h _
set_option maxHeartbeats 4000000 in
theorem q3K (w:World) (va vb:Value) (a b K:Nat) (B:K≤400000) (ha:Num w va a) (hb:Num w vb b) (bl:a<2^(64*K)) (jp:b≤a) (ds:2^64≤a):
  Calls Tryz.prog 275 #[va,vb] w (q15 a b w):=by
 have HS:Hid (∀ s,G w s→_):=fun s g=>kg s va a K eX (ha.G g) bl;have al:a≠0:=by omega
 have bv:blen a=Nat.log2 a+1:=by unfold blen;rw[if_neg al]
 have h1:a<2^(Nat.log2 a+1):=(cT al).1 eX;have h2:64≤Nat.log2 a:=(Nat.le_log2 al).2 ds;have h3:Nat.log2 a<64*K:=(cT al).2 bl;obtain⟨n,hn⟩:∃ n:Nat,Nat.log2 a+1=n+64:=⟨Nat.log2 a-63,by omega⟩;have kp:n≤25600000:=by omega
 rw[hn] at bv h1;have hP:0<2^n:=ae n;have hx:a/2^n<2^64:=by
  rw[aO hP,← ah,cR];exact h1
 have bi:b/2^n≤a/2^n:=Nat.div_le_div_right jp;have W:b<2^(64*K):=by omega
 have HX:Hid (∀ s,G w s→_):=fun s g=>nQ s va a n K eX eX (ha.G g) bl hx;have HY:Hid (∀ s,G w s→_):=fun s g=>nQ s vb b n K eX eX (hb.G g) W eX;have eb:a=a/2^n*2^n+a%2^n:=by rw[aJ];exact(cu a (2^n)).symm
 have bw:b=b/2^n*2^n+b%2^n:=by rw[aJ];exact(cu b (2^n)).symm
 have em:=aW a hP;have ep:=aW b hP;rw[show (2:Nat)^64=18446744073709551616 from rfl] at hx;have HN:Hid (∀ (x y I J sa D na nb q:Nat) (tn:Bool),LW a b (a/2^n) (b/2^n) x y I J sa D na nb tn→nb≤y→D+nb≤x-y→q=x/y→LW a b (a/2^n) (b/2^n) y (x%y) sa D na nb (sa+q*na) (D+q*nb) (!tn)∧sa+q*na<18446744073709551616∧D+q*nb<18446744073709551616):=
  fun x y I J sa D na nb q tn h hy hc hq=>h.next hx eb bw em ep hy hc hq
 have cr:Hid (LW a b (a/2^n) (b/2^n) (a/2^n) (b/2^n) 0 0 1 0 0 1 true):=LW.start bi;rw[bv] at HS;have kk:((n+64:Nat):Int)-64=(n:Int):=by omega
 have kq:(n:Int)≤25600000:=by omega
 have kb:((n+64:Nat):Int)≤25600064:=by omega
 generalize n+64=bb at *;generalize a/2^n=x0 at *;generalize b/2^n=y0 at *;clear eb bw em ep W hP kp h1 h2 h3 hn bv al ha hb bl ds bi;go_enter Tryz.func275,Tryz.ntmps275;go_wp2_with fail;have g0:G w ((w.alloc (.cells #[.int .u64 0,.int .u64 0] 271)).alloc (.cells #[.int .u64 0,.int .u64 0] 271)):=((ad _).alloc _).alloc _;have ea:((w.alloc (.cells #[.int .u64 0,.int .u64 0] 271)).alloc (.cells #[.int .u64 0,.int .u64 0] 271)).heap.size=w.heap.size+2:=by simp
 have eu:Own ((w.alloc (.cells #[.int .u64 0,.int .u64 0] 271)).alloc (.cells #[.int .u64 0,.int .u64 0] 271)) w.heap.size [0,0]:=(kC w 0 0 271 eX eX).grow ((ad _).alloc _);have ez:Own ((w.alloc (.cells #[.int .u64 0,.int .u64 0] 271)).alloc (.cells #[.int .u64 0,.int .u64 0] 271)) (w.heap.size+1) [0,0]:=by
  have h:=kC (w.alloc (.cells #[.int .u64 0,.int .u64 0] 271)) 0 0 271 eX eX;have h2:(w.alloc (.cells #[.int .u64 0,.int .u64 0] 271)).heap.size=w.heap.size+1:=by simp
  rw[h2] at h;exact h
 have ci:=hi9 (HS.out _ g0);generalize (w.alloc (.cells #[.int .u64 0,.int .u64 0] 271)).alloc (.cells #[.int .u64 0,.int .u64 0] 271)=w0 at *;have cc:Hid (Own w0 w.heap.size [0,0]):=eu;have cd:Hid (Own w0 (w.heap.size+1) [0,0]):=ez;clear eu ez;refine Calls.mono (P:=Tryz.prog) ci.out ?_;rintro e s ⟨rfl,g1⟩;have cs:=hi9 (HX.out s (ab g0 g1));clear HS HX ci;go_wp2_with fail;refine Calls.mono (P:=Tryz.prog) cs.out ?_;rintro e w2 ⟨rfl,g2⟩;have g12:=ab g1 g2;have cz:=hi9 (HY.out w2 (ab g0 g12));clear cs HY g1 g2;go_wp2_with fail;refine Calls.mono (P:=Tryz.prog) cz.out ?_;rintro e U ⟨rfl,g3⟩;have g13:=ab g12 g3;have bq:Hid (Own U w.heap.size [0,0]):=cc.out.grow g13;have bs:Hid (Own U (w.heap.size+1) [0,0]):=cd.out.grow g13;have G3:=ab g0 g13;have lc:=g13.size;rw[ea] at lc;clear cz g12 g3 kk kq kb cc cd g0 g13 ea;go_wp2_with fail;have gA:=(ad U).alloc (.cells #[.int .u64 0,.int .u64 0] 271);have gB:=gA.alloc (.cells #[.int .u64 1,.int .u64 0] 271);have gC:=gB.alloc (.cells #[.int .u64 0,.int .u64 1] 271);have hl:Own (((U.alloc (.cells #[.int .u64 0,.int .u64 0] 271)).alloc (.cells #[.int .u64 1,.int .u64 0] 271)).alloc (.cells #[.int .u64 0,.int .u64 1] 271)) U.heap.size [0,0]:=((kC U 0 0 271 eX eX).grow ((ad _).alloc (.cells #[.int .u64 1,.int .u64 0] 271))).grow ((ad _).alloc (.cells #[.int .u64 0,.int .u64 1] 271))
 have hs:Own (((U.alloc (.cells #[.int .u64 0,.int .u64 0] 271)).alloc (.cells #[.int .u64 1,.int .u64 0] 271)).alloc (.cells #[.int .u64 0,.int .u64 1] 271)) (U.alloc (.cells #[.int .u64 0,.int .u64 0] 271)).heap.size [1,0]:=(kC (U.alloc (.cells #[.int .u64 0,.int .u64 0] 271)) 1 0 271 eX eX).grow ((ad _).alloc (.cells #[.int .u64 0,.int .u64 1] 271));have hn:Own (((U.alloc (.cells #[.int .u64 0,.int .u64 0] 271)).alloc (.cells #[.int .u64 1,.int .u64 0] 271)).alloc (.cells #[.int .u64 0,.int .u64 1] 271)) ((U.alloc (.cells #[.int .u64 0,.int .u64 0] 271)).alloc (.cells #[.int .u64 1,.int .u64 0] 271)).heap.size [0,1]:=kC ((U.alloc (.cells #[.int .u64 0,.int .u64 0] 271)).alloc (.cells #[.int .u64 1,.int .u64 0] 271)) 0 1 271 eX eX;have gm:(U.alloc (.cells #[.int .u64 0,.int .u64 0] 271)).heap.size=U.heap.size+1:=by simp
 have he:((U.alloc (.cells #[.int .u64 0,.int .u64 0] 271)).alloc (.cells #[.int .u64 1,.int .u64 0] 271)).heap.size=U.heap.size+1+1:=by simp
 rw[gm] at hs;rw[he] at hn;have HP:Hid (Own (((U.alloc (.cells #[.int .u64 0,.int .u64 0] 271)).alloc (.cells #[.int .u64 1,.int .u64 0] 271)).alloc (.cells #[.int .u64 0,.int .u64 1] 271)) w.heap.size [0,0]):=bq.out.grow gC;have HQ:Hid (Own (((U.alloc (.cells #[.int .u64 0,.int .u64 0] 271)).alloc (.cells #[.int .u64 1,.int .u64 0] 271)).alloc (.cells #[.int .u64 0,.int .u64 1] 271)) (w.heap.size+1) [0,0]):=bs.out.grow gC;have GC:=ab G3 gC;have HL:Hid (Own (((U.alloc (.cells #[.int .u64 0,.int .u64 0] 271)).alloc (.cells #[.int .u64 1,.int .u64 0] 271)).alloc (.cells #[.int .u64 0,.int .u64 1] 271)) U.heap.size [0,0]):=hl;have cl:Hid (Own (((U.alloc (.cells #[.int .u64 0,.int .u64 0] 271)).alloc (.cells #[.int .u64 1,.int .u64 0] 271)).alloc (.cells #[.int .u64 0,.int .u64 1] 271)) (U.heap.size+1) [1,0]):=hs;have cb:Hid (Own (((U.alloc (.cells #[.int .u64 0,.int .u64 0] 271)).alloc (.cells #[.int .u64 1,.int .u64 0] 271)).alloc (.cells #[.int .u64 0,.int .u64 1] 271)) (U.heap.size+1+1) [0,1]):=hn;clear hl hs hn gm he gA gB gC bq bs G3;generalize ((U.alloc (.cells #[.int .u64 0,.int .u64 0] 271)).alloc (.cells #[.int .u64 1,.int .u64 0] 271)).alloc (.cells #[.int .u64 0,.int .u64 1] 271)=w4 at *;generalize U.heap.size=C at *
 go_loopw [8,9,13] (fun vx vy vt wr=>∃ (x y I J sa D na nb:Nat) (tn:Bool),vx= .int .u64 x∧vy= .int .u64 y∧vt= .bool tn∧LW a b x0 y0 x y I J sa D na nb tn∧Own wr C [I,J]∧Own wr (C+1) [sa,D]∧Own wr (C+1+1) [na,nb]∧Own wr w.heap.size [0,0]∧Own wr (w.heap.size+1) [0,0]∧G w wr) (fun _ vy _ _=>(intOf vy).toNat)
 case atStart=>exact⟨x0,y0,0,0,1,0,0,1,true,rfl,rfl,rfl,cr.out,HL.out,cl.out,cb.out,HP.out,HQ.out,GC⟩
 case round=>
  clear HP HQ HL cl cb cr GC;obtain⟨x,y,I,J,sa,D,na,nb,tn,rfl,rfl,rfl,o,fa,bn,bm,hp,hq,hG⟩:=hrel;have S:Hid (LW a b x0 y0 x y I J sa D na nb tn):=o;have bu:Hid (Own wr C [I,J]):=fa;have ai:Hid (Own wr (C+1) [sa,D]):=bn;have ce:Hid (Own wr (C+1+1) [na,nb]):=bm;have HP:Hid (Own wr w.heap.size [0,0]):=hp;have HQ:Hid (Own wr (w.heap.size+1) [0,0]):=hq;have di:wr.cell? ⟨C+1+1,0,none⟩=some (.int .u64 (na:Int)):=bm.cell (i:=0) fX;have dl:wr.cell? ⟨C+1+1,1,none⟩=some (.int .u64 (nb:Int)):=bm.cell (i:=1) fX;have dq:wr.cell? ⟨C+1,0,none⟩=some (.int .u64 (sa:Int)):=bn.cell (i:=0) fX;have dr:wr.cell? ⟨C+1,1,none⟩=some (.int .u64 (D:Int)):=bn.cell (i:=1) fX;clear fa bn bm hp hq;by_cases h1:nb≤y
  ·obtain⟨gg,bi,fs⟩:=o.small h1;have gd:=o.bx;obtain⟨d,hd⟩:∃ d:Nat,d=x-y:=⟨_,rfl⟩;obtain⟨t,ht⟩:∃ t:Nat,t=D+nb:=⟨_,rfl⟩;have ls:(x:Int)-y=(d:Int):=by omega
   have nc:(D:Int)+nb=(t:Int):=by omega
   have bw:(d:Int)<18446744073709551616:=by omega
   have ni:(t:Int)<18446744073709551616:=by omega
   have ec:decide (nb≤y)=true:=decide_eq_true h1;by_cases h2:t≤d
   ·have ee:decide (t≤d)=true:=decide_eq_true h2;obtain⟨q,hq⟩:∃ q:Nat,q=x/y:=⟨_,rfl⟩;obtain⟨r,hr⟩:∃ r:Nat,r=x%y:=⟨_,rfl⟩;have ag:=hi9 (HN.out x y I J sa D na nb q tn o h1 eX hq);have X:(x:Int)/y=(q:Int):=by rw[hq];rfl
    have mp:(x:Int)%y=(r:Int):=by rw[hr];rfl
    have lm:((y:Int)==0)=false:=by simp;omega
    have nr:(y:Int)<18446744073709551616:=by omega
    have lg:(x:Int)<18446744073709551616:=by omega
    have kr:q≤x:=by rw[hq];exact aX _ _
    have fh:r<y:=by rw[hr];exact aW _ gg
    have lw:(q:Int)<18446744073709551616:=by omega
    have ms:(r:Int)<18446744073709551616:=by omega
    rw[← hr] at ag;have bz:sa+q*na<18446744073709551616:=ag.out.2.1;have ca:D+q*nb<18446744073709551616:=ag.out.2.2;have af:Hid (LW a b x0 y0 y r sa D na nb (sa+q*na) (D+q*nb) (!tn)):=ag.out.1;obtain⟨u,hu⟩:∃ u:Nat,u=q*na:=⟨_,rfl⟩;obtain⟨v,hv⟩:∃ v:Nat,v=q*nb:=⟨_,rfl⟩;have mm:(q:Int)*na=(u:Int):=by rw[hu];push_cast;rfl
    have mn:(q:Int)*nb=(v:Int):=by rw[hv];push_cast;rfl
    rw[← hu] at bz af;rw[← hv] at ca af;obtain⟨sx,fv⟩:∃ sx:Nat,sx=sa+u:=⟨_,rfl⟩;obtain⟨Z,ga⟩:∃ Z:Nat,Z=D+v:=⟨_,rfl⟩;have kw:(sa:Int)+u=(sx:Int):=by omega
    have kx:(D:Int)+v=(Z:Int):=by omega
    rw[← fv] at af bz;rw[← ga] at af ca;have nl:(u:Int)<18446744073709551616:=by omega
    have np:(v:Int)<18446744073709551616:=by omega
    have li:(sx:Int)<18446744073709551616:=by omega
    have lk:(Z:Int)<18446744073709551616:=by omega
    clear hu hv fv ga bz ca ag;have hm:Hid (IntKind.u64.wrap (u:Int)=u):=by show IntKind.u64.wrap (u:Int)=u;rw[IntKind.wrap_u64];omega
    have ho:Hid (IntKind.u64.wrap (v:Int)=v):=by show IntKind.u64.wrap (v:Int)=v;rw[IntKind.wrap_u64];omega
    have hw:Hid (IntKind.u64.wrap (sx:Int)=sx):=by show IntKind.u64.wrap (sx:Int)=sx;rw[IntKind.wrap_u64];omega
    have hz:Hid (IntKind.u64.wrap (Z:Int)=Z):=by show IntKind.u64.wrap (Z:Int)=Z;rw[IntKind.wrap_u64];omega
    have hk:Hid (r<y):=fh;have ia:Hid (y≠0):=by show y≠0;omega
    have hj:Hid ((x:Int).tmod y=(r:Int)):=by
     show (x:Int).tmod y=(r:Int);rw[hr];rfl
    clear hq hr hd ht h1 h2 o fs bi gd kr fh;go_wp2_with fail;have ky:=ia.out;have ks:=hj.out;refine wp_region_any eZ ?_;refine fP (i:=0) (v:= ?_) rfl eZ eZ eZ (fun _ _ _ h=>h) (Or.inl ⟨by rfl,?_⟩) ?_;rotate_left
    ·intro E;first|(go_simp;done)|(go_simp;with_reducible rfl)
    try simp only[Act.put,aq,ay,az]
    refine fP (i:=1) (v:= ?_) rfl eZ eZ eZ (fun _ _ _ h=>h) (Or.inl ⟨by rfl,?_⟩) ?_;rotate_left
    ·intro E;first|(go_simp;done)|(go_simp;with_reducible rfl)
    try simp only[Act.put,aq,ay,az]
    refine fP (i:=2) (v:= ?_) rfl eZ eZ eZ (fun _ _ _ h=>h) (Or.inl ⟨by rfl,?_⟩) ?_;rotate_left
    ·intro E;first|(go_simp;done)|(go_simp;with_reducible rfl)
    try simp only[Act.put,aq,ay,az]
    refine fP (i:=3) (v:= ?_) rfl eZ eZ eZ (fun _ _ _ h=>h) (Or.inl ⟨by rfl,?_⟩) ?_;rotate_left
    ·intro E;first|(go_simp;done)|(go_simp;with_reducible rfl)
    try simp only[Act.put,aq,ay,az]
    clear ky ks;refine wpAny_ready (rs:=[4]) eZ fX ?_;refine AllReady.cons rfl (fun K B=> ?_) AllReady.nil;go_simp;refine B _ _ ?_;clear K B;refine wpAny_ready (rs:=[5]) eZ fX ?_;refine AllReady.cons rfl (fun K B=> ?_) AllReady.nil;go_simp;refine B _ _ ?_;clear K B;refine wpAny_done eZ ?_ _;go_wp2_with fail;refine gL 19 (fun w'=>Own w' (C+1+1) [na,nb]) eZ ((ce.out.grow (ad _).drew).grow (ad _).drew) ?_;intro F;refine eY 2 (v:= ?_) rfl eZ (fun _ _ _ h=>h) rfl ?_ ‹_› ?_;rotate_left
    ·intro E A
     skip
     exact gj
    try simp only[aput,List.set]
    refine eY 4 (v:= ?_) rfl eZ (fun _ _ _ h=>h) rfl ?_ ‹_› ?_;rotate_left
    ·intro E A
     skip
     exact gj
    try simp only[aput,List.set]
    refine eY 5 (v:= ?_) rfl eZ (fun _ _ _ h=>h) rfl ?_ ‹_› ?_;rotate_left
    ·intro E A
     skip
     exact gj
    try simp only[aput,List.set]
    refine eY 9 (v:= ?_) rfl eZ (fun _ _ _ h=>h) rfl ?_ ‹_› ?_;rotate_left
    ·intro E A
     skip
     exact gj
    try simp only[aput,List.set]
    refine eY 11 (v:= ?_) rfl eZ (fun _ _ _ h=>h) rfl ?_ ‹_› ?_;rotate_left
    ·intro E A
     skip
     exact gj
    try simp only[aput,List.set]
    refine eY 12 (v:= ?_) rfl eZ (fun _ _ _ h=>h) rfl ?_ ‹_› ?_;rotate_left
    ·intro E A
     skip
     exact gj
    try simp only[aput,List.set]
    refine eY 6 (v:= ?_) rfl eZ (fun _ _ _ h=>h) rfl ?_ ‹_› ?_;rotate_left
    ·intro E A
     (have fb:E.cell? ⟨C+1+1,0,none⟩=some (.int .u64 (na:Int)):=Own.cell (i:=0) A fX);(have X:E.cell? ⟨C+1+1,1,none⟩=some (.int .u64 (nb:Int)):=Own.cell (i:=1) A fX)
     exact gj
    try simp only[aput,List.set]
    refine eY 13 (v:= ?_) rfl eZ (fun _ _ _ h=>h) rfl ?_ ‹_› ?_;rotate_left
    ·intro E A
     (have fb:E.cell? ⟨C+1+1,0,none⟩=some (.int .u64 (na:Int)):=Own.cell (i:=0) A fX);(have X:E.cell? ⟨C+1+1,1,none⟩=some (.int .u64 (nb:Int)):=Own.cell (i:=1) A fX)
     exact gj
    try simp only[aput,List.set]
    refine eY 7 (v:= ?_) rfl eZ (fun _ _ _ h=>h) rfl ?_ ‹_› ?_;rotate_left
    ·intro E A
     skip
     exact gj
    try simp only[aput,List.set]
    refine eY 14 (v:= ?_) rfl eZ (fun _ _ _ h=>h) rfl ?_ ‹_› ?_;rotate_left
    ·intro E A
     skip
     exact gj
    try simp only[aput,List.set]
    refine eY 1 (v:= ?_) rfl eZ (fun _ _ _ h=>h) rfl ?_ ‹_› ?_;rotate_left
    ·intro E A
     (have fb:E.cell? ⟨C+1+1,0,none⟩=some (.int .u64 (na:Int)):=Own.cell (i:=0) A fX);(have X:E.cell? ⟨C+1+1,1,none⟩=some (.int .u64 (nb:Int)):=Own.cell (i:=1) A fX)
     exact gj
    try simp only[aput,List.set]
    generalize Y:wr.drew.drew=wd at *;have fp:wd.cell? ⟨C+1,0,none⟩=some (.int .u64 (sa:Int)):=by rw[← Y];exact Own.cell (i:=0) ((ai.out.grow (ad _).drew).grow (ad _).drew) fX
    have fr:wd.cell? ⟨C+1,1,none⟩=some (.int .u64 (D:Int)):=by rw[← Y];exact Own.cell (i:=1) ((ai.out.grow (ad _).drew).grow (ad _).drew) fX
    apply share
    ·intro L;refine lN (i:=0) (j:=3) (l:=10) eZ rfl rfl rfl ?_ ?_ ?_
     ·skip
      intro K B;go_simp;refine B.out _ _ (Or.inr F) ?_;clear B K;refine gR (i:=3) (j:=10) eZ rfl rfl ?_ ?_
      ·skip
       intro K B;go_simp;refine B.out _ _ (Or.inr F) ?_;clear B K;refine eY 8 (v:= ?_) rfl eZ (fun _ _ _ h=>h) rfl ?_ ‹_› ?_;rotate_left
       ·intro E A
        skip
        exact gj
       try simp only[aput,List.set]
       refine fc (i:=10) eZ rfl ?_;intro K B;go_simp;refine B.out _ _ (Or.inr F) ?_;clear B K;refine eY 15 (v:= ?_) rfl eZ (fun _ _ _ h=>h) rfl ?_ ‹_› ?_;rotate_left
       ·intro E A
        skip
        exact gj
       try simp only[aput,List.set]
       refine eY 16 (v:= ?_) rfl eZ (fun _ _ _ h=>h) rfl ?_ ‹_› ?_;rotate_left
       ·intro E A
        skip
        exact gj
       try simp only[aput,List.set]
       exact L.out
      ·skip
       intro K B;go_simp;refine B.out _ _ (Or.inr F) ?_;clear B K;refine eY 15 (v:= ?_) rfl eZ (fun _ _ _ h=>h) rfl ?_ ‹_› ?_;rotate_left
       ·intro E A
        skip
        exact gj
       try simp only[aput,List.set]
       refine fc (i:=3) eZ rfl ?_;intro K B;go_simp;refine B.out _ _ (Or.inr F) ?_;clear B K;refine eY 8 (v:= ?_) rfl eZ (fun _ _ _ h=>h) rfl ?_ ‹_› ?_;rotate_left
       ·intro E A
        skip
        exact gj
       try simp only[aput,List.set]
       refine eY 16 (v:= ?_) rfl eZ (fun _ _ _ h=>h) rfl ?_ ‹_› ?_;rotate_left
       ·intro E A
        skip
        exact gj
       try simp only[aput,List.set]
       exact fw eZ L.out
     ·skip
      intro K B;go_simp;refine B.out _ _ (Or.inr F) ?_;clear B K;refine eY 8 (v:= ?_) rfl eZ (fun _ _ _ h=>h) rfl ?_ ‹_› ?_;rotate_left
      ·intro E A
       skip
       exact gj
      try simp only[aput,List.set]
      refine gR (i:=0) (j:=10) eZ rfl rfl ?_ ?_
      ·skip
       intro K B;go_simp;refine B.out _ _ (Or.inr F) ?_;clear B K;refine fc (i:=10) eZ rfl ?_;intro K B;go_simp;refine B.out _ _ (Or.inr F) ?_;clear B K;refine eY 15 (v:= ?_) rfl eZ (fun _ _ _ h=>h) rfl ?_ ‹_› ?_;rotate_left
       ·intro E A
        skip
        exact gj
       try simp only[aput,List.set]
       refine eY 16 (v:= ?_) rfl eZ (fun _ _ _ h=>h) rfl ?_ ‹_› ?_;rotate_left
       ·intro E A
        skip
        exact gj
       try simp only[aput,List.set]
       exact fw eZ L.out
      ·skip
       intro K B;go_simp;refine B.out _ _ (Or.inr F) ?_;clear B K;refine eY 15 (v:= ?_) rfl eZ (fun _ _ _ h=>h) rfl ?_ ‹_› ?_;rotate_left
       ·intro E A
        skip
        exact gj
       try simp only[aput,List.set]
       refine eY 16 (v:= ?_) rfl eZ (fun _ _ _ h=>h) rfl ?_ ‹_› ?_;rotate_left
       ·intro E A
        skip
        exact gj
       try simp only[aput,List.set]
       refine fc (i:=0) eZ rfl ?_;intro K B;go_simp;refine B.out _ _ (Or.inr F) ?_;clear B K;exact fw eZ L.out
     ·skip
      intro K B;go_simp;refine B.out _ _ (Or.inr F) ?_;clear B K;refine eY 15 (v:= ?_) rfl eZ (fun _ _ _ h=>h) rfl ?_ ‹_› ?_;rotate_left
      ·intro E A
       skip
       exact gj
      try simp only[aput,List.set]
      refine gR (i:=0) (j:=3) eZ rfl rfl ?_ ?_
      ·skip
       intro K B;go_simp;refine B.out _ _ (Or.inr F) ?_;clear B K;refine fc (i:=3) eZ rfl ?_;intro K B;go_simp;refine B.out _ _ (Or.inr F) ?_;clear B K;refine eY 8 (v:= ?_) rfl eZ (fun _ _ _ h=>h) rfl ?_ ‹_› ?_;rotate_left
       ·intro E A
        skip
        exact gj
       try simp only[aput,List.set]
       refine eY 16 (v:= ?_) rfl eZ (fun _ _ _ h=>h) rfl ?_ ‹_› ?_;rotate_left
       ·intro E A
        skip
        exact gj
       try simp only[aput,List.set]
       exact fw eZ L.out
      ·skip
       intro K B;go_simp;refine B.out _ _ (Or.inr F) ?_;clear B K;refine eY 8 (v:= ?_) rfl eZ (fun _ _ _ h=>h) rfl ?_ ‹_› ?_;rotate_left
       ·intro E A
        skip
        exact gj
       try simp only[aput,List.set]
       refine eY 16 (v:= ?_) rfl eZ (fun _ _ _ h=>h) rfl ?_ ‹_› ?_;rotate_left
       ·intro E A
        skip
        exact gj
       try simp only[aput,List.set]
       refine fc (i:=0) eZ rfl ?_;intro K B;go_simp;refine B.out _ _ (Or.inr F) ?_;clear B K;exact fw eZ L.out
    ·refine Later.mk ?_;have c:sa<2^64:=S.out.bc;have W:D<2^64:=S.out.bd;have k:na<2^64:=S.out.be;have m:nb<2^64:=S.out.bf;have it:sx<2^64:=by omega
     have jj:Z<2^64:=by omega
     have A1:Own wd C [I,J]:=by rw[← Y];exact(bu.out.grow (ad _).drew).grow (ad _).drew
     have A2:Own wd (C+1) [sa,D]:=by rw[← Y];exact(ai.out.grow (ad _).drew).grow (ad _).drew
     have A3:Own wd (C+1+1) [na,nb]:=by rw[← Y];exact(ce.out.grow (ad _).drew).grow (ad _).drew
     have A4:Own wd w.heap.size [0,0]:=by rw[← Y];exact(HP.out.grow (ad _).drew).grow (ad _).drew
     have A5:Own wd (w.heap.size+1) [0,0]:=by rw[← Y];exact(HQ.out.grow (ad _).drew).grow (ad _).drew
     have A6:G w wd:=by rw[← Y];exact hG.drew.drew
     have n1:C+1≠C:=by omega
     have n2:C+1+1≠C:=by omega
     have n3:w.heap.size≠C:=by omega
     have n4:w.heap.size+1≠C:=by omega
     have n5:C≠C+1:=by omega
     have n6:C+1+1≠C+1:=by omega
     have n7:w.heap.size≠C+1:=by omega
     have n8:w.heap.size+1≠C+1:=by omega
     have n9:C≠C+1+1:=by omega
     have hf:C+1≠C+1+1:=by omega
     have hg:w.heap.size≠C+1+1:=by omega
     have hh:w.heap.size+1≠C+1+1:=by omega
     have B1:=hi9 (kc (x':=sa) (y':=D) A1 c W);have B2:=hi9 (fZ (u:= .int .u64 (sa:Int)) (v:= .int .u64 (D:Int)) A2 n1);have B3:=hi9 (fZ (u:= .int .u64 (sa:Int)) (v:= .int .u64 (D:Int)) A3 n2);have B4:=hi9 (fZ (u:= .int .u64 (sa:Int)) (v:= .int .u64 (D:Int)) A4 n3);have B5:=hi9 (fZ (u:= .int .u64 (sa:Int)) (v:= .int .u64 (D:Int)) A5 n4);have B6:=hi9 (mX (b:=C) (u:= .int .u64 (sa:Int)) (v:= .int .u64 (D:Int)) A6 eX);obtain⟨M,N,O,R⟩:=fJ A1;clear A1 A2 A3 A4 A5 A6 fp fr F;refine fc (i:=17) eZ rfl ?_;intro K B;go_simp;refine B.out _ _ (Or.inr B3.out) ?_;clear B K M N O R Y;generalize (wd.setCell ⟨C,0,none⟩ (.int .u64 (sa:Int))).setCell ⟨C,1,none⟩ (.int .u64 (D:Int))=we at *;have C1:=hi9 (fZ (u:= .int .u64 (na:Int)) (v:= .int .u64 (nb:Int)) B1.out n5);have C2:=hi9 (kc (x':=na) (y':=nb) B2.out k m);have C3:=hi9 (fZ (u:= .int .u64 (na:Int)) (v:= .int .u64 (nb:Int)) B3.out n6);have C4:=hi9 (fZ (u:= .int .u64 (na:Int)) (v:= .int .u64 (nb:Int)) B4.out n7);have C5:=hi9 (fZ (u:= .int .u64 (na:Int)) (v:= .int .u64 (nb:Int)) B5.out n8);have C6:=hi9 (mX (b:=C+1) (u:= .int .u64 (na:Int)) (v:= .int .u64 (nb:Int)) B6.out eX);obtain⟨M,N,O,R⟩:=fJ B2.out;clear B1 B2 B3 B4 B5 B6;refine fc (i:=18) eZ rfl ?_;intro K B;go_simp;refine B.out _ _ (Or.inr C3.out) ?_;clear B K M N O R;generalize (we.setCell ⟨C+1,0,none⟩ (.int .u64 (na:Int))).setCell ⟨C+1,1,none⟩ (.int .u64 (nb:Int))=wf at *;have D1:=hi9 (fZ (u:= .int .u64 (sx:Int)) (v:= .int .u64 (Z:Int)) C1.out n9)
     have D2:=hi9 (fZ (u:= .int .u64 (sx:Int)) (v:= .int .u64 (Z:Int)) C2.out hf);have D3:=hi9 (kc (x':=sx) (y':=Z) C3.out it jj);have D4:=hi9 (fZ (u:= .int .u64 (sx:Int)) (v:= .int .u64 (Z:Int)) C4.out hg);have D5:=hi9 (fZ (u:= .int .u64 (sx:Int)) (v:= .int .u64 (Z:Int)) C5.out hh);have D6:=hi9 (mX (b:=C+1+1) (u:= .int .u64 (sx:Int)) (v:= .int .u64 (Z:Int)) C6.out eX);obtain⟨M,N,O,R⟩:=fJ C3.out;clear C1 C2 C3 C4 C5 C6;refine fc (i:=19) eZ rfl ?_;intro K B;go_simp;refine B.out _ _ (Or.inl fk) ?_;clear B K M N O R;rw[hm.out,ho.out,kw,kx,hw.out,hz.out];generalize (wf.setCell ⟨C+1+1,0,none⟩ (.int .u64 (sx:Int))).setCell ⟨C+1+1,1,none⟩ (.int .u64 (Z:Int))=wg at *;refine fS eZ ?_ _;clear n1 n2 n3 n4 n5 n6 n7 n8 n9 hf hg hh;go_wp2_with fail
     go_roundw
     case rel=>exact⟨y,r,sa,D,na,nb,sx,Z, !tn,rfl,rfl,rfl,af.out,D1.out,D2.out,D3.out,D4.out,D5.out,D6.out⟩
     case measure=>
      have h:=hk.out;simp only[intOf];omega
   ·have ee:decide (t≤d)=false:=decide_eq_false h2;clear hd ht h1 h2 o fs bi gd gg;go_wp2_with fail;have c:I<2^64:=S.out.ba;have W:J<2^64:=S.out.bb;have k:sa<2^64:=S.out.bc;have m:D<2^64:=S.out.bd;have A1:Own wr.drew C [I,J]:=bu.out.grow (ad _).drew;have A2:Own wr.drew (C+1) [sa,D]:=ai.out.grow (ad _).drew;have A4:Own wr.drew w.heap.size [0,0]:=HP.out.grow (ad _).drew;have A5:Own wr.drew (w.heap.size+1) [0,0]:=HQ.out.grow (ad _).drew;have A6:G w wr.drew:=hG.drew;clear di dl dq dr;refine gL 5 (fun w'=>Own w' C [I,J]∧Own w' (C+1) [sa,D]) eZ ⟨A1,A2⟩ ?_;intro F;refine eY 0 (v:= ?_) rfl eZ (fun _ _ _ h=>h) rfl ?_ ‹_› ?_;rotate_left
    ·intro E A
     (obtain⟨X,am,-,-⟩:=fJ A.1);(obtain⟨an,ap,-,-⟩:=fJ A.2)
     exact gj
    try simp only[aput,List.set]
    refine eY 1 (v:= ?_) rfl eZ (fun _ _ _ h=>h) rfl ?_ ‹_› ?_;rotate_left
    ·intro E A
     (obtain⟨X,am,-,-⟩:=fJ A.1);(obtain⟨an,ap,-,-⟩:=fJ A.2)
     exact gj
    try simp only[aput,List.set]
    refine eY 2 (v:= ?_) rfl eZ (fun _ _ _ h=>h) rfl ?_ ‹_› ?_;rotate_left
    ·intro E A
     (obtain⟨X,am,-,-⟩:=fJ A.1);(obtain⟨an,ap,-,-⟩:=fJ A.2)
     exact gj
    try simp only[aput,List.set]
    generalize wr.drew=wd at *;have n1:C≠w.heap.size:=by omega
    have n2:C+1≠w.heap.size:=by omega
    have n3:w.heap.size+1≠w.heap.size:=by omega
    have n4:w.heap.size≠w.heap.size+1:=by omega
    have B1:=hi9 (fZ (u:= .int .u64 (I:Int)) (v:= .int .u64 (J:Int)) A1 n1);have B2:=hi9 (fZ (u:= .int .u64 (I:Int)) (v:= .int .u64 (J:Int)) A2 n2);have B4:=hi9 (kc (x':=I) (y':=J) A4 c W);have B5:=hi9 (fZ (u:= .int .u64 (I:Int)) (v:= .int .u64 (J:Int)) A5 n3);have B6:=hi9 (mX (b:=w.heap.size) (u:= .int .u64 (I:Int)) (v:= .int .u64 (J:Int)) A6 eX);obtain⟨M,N,O,R⟩:=fJ A4;clear A1 A2 A4 A5 A6 F;refine fc (i:=3) eZ rfl ?_;intro K B;go_simp;refine B.out _ _ (Or.inr ⟨B1.out,B2.out⟩) ?_;clear B K M N O R;generalize (wd.setCell ⟨w.heap.size,0,none⟩ (.int .u64 (I:Int))).setCell ⟨w.heap.size,1,none⟩ (.int .u64 (J:Int))=we at *;have C4:=hi9 (fZ (u:= .int .u64 (sa:Int)) (v:= .int .u64 (D:Int)) B4.out n4);have C5:=hi9 (kc (x':=sa) (y':=D) B5.out k m);have C1:Hid _:=fZ (u:= .int .u64 (sa:Int)) (v:= .int .u64 (D:Int)) B1.out (show C≠w.heap.size+1 by omega);have C2:Hid _:=fZ (u:= .int .u64 (sa:Int)) (v:= .int .u64 (D:Int)) B2.out (show C+1≠w.heap.size+1 by omega);have C6:=hi9 (mX (b:=w.heap.size+1) (u:= .int .u64 (sa:Int)) (v:= .int .u64 (D:Int)) B6.out eX);obtain⟨M,N,O,R⟩:=fJ B5.out;clear B1 B2 B4 B5 B6;refine fc (i:=4) eZ rfl ?_;intro K B;go_simp;refine B.out _ _ (Or.inr ⟨C1.out,C2.out⟩) ?_;clear B K M N O R;generalize (we.setCell ⟨w.heap.size+1,0,none⟩ (.int .u64 (sa:Int))).setCell ⟨w.heap.size+1,1,none⟩ (.int .u64 (D:Int))=wf at *;refine fc (i:=5) eZ rfl ?_;intro K B;go_simp;refine B.out _ _ (Or.inl fk) ?_;clear B K;refine fS eZ ?_ _;obtain⟨M,N,O,R⟩:=fJ C4.out
    obtain⟨ib,ih,ii,io⟩:=fJ C5.out;clear C1 C2 C4 C5 n1 n2 n3 n4;go_wp2_with fail;refine bodyPost_ret (v:= .tuple #[.agg #[.int .u64 (I:Int),.int .u64 (J:Int)],.agg #[.int .u64 (sa:Int),.int .u64 (D:Int)],.bool tn]) (by simp [results,Tryz.results275,go_sem, *]) rfl ?_;exact⟨I,J,sa,D,tn,rfl,C6.out,c,W,k,m,S.out.lr.last⟩
  ·have ec:decide (nb≤y)=false:=decide_eq_false h1;clear h1 o;go_wp2_with fail;have c:I<2^64:=S.out.ba;have W:J<2^64:=S.out.bb;have k:sa<2^64:=S.out.bc;have m:D<2^64:=S.out.bd;have A1:Own wr.drew C [I,J]:=bu.out.grow (ad _).drew;have A2:Own wr.drew (C+1) [sa,D]:=ai.out.grow (ad _).drew;have A4:Own wr.drew w.heap.size [0,0]:=HP.out.grow (ad _).drew;have A5:Own wr.drew (w.heap.size+1) [0,0]:=HQ.out.grow (ad _).drew;have A6:G w wr.drew:=hG.drew;clear di dl dq dr;refine gL 5 (fun w'=>Own w' C [I,J]∧Own w' (C+1) [sa,D]) eZ ⟨A1,A2⟩ ?_;intro F;refine eY 0 (v:= ?_) rfl eZ (fun _ _ _ h=>h) rfl ?_ ‹_› ?_;rotate_left
   ·intro E A
    (obtain⟨X,am,-,-⟩:=fJ A.1);(obtain⟨an,ap,-,-⟩:=fJ A.2)
    exact gj
   try simp only[aput,List.set]
   refine eY 1 (v:= ?_) rfl eZ (fun _ _ _ h=>h) rfl ?_ ‹_› ?_;rotate_left
   ·intro E A
    (obtain⟨X,am,-,-⟩:=fJ A.1);(obtain⟨an,ap,-,-⟩:=fJ A.2)
    exact gj
   try simp only[aput,List.set]
   refine eY 2 (v:= ?_) rfl eZ (fun _ _ _ h=>h) rfl ?_ ‹_› ?_;rotate_left
   ·intro E A
    (obtain⟨X,am,-,-⟩:=fJ A.1);(obtain⟨an,ap,-,-⟩:=fJ A.2)
    exact gj
   try simp only[aput,List.set]
   generalize wr.drew=wd at *;have n1:C≠w.heap.size:=by omega
   have n2:C+1≠w.heap.size:=by omega
   have n3:w.heap.size+1≠w.heap.size:=by omega
   have n4:w.heap.size≠w.heap.size+1:=by omega
   have B1:=hi9 (fZ (u:= .int .u64 (I:Int)) (v:= .int .u64 (J:Int)) A1 n1);have B2:=hi9 (fZ (u:= .int .u64 (I:Int)) (v:= .int .u64 (J:Int)) A2 n2);have B4:=hi9 (kc (x':=I) (y':=J) A4 c W);have B5:=hi9 (fZ (u:= .int .u64 (I:Int)) (v:= .int .u64 (J:Int)) A5 n3);have B6:=hi9 (mX (b:=w.heap.size) (u:= .int .u64 (I:Int)) (v:= .int .u64 (J:Int)) A6 eX);obtain⟨M,N,O,R⟩:=fJ A4;clear A1 A2 A4 A5 A6 F;refine fc (i:=3) eZ rfl ?_;intro K B;go_simp;refine B.out _ _ (Or.inr ⟨B1.out,B2.out⟩) ?_;clear B K M N O R;generalize (wd.setCell ⟨w.heap.size,0,none⟩ (.int .u64 (I:Int))).setCell ⟨w.heap.size,1,none⟩ (.int .u64 (J:Int))=we at *;have C4:=hi9 (fZ (u:= .int .u64 (sa:Int)) (v:= .int .u64 (D:Int)) B4.out n4);have C5:=hi9 (kc (x':=sa) (y':=D) B5.out k m);have C1:Hid _:=fZ (u:= .int .u64 (sa:Int)) (v:= .int .u64 (D:Int)) B1.out (show C≠w.heap.size+1 by omega);have C2:Hid _:=fZ (u:= .int .u64 (sa:Int)) (v:= .int .u64 (D:Int)) B2.out (show C+1≠w.heap.size+1 by omega);have C6:=hi9 (mX (b:=w.heap.size+1) (u:= .int .u64 (sa:Int)) (v:= .int .u64 (D:Int)) B6.out eX);obtain⟨M,N,O,R⟩:=fJ B5.out;clear B1 B2 B4 B5 B6;refine fc (i:=4) eZ rfl ?_;intro K B;go_simp;refine B.out _ _ (Or.inr ⟨C1.out,C2.out⟩) ?_;clear B K M N O R;generalize (we.setCell ⟨w.heap.size+1,0,none⟩ (.int .u64 (sa:Int))).setCell ⟨w.heap.size+1,1,none⟩ (.int .u64 (D:Int))=wf at *;refine fc (i:=5) eZ rfl ?_;intro K B;go_simp;refine B.out _ _ (Or.inl fk) ?_;clear B K;refine fS eZ ?_ _;obtain⟨M,N,O,R⟩:=fJ C4.out
   obtain⟨ib,ih,ii,io⟩:=fJ C5.out;clear C1 C2 C4 C5 n1 n2 n3 n4;go_wp2_with fail;refine bodyPost_ret (v:= .tuple #[.agg #[.int .u64 (I:Int),.int .u64 (J:Int)],.agg #[.int .u64 (sa:Int),.int .u64 (D:Int)],.bool tn]) (by simp [results,Tryz.results275,go_sem, *]) rfl ?_;exact⟨I,J,sa,D,tn,rfl,C6.out,c,W,k,m,S.out.lr.last⟩
/-- The difference that a share tells, as one of numbers. -/
theorem q64 {t:Bool} {a b p q Z:Nat} (h:(Z:Int)=mx (!t) a b p q):if t then a*p≤b*q∧Z=b*q-a*p else b*q≤a*p∧Z=a*p-b*q:=by
 unfold mx at h;cases t
 ·simp only[dX,if_true,ax,if_false] at h ⊢;rw[← aG,← aG] at h;omega
 ·simp only[dv,if_true,ax,if_false] at h ⊢;rw[← aG,← aG] at h;omega
theorem q6T (w:World) (va vb:Value) (a b p q K:Nat) (t:Bool) (Z:Nat) (C:K≤400000) (cc:1≤K) (ha:Num w va a) (hb:Num w vb b) (W:a<2^(64*K)) (X:b<2^(64*K)) (hp:p<2^64) (hq:q<2^64) (hZ:(Z:Int)=mx (!t) a b p q):
  Calls Tryz.prog 276 #[.agg #[.int .u64 (p:Int),.int .u64 (q:Int)],va,vb,.bool t] w (fo w Z):=by
 have hz:=q64 hZ;have I:∀ p:Nat,p<2^64→p<2^(64*K):=fun p hp=>aj hp (ao eX eX);have Y:∀ a p:Nat,a<2^(64*K)→p<2^(64*K)→a*p<2^(64*(2*K)):=by
  intro a p h1 h2;rw[show 64*(2*K)=64*K+64*K from by omega,ah];exact bC h1 h2
 have am:=Y a p W (I p hp);have an:=Y b q X (I q hq);have af:Hid (∀ B,_):=fun B=>nS B p hp;have ag:Hid (∀ B,_):=fun B=>nS B q hq;have k:Hid (∀ B v,G w B→Num B v p→_):=fun B v g hv=>jD B va v a p K eX (ha.G g) hv W (I p hp);have m:Hid (∀ B v,G w B→Num B v q→_):=fun B v g hv=>jD B vb v b q K eX (hb.G g) hv X (I q hq);have R:Hid (∀ B u v,Num B u (a*p)→Num B v (b*q)→b*q≤a*p→_):=fun B u v hu hv hle=>mF B u v (a*p) (b*q) (2*K) eX hu hv am hle;have S:Hid (∀ B u v,Num B u (b*q)→Num B v (a*p)→a*p≤b*q→_):=fun B u v hu hv hle=>mF B u v (b*q) (a*p) (2*K) eX hu hv an hle;generalize a*p=ap at *;generalize b*q=bq at *;clear I Y am an ha hb W X hZ;go_enter Tryz.func276,Tryz.ntmps276;go_wp2_with fail;have F:G w (w.alloc (.cells #[.int .u64 (p:Int),.int .u64 (q:Int)] 271)):=(ad _).alloc _;have bs:(w.alloc (.cells #[.int .u64 (p:Int),.int .u64 (q:Int)] 271)).cell? ⟨w.heap.size,0,none⟩=some (.int .u64 (p:Int)):=by simp [go_sem]
 have bu:(w.alloc (.cells #[.int .u64 (p:Int),.int .u64 (q:Int)] 271)).cell? ⟨w.heap.size,1,none⟩=some (.int .u64 (q:Int)):=by simp [go_sem]
 have bv:w.heap.size<(w.alloc (.cells #[.int .u64 (p:Int),.int .u64 (q:Int)] 271)).heap.size:=by simp
 generalize w.alloc (.cells #[.int .u64 (p:Int),.int .u64 (q:Int)] 271)=B at *;refine gL 11 (G B) eZ (by first|exact(ad _).drew|exact G.drew mB) ?_;intro al;have E:Hid (∀ D,G B D→D.cell? ⟨w.heap.size,0,none⟩=some (.int .u64 (p:Int))∧D.cell? ⟨w.heap.size,1,none⟩=some (.int .u64 (q:Int))):=fun D A=>⟨l5 ⟨w.heap.size,0,none⟩ (.int .u64 (p:Int)) A,l5 ⟨w.heap.size,1,none⟩ (.int .u64 (q:Int)) A⟩;refine eY 0 (v:= ?_) rfl eZ (fun _ _ _ h=>h) rfl ?_ ‹_› ?_;rotate_left
 ·intro D A;obtain⟨cd,ce⟩:=E.out D A;exact gj
 try simp only[aput,List.set]
 refine eY 1 (v:= ?_) rfl eZ (fun _ _ _ h=>h) rfl ?_ ‹_› ?_;rotate_left
 ·intro D A;obtain⟨ci,cl⟩:=E.out D A;exact gj
 try simp only[aput,List.set]
 refine eY 2 (v:= ?_) rfl eZ (fun _ _ _ h=>h) rfl ?_ ‹_› ?_;rotate_left
 ·intro D A;obtain⟨cr,cs⟩:=E.out D A;exact gj
 try simp only[aput,List.set]
 refine eY 5 (v:= ?_) rfl eZ (fun _ _ _ h=>h) rfl ?_ ‹_› ?_;rotate_left
 ·intro D A;obtain⟨cz,di⟩:=E.out D A;exact gj
 try simp only[aput,List.set]
 refine eY 6 (v:= ?_) rfl eZ (fun _ _ _ h=>h) rfl ?_ ‹_› ?_;rotate_left
 ·intro D A;obtain⟨bw,bz⟩:=E.out D A;exact gj
 try simp only[aput,List.set]
 refine eY 7 (v:= ?_) rfl eZ (fun _ _ _ h=>h) rfl ?_ ‹_› ?_;rotate_left
 ·intro D A;obtain⟨ca,cb⟩:=E.out D A;exact gj
 try simp only[aput,List.set]
 clear E;clear bs bu bv;have o:=hi9 (af.out B.drew);refine fc (i:=3) eZ rfl ?_;intro K C;go_simp;go_wp2_with (go_at_call 155;refine eW o.out ?_;intro e w2 J;obtain⟨v1,rfl,g2,bi⟩:=J);have g12:=ab al g2;refine C.out _ _ (Or.inr g12) ?_;clear C K;have d:=hi9 (k.out w2 v1 (ab F g12) bi);clear bi k af o al g2;refine fc (i:=4) eZ rfl ?_;intro K C;go_simp;go_wp2_with (go_at_call 79;refine eW d.out ?_;intro e w3 J;obtain⟨x,rfl,g3,bm⟩:=J);have g13:=ab g12 g3;refine C.out _ _ (Or.inr g13) ?_;clear C K d g12 g3;have c:Hid (Num w3 x ap):=bm;have s:=hi9 (ag.out w3);clear bm ag;refine fc (i:=8) eZ rfl ?_;intro K C;go_simp;go_wp2_with (go_at_call 155;refine eW s.out ?_;intro e w4 J;obtain⟨v2,rfl,g4,bl⟩:=J);have g14:=ab g13 g4;refine C.out _ _ (Or.inr g14) ?_;clear C K s g13;have M:Hid (Num w4 x ap):=c.out.G g4;have j:=hi9 (m.out w4 v2 (ab F g14) bl);clear bl m c g4;refine fc (i:=9) eZ rfl ?_;intro K C;go_simp;go_wp2_with (go_at_call 79;refine eW j.out ?_;intro e w5 J;obtain⟨y,rfl,g5,bn⟩:=J);have g15:=ab g14 g5;refine C.out _ _ (Or.inr g15) ?_;clear C K j g14;have N:Hid (Num w5 x ap):=M.out.G g5;have O:Hid (Num w5 y bq):=bn;clear bn M g5;refine fc (i:=10) eZ rfl ?_;intro K C;go_simp;refine C.out _ _ (Or.inr g15) ?_;clear C K;refine fc (i:=11) eZ rfl ?_;intro K C;go_simp;refine C.out _ _ (Or.inl fk) ?_;clear C K;refine fS eZ ?_ _;have ai:=ab F g15;cases t
 ·simp only[ax,if_false] at hz;obtain⟨L,rfl⟩:=hz;have U:=hi9 (R.out w5 x y N.out O.out L);clear R S F g15 L;go_wp2_with fail;refine eW U.out ?_;intro e w6 J;obtain⟨v,rfl,g6,hn⟩:=J;go_wp2_with fail;go_ret;exact⟨v,rfl,ab ai g6,hn⟩
 ·simp only[if_true] at hz;obtain⟨L,rfl⟩:=hz;have U:=hi9 (S.out w5 y x O.out N.out L);clear R S F g15 L;go_wp2_with fail;refine eW U.out ?_;intro e w6 J;obtain⟨v,rfl,g6,hn⟩:=J;go_wp2_with fail;go_ret;exact⟨v,rfl,ab ai g6,hn⟩
/-- Two numbers that are nearer, with the same divisors. -/
def q14 (a b:Nat) (w:World) (e:Ending) (A:World):Prop:=∃ (X Y:Nat) (x y:Value),e= .returned (.tuple #[x,y])∧G w A∧Num A x X∧Num A y Y∧Y<X∧X≤b∧Nat.gcd X Y=Nat.gcd a b
set_option maxHeartbeats 4000000 in
theorem rh (w:World) (va vb:Value) (a b K:Nat) (hK:K≤400000) (S:1≤K) (j:Num w va a) (hb:Num w vb b) (F:a<2^(64*K)) (I:b≤a) (M:2^64≤b):
  Calls Tryz.prog 238 #[va,vb] w (q14 a b w):=by
 have HS:=hi9 (q3K w va vb a b K hK j hb F I (bt M I));have m:Hid (∀ B,G w B→_):=fun B g=>kn B va vb a b K hK S (j.G g) (hb.G g) F (aD I F) eX;have d:Hid (∀ B,G w B→∀ (p q:Nat) (t:Bool) (Z:Nat),p<2^64→q<2^64→(Z:Int)=mx (!t) a b p q→_):=fun B g p q t Z hp hq hZ=>q6T B va vb a b p q K t Z hK S (j.G g) (hb.G g) F (aD I F) hp hq hZ;have HB:Hid (Num w vb b):=hb;have k:Hid (0<b):=by show 0<b;omega
 clear j hb F I M;go_enter Tryz.func238,Tryz.ntmps238;go_wp2_with fail;refine eW HS.out ?_;intro e B hs;obtain⟨C,D,sa,E,tn,rfl,g1,h1,h2,h3,i,N⟩:=hs;clear HS;have HL:Hid (LEnd a b C D sa E tn):=N;clear N;by_cases L:D=0
 ·subst L;go_wp2_with fail;have g2:G w ((B.alloc (.cells #[.int .u64 (C:Int),.int .u64 0] 271)).alloc (.cells #[.int .u64 (sa:Int),.int .u64 (E:Int)] 271)):=(g1.alloc _).alloc _;have R:=hi9 (m.out _ g2);generalize (B.alloc (.cells #[.int .u64 (C:Int),.int .u64 0] 271)).alloc (.cells #[.int .u64 (sa:Int),.int .u64 (E:Int)] 271)=w2 at *;clear m d;refine eW R.out ?_;intro e w3 hs;obtain⟨v1,v2,rfl,g3,-,U⟩:=hs;have HN:Hid (Num w3 v2 (a%b)):=U;have g4:=ab g2 g3;clear U R g3 g2;go_wp2_with fail
  go_ret2
  exact⟨b,a%b,vb,v2,rfl,g4,HB.out.G g4,HN.out,aW _ k.out,aI _,by rw[cg b (a%b),← eE,cg]⟩
 ·have bi:((D:Int)==0)=false:=by simp;exact L
  obtain⟨hd,am,an,al⟩:=HL.out.resolve_left L;obtain⟨X,hX⟩:∃ X:Nat,(X:Int)=mx (!tn) a b C D:=⟨(mx (!tn) a b C D).toNat,by omega⟩;obtain⟨Y,hY⟩:∃ Y:Nat,(Y:Int)=mx tn a b sa E:=⟨(mx tn a b sa E).toNat,by omega⟩;have hg:=q4x hd hX hY;have HG:Hid (Y<X∧X≤b∧Nat.gcd X Y=Nat.gcd a b):=⟨by omega,by omega,hg⟩;have o:Hid (∀ B,G w B→_):=fun B g=>d.out B g C D tn X h1 h2 hX;have s:Hid (∀ B,G w B→_):=fun B g=>d.out B g sa E (!tn) Y h3 i (by rw[Bool.not_not];exact hY);clear L hd am an al hX hY hg d HL m h1 h2 h3 i;go_wp2_with fail;have y:G w ((B.alloc (.cells #[.int .u64 (C:Int),.int .u64 (D:Int)] 271)).alloc (.cells #[.int .u64 (sa:Int),.int .u64 (E:Int)] 271)):=(g1.alloc _).alloc _;have c0:((B.alloc (.cells #[.int .u64 (C:Int),.int .u64 (D:Int)] 271)).alloc (.cells #[.int .u64 (sa:Int),.int .u64 (E:Int)] 271)).cell? ⟨B.heap.size,0,none⟩=some (.int .u64 (C:Int)):=by simp [go_sem]
  have c1:((B.alloc (.cells #[.int .u64 (C:Int),.int .u64 (D:Int)] 271)).alloc (.cells #[.int .u64 (sa:Int),.int .u64 (E:Int)] 271)).cell? ⟨B.heap.size,1,none⟩=some (.int .u64 (D:Int)):=by simp [go_sem]
  have c2:((B.alloc (.cells #[.int .u64 (C:Int),.int .u64 (D:Int)] 271)).alloc (.cells #[.int .u64 (sa:Int),.int .u64 (E:Int)] 271)).cell? ⟨B.heap.size+1,0,none⟩=some (.int .u64 (sa:Int)):=by simp [go_sem]
  have c3:((B.alloc (.cells #[.int .u64 (C:Int),.int .u64 (D:Int)] 271)).alloc (.cells #[.int .u64 (sa:Int),.int .u64 (E:Int)] 271)).cell? ⟨B.heap.size+1,1,none⟩=some (.int .u64 (E:Int)):=by simp [go_sem]
  have hz:((B.alloc (.cells #[.int .u64 (C:Int),.int .u64 (D:Int)] 271)).alloc (.cells #[.int .u64 (sa:Int),.int .u64 (E:Int)] 271)).heap.size=B.heap.size+1+1:=by simp
  generalize (B.alloc (.cells #[.int .u64 (C:Int),.int .u64 (D:Int)] 271)).alloc (.cells #[.int .u64 (sa:Int),.int .u64 (E:Int)] 271)=w2 at *;refine jU 13 0 [.is (.agg #[.int .u64 (C:Int),.int .u64 (D:Int)]),.is (va),.is (vb),.is (.bool tn),.any (fun v O=>Num O v (X)),.is (.agg #[.int .u64 (sa:Int),.int .u64 (E:Int)]),.is (va),.is (vb),.is (.bool tn),.is (.bool (!tn)),.any (fun v O=>Num O v (Y)),.any (fun v O=>Num O v (X)),.any (fun v O=>Num O v (Y))] [some 29,some 30,some 31,some 32,some 33,some 34,some 35,some 36,some 37,some 38,some 39,some 4,some 5] ?_;intro v4 ap c v12 A hA;simp only[fG,Act.put,aq,ay,az] at hA;subst hA;refine⟨?_,?_⟩
  ·skip
   refine aa rfl ?a1 (aa rfl ?a6 (aa rfl ?a7 (aa rfl ?a8 (aa rfl ?b6 (aa rfl ?o1_5 (aa rfl ?b0 (aa rfl ?b1 (aa rfl ?b2 (aa rfl ?o1_9 (aa rfl ?b3 (aa rfl ?b4 (aa rfl ?b5 (bN)))))))))))))
   case a6|a7|a8|b0|b1|b2|o1_9=>
    exact jX
   case a1|o1_5=>
    intro W J hD K hK;clear hD;have bl:=l5 ⟨B.heap.size,0,none⟩ (.int .u64 (C:Int)) J;have bm:=l5 ⟨B.heap.size,1,none⟩ (.int .u64 (D:Int)) J;have bn:=l5 ⟨B.heap.size+1,0,none⟩ (.int .u64 (sa:Int)) J;have bq:=l5 ⟨B.heap.size+1,1,none⟩ (.int .u64 (E:Int)) J;go_simp;exact hK.out _ _ ⟨_,rfl,ad _,rfl⟩
   ·intro W J hD K hK;have hc:=hi9 (o.out W (ab y J));exact gY
   ·intro W J hD K hK;have hc:=hi9 (s.out W (ab y J));exact gY
   ·intro W J hD K hK;have i:=gZ v4 4 hD;clear hD;go_simp;exact hK.out _ _ ⟨_,rfl,ad _,i⟩
   ·intro W J hD K hK;have af:=gZ ap 10 hD;clear hD;go_simp;exact hK.out _ _ ⟨_,rfl,ad _,af⟩
  intro w3 g3 hH;have ag:=jG c 11 hH;have ai:=jG v12 12 hH;clear hH;refine wpAny_done eZ ?_ _;go_wp2_with fail
  go_ret2
  exact⟨X,Y,c,v12,rfl,ab y g3,ag,ai,HG.out⟩
theorem jA {w:World} {d:Nat} {e:TypeId} (A:d<2^64) (B:d≠0):Num (w.alloc (.cells #[.int .u64 (d:Int)] e)) (.slice (some ⟨w.heap.size,0,none⟩) 1 1) d:=
 ⟨[d],ma w d e A,⟨(ma w d e A).1,fun _=>by simpa using B⟩,by simp [val]⟩
/-- What a canonical slice of a number looks like: nothing, one word, more. -/
theorem iu {w:World} {v:Value} {n:Nat} (h:Num w v n):(n=0∧∃ a c,v= .slice a 0 c)∨(0<n∧n<2^64∧∃ b o c,v= .slice (some ⟨b,o,none⟩) 1 c∧1≤c∧b<w.heap.size∧w.cell? ⟨b,o,none⟩=some (.int .u64 (n:Int)))∨(2^64≤n∧∃ b o k c,v= .slice (some ⟨b,o,none⟩) (k+2) c∧b<w.heap.size∧n<2^(64*(k+2))∧2^(64*(k+1))≤n):=by
 obtain⟨l,E,A,rfl⟩:=h;rcases Sl.cases E with ⟨rfl,a,c,rfl⟩|⟨B,b,o,c,rfl,D,hb,F⟩
 ·exact Or.inl ⟨rfl,a,c,rfl⟩
 ·right;have h1:=gS A B;have h2:=fO A.1;rcases l with _|⟨d,_|⟨d2,l⟩⟩
  ·exact absurd rfl B
  ·left;have J:d≠0:=A.2 B;have C:d<2^64:=A.1 d fX;have h3:=F 0 fX;simp only[List.getD_cons_zero] at h3;rw[iE];exact⟨by omega,C,b,o,c,rfl,D,hb,h3⟩
  ·right;have e:(d::d2::l).length=l.length+2:=rfl;rw[e] at h1 h2 D;rw[show l.length+2-1=l.length+1 from by omega] at h1;have I:2^64≤2^(64*(l.length+1)):=ao eX eX;exact⟨by omega,b,o,l.length,c,rfl,hb,h2,h1⟩
set_option maxHeartbeats 4000000 in
theorem q2A (w:World) (va vb:Value) (a b K:Nat) (hK:K≤400000) (ds:1≤K) (ha:Num w va a) (hb:Num w vb b) (bw:a<2^(64*K)) (E:b<2^(64*K)) (di:0<a) (dl:0<b):
  Calls Tryz.prog 164 #[va,vb] w (fo w (Nat.gcd a b)):=by
 have HC:=hi9 (jx w va vb a b K eX ha hb bw E);have bu:Hid (Num w va a):=ha;have bv:Hid (Num w vb b):=hb;clear ha hb;by_cases af:a<b
 ·rw[show cmpV a b= -1 from by unfold cmpV;rw[if_pos af]] at HC;have F:Hid (a≤b):=dc af;have L:Hid (0<b):=dl;have d:Hid (b<2^(64*K)):=E;have C:Hid (Nat.gcd b a=Nat.gcd a b):=cg _ _;clear af di dl bw E;go_enter Tryz.func164,Tryz.ntmps164;go_wp2_with fail;refine eW HC.out ?_;rintro e w1 ⟨rfl,O⟩;have HA:Hid (Num w1 vb b):=bv.out.G O;have HB:Hid (Num w1 va a):=bu.out.G O;clear bu bv HC;go_wp2_with fail;obtain⟨A0,i⟩:∃ A0,A0=b:=⟨_,rfl⟩;obtain⟨B0,j⟩:∃ B0,B0=a:=⟨_,rfl⟩;rw[← i] at HA F L d;rw[← j] at HB F;have C:Hid (Nat.gcd A0 B0=Nat.gcd a b):=by show Nat.gcd A0 B0=Nat.gcd a b;rw[i,j];exact C.out
  clear i j
  go_loopw [0,1] (fun x y wr=>∃ A B:Nat,Num wr x A∧Num wr y B∧B≤A∧0<A∧A<2^(64*K)∧Nat.gcd A B=Nat.gcd a b∧G w wr) (fun _ y wr=>numV wr y)
  case atStart=>exact⟨A0,B0,HA.out,HB.out,F.out,L.out,d.out,C.out,O⟩
  case round=>
   clear HA HB F L d C O;obtain⟨A,B,hA,hB,hle,M,I,D,hG⟩:=hrel;have HA:Hid (Num wr u0 A):=hA;have C:Hid (Nat.gcd A B=Nat.gcd a b):=D;rcases iu hB with ⟨rfl,pa,pc,rfl⟩|⟨S,E,bb,oo,cc,rfl,eu,dq,s⟩|⟨c,bb,oo,k,cc,rfl,dq,dr,bl⟩
   ·have HE:Hid (A=Nat.gcd a b):=by show A=Nat.gcd a b;rw[← D,dB]
    clear hA hB hle M I D C;go_wp2_with fail;go_ret;exact⟨_,rfl,hG,by rw[← HE.out];exact HA.out⟩
   ·have HD:=hi9 (jW wr u0 A B K eX hA I S E);have ai:Hid (0<B):=S;have ag:Hid (B<18446744073709551616):=E;have al:Hid (A%B<18446744073709551616):=Nat.lt_trans (aW _ S) E;have N:Hid (Nat.gcd B (A%B)=Nat.gcd a b):=by show Nat.gcd B (A%B)=Nat.gcd a b;rw[cg B (A%B),← eE,cg];exact D
    clear hB hle M I D C S E hA HA;go_wp2_with fail;refine eW HD.out ?_;intro e w2 hs;obtain⟨v2,rfl,g2,-⟩:=hs;have am:=ab hG g2;obtain⟨X0,m⟩:∃ X0,X0=B:=⟨_,rfl⟩;obtain⟨Y0,J⟩:∃ Y0,Y0=A%B:=⟨_,rfl⟩;rw[← J] at al N ⊢;rw[← m] at ai ag N;have C:Hid (Nat.gcd X0 Y0=Nat.gcd a b):=N.out;clear HD hG g2 J N;go_wp2_with fail;rw[← m];clear s m
    go_loopw [5,7] (fun vx vy wr=>∃ X Y:Nat,vx= .int .u64 X∧vy= .int .u64 Y∧0<X∧X<18446744073709551616∧Y<18446744073709551616∧Nat.gcd X Y=Nat.gcd a b∧G w wr) (fun _ vy _=>(intOf vy).toNat)
    case atStart=>exact⟨X0,Y0,rfl,rfl,ai.out,ag.out,al.out,C.out,am⟩
    case round=>
     obtain⟨X,Y,rfl,rfl,cr,hX,hY,D,R⟩:=hrel;have U:Hid (Nat.gcd X Y=Nat.gcd a b):=D;have ec:(X:Int)≤18446744073709551615:=by omega
     have em:(Y:Int)≤18446744073709551615:=by omega
     clear D am;by_cases J:0<Y
     ·have ee:(1:Int)≤Y:=by omega
      have ea:Y≠0:=by omega
      have ep:decide (0<Y)=true:=by simpa using J
      have fa:((Y:Int)==0)=false:=by simp;omega
      obtain⟨Z,hZ,o,bi⟩:∃ Z:Nat,Z=X%Y∧(X:Int)%Y=Z∧Z<Y:=⟨X%Y,rfl,by rw[← dL],aW _ J⟩;have cz:(X:Int).tmod Y=Z:=by rw[dC eX];exact o
      have bz:Hid (Nat.gcd Y Z=Nat.gcd a b):=by show Nat.gcd Y Z=Nat.gcd a b;rw[hZ,cg Y (X%Y),← eE,cg];exact U.out
      have ci:Hid (Z<Y):=bi;have cd:Hid (Y<18446744073709551616):=hY;have ce:Hid (0<Y):=J;have cs:Z<18446744073709551616:=by omega
      clear hZ hX hY bi;go_wp2_with fail;refine fq eZ eZ ?_;intro W hW;clear hW
      repeat (go_big_quiet_step (fail))
      refine wpQuiet_nil ?_;intro w5 bs;have cl:=ab R bs;clear bs;go_wp2_with fail
      try simp only[o]
      go_roundw
      case rel=>exact⟨Y,Z,rfl,by first|rfl|(rw[o])|(rw[cz]),ce.out,cd.out,cs,bz.out,cl⟩
      case measure=>have:=ci.out;simp only[intOf];omega
     ·obtain rfl:Y=0:=by omega
      have bn:X=Nat.gcd a b:=by rw[← U.out,dB]
      have ca:Hid (X=Nat.gcd a b):=bn;have HN:Hid (∀ w1:World,Num (w1.alloc (.cells #[.int .u64 (X:Int)] 90)) (.slice (some ⟨w1.heap.size,0,none⟩) 1 1) X):=fun w1=>jA hX eX;clear hX hY bn cr;go_wp2_with fail;go_ret;exact⟨_,rfl,et R _,by rw[← ca.out];exact HN.out _⟩
   ·have HN:=hi9 (rh wr u0 _ A B K hK ds hA hB I hle c);have ez:decide ((1:Int)<(k:Int)+2)=true:=by simp;omega
    have bq:numV wr (.slice (some ⟨bb,oo,none⟩) (k+2) cc)=B:=ji hB;have cb:=hi9 bq;have F:Hid (B≤A∧A<2^(64*K)):=⟨hle,I⟩;clear hA hB hle M I D c dr bl bq;go_wp2_with fail;refine eW HN.out ?_;intro e w2 hs;obtain⟨X,Y,x,y,rfl,g2,hx,hy,ap,an,bm⟩:=hs;have HX:Hid (Num w2 x X):=hx;have HY:Hid (Num w2 y Y):=hy;have HR:Hid (Y<X∧X≤B∧Nat.gcd X Y=Nat.gcd A B):=⟨ap,an,bm⟩;have R:=ab hG g2;clear hx hy ap an bm HN g2 hG;go_wp2_with fail
    go_roundw
    case rel=>
     obtain⟨r1,r2,r3⟩:=HR.out;obtain⟨l1,l2⟩:=F.out;exact⟨X,Y,HX.out,HY.out,by omega,by omega,by omega,r3.trans C.out,R⟩
    case measure=>
     obtain⟨r1,r2,r3⟩:=HR.out;have h1:=ji HY.out;have h2:=cb.out;show numV w2 y<numV wr _;rw[h1,h2];omega
 ·have eb:cmpV a b=0∨cmpV a b=1:=by unfold cmpV;rw[if_neg af];split;exact Or.inl rfl;exact Or.inr rfl
  have fb:decide (cmpV a b<0)=false:=by rcases eb with h|h<;>rw[h]<;>rfl
  have F:Hid (b≤a):=Nat.le_of_not_lt af;have L:Hid (0<a):=di;have d:Hid (a<2^(64*K)):=bw;have C:Hid (Nat.gcd a b=Nat.gcd a b):=rfl;generalize cmpV a b=cv at *;clear af di dl bw E eb;go_enter Tryz.func164,Tryz.ntmps164;go_wp2_with fail;refine eW HC.out ?_;rintro e w1 ⟨rfl,O⟩;have HA:Hid (Num w1 va a):=bu.out.G O;have HB:Hid (Num w1 vb b):=bv.out.G O;clear bu bv HC;go_wp2_with fail;obtain⟨A0,i⟩:∃ A0,A0=a:=⟨_,rfl⟩;obtain⟨B0,j⟩:∃ B0,B0=b:=⟨_,rfl⟩;rw[← i] at HA F L d;rw[← j] at HB F;have C:Hid (Nat.gcd A0 B0=Nat.gcd a b):=by show Nat.gcd A0 B0=Nat.gcd a b;rw[i,j]
  clear i j
  go_loopw [0,1] (fun x y wr=>∃ A B:Nat,Num wr x A∧Num wr y B∧B≤A∧0<A∧A<2^(64*K)∧Nat.gcd A B=Nat.gcd a b∧G w wr) (fun _ y wr=>numV wr y)
  case atStart=>exact⟨A0,B0,HA.out,HB.out,F.out,L.out,d.out,C.out,O⟩
  case round=>
   clear HA HB F L d C O;obtain⟨A,B,hA,hB,hle,M,I,D,hG⟩:=hrel;have HA:Hid (Num wr u0 A):=hA;have C:Hid (Nat.gcd A B=Nat.gcd a b):=D;rcases iu hB with ⟨rfl,pa,pc,rfl⟩|⟨S,E,bb,oo,cc,rfl,eu,dq,s⟩|⟨c,bb,oo,k,cc,rfl,dq,dr,bl⟩
   ·have HE:Hid (A=Nat.gcd a b):=by show A=Nat.gcd a b;rw[← D,dB]
    clear hA hB hle M I D C;go_wp2_with fail;go_ret;exact⟨_,rfl,hG,by rw[← HE.out];exact HA.out⟩
   ·have HD:=hi9 (jW wr u0 A B K eX hA I S E);have ai:Hid (0<B):=S;have ag:Hid (B<18446744073709551616):=E;have al:Hid (A%B<18446744073709551616):=Nat.lt_trans (aW _ S) E;have N:Hid (Nat.gcd B (A%B)=Nat.gcd a b):=by show Nat.gcd B (A%B)=Nat.gcd a b;rw[cg B (A%B),← eE,cg];exact D
    clear hB hle M I D C S E hA HA;go_wp2_with fail;refine eW HD.out ?_;intro e w2 hs;obtain⟨v2,rfl,g2,-⟩:=hs;have am:=ab hG g2;obtain⟨X0,m⟩:∃ X0,X0=B:=⟨_,rfl⟩;obtain⟨Y0,J⟩:∃ Y0,Y0=A%B:=⟨_,rfl⟩;rw[← J] at al N ⊢;rw[← m] at ai ag N;have C:Hid (Nat.gcd X0 Y0=Nat.gcd a b):=N.out;clear HD hG g2 J N;go_wp2_with fail;rw[← m];clear s m
    go_loopw [5,7] (fun vx vy wr=>∃ X Y:Nat,vx= .int .u64 X∧vy= .int .u64 Y∧0<X∧X<18446744073709551616∧Y<18446744073709551616∧Nat.gcd X Y=Nat.gcd a b∧G w wr) (fun _ vy _=>(intOf vy).toNat)
    case atStart=>exact⟨X0,Y0,rfl,rfl,ai.out,ag.out,al.out,C.out,am⟩
    case round=>
     obtain⟨X,Y,rfl,rfl,cr,hX,hY,D,R⟩:=hrel;have U:Hid (Nat.gcd X Y=Nat.gcd a b):=D;have ec:(X:Int)≤18446744073709551615:=by omega
     have em:(Y:Int)≤18446744073709551615:=by omega
     clear D am;by_cases J:0<Y
     ·have ee:(1:Int)≤Y:=by omega
      have ea:Y≠0:=by omega
      have ep:decide (0<Y)=true:=by simpa using J
      have fa:((Y:Int)==0)=false:=by simp;omega
      obtain⟨Z,hZ,o,bi⟩:∃ Z:Nat,Z=X%Y∧(X:Int)%Y=Z∧Z<Y:=⟨X%Y,rfl,by rw[← dL],aW _ J⟩;have cz:(X:Int).tmod Y=Z:=by rw[dC eX];exact o
      have bz:Hid (Nat.gcd Y Z=Nat.gcd a b):=by show Nat.gcd Y Z=Nat.gcd a b;rw[hZ,cg Y (X%Y),← eE,cg];exact U.out
      have ci:Hid (Z<Y):=bi;have cd:Hid (Y<18446744073709551616):=hY;have ce:Hid (0<Y):=J;have cs:Z<18446744073709551616:=by omega
      clear hZ hX hY bi;go_wp2_with fail;refine fq eZ eZ ?_;intro W hW;clear hW
      repeat (go_big_quiet_step (fail))
      refine wpQuiet_nil ?_;intro w5 bs;have cl:=ab R bs;clear bs;go_wp2_with fail
      try simp only[o]
      go_roundw
      case rel=>exact⟨Y,Z,rfl,by first|rfl|(rw[o])|(rw[cz]),ce.out,cd.out,cs,bz.out,cl⟩
      case measure=>have:=ci.out;simp only[intOf];omega
     ·obtain rfl:Y=0:=by omega
      have bn:X=Nat.gcd a b:=by rw[← U.out,dB]
      have ca:Hid (X=Nat.gcd a b):=bn;have HN:Hid (∀ w1:World,Num (w1.alloc (.cells #[.int .u64 (X:Int)] 90)) (.slice (some ⟨w1.heap.size,0,none⟩) 1 1) X):=fun w1=>jA hX eX;clear hX hY bn cr;go_wp2_with fail;go_ret;exact⟨_,rfl,et R _,by rw[← ca.out];exact HN.out _⟩
   ·have HN:=hi9 (rh wr u0 _ A B K hK ds hA hB I hle c);have ez:decide ((1:Int)<(k:Int)+2)=true:=by simp;omega
    have bq:numV wr (.slice (some ⟨bb,oo,none⟩) (k+2) cc)=B:=ji hB;have cb:=hi9 bq;have F:Hid (B≤A∧A<2^(64*K)):=⟨hle,I⟩;clear hA hB hle M I D c dr bl bq;go_wp2_with fail;refine eW HN.out ?_;intro e w2 hs;obtain⟨X,Y,x,y,rfl,g2,hx,hy,ap,an,bm⟩:=hs;have HX:Hid (Num w2 x X):=hx;have HY:Hid (Num w2 y Y):=hy;have HR:Hid (Y<X∧X≤B∧Nat.gcd X Y=Nat.gcd A B):=⟨ap,an,bm⟩;have R:=ab hG g2;clear hx hy ap an bm HN g2 hG;go_wp2_with fail
    go_roundw
    case rel=>
     obtain⟨r1,r2,r3⟩:=HR.out;obtain⟨l1,l2⟩:=F.out;exact⟨X,Y,HX.out,HY.out,by omega,by omega,by omega,r3.trans C.out,R⟩
    case measure=>
     obtain⟨r1,r2,r3⟩:=HR.out;have h1:=ji HY.out;have h2:=cb.out;show numV w2 y<numV wr _;rw[h1,h2];omega
theorem q0N (j k:Nat):Nat.Coprime (2*j+1) (2^k):=by
 refine Nat.Coprime.pow_right k ?_;show Nat.gcd (2*j+1) 2=1;rw[cg,eE,show (2*j+1)%2=1 from by omega];rfl
theorem mq (p q i d:Nat):Nat.gcd ((2*p+1)*2^i) ((2*q+1)*2^(i+d))=Nat.gcd (2*p+1) (2*q+1)*2^i:=by
 rw[ah,show (2*q+1)*(2^i*2^d)=(2*q+1)*2^d*2^i from by ac_rfl,Nat.gcd_mul_right]
 congr 1
 exact Nat.Coprime.gcd_mul_right_cancel_right _ (q0N p d).symm
theorem q2H (p q i j:Nat):Nat.gcd ((2*p+1)*2^i) ((2*q+1)*2^j)=Nat.gcd (2*p+1) (2*q+1)*2^min i j:=by
 rcases Nat.le_total i j with h|h
 ·obtain⟨d,rfl⟩:∃ d,j=i+d:=⟨j-i,by omega⟩;rw[ck h];exact mq p q i d
 ·obtain⟨d,rfl⟩:∃ d,i=j+d:=⟨i-j,by omega⟩;rw[Nat.min_eq_right h,cg,mq q p j d,cg]
theorem pW {w:World} {b:Nat} {e:TypeId} (hb:b=w.heap.size):Num (w.alloc (.cells #[.int .u64 1] e)) (.slice (some ⟨b,0,none⟩) 1 1) 1:=by
 subst hb;exact jA (d:=1) fk fk
set_option maxRecDepth 10000 in
theorem jM (w:World) (va vb:Value) (a b K:Nat) (hK:K≤150000) (bl:1≤K) (ht:Tab w) (S:Num w va a) (hb:Num w vb b) (B:a<2^(64*K)) (C:b<2^(64*K)):
  Calls Tryz.prog 76 #[va,vb] w (fo w (Nat.gcd a b)):=by
 have HA:Hid (Num w va a):=S;have HB:Hid (Num w vb b):=hb;rcases cm a with E|E
 ·subst E;rcases iu S with ⟨-,pa,pc,rfl⟩|⟨h,-⟩|⟨h,-⟩
  ·rw[Nat.gcd_zero_left];clear S hb B C ht;go_enter Tryz.func76,Tryz.ntmps76;go_wp2_with fail;go_ret;exact⟨_,rfl,ad _,HB.out⟩
  ·omega
  ·omega
 ·have bi:∃ pa na ca,va= .slice pa na ca∧(((na:Nat):Int)==0)=false∧0<na:=by
   rcases iu S with ⟨h,-⟩|⟨-,-,b,o,c,rfl,-⟩|⟨-,b,o,k,c,rfl,-⟩
   ·omega
   ·exact⟨_,1,c,rfl,rfl,by omega⟩
   ·exact⟨_,k+2,c,rfl,by simp;omega,by omega⟩
  rcases cm b with N|N
  ·subst N;rcases iu hb with ⟨-,pb,pc,rfl⟩|⟨h,-⟩|⟨h,-⟩
   ·rw[dB];obtain⟨pa,na,ca,rfl,bn,-⟩:=bi;clear S hb B C ht E;go_enter Tryz.func76,Tryz.ntmps76;go_wp2_with fail;go_ret;exact⟨_,rfl,ad _,HA.out⟩
   ·omega
   ·omega
  ·have bm:∃ pa na ca,vb= .slice pa na ca∧(((na:Nat):Int)==0)=false∧0<na:=by
    rcases iu hb with ⟨h,-⟩|⟨-,-,b,o,c,rfl,-⟩|⟨-,b,o,k,c,rfl,-⟩
    ·omega
    ·exact⟨_,1,c,rfl,rfl,by omega⟩
    ·exact⟨_,k+2,c,rfl,by simp;omega,by omega⟩
   obtain⟨p,i,hp⟩:=lI a E;obtain⟨q,j,hq⟩:=lI b N;have hi:i<64*K:=by
    have:2^i≤a:=by rw[hp];exact Nat.le_mul_of_pos_left _ eX
    exact(aV (by omega:1<2)).1 (aD this B)
   have hj:j<64*K:=by
    have:2^j≤b:=by rw[hq];exact Nat.le_mul_of_pos_left _ eX
    exact(aV (by omega:1<2)).1 (aD this C)
   have L:=hi9 (me w va a p i K eX ht S B hp);have M:Hid (∀ A,G w A→_):=fun A g=>me A vb b q j K eX (ht.G g) (hb.G g) C hq;have J:Hid (∀ A,G w A→Calls Tryz.prog 162 #[va] A fun e w'=>e= .returned (.int .i64 (blen a))∧G A w'):=fun A g=>kg A va a K eX (S.G g) B;have R:Hid (∀ A,G w A→Calls Tryz.prog 162 #[vb] A fun e w'=>e= .returned (.int .i64 (blen b))∧G A w'):=fun A g=>kg A vb b K eX (hb.G g) C;have F:=mS (p:=p) (n:=i);have O:=mS (p:=q) (n:=j);rw[← hp] at F;rw[← hq] at O;have U:a/2^i=2*p+1:=by rw[hp,dk _ (ae i)]
   have W:b/2^j=2*q+1:=by rw[hq,dk _ (ae j)]
   have ag:2*p+1≤a:=by rw[← U];exact aX _ _
   have ai:2*q+1≤b:=by rw[← W];exact aX _ _
   obtain⟨m,hm⟩:∃ m,m=min i j:=⟨_,rfl⟩;have Z:Nat.gcd (2*p+1) (2*q+1)<2^(64*K):=by
    have:=Nat.gcd_le_left (2*q+1) (show 0<2*p+1 by omega);omega
   have d:Hid (∀ A x,Num A x (Nat.gcd (2*p+1) (2*q+1))→Calls Tryz.prog 163 #[x,.int .i64 (m:Int)] A (fo A (Nat.gcd a b))):=fun A x hx=>by
    have h:=jq A x _ m K eX eX hx Z;rw[hm,← q2H,← hp,← hq] at h;rw[hm];exact h
   have af:Hid (min (i:Int) j=(m:Int)):=by show min (i:Int) j=(m:Int);omega
   obtain⟨pa,na,ca,rfl,bn,-⟩:=bi;obtain⟨pb,nb,cb,rfl,bs,-⟩:=bm;have hi2:(i:Int)<9600000:=by omega
   have bq:(j:Int)<9600000:=by omega
   by_cases I:p=0
   ·have t1:(((i:Int)+1)==(blen a:Int))=true:=by have:=F.2 I;simp;omega
    rw[I,bG,aK,Nat.gcd_one_left] at d;generalize blen a=s at *;clear S hb B C ht E N hp hq hi hj U W ag ai Z HA HB F O R I;go_enter Tryz.func76,Tryz.ntmps76;go_wp2_with fail;refine eW L.out ?_;rintro e A ⟨rfl,g1⟩;have HT:=hi9 (M.out A g1);clear L M;go_wp2_with fail;refine eW HT.out ?_;rintro e w2 ⟨rfl,g2⟩;have g12:=ab g1 g2;have HS:=hi9 (J.out w2 g12);clear HT J g1 g2;go_wp2_with fail;refine eW HS.out ?_;rintro e w3 ⟨rfl,g3⟩;have g13:=ab g12 g3;clear HS g12 g3;go_wp2_with fail;have D:=hi9 (d.out _ _ (pW (w:=w3) (e:=90) rfl));have g15:=et g13 (.cells #[.int .u64 1] 90);clear d g13;rw[af.out];refine eW D.out ?_;intro e w8 Y;obtain⟨r,rfl,g6,hr⟩:=Y;have HN:Hid (Num w8 r (Nat.gcd a b)):=hr;clear D hr;go_wp2_with fail;go_ret;exact⟨_,rfl,ab g15 g6,HN.out⟩
   by_cases X:q=0
   ·have t1:(((i:Int)+1)==(blen a:Int))=false:=by have:=fun h=>I (F.1 h);simp;omega
    have t2:(((j:Int)+1)==(blen b:Int))=true:=by have:=O.2 X;simp;omega
    rw[X,bG,aK,dG] at d;generalize blen a=s at *;generalize blen b=s2 at *;clear S hb B C ht E N hp hq hi hj U W ag ai Z HA HB F O I X;go_enter Tryz.func76,Tryz.ntmps76;go_wp2_with fail;refine eW L.out ?_;rintro e A ⟨rfl,g1⟩;have HT:=hi9 (M.out A g1);clear L M;go_wp2_with fail;refine eW HT.out ?_;rintro e w2 ⟨rfl,g2⟩;have g12:=ab g1 g2;have HS:=hi9 (J.out w2 g12);clear HT J g1 g2;go_wp2_with fail;refine eW HS.out ?_;rintro e w3 ⟨rfl,g3⟩;have g13:=ab g12 g3;clear HS g12 g3;go_wp2_with fail;refine eW (R.out w3 g13) ?_;rintro e w4 ⟨rfl,g4⟩;have g12:=ab g13 g4;clear R g13 g4;go_wp2_with fail;have D:=hi9 (d.out _ _ (pW (w:=w4) (e:=90) rfl));have g15:=et g12 (.cells #[.int .u64 1] 90);clear d g12;rw[af.out];refine eW D.out ?_;intro e w8 Y;obtain⟨r,rfl,g6,hr⟩:=Y;have HN:Hid (Num w8 r (Nat.gcd a b)):=hr;clear D hr;go_wp2_with fail;go_ret;exact⟨_,rfl,ab g15 g6,HN.out⟩
   have t1:(((i:Int)+1)==(blen a:Int))=false:=by have:=fun h=>I (F.1 h);simp;omega
   have t2:(((j:Int)+1)==(blen b:Int))=false:=by have:=fun h=>X (O.1 h);simp;omega
   have an:Hid (∀ A,G w A→Calls Tryz.prog 165 #[.slice pa na ca,.int .i64 (i:Int)] A (fo A (2*p+1))):=fun A g=>by
    have h:=iN A _ a i K eX eX (S.G g) B;rw[U] at h;exact h
   have ap:Hid (∀ A,G w A→Calls Tryz.prog 165 #[.slice pb nb cb,.int .i64 (j:Int)] A (fo A (2*q+1))):=fun A g=>by
    have h:=iN A _ b j K eX eX (hb.G g) C;rw[W] at h;exact h
   have HE:Hid (∀ A x y,Num A x (2*p+1)→Num A y (2*q+1)→_):=fun A x y hx hy=>q2A A x y (2*p+1) (2*q+1) K eX bl hx hy eX eX eX eX;generalize blen a=s at *;generalize blen b=s2 at *;clear S hb B C ht E N hp hq hi hj U W ag ai Z HA HB F O I X;generalize Nat.gcd (2*p+1) (2*q+1)=gg at *;generalize 2*p+1=P at *;generalize 2*q+1=Q at *;go_enter Tryz.func76,Tryz.ntmps76;go_wp2_with fail;refine eW L.out ?_;rintro e A ⟨rfl,g1⟩;have HT:=hi9 (M.out A g1);clear L M;go_wp2_with fail;refine eW HT.out ?_;rintro e w2 ⟨rfl,g2⟩;have g12:=ab g1 g2;have HS:=hi9 (J.out w2 g12);clear HT J g1 g2;go_wp2_with fail;refine eW HS.out ?_;rintro e w3 ⟨rfl,g3⟩;have g13:=ab g12 g3;clear HS g12 g3;go_wp2_with fail;refine eW (R.out w3 g13) ?_;rintro e w4 ⟨rfl,g4⟩;have g12:=ab g13 g4;clear R g13 g4;go_wp2_with fail;have HR:=hi9 (an.out w4 g12);clear an;refine eW HR.out ?_;intro e w5 Y;obtain⟨x,rfl,g3,hx⟩:=Y;have g13:=ab g12 g3;have HX:Hid (Num w5 x P):=hx;have am:Hid _:=ap.out w5 g13;clear HR ap g12 g3 hx;go_wp2_with fail;refine eW am.out ?_;intro e w6 Y;obtain⟨y,rfl,g4,hy⟩:=Y;have al:=hi9 (HE.out w6 x y (HX.out.G g4) hy);have g14:=ab g13 g4;clear am HE HX hy g13 g4;go_wp2_with fail;refine eW al.out ?_;intro e w7 Y;obtain⟨z,rfl,g5,hz⟩:=Y;have D:=hi9 (d.out w7 z hz);have g15:=ab g14 g5;clear al d hz g14 g5;go_wp2_with fail;rw[af.out];refine eW D.out ?_;intro e w8 Y;obtain⟨r,rfl,g6,hr⟩:=Y;have HN:Hid (Num w8 r (Nat.gcd a b)):=hr;clear D hr;go_wp2_with fail;go_ret;exact⟨_,rfl,ab g15 g6,HN.out⟩
def sgn (s:Bool) (n:Nat):Int:=if s then -(n:Int) else n
/-- A sign and a size; of 0 any sign. -/
def WholeS (w:World) (v:Value) (s:Bool) (n:Nat):Prop:=∃ a k c,v= .agg #[.bool s,.slice a k c]∧Num w (.slice a k c) n
/-- v is the whole number z. -/
def WholeIs (w:World) (v:Value) (z:Int):Prop:=WholeS w v (decide (z<0)) z.natAbs
theorem WholeS.G {w A:World} {v:Value} {s:Bool} {n:Nat} (h:WholeS w v s n) (g:G w A):WholeS A v s n:=by
 obtain⟨a,k,c,e,B⟩:=h;exact⟨a,k,c,e,B.G g⟩
theorem WholeIs.G {w A:World} {v:Value} {z:Int} (h:WholeIs w v z) (g:G w A):WholeIs A v z:=WholeS.G h g
/-- A block without words isn't one that a number lies in. -/
def iK:Value→Prop
 | .int _ _=>False
 |_=>True
theorem lX {w:World} {v:Value} {n b:Nat} {l:List Value} (h:Num w v n) (r:Rec w b l) (M:∀ x∈l,iK x):∀ A:World,(∀ i k,i≠b→A.cell? ⟨i,k,none⟩=w.cell? ⟨i,k,none⟩)→w.heap.size≤A.heap.size→Num A v n:=by
 intro A L N;obtain⟨m,E,D,hv⟩:=h;refine⟨m,?_,D,hv⟩;rcases Sl.cases E with ⟨rfl,a,c,rfl⟩|⟨F,I,o,c,rfl,C,hb,K⟩
 ·exact⟨E.1,Or.inl ⟨rfl,a,c,rfl⟩⟩
 ·have B:I≠b:=by
   intro e;subst e;have J:=K 0 (cq.2 F);rw[r.cell] at J;have h1:=M _ (da J);exact h1
  exact⟨E.1,Or.inr ⟨I,o,c,rfl,C,by omega,fun i hi=>by rw[L _ _ B];exact K i hi⟩⟩
theorem jb {w:World} {v:Value} {n b:Nat} {x y u1 u2:Value} (h:Num w v n) (r:Rec w b [x,y]) (C:iK x) (D:iK y):Num ((w.setCell ⟨b,0,none⟩ u1).setCell ⟨b,1,none⟩ u2) v n:=
 lX h r (by intro z B;simp at B;rcases B with rfl|rfl<;>assumption) _ (fun i k hi=>by
  rw[World.cell?_setCell_other _ _ _ _ (by intro e;injection e with A;exact hi A.symm),World.cell?_setCell_other _ _ _ _ (by intro e;injection e with A;exact hi A.symm)]) (by simp [World.setCell])
theorem fC {w:World} {v:Value} {n b:Nat} {x y z u1 u2 u3:Value} (h:Num w v n) (r:Rec w b [x,y,z]) (C:iK x) (D:iK y) (B:iK z):Num (((w.setCell ⟨b,0,none⟩ u1).setCell ⟨b,1,none⟩ u2).setCell ⟨b,2,none⟩ u3) v n:=
 lX h r (by intro z B;simp at B;rcases B with rfl|rfl|rfl<;>assumption) _ (fun i k hi=>by
  rw[World.cell?_setCell_other _ _ _ _ (by intro e;injection e with A;exact hi A.symm),World.cell?_setCell_other _ _ _ _ (by intro e;injection e with A;exact hi A.symm),World.cell?_setCell_other _ _ _ _ (by intro e;injection e with A;exact hi A.symm)]) (by simp [World.setCell])
theorem gX (z:Int):sgn (decide (z<0)) z.natAbs=z:=by
 unfold sgn;by_cases h:z<0<;>simp [h]<;>omega
theorem jV (s:Bool) (n:Nat):(sgn s n).natAbs=n:=by unfold sgn;cases s<;>simp
theorem q0L (s:Bool) (n:Nat):decide (sgn s n<0)=(s&&decide (0<n)):=by
 unfold sgn;cases s<;>simp
/-- A call hands back the whole number z. -/
def fW (w:World) (z:Int) (e:Ending) (A:World):Prop:=∃ v,e= .returned v∧G w A∧WholeIs A v z
/-- The length of a slice tells whether its number is 0. -/
theorem jt {w:World} {v:Value} {n:Nat} (h:Num w v n):∃ a k c,v= .slice a k c∧(k=0↔n=0)∧decide (0<k)=decide (0<n)∧(((k:Nat):Int)==0)=decide (n=0):=by
 rcases iu h with ⟨rfl,a,c,rfl⟩|⟨h1,-,b,o,c,rfl,-⟩|⟨h1,b,o,k,c,rfl,-⟩
 ·exact⟨a,0,c,rfl,by omega,rfl,rfl⟩
 ·exact⟨_,1,c,rfl,by omega,by rw[decide_eq_true h1];rfl,by rw[decide_eq_false (by omega:¬ n=0)];rfl⟩
 ·exact⟨_,k+2,c,rfl,by omega,by rw[decide_eq_true (by omega:0<n)];simp,by rw[decide_eq_false (by omega:¬ n=0)];simp;omega⟩
theorem im (w:World) (m:Value) (s:Bool) (n:Nat) (A:Num w m n):
  Calls Tryz.prog 80 #[.bool s,m] w (fW w (sgn s n)):=by
 obtain⟨a,k,c,rfl,-,D,-⟩:=jt A;have B:Hid (Num w (.slice a k c) (sgn s n).natAbs):=by show Num w _ _;rw[jV];exact A
 have C:Hid (decide (sgn s n<0)=(s&&decide (0<n))):=q0L s n;generalize sgn s n=z at *;generalize decide (0<n)=p at *;clear A;cases s
 ·go_enter Tryz.func80,Tryz.ntmps80;go_wp2_with fail;refine bodyPost_ret (v:= .agg #[.bool false,.slice a k c]) (by simp [results,Tryz.results80,go_sem, *]) rfl ?_;exact⟨_,rfl,(ad _).alloc _,a,k,c,by rw[C.out];rfl,B.out.G ((ad _).alloc _)⟩
 ·go_enter Tryz.func80,Tryz.ntmps80;go_wp2_with fail;refine bodyPost_ret (v:= .agg #[.bool (decide (0<k)),.slice a k c]) (by simp [results,Tryz.results80,go_sem, *]) rfl ?_;exact⟨_,rfl,(ad _).alloc _,a,k,c,by rw[C.out,D];rfl,B.out.G ((ad _).alloc _)⟩
theorem qo (w:World) (v:Value) (z:Int) (h:WholeIs w v z):
  Calls Tryz.prog 85 #[v] w fun e O=>e= .returned (.int .i64 z.sign)∧G w O:=by
 obtain⟨a,k,c,rfl,J⟩:=h;obtain⟨a2,S,R,e,A,-,F⟩:=jt J;injection e with K L M;subst K;subst L;subst M;clear J;by_cases E:z=0
 ·subst E;have I:k=0:=A.2 rfl;subst I;go_enter Tryz.func85,Tryz.ntmps85;go_wp2_with fail;go_ret;exact⟨rfl,(ad _).alloc _⟩
 ·have N:((k:Int)==0)=false:=by rw[F];simp;omega
  by_cases D:z<0
  ·have B:decide (z<0)=true:=decide_eq_true D;have C:z.sign= -1:=dd D;rw[C,B];clear F A E D B C;go_enter Tryz.func85,Tryz.ntmps85;go_wp2_with fail;go_ret;exact⟨rfl,(ad _).alloc _⟩
  ·have B:decide (z<0)=false:=decide_eq_false D;have C:z.sign=1:=bg eX;rw[C,B];clear F A E D B C;go_enter Tryz.func85,Tryz.ntmps85;go_wp2_with fail;go_ret;exact⟨rfl,(ad _).alloc _⟩
end Go.Proofs.YtohcneeihdkfgaaGreatDoor.EN
