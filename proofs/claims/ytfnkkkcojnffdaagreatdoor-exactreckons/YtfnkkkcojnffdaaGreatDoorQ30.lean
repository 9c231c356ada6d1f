/- What is proved here: contracts of package exact: divide, over this seat's translation.
What is proved here: contracts of package exact: divide, over, over this seat's translation.
What is proved here: contracts of package exact: root, over this seat's translation.
What is proved here: Lehmer's steps, their arithmetic (no program).
What is proved here: contracts of package exact: shares, over this seat's translation.
What is proved here: contracts of package exact: mix, over this seat's translation.
What is proved here: contracts of package exact: nearer, over this seat's translation.
What is proved here: contracts of package exact: euclid, over this seat's translation.
What is proved here: contracts of package exact: common, over this seat's translation.
What is proved here: contracts of package exact: whole numbers with a sign, over this seat's translation. -/
import Derived.Test.YtfnkkkcojnffdaaGreatDoorQ1
import Derived.Test.YtfnkkkcojnffdaaGreatDoorQ8
import Derived.Test.YtfnkkkcojnffdaaGreatDoorQ3
import Derived.Test.YtfnkkkcojnffdaaGreatDoorQ18
import Derived.Test.YtfnkkkcojnffdaaGreatDoorQ29
import Derived.Test.YtfnkkkcojnffdaaGreatDoorQ6
import Derived.Test.YtfnkkkcojnffdaaGreatDoorQ20
namespace Go.Proofs.YtfnkkkcojnffdaaGreatDoor.EN
open Go.ChangeShapes Go.WideShapes Go.ChangeAt Go.RowKit
/-- A quotient and a rest, both numbers. -/
def pI (w:World) (q r:Nat) (e:Ending) (A:World):Prop:=∃ B v2,e= .returned (.tuple #[B,v2])∧G w A∧Num A B q∧Num A v2 r
theorem mG (w:World) (va vb:Value) (a b K:Nat) (R:K≤400000) (I:Num w va a) (hb:Num w vb b) (B:a<2^(64*K)) (D:b<2^(64*K)) (A:a<b):
  Calls Tryz.prog 71 #[va,vb] w (pI w (a/b) (a%b)):=by
 have F:=hi9 (iz w va vb a b K eK I hb B D);rw[show cmpV a b= -1 from by unfold cmpV;rw[if_pos A]] at F;have J:Hid (∀ E,G w E→_):=fun E g=>lj E va a K eK (I.G g) B;rw[aR A,aU A];clear I hb B D A;go_enter Tryz.func71,Tryz.ntmps71;go_wp2_with fail;refine eJ F.out ?_;rintro e E ⟨rfl,g1⟩;have C:=hi9 (J.out E g1);clear J F;go_wp2_with fail;refine eJ C.out ?_;intro e O N;obtain⟨v,rfl,g2,L⟩:=N;have M:Hid (Num O v a):=L;clear L C;go_wp2_with fail
 go_ret2
 exact⟨_,v,rfl,aa g1 g2,⟨[],⟨gG,Or.inl ⟨rfl,_,_,rfl⟩⟩,gh,rfl⟩,M.out⟩
theorem nB (w:World) (va vb:Value) (a b K:Nat) (hK:K≤400000) (Z:Num w va a) (hb:Num w vb b) (D:a<2^(64*K)) (J:b<2^64) (I:0<b) (d:b≤a) (al:1≤K):
  Calls Tryz.prog 71 #[va,vb] w (pI w (a/b) (a%b)):=by
 have X:=hi9 (iz w va vb a b K eK Z hb D eK);have O:cmpV a b=0∨cmpV a b=1:=by unfold cmpV;rw[if_neg eK];split;exact Or.inl rfl;exact Or.inr rfl
 have an:decide (cmpV a b<0)=false:=by rcases O with h|h<;>rw[h]<;>rfl
 have s:Hid (∀ W,G w W→_):=fun W g=>gP W va a b K eK (Z.G g) D I J;have y:Hid _:=fun w=>kG w (a%b) (by have:=aX a I;omega);obtain⟨m,hm,N,A⟩:=hb;have i:=eQ (k:=1) N (by rw[A];simpa using J);have B:m≠[]:=by intro e;rw[e] at A;simp [val] at A;omega
 have R:m.length=1:=by have:=bS.2 B;omega
 have L:m.getD 0 0=b:=by
  have:=fq (l:=m) (k:=0) eK;rw[aQ (show m.length≤0+1 by omega),A] at this;simpa [val] using this.symm
 obtain⟨pb,cb,rfl,c,U⟩:=fa hm;obtain⟨b1,o1,rfl,C,E⟩:=U 0 eK;rw[L,aS] at E;rw[R] at X ⊢;generalize cmpV a b=cv at *;have am:(b:Int)≤18446744073709551615:=by omega
 clear Z U hm N A i B R L c D d hK O;go_enter Tryz.func71,Tryz.ntmps71;go_wp2_with fail;refine eJ X.out ?_;rintro e W ⟨rfl,g1⟩;have M:=g1.cell C E;have o:=ae C g1.size;have F:=hi9 (s.out W g1);clear X s E C;go_wp2_with fail;refine eJ F.out ?_;intro e w2 j;obtain⟨v,rfl,g2,hn⟩:=j;have HN:Hid (Num w2 v (a/b)):=hn;clear hn F M o;go_wp2_with fail;refine eJ (y.out _) ?_;intro e w3 j;obtain⟨v2,rfl,g3,S⟩:=j;have Y:Hid (Num w3 v2 (a%b)):=S;clear S y;go_wp2_with fail
 go_ret2
 exact⟨v,v2,rfl,aa (aa g1 g2) g3,HN.out.G g3,Y.out⟩
theorem Own.gb {w B:World} {b c o n:Nat} {l:List Nat} (h:Own w b l) (g:GB c o n w B) (A:b≠c):Own B b l:=by
 have hb:=g.gx.block b h.2.1 (by intro e;cases e;exact A rfl);refine⟨h.1,ae h.2.1 g.size,fun i hi=> ?_,fun i hi=> ?_⟩
 ·exact(World.cell?_of_block hb).trans (h.2.2.1 i hi)
 ·exact(World.frozen?_of_block hb).trans (h.2.2.2 i hi)
theorem Own.setOther {w:World} {b c i:Nat} {l:List Nat} {u:Value} (h:Own w b l) (A:b≠c):Own (w.setCell ⟨c,i,none⟩ u) b l:=
 ⟨h.1,by simpa [World.setCell] using h.2.1,h.2.2.1.set A,fun j B=>by rw[World.frozen?_setCell];exact h.2.2.2 j B⟩
theorem Sl.setOther {w:World} {B D cv m c i:Nat} {vl:List Nat} {u:Value} (h:Sl w (.slice (some ⟨B,D,none⟩) m cv) vl) (C:B≠c):Sl (w.setCell ⟨c,i,none⟩ u) (.slice (some ⟨B,D,none⟩) m cv) vl:=by
 refine⟨h.1,?_⟩;rcases h.2 with ⟨h1,h2⟩|⟨J,K,c1,e,h1,h2,h3⟩
 ·exact Or.inl ⟨h1,h2⟩
 ·injection e with A E F;injection A with A;injection A with A I;subst A;subst I;subst E;subst F;exact Or.inr ⟨B,D,cv,rfl,h1,by simpa [World.setCell] using h2,h3.set C⟩
set_option maxHeartbeats 4000000 in
set_option maxRecDepth 100000 in
theorem nA (w:World) (va vb:Value) (a b K:Nat) (X:K≤400000) (ha:Num w va a) (hb:Num w vb b) (cn:a<2^(64*K)) (cr:b<2^(64*K)) (pd:b≤a) (kw:2^64≤b):
  Calls Tryz.prog 71 #[va,vb] w (pI w (a/b) (a%b)):=by
 have HC:=hi9 (iz w va vb a b K eK ha hb cn cr);have E:cmpV a b=0∨cmpV a b=1:=by unfold cmpV;rw[if_neg eK];split;exact Or.inl rfl;exact Or.inr rfl
 have qa:decide (cmpV a b<0)=false:=by rcases E with h|h<;>rw[h]<;>rfl
 obtain⟨l,hl,B,I⟩:=ha;obtain⟨m,hm,Y,cc⟩:=hb;have pf:=eQ B (by rw[I];exact cn);have pm:=eQ Y (by rw[cc];exact cr);have lx:2≤m.length:=by
  by_cases h:2≤m.length
  ·exact h
  ·have h1:=fm Y.1;have h2:2^(64*m.length)≤2^(64*1):=ai eK eK;rw[cc] at h1;omega
 have lw:m.length≤l.length:=by
  by_cases h:m.length≤l.length
  ·exact h
  ·have:=fH B Y eK;omega
 obtain⟨n,hn⟩:∃ n,m.length=n+1:=⟨m.length-1,by omega⟩;obtain⟨s,s1,s2,s3,s4,s5⟩:=kj Y hn;rw[cc] at s3 s4 s5;have hx:=eO Y.1 n;have gn:Hid _:=fun w=>Tryz.bits_LeadingZeros64 (m.getD n 0:Int) w eK eK;rw[eA,← s2] at gn;have gm:Hid (∀ w1,G w w1→_):=fun w1 g=>iC w1 vb b s K eK eK (Num.G ⟨m,hm,Y,cc⟩ g) cr;have ib:Hid (∀ w1,G w w1→_):=fun w1 g=>iC w1 va a s K eK eK (Num.G ⟨l,hl,B,I⟩ g) cn;obtain⟨pa,ca,rfl,pc,-⟩:=fa hl;obtain⟨pb,cb,rfl,lk,hk⟩:=fa hm;obtain⟨b1,o1,rfl,hg,lg⟩:=hk n eK;generalize m.getD n 0=top at *;have ls:2^(64*l.length)>a:=by have:=fm B.1;rw[I] at this;exact this
 generalize pi:l.length=A at *;rw[hn] at HC gm lw lx lk hk ⊢;generalize cmpV a b=cv at *;have y:Hid (a<2^(64*A)):=ls;have ce:Hid (b*2^s<2^(64*(n+1))):=s3;have oe:Hid (2^(64*n)≤b):=s4;have jx:Hid (2^(64*n)≤b*2^s):=s5;have am:Hid (0<b):=by show 0<b;omega
 have qy:(n:Int)≤400000:=by omega
 have qx:(A:Int)≤400000:=by omega
 have ra:(n:Int)+1≤A:=by omega
 have hj:(1:Int)≤n:=by omega
 have rb:(s:Int)≤63:=by omega
 have rc:((n:Int)+1==1)=false:=by simp;omega
 clear hl B I hm Y cc pf pm hx hk ls pi pc lk s1 s2 s3 s4 s5 E pd kw cn cr hn lw lx;go_enter Tryz.func71,Tryz.ntmps71;go_wp2_with fail;refine eJ HC.out ?_;rintro e w1 ⟨rfl,g1⟩;have li:=g1.cell hg lg;have pn:=ae hg g1.size;clear HC lg hg;go_wp2_with fail;refine eJ (gn.out _) ?_;rintro e w2 ⟨rfl,rfl⟩;clear gn li pn;have ea:=hi9 (gm.out _ g1);clear gm;go_wp2_with fail;refine eJ ea.out ?_;intro e w3 hs;obtain⟨v,rfl,g3,cy⟩:=hs;have ii:Hid (Num w3 v (b*2^s)):=cy;have g13:=aa g1 g3;clear cy ea g1 g3;have mm:=gp (A+1) eK;rw[show ((A+1:Nat):Int)=(A:Int)+1 from by omega] at mm;go_wp2_with fail;have c:=hi9 (fB w3 (A+1) 78);have cx:G w3 (w3.alloc (.cells (madeCells #[.int .u64 0] (A+1)) 78)):=(ag _).alloc _;obtain⟨vl,C,Z,cd⟩:=ii.out;have I:vl.length=n+1:=by
  have k1:=eQ Z (by rw[cd];exact ce.out);by_cases h:n+1≤vl.length
  ·omega
  ·have k2:=fm Z.1;have k3:2^(64*vl.length)≤2^(64*n):=ai eK eK;have:=jx.out;omega
 have po:=iN Z I;obtain⟨pv,N,rfl,E,ng⟩:=fa C;obtain⟨L,ov,rfl,ot,-⟩:=ng n eK;rw[I] at C E ⊢;have gg:=C.G cx;have G4:=aa g13 cx;have ds:=hi9 (ib.out _ G4);have dk:w3.heap.size<(w3.alloc (.cells (madeCells #[.int .u64 0] (A+1)) 78)).heap.size:=by simp
 generalize w3.alloc (.cells (madeCells #[.int .u64 0] (A+1)) 78)=w4 at *;have hr:=g13.size;obtain⟨U,ky⟩:∃ U,U=w3.heap.size:=⟨_,rfl⟩;rw[← ky] at c ot hr dk ⊢;have ci:Hid (Sl w4 (.slice (some ⟨L,ov,none⟩) (n+1) N) vl):=gg;have oi:Hid (vl.length=n+1):=I;have he:Hid (val vl=b*2^s):=cd;have oj:Hid (0<vl.getD n 0):=by show 0<vl.getD n 0;omega
 have lc:L<w4.heap.size:=by omega
 have fr:L≠U:=by omega
 have ee:Hid (Sl w3 (.slice (some ⟨L,ov,none⟩) (n+1) N) vl):=C;clear C gg Z cd I po ng E ib ii jx mm ci;refine eJ ds.out ?_;intro e w5 hs;obtain⟨v2,rfl,g5,cy⟩:=hs;obtain⟨al,hp,fs,bz⟩:=cy;have fp:al.length≤A+1:=by
  refine eQ fs ?_;rw[bz];have h1:a*2^s<2^(64*A)*2^s:=aF y.out (af s);rw[← ah] at h1;exact ae h1 (ai eK eK)
 have ga:=Own.grow c.out g5;obtain⟨w6,nd,bs,hh⟩:=nt (w0:=w3) (n:=A+1) (va:=v2) ga fI hp fp (aa cx g5) eK 3;have gk:(al++(List.replicate (A+1) 0).drop al.length).length=A+1:=by rw[aG,cI,List.length_replicate];omega
 have gl:val (al++(List.replicate (A+1) 0).drop al.length)=a*2^s:=by
  rw[val_append,ej,l4,bm,aS,bz]
 obtain⟨pz,cz,rfl,-,-⟩:=fa hp;generalize al++(List.replicate (A+1) 0).drop al.length=dq at *;obtain⟨M,hM⟩:∃ M,A=n+M:=⟨A-n,by omega⟩;have py:1≤M:=by omega
 have kq:a*2^s<2^(64*M)*(b*2^s):=by
  have k1:2^(64*M)*2^(64*n)≤2^(64*M)*b:=aA _ oe.out;rw[← ah,show 64*M+64*n=64*A from by omega] at k1;rw[← ak];exact aF (by have:=y.out;omega) (af s)
 have hy:Hid (DI dq (List.replicate M 0) M (A+1) M (b*2^s) (a*2^s)):=DI.start gk gl kq;have ec:Hid (Own w6 U dq):=bs;have em:Hid (Sl w6 (.slice (some ⟨L,ov,none⟩) (n+1) N) vl):=ee.out.G hh;have G6:=aa g13 hh;have kx:U<w6.heap.size:=bs.2.1;have bi:L<w6.heap.size:=by omega
 have mo:=gp M eK;have oy:(A:Int)-((n:Int)+1)+1=(M:Int):=by omega
 have pr:(M:Int)≤400000:=by omega
 have HM:Hid (A=n+M):=hM;have hw:Hid (L≠U):=fr;clear hp fs bz fp ga bs hh gk gl kq ds c g5 cx G4 g13 ee lc dk ky y hM fr;go_wp2_with fail;have an:=hi9 (fB w6 M 78);have bl:G w6 (w6.alloc (.cells (madeCells #[.int .u64 0] M) 78)):=(ag _).alloc _;have dk:w6.heap.size<(w6.alloc (.cells (madeCells #[.int .u64 0] M) 78)).heap.size:=by simp
 generalize w6.alloc (.cells (madeCells #[.int .u64 0] M) 78)=w7 at *;have dr:Hid (L<w7.heap.size):=ae bi bl.size;have nl:=G6.size;generalize w6.heap.size=d at *;have ed:Hid (Own w7 U dq):=Own.grow ec.out bl;have en:Hid (Sl w7 (.slice (some ⟨L,ov,none⟩) (n+1) N) vl):=em.out.G bl;have G7:=aa G6 bl;have jj:Hid (d≠U):=by show d≠U;omega
 have ob:Hid (d≠L):=by show d≠L;omega
 have ol:Hid (w.heap.size≤d):=nl;have oo:Hid (w.heap.size≤U):=hr;clear ec em G6 bl kx bi mo dk nl hr oy nd
 go_loopw [11] (fun vi wr=>∃ (t:Nat) (us k:List Nat),t≤M∧vi= .int .i64 ((t:Int)-1)∧DI us k t (A+1) M (b*2^s) (a*2^s)∧Own wr U us∧Own wr d k∧Sl wr (.slice (some ⟨L,ov,none⟩) (n+1) N) vl∧L<wr.heap.size∧G w wr) (fun vi _=>(intOf vi+1).toNat)
 case atStart=>exact⟨M,dq,_,az _,rfl,hy.out,ed.out,an.out,en.out,dr.out,G7⟩
 case round=>
  clear hy ed an en G7 dr;obtain⟨t,us,k,ht,rfl,R,S,bn,C,O,hG⟩:=hrel;cases t with
  |succ j=>
   have dl:us.length=A+1:=R.1;have hq:=fun cs=>DI.step (cs:=cs) (n:=n+1) R S.1 eK (by have:=HM.out;omega) ce.out (bF am.out (af s));have D:=At.sub (i:=j) (n:=n+1+1) S.at (by have:=HM.out;omega);have F:((us.drop j).take (n+1+1)).length=n+2:=by rw[bj,cI];have:=HM.out;omega
   rw[aD] at D;have ia:Hid _:=q1p wr U j (A+1-j) L ov N _ vl n eK F oi.out D (by rw[F];have:=HM.out;omega) C hw.out O oj.out (by rw[he.out];exact(hq []).1);have hd:=hi9 hq;have c:Hid (Own wr U us):=S;have an:Hid (Own wr d k):=bn;have ci:Hid (Sl wr (.slice (some ⟨L,ov,none⟩) (n+1) N) vl):=C;have ka:=hi9 F;have kp:Hid (us.length=A+1):=dl;have hc:Hid (k.length=M):=R.2.1;have qb:(j:Int)+1≤M:=by omega
   have pe:(j:Int)+((n:Int)+1)+1≤(A:Int)+1:=by have:=HM.out;omega
   have pt:U<wr.heap.size:=S.2.1;have ps:d<wr.heap.size:=bn.2.1;clear hq D F dl R S bn C;go_wp2_with fail;rw[show j+(n+1)+1-j=n+2 from by omega];refine eJ ia.out ?_;rintro e w8 ⟨cs,rfl,B,kr,W,E⟩;rw[ka.out] at B W;rw[he.out] at E;have fv:=(hd.out cs).2 B E;have lm:=At.join (o:=0) (i:=j) (n:=n+2) c.out.at (by rw[aD];exact W) (by rw[aD];exact kr) B (by have:=kp.out;have:=HM.out;omega);have io:Hid (Own w8 U (us.take j++(cs++us.drop (j+(n+2))))):=lm.own;have ao:Hid (Own w8 d k):=Own.gb an.out W jj.out;have kb:Hid (Sl w8 (.slice (some ⟨L,ov,none⟩) (n+1) N) vl):=Sl.gb ci.out W hw.out O;have ox:=GB.fresh hG W oo.out;have hz:Hid (DI (us.take j++(cs++us.drop (j+(n+2)))) (k.set j (val ((us.drop j).take (n+1+1))/(b*2^s))) j (A+1) M (b*2^s) (a*2^s)):=fv;have lb:L<w8.heap.size:=ae O W.size;have gd:val ((us.drop j).take (n+1+1))/(b*2^s)<2^64:=by
    have h1:=(hd.out []).1;exact(bh (bF am.out (af s))).2 h1
   rw[he.out];generalize val ((us.drop j).take (n+1+1))/(b*2^s)=q at *;generalize us.take j++(cs++us.drop (j+(n+2)))=pp at *;have ho:=Own.cell (w:=w8) (b:=d) (l:=k) (i:=j) ao.out (by have:=hc.out;omega);have hf:=Own.frozen (w:=w8) (b:=d) (l:=k) (i:=j) ao.out (by have:=hc.out;omega);have it:Hid (q<2^64):=gd;generalize k.getD j 0=z at *;clear fv lm B kr W E ia hd ka kp c an ci gd hG O pe;go_wp2_with fail
   go_roundw
   case rel=>exact⟨j,pp,k.set j q,by omega,by congr 1,hz.out,Own.setOther io.out jj.out.symm,Own.set ao.out j q (by have:=hc.out;omega) it.out,Sl.setOther kb.out ob.out.symm,by simpa [World.setCell] using lb,ox.setCell (p:=⟨d,j,none⟩) ol.out _⟩
   case measure=>simp [intOf]
  |zero=>
   obtain⟨f1,f2⟩:=DI.fin R (af s) am.out;have dl:us.length=A+1:=R.1;have nc:k.length=M:=R.2.1;have ep:Hid (∀ J,G wr J→Calls Tryz.prog 122 #[.slice (some ⟨d,0,none⟩) M M] J (eU J (a/b))):=by
    intro J g;have h2:=fF (Own.grow bn g) nc eK;rw[f1] at h2;exact h2
   have D:=At.sub (i:=0) (n:=n+1) S.at eK;have F:((us.drop 0).take (n+1)).length=n+1:=by rw[List.drop_zero,bj];omega
   have gf:val ((us.drop 0).take (n+1))=(a%b)*2^s:=by
    have k1:=kE us 0 (n+1) eK;have k2:val (us.drop (n+1))=0:=by
     rw[gJ S.1];refine aR ?_;rw[f2];have k3:(a%b)*2^s<b*2^s:=aF (aX _ am.out) (af s);have:=ce.out;omega
    simp only[aD] at k1;rw[k2] at k1;simp only[List.take_zero,bm,bH,b9,aS,val,aD] at k1;rw[← k1,f2]
   have kk:Hid (∀ J,G wr J→Calls Tryz.prog 122 #[.slice (some ⟨U,0,none⟩) (n+1) (A+1)] J (eU J ((a%b)*2^s))):=by
    intro J g;have h1:=(At.gr D g).sl (A+1) (by rw[F];omega);rw[F] at h1;have h2:=trim_c J _ _ h1 (by rw[F];omega);rw[gf] at h2;exact h2
   have HR:Hid (∀ J v,Num J v ((a%b)*2^s)→Calls Tryz.prog 120 #[v,.int .i64 (s:Int)] J (eU J (a%b))):=by
    intro J v hv;have h1:=ig J v _ s (n+1) eK eK hv (by
     have k3:(a%b)*2^s<b*2^s:=aF (aX _ am.out) (af s);have:=ce.out;omega)
    rw[cN _ (af s)] at h1;exact h1
   clear f1 f2 dl nc D F gf R S bn C O;have pu:n≤A:=by omega
   have px:(0:Int)≤(n:Int)+1:=by omega
   go_wp2_with fail;refine fN 9 (G wr) eM (by first|exact(ag _).drew|exact G.drew kg) ?_;intro cm;refine eL 0 (v:= ?_) rfl eM (fun _ _ _ h=>h) rfl ?_ ‹_› ?_;rotate_left
   ·exact kQ
   try simp only[aput,List.set]
   refine eL 2 (v:= ?_) rfl eM (fun _ _ _ h=>h) rfl ?_ ‹_› ?_;rotate_left
   ·exact kQ
   try simp only[aput,List.set]
   refine eL 3 (v:= ?_) rfl eM (fun _ _ _ h=>h) rfl ?_ ‹_› ?_;rotate_left
   ·exact kQ
   try simp only[aput,List.set]
   refine eL 4 (v:= ?_) rfl eM (fun _ _ _ h=>h) rfl ?_ ‹_› ?_;rotate_left
   ·exact kQ
   try simp only[aput,List.set]
   refine eL 5 (v:= ?_) rfl eM (fun _ _ _ h=>h) rfl ?_ ‹_› ?_;rotate_left
   ·exact kQ
   try simp only[aput,List.set]
   refine eL 7 (v:= ?_) rfl eM (fun _ _ _ h=>h) rfl ?_ ‹_› ?_;rotate_left
   ·exact kQ
   try simp only[aput,List.set]
   refine eN (i:=1) eM rfl ?_;intro K X;go_simp;go_wp2_with (go_at_call 122;refine eJ (ep.out _ cm) ?_;intro e J hs;obtain⟨v1,rfl,g9,hj⟩:=hs);refine X.out _ _ (Or.inr (aa cm g9)) ?_;clear X K;have cl:=aa cm g9;have ih:Hid (Num J v1 (a/b)):=hj;clear hj cm g9;refine eN (i:=6) eM rfl ?_;intro K X;go_simp;go_wp2_with (go_at_call 122;refine eJ (kk.out _ cl) ?_;intro e np hs;obtain⟨v2,rfl,g10,mp⟩:=hs);refine X.out _ _ (Or.inr (aa cl g10)) ?_;clear X K;have ap:=aa cl g10;have eb:Hid (Num np v1 (a/b)):=ih.out.G g10;have jp:=hi9 (HR.out np v2 mp);clear mp cl g10 ih HR kk ep;refine eN (i:=8) eM rfl ?_;intro K X;go_simp;go_wp2_with (go_at_call 120;refine eJ jp.out ?_;intro e nx hs;obtain⟨v3,rfl,g11,ms⟩:=hs);refine X.out _ _ (Or.inr (aa ap g11)) ?_;clear X K;have ks:=aa ap g11;have oa:Hid (Num nx v3 (a%b)):=ms;have gz:Hid (Num nx v1 (a/b)):=eb.out.G g11;clear ms ap g11 eb jp;refine eN (i:=9) eM rfl ?_;intro K X;go_simp;refine X.out _ _ (Or.inl ff) ?_;clear X K;refine eN (i:=10) eM rfl ?_;intro K X;go_simp;refine X.out _ _ (Or.inl ff) ?_;clear X K;refine fh eM ?_ _;go_wp2_with fail
   go_ret2
   exact⟨v1,v3,rfl,aa hG ks,gz.out,oa.out⟩
theorem j9 (w:World) (va vb:Value) (a b K:Nat) (C:K≤400000) (D:1≤K) (E:Num w va a) (hb:Num w vb b) (A:a<2^(64*K)) (B:b<2^(64*K)) (F:0<b):
  Calls Tryz.prog 71 #[va,vb] w (pI w (a/b) (a%b)):=by
 by_cases h:a<b
 ·exact mG w va vb a b K C E hb A B h
 ·by_cases h2:b<2^64
  ·exact nB w va vb a b K C E hb A h2 F eK D
  ·exact nA w va vb a b K C E hb A B eK eK
theorem lf {p n:Nat}:n+1=blen ((2*p+1)*2^n)↔p=0:=by
 have A:(2*p+1)*2^n≠0:=bV eK (dO (af n));unfold blen;rw[if_neg A];constructor
 ·intro h;have h1:=(dd (k:=n) A).1 eK;have h2:(2*p+1)*2^n<2*2^n:=by rw[← dJ];exact h1.2
  have:=ck h2;omega
 ·rintro rfl;have B:=af n;have h1:=(dd (k:=n) A).2 ⟨by omega,by rw[bp];omega⟩;omega
theorem q2h {a p i K:Nat} (B:a=(2*p+1)*2^i) (A:a<2^(64*K)):i<64*K:=by
 have:2^i≤a:=by rw[B];exact dP _ eK
 exact(aY (by omega:1<2)).1 (aq this A)
theorem je (w:World) (va vb:Value) (a b K:Nat) (hK:K≤150000) (X:1≤K) (Y:Tab w) (U:Num w va a) (hb:Num w vb b) (I:a<2^(64*K)) (B:b<2^(64*K)) (J:0<b):
  Calls Tryz.prog 60 #[va,vb] w (eU w (a/b)):=by
 obtain⟨p,n,L⟩:=jU b J;have m:=q2h L B;have F:=hi9 (kD w vb b p n K eK Y hb B L);have S:Hid (∀ A,G w A→Calls Tryz.prog 117 #[vb] A fun e w'=>e= .returned (.int .i64 (blen b))∧G A w'):=fun A g=>jF A vb b K eK (hb.G g) B;have D:=lf (p:=p) (n:=n);rw[← L] at D;have o:(n:Int)≤9600000:=by omega
 by_cases h1:p=0
 ·have O:b=2^n:=by rw[L,h1];omega
  have y:(((n:Int)+1)==(blen b:Int))=true:=by have:=D.2 h1;simp;omega
  have k:Hid (∀ A,G w A→Calls Tryz.prog 120 #[va,.int .i64 (n:Int)] A (eU A (a/b))):=fun A g=>by
   rw[O];exact ig A va a n K eK eK (U.G g) I
  generalize blen b=s at *;clear U hb I B J h1 O L D m Y;go_enter Tryz.func60,Tryz.ntmps60;go_wp2_with fail;refine eJ F.out ?_;rintro e A ⟨rfl,g1⟩;have C:=hi9 (S.out A g1);clear F S;go_wp2_with fail;refine eJ C.out ?_;rintro e d ⟨rfl,g2⟩;have g12:=aa g1 g2;have N:=hi9 (k.out d g12);clear C k g1 g2;go_wp2_with fail;refine eJ N.out ?_;intro e i c;obtain⟨R,rfl,g3,E⟩:=c;have W:Hid (Num i R (a/b)):=E;clear E N;go_wp2_with fail;go_ret;exact⟨R,rfl,aa g12 g3,W.out⟩
 ·have y:(((n:Int)+1)==(blen b:Int))=false:=by have:=fun h=>h1 (D.1 h);simp;omega
  have j:Hid (∀ A,G w A→_):=fun A g=>j9 A va vb a b K eK X (U.G g) (hb.G g) I B J;generalize blen b=s at *;clear U hb I B J h1 L D m Y;go_enter Tryz.func60,Tryz.ntmps60;go_wp2_with fail;refine eJ F.out ?_;rintro e A ⟨rfl,g1⟩;have C:=hi9 (S.out A g1);clear F S;go_wp2_with fail;refine eJ C.out ?_;rintro e d ⟨rfl,g2⟩;have g12:=aa g1 g2;have M:=hi9 (j.out d g12);clear C j g1 g2;go_wp2_with fail;refine eJ M.out ?_;intro e i c;obtain⟨R,v2,rfl,g3,E,Z⟩:=c;have W:Hid (Num i R (a/b)):=E;clear E Z M;go_wp2_with fail;go_ret;exact⟨R,rfl,aa g12 g3,W.out⟩
/-- The number that a slice of words holds. -/
def numV (w:World):Value→Nat
 | .slice (some a) n _=>val ((List.range n).map fun i=>match w.cell? ⟨a.block,a.off+i,none⟩ with
  |some (.int _ z)=>z.toNat
  |_=>0)
 |_=>0
theorem gE {w:World} {v:Value} {n:Nat} (h:Num w v n):numV w v=n:=by
 obtain⟨l,A,-,rfl⟩:=h;rcases Sl.cases A with ⟨rfl,a,c,rfl⟩|⟨-,b,o,c,rfl,-,-,B⟩
 ·cases a<;>rfl
 ·show val _=val l
  congr 1
  refine eH fI fun i h1 h2=> ?_;rw[List.getElem_map,List.getElem_range];rw[B i h2];simp [List.getD_eq_getElem?_getD,h2]
/-- Newton's steps. -/
theorem qX {a r s:Nat} (h:r*r≤a) (C:0<s):r≤(s+a/s)/2:=by
 rw[cB eK];by_cases h2:2*r≤s
 ·generalize a/s=f;omega
 ·obtain⟨t,D⟩:∃ t,2*r=s+t:=⟨2*r-s,by omega⟩;have h3:t*s≤r*r:=by
   have E:(s+t)*(s+t)=4*(r*r):=by rw[← D,show 2*r*(2*r)=2*2*(r*r) from by ac_rfl]
   have F:(s+t)*(s+t)=s*s+t*t+2*(t*s):=by rw[aJ,aw,aw,aI s t];omega
   have I:2*(t*s)≤s*s+t*t:=by
    rcases Nat.le_total s t with h|h
    ·obtain⟨d,rfl⟩:∃ d,t=s+d:=⟨t-s,by omega⟩;have A:(s+d)*(s+d)=s*s+2*(s*d)+d*d:=by rw[aJ,aw,aw,aI d s];omega
     have B:(s+d)*s=s*s+s*d:=by rw[aJ,aI d s]
     omega
    ·obtain⟨d,rfl⟩:∃ d,s=t+d:=⟨s-t,by omega⟩;have A:(t+d)*(t+d)=t*t+2*(t*d)+d*d:=by rw[aJ,aw,aw,aI d t];omega
     have B:t*(t+d)=t*t+t*d:=by rw[aw]
     omega
   omega
  have J:t≤a/s:=(cB C).2 eK;omega
theorem oX {a r s:Nat} (h1:a<(r+1)*(r+1)) (A:0<s) (C:r≤s) (h:s≤(s+a/s)/2):s=r:=by
 have h2:s≤a/s:=by omega
 have h3:=(cB A).1 h2;by_cases B:s≤r
 ·omega
 ·have:(r+1)*(r+1)≤s*s:=bN eK eK;omega
theorem mQ {a r:Nat} (h:r*r≤a):r≤2^((blen a+1)/2):=by
 by_cases A:r≤2^((blen a+1)/2)
 ·exact A
 ·exfalso;have h1:2^((blen a+1)/2)*2^((blen a+1)/2)≤r*r:=bN eK eK;rw[← ah] at h1;have h2:a<2^blen a:=by
   unfold blen;split
   ·omega
   ·exact cG
  have h3:2^blen a≤2^((blen a+1)/2+(blen a+1)/2):=ai eK eK;omega
set_option maxHeartbeats 4000000 in
set_option maxRecDepth 100000 in
theorem q0O (w:World) (va:Value) (a r K:Nat) (hK:K≤100000) (fp:1≤K) (ha:Num w va a) (B:a<2^(64*K)) (L:r*r≤a) (i:a<(r+1)*(r+1)):
  Calls Tryz.prog 76 #[va] w (eU w r):=by
 have HA:Hid (Num w va a):=ha;have HS:Hid (∀ w1,G w w1→_):=fun w1 g=>jF w1 va a K eK (ha.G g) B;obtain⟨l,hl,Y,J⟩:=ha;obtain⟨pa,ca,rfl,bq,-⟩:=fa hl;have cc:=eQ Y (by rw[J];exact B);by_cases h0:l.length=0
 ·have bz:l=[]:=aH h0;have X:a=0:=by rw[← J,bz];rfl
  have cl:r=0:=by
   rcases bo r with h|h
   ·exact h
   ·have:=bN h h;omega
  rw[h0,cl];clear hl Y J bq cc h0 bz X cl HA HS L i B;go_enter Tryz.func76,Tryz.ntmps76;go_wp2_with fail;go_ret;exact⟨_,rfl,ag _,[],⟨gG,Or.inl ⟨rfl,_,_,rfl⟩⟩,gh,rfl⟩
 ·have cn:((l.length:Int)==0)=false:=by simp;exact fun e=>h0 (by rw[e];rfl)
  have bn:blen a≤64*K:=by
   unfold blen;split
   ·omega
   ·have:=(cH eK).2 B;omega
  generalize l.length=j at *;have dr:Hid (r*r≤a):=L;have ao:Hid (a<(r+1)*(r+1)):=i;have cs:Hid (a<2^(64*K)):=B;have ep:Hid (blen a≤64*K):=bn;have ga:((blen a:Nat):Int)≤6400000:=by omega
  have ec:((blen a:Nat):Int)+1=((blen a+1:Nat):Int):=by omega
  obtain⟨k,hk⟩:∃ k,k=(blen a+1)/2:=⟨_,rfl⟩;have fv:(((blen a:Nat):Int)+1)/2=(k:Int):=by omega
  have ds:Hid (r≤2^k):=by show r≤2^k;rw[hk];exact mQ L
  have cz:Hid (2^k<2^(64*(2*K))):=cF eK eK;have gd:(k:Int)≤3200001:=by omega
  generalize eb:blen a=bb at *;have fs:(j:Int)≤100000:=by omega
  clear hl Y J bq cc h0 bn L i B hk ec;go_enter Tryz.func76,Tryz.ntmps76;go_wp2_with fail;have Z:G w (w.alloc (.cells #[.int .u64 1] 78)):=(ag _).alloc _;have D:=jk w 1 78 eK;have O:Hid (Num (w.alloc (.cells #[.int .u64 1] 78)) (.slice (some ⟨w.heap.size,0,none⟩) 1 1) 1):=⟨[1],D,⟨D.1,fun _=>by simp⟩,rfl⟩;have ap:=hi9 (HS.out _ Z);generalize w.alloc (.cells #[.int .u64 1] 78)=w1 at *;clear D HS eb;refine eJ ap.out ?_;rintro e w2 ⟨rfl,g2⟩;have HL:=hi9 (iC w2 _ 1 k 1 eK eK (O.out.G g2) eK);have G2:=aa Z g2;clear O ap Z g2;go_wp2_with fail;refine eJ HL.out ?_;intro e w3 m;obtain⟨v,rfl,g3,F⟩:=m;rw[b9] at F;have HN:Hid (Num w3 v (2^k)):=F;have G3:=aa G2 g3;clear F HL G2 g3;go_wp2_with fail
  go_loopw [3] (fun vs wr=>∃ t:Nat,Num wr vs t∧0<t∧r≤t∧t≤2^k∧G w wr) (fun vs wr=>numV wr vs)
  case atStart=>exact⟨2^k,HN.out,af k,ds.out,az _,G3⟩
  case round=>
   clear HN G3;obtain⟨t,F,E,cm,o,hG⟩:=hrel;have cd:=gE F;have dk:Hid (numV wr u3=t):=cd;have C:a<2^(64*(2*K)):=ae cs.out (ai eK eK);have M:t<2^(64*(2*K)):=aq o cz.out;have HD:=hi9 (j9 wr _ u3 a t (2*K) eK eK (HA.out.G hG) F C M E);have hq:a/t<2^(64*(2*K)):=aq (aN a t) C;have HP:Hid (∀ A v,G wr A→Num A v (a/t)→Calls Tryz.prog 72 #[u3,v] A (eU A (t+a/t))):=fun A v g hv=>p7 A u3 v t (a/t) (2*K) eK (F.G g) hv M hq;have R:t+a/t<2^(64*(2*K+1)):=by
    have:2^(64*(2*K+1))=2^(64*(2*K))*2^64:=by rw[← ah];rfl
    omega
   have HH:Hid (∀ A v,Num A v (t+a/t)→Calls Tryz.prog 120 #[v,.int .i64 1] A (eU A ((t+a/t)/2))):=by
    intro A v hv;have h1:=ig A v _ 1 (2*K+1) eK eK hv R;rw[Nat.pow_one] at h1;exact h1
   have bv:=qX dr.out E;have bu:=oX ao.out E cm;have s:Hid (∀ A v,G wr A→Num A v ((t+a/t)/2)→_):=fun A v g hv=>iz A v u3 ((t+a/t)/2) t (2*K+1) eK hv (F.G g) eK (ae M (ai eK eK));have cy:Hid (r≤(t+a/t)/2):=bv;have cx:Hid (t≤(t+a/t)/2→t=r):=bu;have dq:Hid (Num wr u3 t):=F;have ea:Hid (t≤2^k):=o;have an:Hid (0<(t+a/t)/2):=by
    show 0<(t+a/t)/2;by_cases h1:2≤t
    ·generalize a/t=f;omega
    ·have h2:t=1:=by omega
     have h3:1≤r∨r=0:=by omega
     rcases h3 with h3|h3
     ·omega
     ·exfalso;have:=ao.out;rw[h3] at this;have X:a=0:=by omega
      have bl:=HA.out;rw[X] at bl;obtain⟨l2,ee,ed,en⟩:=bl;have cb:=(fR ed).1 en;obtain⟨a2,c2,e2,-,-⟩:=fa ee;rw[cb] at e2;injection e2 with e3 e4 e5;rw[e4] at cn;simp at cn
   generalize (t+a/t)/2=N at *;generalize t+a/t=sm at *;generalize a/t=q at *;clear cd C M hq R bv bu F o cm;go_wp2_with fail;refine eJ HD.out ?_;intro e A m;obtain⟨v1,v2,rfl,g5,ce,em⟩:=m;have am:=hi9 (HP.out A v1 g5 ce);clear ce em HD HP;go_wp2_with fail;refine eJ am.out ?_;intro e w6 m;obtain⟨v3,rfl,g6,ci⟩:=m;have y:=hi9 (HH.out w6 v3 ci);have bi:=aa g5 g6;clear ci am HH g5 g6;go_wp2_with fail;refine eJ y.out ?_;intro e w7 m;obtain⟨v4,rfl,g7,d⟩:=m;have I:=aa bi g7;have U:Hid (Num w7 v4 N):=d;have S:=hi9 (s.out w7 v4 I d);clear d y bi g7 s;go_wp2_with fail;refine eJ S.out ?_;rintro e w8 ⟨rfl,g8⟩;have W:=aa I g8;by_cases c:N<t
   ·rw[show cmpV N t= -1 from by unfold cmpV;rw[if_pos c]];have al:Hid (Num w8 v4 N):=U.out.G g8;clear S U I g8;go_wp2_with fail
    go_roundw
    case rel=>exact⟨N,al.out,an.out,cy.out,by have:=ea.out;omega,aa hG W⟩
    case measure=>
     have h1:=gE al.out;have h2:=dk.out;show numV w8 v4<numV wr u3;omega
   ·have bs:cmpV N t=0∨cmpV N t=1:=by unfold cmpV;rw[if_neg c];split;exact Or.inl rfl;exact Or.inr rfl
    have fr:decide (0≤cmpV N t)=true:=by rcases bs with h|h<;>rw[h]<;>rfl
    have cr:t=r:=cx.out eK;have dl:Hid (Num w8 u3 r):=by show Num w8 u3 r;rw[← cr];exact dq.out.G W
    generalize cmpV N t=cv at *;clear S U I g8 bs cr c;go_wp2_with fail;go_ret;exact⟨_,rfl,aa hG W,dl.out⟩
/-- A share's number: of a and b, the sign told by s. -/
def mx (s:Bool) (a b p q:Nat):Int:=if s then (a:Int)*p-(b:Int)*q else (b:Int)*q-(a:Int)*p
/-- Along the row of rests: x, y are rests of the first words x0, y0; sure and next are their shares. -/
structure LR (a b x0 y0 x y la lb sa sb na nb:Nat) (tn:Bool):Prop where
 f1:x*nb+y*sb=x0
 fx:(x:Int)=mx tn x0 y0 sa sb
 fy:(y:Int)=mx (!tn) x0 y0 na nb
 yx:y≤x
 nn:na≤nb
 sn:sa+na≤sb+nb
 n1:1≤nb
 sx:sb≤x
 sw:tn=false→sa≤sb
 det:(if tn then (sa:Int)*nb-(sb:Int)*na else (sb:Int)*na-(sa:Int)*nb)=1
 sure:sb=0∨mx tn a b sa sb≤b
 last:lb=0∨((if tn then (lb:Int)*sa-(la:Int)*sb else (la:Int)*sb-(lb:Int)*sa)=1∧0≤mx tn a b sa sb∧mx tn a b sa sb<mx (!tn) a b la lb∧mx (!tn) a b la lb≤b)
/-- A number of first words and what is behind them. -/
theorem nM {s:Bool} {a b B C p q P A be:Nat} (D:a=B*P+A) (hb:b=C*P+be):mx s a b p q=mx s B C p q*P+(if s then (A:Int)*p-(be:Int)*q else (be:Int)*q-(A:Int)*p):=by
 have h1:(a:Int)*p=(B:Int)*p*P+(A:Int)*p:=by
  rw[D];push_cast;rw[Int.add_mul];congr 1;ac_rfl
 have h2:(b:Int)*q=(C:Int)*q*P+(be:Int)*q:=by
  rw[hb];push_cast;rw[Int.add_mul];congr 1;ac_rfl
 unfold mx;cases s
 ·simp only[aB,if_false];rw[h1,h2,df];omega
 ·simp only[if_true];rw[h1,h2,df];omega
/-- It isn't below 0, if its first words are enough. -/
theorem q2Z {s:Bool} {a b C D p q P A be z:Nat} (E:a=C*P+A) (hb:b=D*P+be) (h1:A<P) (h2:be<P) (I:(z:Int)=mx s C D p q) (N:q≤z) (F:s=false→p≤q):0≤mx s a b p q:=by
 rw[nM E hb,← I];have J:(q:Int)*P≤(z:Int)*P:=Int.mul_le_mul_of_nonneg_right eK eK;cases s
 ·have B:=F rfl;have K:(A:Int)*p≤(P:Int)*q:=by
   have:A*p≤P*q:=bN eK B;have h:=Int.ofNat_le.2 this
   rwa[aL,aL] at h
  have L:(0:Int)≤(be:Int)*q:=dR eK eK;have M:(P:Int)*q=(q:Int)*P:=dS _ _;simp only[aB,if_false];omega
 ·have K:(be:Int)*q≤(P:Int)*q:=Int.mul_le_mul_of_nonneg_right eK eK;have L:(0:Int)≤(A:Int)*p:=dR eK eK;have M:(P:Int)*q=(q:Int)*P:=dS _ _;simp only[if_true];omega
theorem q3O {s:Bool} {a b C D p q P A be:Nat} {z:Int} (F:a=C*P+A) (hb:b=D*P+be) (h1:A<P) (h2:be<P) (L:z=mx s C D p q) (J:(q:Int)≤z) (B:p≤q) (K:1≤q):0<mx s a b p q:=by
 rw[nM F hb,← L];have M:(q:Int)*P≤z*P:=Int.mul_le_mul_of_nonneg_right J eK;have S:(P:Int)*q=(q:Int)*P:=dS _ _;have lt:∀ c p:Nat,c<P→p≤q→(c:Int)*p<(P:Int)*q:=by
  intro c p I B;have h3:(c+1)*q≤P*q:=ay _ I;have R:c*p≤c*q:=aA _ B;have E:c*p<P*q:=by rw[aJ,b9] at h3;omega
  have h:=Int.ofNat_lt.2 E
  rwa[aL,aL] at h
 cases s
 ·have N:=lt A p h1 B;have O:(0:Int)≤(be:Int)*q:=dR eK eK;simp only[aB,if_false];omega
 ·have N:=lt be q h2 (az _);have O:(0:Int)≤(A:Int)*p:=dR eK eK;simp only[if_true];omega
theorem oV (s:Bool) (a b p q A B:Nat):mx s a b (p+A) (q+B)=mx s a b p q-mx (!s) a b A B:=by
 unfold mx;cases s<;>simp only[dU,cP,aB,if_false,if_true]<;>push_cast<;>rw[eC,eC]<;>omega
theorem q2X (s:Bool) (a b p q k:Nat):mx s a b (k*p) (k*q)=k*mx s a b p q:=by
 unfold mx;have A:(a:Int)*((k*p:Nat):Int)=k*((a:Int)*p):=by push_cast;ac_rfl
 have B:(b:Int)*((k*q:Nat):Int)=k*((b:Int)*q):=by push_cast;ac_rfl
 rw[A,B];cases s
 ·simp only[aB,if_false];rw[eB]
 ·simp only[if_true];rw[eB]
theorem LR.start {a b A B:Nat} (h:B≤A):LR a b A B A B 0 0 1 0 0 1 true:=
 {f1:=by omega
  fx:=by simp [mx]
  fy:=by simp [mx]
  yx:=h
  nn:=by omega
  sn:=by omega
  n1:=by omega
  sx:=by omega
  sw:=fun h=>by cases h
  det:=by simp
  sure:=Or.inl rfl
  last:=Or.inl rfl}
theorem LR.step {a b I J x y o s sa A na nb P U be:Nat} {tn:Bool} (h:LR a b I J x y o s sa A na nb tn) (W:a=I*P+U) (hb:b=J*P+be) (h1:U<P) (h2:be<P) (X:nb≤y) (hc:A+nb≤x-y):
  LR a b I J y (x%y) sa A na nb (sa+x/y*na) (A+x/y*nb) (!tn):=by
 obtain⟨f1,fx,fy,yx,nn,sn,n1,sx,sw,det,sure,last⟩:=h;have E:0<y:=by omega
 have O:1≤x/y:=(cB E).2 eK;have M:=cu x y;have D:=aX x E;have L:0≤mx (!tn) a b na nb:=q2Z W hb h1 h2 fy X (fun _=>nn);have K:mx (!tn) a b na nb<mx tn a b sa A:=by
  have m:(x:Int)-y=mx tn I J (sa+na) (A+nb):=by rw[oV,← fx,← fy]
  have:=q3O W hb h1 h2 m eK sn eK;rw[oV] at this;omega
 have B:(!(!tn))=tn:=by cases tn<;>rfl
 obtain⟨q,c⟩:∃ q,q=x/y:=⟨_,rfl⟩;rw[← c] at M O ⊢;have j:na+(q-1)*na=q*na:=by
  obtain⟨F,rfl⟩:∃ F,q=F+1:=⟨q-1,by omega⟩;rw[eo,aJ,b9,bR]
 have d:nb+(q-1)*nb=q*nb:=by
  obtain⟨F,rfl⟩:∃ F,q=F+1:=⟨q-1,by omega⟩;rw[eo,aJ,b9,bR]
 have i:(q-1)*na≤(q-1)*nb:=aA _ nn;refine⟨?_,fy,?_,cj D,by omega,by omega,by omega,X,fun _=>nn,?_,?_,?_⟩
 ·have e:y*(A+q*nb)=y*A+y*q*nb:=by rw[aw,ak]
  have e2:x*nb=y*q*nb+x%y*nb:=by rw[← aJ,M]
  omega
 ·rw[B,oV,q2X,← fx];have Y:mx (!tn) I J na nb=y:=fy.symm;rw[Y];have:((y*q+x%y:Nat):Int)=(x:Int):=by rw[M]
  push_cast at this
  rw[dS (q:Int) y];omega
 ·cases tn
  ·simp only[dU,if_true,aB,if_false] at det ⊢
   push_cast
   rw[eC,eC,show (na:Int)*((q:Int)*nb)=(nb:Int)*((q:Int)*na) from by ac_rfl];rw[dS (sa:Int) nb,dS (A:Int) na] at det;omega
  ·simp only[cP,if_true,aB,if_false] at det ⊢
   push_cast
   rw[eC,eC,show (na:Int)*((q:Int)*nb)=(nb:Int)*((q:Int)*na) from by ac_rfl];rw[dS (sa:Int) nb,dS (A:Int) na] at det;omega
 ·right;rcases sure with C|C
  ·subst C;have k:(sa:Int)*nb=1∨ -((sa:Int)*nb)=1:=by
    cases tn
    ·right;simp only[aB,if_false] at det;omega
    ·left;simp only[if_true] at det;omega
   have Z:(0:Int)≤(sa:Int)*nb:=dR eK eK;have R:(sa:Int)*nb=1:=by omega
   have S:sa*nb=1:=by
    have:=R;rw[← aL] at this;omega
   have N:nb=1:=Nat.eq_one_of_mul_eq_one_left S;cases tn
   ·simp only[aB,if_false] at det;omega
   ·unfold mx;simp only[cP,aB,if_false];have:(0:Int)≤(a:Int)*na:=dR eK eK;rw[N];simp only[Int.natCast_one,dN];omega
  ·omega
 ·rcases sure with C|C
  ·exact Or.inl C
  ·right;rw[B];refine⟨?_,L,K,C⟩;cases tn
   ·simp only[dU,if_true,aB,if_false] at det ⊢;omega
   ·simp only[cP,if_true,aB,if_false] at det ⊢;omega
/-- What two shares of a and b have in common. -/
theorem q1B {a b C D sa E:Nat} {tn:Bool} {X Y:Nat} (R:(if tn then (D:Int)*sa-(C:Int)*E else (C:Int)*E-(D:Int)*sa)=1) (N:(X:Int)=mx (!tn) a b C D) (O:(Y:Int)=mx tn a b sa E):Nat.gcd X Y=Nat.gcd a b:=by
 have S:((Nat.gcd a b:Nat):Int)∣(a:Int):=bZ.2 (bI _ _);have U:((Nat.gcd a b:Nat):Int)∣(b:Int):=bZ.2 (bD _ _);have K:((Nat.gcd X Y:Nat):Int)∣(X:Int):=bZ.2 (bI _ _);have L:((Nat.gcd X Y:Nat):Int)∣(Y:Int):=bZ.2 (bD _ _);have main:∀ s:Bool,s=tn→∃ A B:Int,A=a∧B=b∧((X:Int)=B*D-A*C∧(Y:Int)=A*sa-B*E∧(D:Int)*sa-(C:Int)*E=1∨(X:Int)=A*C-B*D∧(Y:Int)=B*E-A*sa∧(C:Int)*E-(D:Int)*sa=1):=by
  intro s W;refine⟨a,b,rfl,rfl,?_⟩;cases tn
  ·right;simp only[mx,dU,if_true,aB,if_false] at N O R;exact⟨N,O,R⟩
  ·left;simp only[mx,cP,if_true,aB,if_false] at N O R;exact⟨N,O,R⟩
 obtain⟨A,B,rfl,rfl,F⟩:=main tn rfl;apply Nat.dvd_antisymm
 ·refine Nat.dvd_gcd (bZ.1 ?_) (bZ.1 ?_)
  ·rcases F with ⟨I,J,M⟩|⟨I,J,M⟩
   ·have:(a:Int)=X*E+Y*D:=by
     rw[I,J,df,df];have:(a:Int)*((D:Int)*sa-(C:Int)*E)=a:=by rw[M,dN]
     rw[eB] at this;rw[show (a:Int)*C*E=a*((C:Int)*E) from by ac_rfl,show (a:Int)*sa*D=a*((D:Int)*sa) from by ac_rfl,show (b:Int)*E*D=(b:Int)*D*E from by ac_rfl];omega
    rw[this];exact Int.dvd_add (dm K (dh _ _)) (dm L (dh _ _))
   ·have:(a:Int)=X*E+Y*D:=by
     rw[I,J,df,df];have:(a:Int)*((C:Int)*E-(D:Int)*sa)=a:=by rw[M,dN]
     rw[eB] at this;rw[show (a:Int)*C*E=a*((C:Int)*E) from by ac_rfl,show (a:Int)*sa*D=a*((D:Int)*sa) from by ac_rfl,show (b:Int)*E*D=(b:Int)*D*E from by ac_rfl];omega
    rw[this];exact Int.dvd_add (dm K (dh _ _)) (dm L (dh _ _))
  ·rcases F with ⟨I,J,M⟩|⟨I,J,M⟩
   ·have:(b:Int)=X*sa+Y*C:=by
     rw[I,J,df,df];have:(b:Int)*((D:Int)*sa-(C:Int)*E)=b:=by rw[M,dN]
     rw[eB] at this;rw[show (b:Int)*D*sa=b*((D:Int)*sa) from by ac_rfl,show (b:Int)*E*C=b*((C:Int)*E) from by ac_rfl,show (a:Int)*sa*C=(a:Int)*C*sa from by ac_rfl];omega
    rw[this];exact Int.dvd_add (dm K (dh _ _)) (dm L (dh _ _))
   ·have:(b:Int)=X*sa+Y*C:=by
     rw[I,J,df,df];have:(b:Int)*((C:Int)*E-(D:Int)*sa)=b:=by rw[M,dN]
     rw[eB] at this;rw[show (b:Int)*D*sa=b*((D:Int)*sa) from by ac_rfl,show (b:Int)*E*C=b*((C:Int)*E) from by ac_rfl,show (a:Int)*sa*C=(a:Int)*C*sa from by ac_rfl];omega
    rw[this];exact Int.dvd_add (dm K (dh _ _)) (dm L (dh _ _))
 ·refine Nat.dvd_gcd (bZ.1 ?_) (bZ.1 ?_)
  ·rcases F with ⟨I,-,-⟩|⟨I,-,-⟩<;>rw[I]<;>exact Int.dvd_sub (eI kg) (eI kg)
  ·rcases F with ⟨-,J,-⟩|⟨-,J,-⟩<;>rw[J]<;>exact Int.dvd_sub (eI kg) (eI kg)
/-- What two shares are to the numbers that their row begins with. -/
def LEnd (a b B A sa C:Nat) (tn:Bool):Prop:=A=0∨((if tn then (A:Int)*sa-(B:Int)*C else (B:Int)*C-(A:Int)*sa)=1∧0≤mx tn a b sa C∧mx tn a b sa C<mx (!tn) a b B A∧mx (!tn) a b B A≤b)
def qt (a b:Nat) (w:World) (e:Ending) (D:World):Prop:=∃ (A B sa C:Nat) (tn:Bool),e= .returned (.tuple #[.agg #[.int .u64 (A:Int),.int .u64 (B:Int)],.agg #[.int .u64 (sa:Int),.int .u64 (C:Int)],.bool tn])∧G w D∧A<2^64∧B<2^64∧sa<2^64∧C<2^64∧LEnd a b A B sa C tn
/-- The walk's state: all that is in it is below a word. -/
structure LW (a b x0 y0 x y la lb sa sb na nb:Nat) (tn:Bool):Prop where
 lr:LR a b x0 y0 x y la lb sa sb na nb tn
 bx:x≤x0
 ba:la<18446744073709551616
 bb:lb<18446744073709551616
 bc:sa<18446744073709551616
 bd:sb<18446744073709551616
 be:na<18446744073709551616
 bf:nb<18446744073709551616
theorem LW.start {a b A B:Nat} (h:B≤A):LW a b A B A B 0 0 1 0 0 1 true:=
 ⟨LR.start h,az _,by omega,by omega,by omega,by omega,by omega,by omega⟩
/-- What is below a word in a step. -/
theorem LW.small {a b C I x y E F sa A na nb:Nat} {tn:Bool} (h:LW a b C I x y E F sa A na nb tn) (J:nb≤y):0<y∧y≤x∧A+nb≤C:=by
 have D:=h.lr.n1;have B:=h.lr.yx;have f1:=h.lr.f1;refine⟨by omega,B,?_⟩;have h1:1*nb≤x*nb:=ay _ eK;have h2:1*A≤y*A:=ay _ eK;omega
theorem LW.next {a b C D x y S U sa A na nb P E be q:Nat} {tn:Bool} (h:LW a b C D x y S U sa A na nb tn) (N:C<18446744073709551616) (I:a=C*P+E) (hb:b=D*P+be) (h1:E<P) (h2:be<P) (O:nb≤y) (K:A+nb≤x-y) (M:q=x/y):
  LW a b C D y (x%y) sa A na nb (sa+q*na) (A+q*nb) (!tn)∧sa+q*na<18446744073709551616∧A+q*nb<18446744073709551616:=by
 have B:=h.lr.step I hb h1 h2 O K;rw[← M] at B;have L:=h.lr.n1;have R:=h.lr.yx;have J:=h.bx;have f1:=B.f1;have h3:1*(A+q*nb)≤y*(A+q*nb):=ay _ eK;have W:=B.nn;have X:A+q*nb≤C:=by
  generalize y*(A+q*nb)=u at *;generalize x%y*nb=v at *;omega
 have h6:sa+q*na<18446744073709551616:=by omega
 have F:A+q*nb<18446744073709551616:=by omega
 exact⟨⟨B,by omega,h.bc,h.bd,h.be,h.bf,h6,F⟩,h6,F⟩
theorem lN (w:World) (va:Value) (a n K:Nat) (F:n≤100000000) (L:K≤1040000) (C:Num w va a) (A:a<2^(64*K)) (I:a/2^n<2^64):
  Calls Tryz.prog 176 #[va,.int .i64 (n:Int)] w fun e J=>e= .returned (.int .u64 ((a/2^n:Nat):Int))∧G w J:=by
 obtain⟨l,D,B,rfl⟩:=C;have E:=eQ B A;have h:=ou w va l n F D eK;rw[aU I] at h;exact h
theorem jf (w:World) (x y t:Nat) (B:x<2^64) (C:y<2^64):Own (w.alloc (.cells #[.int .u64 (x:Int),.int .u64 (y:Int)] t)) w.heap.size [x,y]:=by
 refine⟨?_,by simp,fun i hi=> ?_,fun i hi=> ?_⟩
 ·intro d A;simp only[cU,List.not_mem_nil,or_false] at A;rcases A with rfl|rfl
  ·exact B
  ·exact C
 ·have h2:i<2:=hi;have h3:i=0∨i=1:=by omega
  rcases h3 with rfl|rfl<;>simp [go_sem]
 ·have h2:i<2:=hi;have h3:i=0∨i=1:=by omega
  rcases h3 with rfl|rfl<;>simp [go_sem]
theorem iR {w:World} {b x y x' y':Nat} (h:Own w b [x,y]) (A:x'<2^64) (B:y'<2^64):Own ((w.setCell ⟨b,0,none⟩ (.int .u64 (x':Int))).setCell ⟨b,1,none⟩ (.int .u64 (y':Int))) b [x',y']:=
 (h.set 0 x' fI A).set 1 y' fI B
theorem fA {w:World} {b c:Nat} {u v:Value} {l:List Nat} (h:Own w b l) (A:b≠c):Own ((w.setCell ⟨c,0,none⟩ u).setCell ⟨c,1,none⟩ v) b l:=
 (h.setOther A).setOther A
theorem fc {w:World} {b x y:Nat} (h:Own w b [x,y]):w.cell? ⟨b,0,none⟩=some (.int .u64 (x:Int))∧w.cell? ⟨b,1,none⟩=some (.int .u64 (y:Int))∧w.frozen? ⟨b,0,none⟩=false∧w.frozen? ⟨b,1,none⟩=false:=
 ⟨h.cell (i:=0) fI,h.cell (i:=1) fI,h.2.2.2 0 fI,h.2.2.2 1 fI⟩
theorem ln {w0 w:World} {b:Nat} {u v:Value} (g:G w0 w) (h:w0.heap.size≤b):G w0 ((w.setCell ⟨b,0,none⟩ u).setCell ⟨b,1,none⟩ v):=
 (g.setCell (p:=⟨b,0,none⟩) h _).setCell (p:=⟨b,1,none⟩) h _
set_option maxHeartbeats 4000000 in
theorem q0X (w:World) (va vb:Value) (a b K:Nat) (B:K≤400000) (ha:Num w va a) (hb:Num w vb b) (bq:a<2^(64*K)) (it:b≤a) (ds:2^64≤a):
  Calls Tryz.prog 208 #[va,vb] w (qt a b w):=by
 have HS:Hid (∀ s,G w s→_):=fun s g=>jF s va a K eK (ha.G g) bq;have ao:a≠0:=by omega
 have cb:blen a=Nat.log2 a+1:=by unfold blen;rw[if_neg ao]
 have h1:a<2^(Nat.log2 a+1):=(cH ao).1 eK;have h2:64≤Nat.log2 a:=(Nat.le_log2 ao).2 ds;have h3:Nat.log2 a<64*K:=(cH ao).2 bq;obtain⟨n,hn⟩:∃ n:Nat,Nat.log2 a+1=n+64:=⟨Nat.log2 a-63,by omega⟩;have jx:n≤25600000:=by omega
 rw[hn] at cb h1;have hP:0<2^n:=af n;have hx:a/2^n<2^64:=by
  rw[bh hP,← ah,bR];exact h1
 have bn:b/2^n≤a/2^n:=Nat.div_le_div_right it;have W:b<2^(64*K):=by omega
 have HX:Hid (∀ s,G w s→_):=fun s g=>lN s va a n K eK eK (ha.G g) bq hx;have HY:Hid (∀ s,G w s→_):=fun s g=>lN s vb b n K eK eK (hb.G g) W eK;have eb:a=a/2^n*2^n+a%2^n:=by rw[aI];exact(cu a (2^n)).symm
 have cc:b=b/2^n*2^n+b%2^n:=by rw[aI];exact(cu b (2^n)).symm
 have ee:=aX a hP;have em:=aX b hP;rw[show (2:Nat)^64=18446744073709551616 from rfl] at hx;have HN:Hid (∀ (x y I J sa D na nb q:Nat) (tn:Bool),LW a b (a/2^n) (b/2^n) x y I J sa D na nb tn→nb≤y→D+nb≤x-y→q=x/y→LW a b (a/2^n) (b/2^n) y (x%y) sa D na nb (sa+q*na) (D+q*nb) (!tn)∧sa+q*na<18446744073709551616∧D+q*nb<18446744073709551616):=
  fun x y I J sa D na nb q tn h hy hc hq=>h.next hx eb cc ee em hy hc hq
 have cx:Hid (LW a b (a/2^n) (b/2^n) (a/2^n) (b/2^n) 0 0 1 0 0 1 true):=LW.start bn;rw[cb] at HS;have jp:((n+64:Nat):Int)-64=(n:Int):=by omega
 have ka:(n:Int)≤25600000:=by omega
 have jj:((n+64:Nat):Int)≤25600064:=by omega
 generalize n+64=bb at *;generalize a/2^n=x0 at *;generalize b/2^n=y0 at *;clear eb cc ee em W hP jx h1 h2 h3 hn cb ao ha hb bq ds bn;go_enter Tryz.func208,Tryz.ntmps208;go_wp2_with fail;have g0:G w ((w.alloc (.cells #[.int .u64 0,.int .u64 0] 222)).alloc (.cells #[.int .u64 0,.int .u64 0] 222)):=((ag _).alloc _).alloc _;have ea:((w.alloc (.cells #[.int .u64 0,.int .u64 0] 222)).alloc (.cells #[.int .u64 0,.int .u64 0] 222)).heap.size=w.heap.size+2:=by simp
 have en:Own ((w.alloc (.cells #[.int .u64 0,.int .u64 0] 222)).alloc (.cells #[.int .u64 0,.int .u64 0] 222)) w.heap.size [0,0]:=(jf w 0 0 222 eK eK).grow ((ag _).alloc _);have ep:Own ((w.alloc (.cells #[.int .u64 0,.int .u64 0] 222)).alloc (.cells #[.int .u64 0,.int .u64 0] 222)) (w.heap.size+1) [0,0]:=by
  have h:=jf (w.alloc (.cells #[.int .u64 0,.int .u64 0] 222)) 0 0 222 eK eK;have h2:(w.alloc (.cells #[.int .u64 0,.int .u64 0] 222)).heap.size=w.heap.size+1:=by simp
  rw[h2] at h;exact h
 have cr:=hi9 (HS.out _ g0);generalize (w.alloc (.cells #[.int .u64 0,.int .u64 0] 222)).alloc (.cells #[.int .u64 0,.int .u64 0] 222)=w0 at *;have cl:Hid (Own w0 w.heap.size [0,0]):=en;have cm:Hid (Own w0 (w.heap.size+1) [0,0]):=ep;clear en ep;refine Calls.mono (P:=Tryz.prog) cr.out ?_;rintro e s ⟨rfl,g1⟩;have cy:=hi9 (HX.out s (aa g0 g1));clear HS HX cr;go_wp2_with fail;refine Calls.mono (P:=Tryz.prog) cy.out ?_;rintro e w2 ⟨rfl,g2⟩;have g12:=aa g1 g2;have cz:=hi9 (HY.out w2 (aa g0 g12));clear cy HY g1 g2;go_wp2_with fail;refine Calls.mono (P:=Tryz.prog) cz.out ?_;rintro e U ⟨rfl,g3⟩;have g13:=aa g12 g3;have bv:Hid (Own U w.heap.size [0,0]):=cl.out.grow g13;have bz:Hid (Own U (w.heap.size+1) [0,0]):=cm.out.grow g13;have G3:=aa g0 g13;have ks:=g13.size;rw[ea] at ks;clear cz g12 g3 jp ka jj cl cm g0 g13 ea;go_wp2_with fail;have gA:=(ag U).alloc (.cells #[.int .u64 0,.int .u64 0] 222);have gB:=gA.alloc (.cells #[.int .u64 1,.int .u64 0] 222);have gC:=gB.alloc (.cells #[.int .u64 0,.int .u64 1] 222);have hl:Own (((U.alloc (.cells #[.int .u64 0,.int .u64 0] 222)).alloc (.cells #[.int .u64 1,.int .u64 0] 222)).alloc (.cells #[.int .u64 0,.int .u64 1] 222)) U.heap.size [0,0]:=((jf U 0 0 222 eK eK).grow ((ag _).alloc (.cells #[.int .u64 1,.int .u64 0] 222))).grow ((ag _).alloc (.cells #[.int .u64 0,.int .u64 1] 222))
 have hs:Own (((U.alloc (.cells #[.int .u64 0,.int .u64 0] 222)).alloc (.cells #[.int .u64 1,.int .u64 0] 222)).alloc (.cells #[.int .u64 0,.int .u64 1] 222)) (U.alloc (.cells #[.int .u64 0,.int .u64 0] 222)).heap.size [1,0]:=(jf (U.alloc (.cells #[.int .u64 0,.int .u64 0] 222)) 1 0 222 eK eK).grow ((ag _).alloc (.cells #[.int .u64 0,.int .u64 1] 222));have hn:Own (((U.alloc (.cells #[.int .u64 0,.int .u64 0] 222)).alloc (.cells #[.int .u64 1,.int .u64 0] 222)).alloc (.cells #[.int .u64 0,.int .u64 1] 222)) ((U.alloc (.cells #[.int .u64 0,.int .u64 0] 222)).alloc (.cells #[.int .u64 1,.int .u64 0] 222)).heap.size [0,1]:=jf ((U.alloc (.cells #[.int .u64 0,.int .u64 0] 222)).alloc (.cells #[.int .u64 1,.int .u64 0] 222)) 0 1 222 eK eK;have gm:(U.alloc (.cells #[.int .u64 0,.int .u64 0] 222)).heap.size=U.heap.size+1:=by simp
 have gn:((U.alloc (.cells #[.int .u64 0,.int .u64 0] 222)).alloc (.cells #[.int .u64 1,.int .u64 0] 222)).heap.size=U.heap.size+1+1:=by simp
 rw[gm] at hs;rw[gn] at hn;have HP:Hid (Own (((U.alloc (.cells #[.int .u64 0,.int .u64 0] 222)).alloc (.cells #[.int .u64 1,.int .u64 0] 222)).alloc (.cells #[.int .u64 0,.int .u64 1] 222)) w.heap.size [0,0]):=bv.out.grow gC;have HQ:Hid (Own (((U.alloc (.cells #[.int .u64 0,.int .u64 0] 222)).alloc (.cells #[.int .u64 1,.int .u64 0] 222)).alloc (.cells #[.int .u64 0,.int .u64 1] 222)) (w.heap.size+1) [0,0]):=bz.out.grow gC;have GC:=aa G3 gC;have HL:Hid (Own (((U.alloc (.cells #[.int .u64 0,.int .u64 0] 222)).alloc (.cells #[.int .u64 1,.int .u64 0] 222)).alloc (.cells #[.int .u64 0,.int .u64 1] 222)) U.heap.size [0,0]):=hl;have cs:Hid (Own (((U.alloc (.cells #[.int .u64 0,.int .u64 0] 222)).alloc (.cells #[.int .u64 1,.int .u64 0] 222)).alloc (.cells #[.int .u64 0,.int .u64 1] 222)) (U.heap.size+1) [1,0]):=hs;have ci:Hid (Own (((U.alloc (.cells #[.int .u64 0,.int .u64 0] 222)).alloc (.cells #[.int .u64 1,.int .u64 0] 222)).alloc (.cells #[.int .u64 0,.int .u64 1] 222)) (U.heap.size+1+1) [0,1]):=hn;clear hl hs hn gm gn gA gB gC bv bz G3;generalize ((U.alloc (.cells #[.int .u64 0,.int .u64 0] 222)).alloc (.cells #[.int .u64 1,.int .u64 0] 222)).alloc (.cells #[.int .u64 0,.int .u64 1] 222)=w4 at *;generalize U.heap.size=C at *
 go_loopw [8,9,13] (fun vx vy vt wr=>∃ (x y I J sa D na nb:Nat) (tn:Bool),vx= .int .u64 x∧vy= .int .u64 y∧vt= .bool tn∧LW a b x0 y0 x y I J sa D na nb tn∧Own wr C [I,J]∧Own wr (C+1) [sa,D]∧Own wr (C+1+1) [na,nb]∧Own wr w.heap.size [0,0]∧Own wr (w.heap.size+1) [0,0]∧G w wr) (fun _ vy _ _=>(intOf vy).toNat)
 case atStart=>exact⟨x0,y0,0,0,1,0,0,1,true,rfl,rfl,rfl,cx.out,HL.out,cs.out,ci.out,HP.out,HQ.out,GC⟩
 case round=>
  clear HP HQ HL cs ci cx GC;obtain⟨x,y,I,J,sa,D,na,nb,tn,rfl,rfl,rfl,o,fp,bu,bs,hp,hq,hG⟩:=hrel;have S:Hid (LW a b x0 y0 x y I J sa D na nb tn):=o;have ca:Hid (Own wr C [I,J]):=fp;have an:Hid (Own wr (C+1) [sa,D]):=bu;have cn:Hid (Own wr (C+1+1) [na,nb]):=bs;have HP:Hid (Own wr w.heap.size [0,0]):=hp;have HQ:Hid (Own wr (w.heap.size+1) [0,0]):=hq;have dk:wr.cell? ⟨C+1+1,0,none⟩=some (.int .u64 (na:Int)):=bs.cell (i:=0) fI;have dl:wr.cell? ⟨C+1+1,1,none⟩=some (.int .u64 (nb:Int)):=bs.cell (i:=1) fI;have dq:wr.cell? ⟨C+1,0,none⟩=some (.int .u64 (sa:Int)):=bu.cell (i:=0) fI;have dr:wr.cell? ⟨C+1,1,none⟩=some (.int .u64 (D:Int)):=bu.cell (i:=1) fI;clear fp bu bs hp hq;by_cases h1:nb≤y
  ·obtain⟨gl,bn,gd⟩:=o.small h1;have gk:=o.bx;obtain⟨d,hd⟩:∃ d:Nat,d=x-y:=⟨_,rfl⟩;obtain⟨t,ht⟩:∃ t:Nat,t=D+nb:=⟨_,rfl⟩;have lg:(x:Int)-y=(d:Int):=by omega
   have lx:(D:Int)+nb=(t:Int):=by omega
   have cc:(d:Int)<18446744073709551616:=by omega
   have mm:(t:Int)<18446744073709551616:=by omega
   have ec:decide (nb≤y)=true:=decide_eq_true h1;by_cases h2:t≤d
   ·have ed:decide (t≤d)=true:=decide_eq_true h2;obtain⟨q,hq⟩:∃ q:Nat,q=x/y:=⟨_,rfl⟩;obtain⟨r,hr⟩:∃ r:Nat,r=x%y:=⟨_,rfl⟩;have am:=hi9 (HN.out x y I J sa D na nb q tn o h1 eK hq);have X:(x:Int)/y=(q:Int):=by rw[hq];rfl
    have ls:(x:Int)%y=(r:Int):=by rw[hr];rfl
    have lc:((y:Int)==0)=false:=by simp;omega
    have ms:(y:Int)<18446744073709551616:=by omega
    have kw:(x:Int)<18446744073709551616:=by omega
    have kb:q≤x:=by rw[hq];exact aN _ _
    have fs:r<y:=by rw[hr];exact aX _ gl
    have li:(q:Int)<18446744073709551616:=by omega
    have lw:(r:Int)<18446744073709551616:=by omega
    rw[← hr] at am;have cd:sa+q*na<18446744073709551616:=am.out.2.1;have ce:D+q*nb<18446744073709551616:=am.out.2.2;have al:Hid (LW a b x0 y0 y r sa D na nb (sa+q*na) (D+q*nb) (!tn)):=am.out.1;obtain⟨u,hu⟩:∃ u:Nat,u=q*na:=⟨_,rfl⟩;obtain⟨v,hv⟩:∃ v:Nat,v=q*nb:=⟨_,rfl⟩;have lk:(q:Int)*na=(u:Int):=by rw[hu];push_cast;rfl
    have lm:(q:Int)*nb=(v:Int):=by rw[hv];push_cast;rfl
    rw[← hu] at cd al;rw[← hv] at ce al;obtain⟨sx,gf⟩:∃ sx:Nat,sx=sa+u:=⟨_,rfl⟩;obtain⟨Z,gg⟩:∃ Z:Nat,Z=D+v:=⟨_,rfl⟩;have kp:(sa:Int)+u=(sx:Int):=by omega
    have kq:(D:Int)+v=(Z:Int):=by omega
    rw[← gf] at al cd;rw[← gg] at al ce;have mo:(u:Int)<18446744073709551616:=by omega
    have mp:(v:Int)<18446744073709551616:=by omega
    have kx:(sx:Int)<18446744073709551616:=by omega
    have ky:(Z:Int)<18446744073709551616:=by omega
    clear hu hv gf gg cd ce am;have hj:Hid (IntKind.u64.wrap (u:Int)=u):=by show IntKind.u64.wrap (u:Int)=u;rw[IntKind.wrap_u64];omega
    have hk:Hid (IntKind.u64.wrap (v:Int)=v):=by show IntKind.u64.wrap (v:Int)=v;rw[IntKind.wrap_u64];omega
    have hm:Hid (IntKind.u64.wrap (sx:Int)=sx):=by show IntKind.u64.wrap (sx:Int)=sx;rw[IntKind.wrap_u64];omega
    have ho:Hid (IntKind.u64.wrap (Z:Int)=Z):=by show IntKind.u64.wrap (Z:Int)=Z;rw[IntKind.wrap_u64];omega
    have hh:Hid (r<y):=fs;have hw:Hid (y≠0):=by show y≠0;omega
    have hg:Hid ((x:Int).tmod y=(r:Int)):=by
     show (x:Int).tmod y=(r:Int);rw[hr];rfl
    clear hq hr hd ht h1 h2 o gd bn gk kb fs;go_wp2_with fail;have kr:=hw.out;have kk:=hg.out;refine wp_region_any eM ?_;refine fo (i:=0) (v:= ?_) rfl eM eM eM (fun _ _ _ h=>h) (Or.inl ⟨by rfl,?_⟩) ?_;rotate_left
    ·intro E;first|(go_simp;done)|(go_simp;with_reducible rfl)
    try simp only[Act.put,aj,au,av]
    refine fo (i:=1) (v:= ?_) rfl eM eM eM (fun _ _ _ h=>h) (Or.inl ⟨by rfl,?_⟩) ?_;rotate_left
    ·intro E;first|(go_simp;done)|(go_simp;with_reducible rfl)
    try simp only[Act.put,aj,au,av]
    refine fo (i:=2) (v:= ?_) rfl eM eM eM (fun _ _ _ h=>h) (Or.inl ⟨by rfl,?_⟩) ?_;rotate_left
    ·intro E;first|(go_simp;done)|(go_simp;with_reducible rfl)
    try simp only[Act.put,aj,au,av]
    refine fo (i:=3) (v:= ?_) rfl eM eM eM (fun _ _ _ h=>h) (Or.inl ⟨by rfl,?_⟩) ?_;rotate_left
    ·intro E;first|(go_simp;done)|(go_simp;with_reducible rfl)
    try simp only[Act.put,aj,au,av]
    clear kr kk;refine wpAny_ready (rs:=[4]) eM fI ?_;refine AllReady.cons rfl (fun K B=> ?_) AllReady.nil;go_simp;refine B _ _ ?_;clear K B;refine wpAny_ready (rs:=[5]) eM fI ?_;refine AllReady.cons rfl (fun K B=> ?_) AllReady.nil;go_simp;refine B _ _ ?_;clear K B;refine wpAny_done eM ?_ _;go_wp2_with fail;refine fN 19 (fun w'=>Own w' (C+1+1) [na,nb]) eM ((cn.out.grow (ag _).drew).grow (ag _).drew) ?_;intro F;refine eL 2 (v:= ?_) rfl eM (fun _ _ _ h=>h) rfl ?_ ‹_› ?_;rotate_left
    ·intro E A
     skip
     exact fE
    try simp only[aput,List.set]
    refine eL 4 (v:= ?_) rfl eM (fun _ _ _ h=>h) rfl ?_ ‹_› ?_;rotate_left
    ·intro E A
     skip
     exact fE
    try simp only[aput,List.set]
    refine eL 5 (v:= ?_) rfl eM (fun _ _ _ h=>h) rfl ?_ ‹_› ?_;rotate_left
    ·intro E A
     skip
     exact fE
    try simp only[aput,List.set]
    refine eL 9 (v:= ?_) rfl eM (fun _ _ _ h=>h) rfl ?_ ‹_› ?_;rotate_left
    ·intro E A
     skip
     exact fE
    try simp only[aput,List.set]
    refine eL 11 (v:= ?_) rfl eM (fun _ _ _ h=>h) rfl ?_ ‹_› ?_;rotate_left
    ·intro E A
     skip
     exact fE
    try simp only[aput,List.set]
    refine eL 12 (v:= ?_) rfl eM (fun _ _ _ h=>h) rfl ?_ ‹_› ?_;rotate_left
    ·intro E A
     skip
     exact fE
    try simp only[aput,List.set]
    refine eL 6 (v:= ?_) rfl eM (fun _ _ _ h=>h) rfl ?_ ‹_› ?_;rotate_left
    ·intro E A
     (have fr:E.cell? ⟨C+1+1,0,none⟩=some (.int .u64 (na:Int)):=Own.cell (i:=0) A fI);(have X:E.cell? ⟨C+1+1,1,none⟩=some (.int .u64 (nb:Int)):=Own.cell (i:=1) A fI)
     exact fE
    try simp only[aput,List.set]
    refine eL 13 (v:= ?_) rfl eM (fun _ _ _ h=>h) rfl ?_ ‹_› ?_;rotate_left
    ·intro E A
     (have fr:E.cell? ⟨C+1+1,0,none⟩=some (.int .u64 (na:Int)):=Own.cell (i:=0) A fI);(have X:E.cell? ⟨C+1+1,1,none⟩=some (.int .u64 (nb:Int)):=Own.cell (i:=1) A fI)
     exact fE
    try simp only[aput,List.set]
    refine eL 7 (v:= ?_) rfl eM (fun _ _ _ h=>h) rfl ?_ ‹_› ?_;rotate_left
    ·intro E A
     skip
     exact fE
    try simp only[aput,List.set]
    refine eL 14 (v:= ?_) rfl eM (fun _ _ _ h=>h) rfl ?_ ‹_› ?_;rotate_left
    ·intro E A
     skip
     exact fE
    try simp only[aput,List.set]
    refine eL 1 (v:= ?_) rfl eM (fun _ _ _ h=>h) rfl ?_ ‹_› ?_;rotate_left
    ·intro E A
     (have fr:E.cell? ⟨C+1+1,0,none⟩=some (.int .u64 (na:Int)):=Own.cell (i:=0) A fI);(have X:E.cell? ⟨C+1+1,1,none⟩=some (.int .u64 (nb:Int)):=Own.cell (i:=1) A fI)
     exact fE
    try simp only[aput,List.set]
    generalize Y:wr.drew.drew=wd at *;have fv:wd.cell? ⟨C+1,0,none⟩=some (.int .u64 (sa:Int)):=by rw[← Y];exact Own.cell (i:=0) ((an.out.grow (ag _).drew).grow (ag _).drew) fI
    have ga:wd.cell? ⟨C+1,1,none⟩=some (.int .u64 (D:Int)):=by rw[← Y];exact Own.cell (i:=1) ((an.out.grow (ag _).drew).grow (ag _).drew) fI
    apply share
    ·intro L;refine kd (i:=0) (j:=3) (l:=10) eM rfl rfl rfl ?_ ?_ ?_
     ·skip
      intro K B;go_simp;refine B.out _ _ (Or.inr F) ?_;clear B K;refine fX (i:=3) (j:=10) eM rfl rfl ?_ ?_
      ·skip
       intro K B;go_simp;refine B.out _ _ (Or.inr F) ?_;clear B K;refine eL 8 (v:= ?_) rfl eM (fun _ _ _ h=>h) rfl ?_ ‹_› ?_;rotate_left
       ·intro E A
        skip
        exact fE
       try simp only[aput,List.set]
       refine eN (i:=10) eM rfl ?_;intro K B;go_simp;refine B.out _ _ (Or.inr F) ?_;clear B K;refine eL 15 (v:= ?_) rfl eM (fun _ _ _ h=>h) rfl ?_ ‹_› ?_;rotate_left
       ·intro E A
        skip
        exact fE
       try simp only[aput,List.set]
       refine eL 16 (v:= ?_) rfl eM (fun _ _ _ h=>h) rfl ?_ ‹_› ?_;rotate_left
       ·intro E A
        skip
        exact fE
       try simp only[aput,List.set]
       exact L.out
      ·skip
       intro K B;go_simp;refine B.out _ _ (Or.inr F) ?_;clear B K;refine eL 15 (v:= ?_) rfl eM (fun _ _ _ h=>h) rfl ?_ ‹_› ?_;rotate_left
       ·intro E A
        skip
        exact fE
       try simp only[aput,List.set]
       refine eN (i:=3) eM rfl ?_;intro K B;go_simp;refine B.out _ _ (Or.inr F) ?_;clear B K;refine eL 8 (v:= ?_) rfl eM (fun _ _ _ h=>h) rfl ?_ ‹_› ?_;rotate_left
       ·intro E A
        skip
        exact fE
       try simp only[aput,List.set]
       refine eL 16 (v:= ?_) rfl eM (fun _ _ _ h=>h) rfl ?_ ‹_› ?_;rotate_left
       ·intro E A
        skip
        exact fE
       try simp only[aput,List.set]
       exact eW eM L.out
     ·skip
      intro K B;go_simp;refine B.out _ _ (Or.inr F) ?_;clear B K;refine eL 8 (v:= ?_) rfl eM (fun _ _ _ h=>h) rfl ?_ ‹_› ?_;rotate_left
      ·intro E A
       skip
       exact fE
      try simp only[aput,List.set]
      refine fX (i:=0) (j:=10) eM rfl rfl ?_ ?_
      ·skip
       intro K B;go_simp;refine B.out _ _ (Or.inr F) ?_;clear B K;refine eN (i:=10) eM rfl ?_;intro K B;go_simp;refine B.out _ _ (Or.inr F) ?_;clear B K;refine eL 15 (v:= ?_) rfl eM (fun _ _ _ h=>h) rfl ?_ ‹_› ?_;rotate_left
       ·intro E A
        skip
        exact fE
       try simp only[aput,List.set]
       refine eL 16 (v:= ?_) rfl eM (fun _ _ _ h=>h) rfl ?_ ‹_› ?_;rotate_left
       ·intro E A
        skip
        exact fE
       try simp only[aput,List.set]
       exact eW eM L.out
      ·skip
       intro K B;go_simp;refine B.out _ _ (Or.inr F) ?_;clear B K;refine eL 15 (v:= ?_) rfl eM (fun _ _ _ h=>h) rfl ?_ ‹_› ?_;rotate_left
       ·intro E A
        skip
        exact fE
       try simp only[aput,List.set]
       refine eL 16 (v:= ?_) rfl eM (fun _ _ _ h=>h) rfl ?_ ‹_› ?_;rotate_left
       ·intro E A
        skip
        exact fE
       try simp only[aput,List.set]
       refine eN (i:=0) eM rfl ?_;intro K B;go_simp;refine B.out _ _ (Or.inr F) ?_;clear B K;exact eW eM L.out
     ·skip
      intro K B;go_simp;refine B.out _ _ (Or.inr F) ?_;clear B K;refine eL 15 (v:= ?_) rfl eM (fun _ _ _ h=>h) rfl ?_ ‹_› ?_;rotate_left
      ·intro E A
       skip
       exact fE
      try simp only[aput,List.set]
      refine fX (i:=0) (j:=3) eM rfl rfl ?_ ?_
      ·skip
       intro K B;go_simp;refine B.out _ _ (Or.inr F) ?_;clear B K;refine eN (i:=3) eM rfl ?_;intro K B;go_simp;refine B.out _ _ (Or.inr F) ?_;clear B K;refine eL 8 (v:= ?_) rfl eM (fun _ _ _ h=>h) rfl ?_ ‹_› ?_;rotate_left
       ·intro E A
        skip
        exact fE
       try simp only[aput,List.set]
       refine eL 16 (v:= ?_) rfl eM (fun _ _ _ h=>h) rfl ?_ ‹_› ?_;rotate_left
       ·intro E A
        skip
        exact fE
       try simp only[aput,List.set]
       exact eW eM L.out
      ·skip
       intro K B;go_simp;refine B.out _ _ (Or.inr F) ?_;clear B K;refine eL 8 (v:= ?_) rfl eM (fun _ _ _ h=>h) rfl ?_ ‹_› ?_;rotate_left
       ·intro E A
        skip
        exact fE
       try simp only[aput,List.set]
       refine eL 16 (v:= ?_) rfl eM (fun _ _ _ h=>h) rfl ?_ ‹_› ?_;rotate_left
       ·intro E A
        skip
        exact fE
       try simp only[aput,List.set]
       refine eN (i:=0) eM rfl ?_;intro K B;go_simp;refine B.out _ _ (Or.inr F) ?_;clear B K;exact eW eM L.out
    ·refine Later.mk ?_;have c:sa<2^64:=S.out.bc;have W:D<2^64:=S.out.bd;have k:na<2^64:=S.out.be;have m:nb<2^64:=S.out.bf;have ii:sx<2^64:=by omega
     have io:Z<2^64:=by omega
     have A1:Own wd C [I,J]:=by rw[← Y];exact(ca.out.grow (ag _).drew).grow (ag _).drew
     have A2:Own wd (C+1) [sa,D]:=by rw[← Y];exact(an.out.grow (ag _).drew).grow (ag _).drew
     have A3:Own wd (C+1+1) [na,nb]:=by rw[← Y];exact(cn.out.grow (ag _).drew).grow (ag _).drew
     have A4:Own wd w.heap.size [0,0]:=by rw[← Y];exact(HP.out.grow (ag _).drew).grow (ag _).drew
     have A5:Own wd (w.heap.size+1) [0,0]:=by rw[← Y];exact(HQ.out.grow (ag _).drew).grow (ag _).drew
     have A6:G w wd:=by rw[← Y];exact hG.drew.drew
     have n1:C+1≠C:=by omega
     have n2:C+1+1≠C:=by omega
     have n3:w.heap.size≠C:=by omega
     have n4:w.heap.size+1≠C:=by omega
     have n5:C≠C+1:=by omega
     have n6:C+1+1≠C+1:=by omega
     have n7:w.heap.size≠C+1:=by omega
     have n8:w.heap.size+1≠C+1:=by omega
     have n9:C≠C+1+1:=by omega
     have gz:C+1≠C+1+1:=by omega
     have he:w.heap.size≠C+1+1:=by omega
     have hf:w.heap.size+1≠C+1+1:=by omega
     have B1:=hi9 (iR (x':=sa) (y':=D) A1 c W);have B2:=hi9 (fA (u:= .int .u64 (sa:Int)) (v:= .int .u64 (D:Int)) A2 n1);have B3:=hi9 (fA (u:= .int .u64 (sa:Int)) (v:= .int .u64 (D:Int)) A3 n2);have B4:=hi9 (fA (u:= .int .u64 (sa:Int)) (v:= .int .u64 (D:Int)) A4 n3);have B5:=hi9 (fA (u:= .int .u64 (sa:Int)) (v:= .int .u64 (D:Int)) A5 n4);have B6:=hi9 (ln (b:=C) (u:= .int .u64 (sa:Int)) (v:= .int .u64 (D:Int)) A6 eK);obtain⟨M,N,O,R⟩:=fc A1;clear A1 A2 A3 A4 A5 A6 fv ga F;refine eN (i:=17) eM rfl ?_;intro K B;go_simp;refine B.out _ _ (Or.inr B3.out) ?_;clear B K M N O R Y;generalize (wd.setCell ⟨C,0,none⟩ (.int .u64 (sa:Int))).setCell ⟨C,1,none⟩ (.int .u64 (D:Int))=we at *;have C1:=hi9 (fA (u:= .int .u64 (na:Int)) (v:= .int .u64 (nb:Int)) B1.out n5);have C2:=hi9 (iR (x':=na) (y':=nb) B2.out k m);have C3:=hi9 (fA (u:= .int .u64 (na:Int)) (v:= .int .u64 (nb:Int)) B3.out n6);have C4:=hi9 (fA (u:= .int .u64 (na:Int)) (v:= .int .u64 (nb:Int)) B4.out n7);have C5:=hi9 (fA (u:= .int .u64 (na:Int)) (v:= .int .u64 (nb:Int)) B5.out n8);have C6:=hi9 (ln (b:=C+1) (u:= .int .u64 (na:Int)) (v:= .int .u64 (nb:Int)) B6.out eK);obtain⟨M,N,O,R⟩:=fc B2.out;clear B1 B2 B3 B4 B5 B6;refine eN (i:=18) eM rfl ?_;intro K B;go_simp;refine B.out _ _ (Or.inr C3.out) ?_;clear B K M N O R;generalize (we.setCell ⟨C+1,0,none⟩ (.int .u64 (na:Int))).setCell ⟨C+1,1,none⟩ (.int .u64 (nb:Int))=wf at *;have D1:=hi9 (fA (u:= .int .u64 (sx:Int)) (v:= .int .u64 (Z:Int)) C1.out n9)
     have D2:=hi9 (fA (u:= .int .u64 (sx:Int)) (v:= .int .u64 (Z:Int)) C2.out gz);have D3:=hi9 (iR (x':=sx) (y':=Z) C3.out ii io);have D4:=hi9 (fA (u:= .int .u64 (sx:Int)) (v:= .int .u64 (Z:Int)) C4.out he);have D5:=hi9 (fA (u:= .int .u64 (sx:Int)) (v:= .int .u64 (Z:Int)) C5.out hf);have D6:=hi9 (ln (b:=C+1+1) (u:= .int .u64 (sx:Int)) (v:= .int .u64 (Z:Int)) C6.out eK);obtain⟨M,N,O,R⟩:=fc C3.out;clear C1 C2 C3 C4 C5 C6;refine eN (i:=19) eM rfl ?_;intro K B;go_simp;refine B.out _ _ (Or.inl ff) ?_;clear B K M N O R;rw[hj.out,hk.out,kp,kq,hm.out,ho.out];generalize (wf.setCell ⟨C+1+1,0,none⟩ (.int .u64 (sx:Int))).setCell ⟨C+1+1,1,none⟩ (.int .u64 (Z:Int))=wg at *;refine fh eM ?_ _;clear n1 n2 n3 n4 n5 n6 n7 n8 n9 gz he hf;go_wp2_with fail
     go_roundw
     case rel=>exact⟨y,r,sa,D,na,nb,sx,Z, !tn,rfl,rfl,rfl,al.out,D1.out,D2.out,D3.out,D4.out,D5.out,D6.out⟩
     case measure=>
      have h:=hh.out;simp only[intOf];omega
   ·have ed:decide (t≤d)=false:=decide_eq_false h2;clear hd ht h1 h2 o gd bn gk gl;go_wp2_with fail;have c:I<2^64:=S.out.ba;have W:J<2^64:=S.out.bb;have k:sa<2^64:=S.out.bc;have m:D<2^64:=S.out.bd;have A1:Own wr.drew C [I,J]:=ca.out.grow (ag _).drew;have A2:Own wr.drew (C+1) [sa,D]:=an.out.grow (ag _).drew;have A4:Own wr.drew w.heap.size [0,0]:=HP.out.grow (ag _).drew;have A5:Own wr.drew (w.heap.size+1) [0,0]:=HQ.out.grow (ag _).drew;have A6:G w wr.drew:=hG.drew;clear dk dl dq dr;refine fN 5 (fun w'=>Own w' C [I,J]∧Own w' (C+1) [sa,D]) eM ⟨A1,A2⟩ ?_;intro F;refine eL 0 (v:= ?_) rfl eM (fun _ _ _ h=>h) rfl ?_ ‹_› ?_;rotate_left
    ·intro E A
     (obtain⟨X,ap,-,-⟩:=fc A.1);(obtain⟨bi,bl,-,-⟩:=fc A.2)
     exact fE
    try simp only[aput,List.set]
    refine eL 1 (v:= ?_) rfl eM (fun _ _ _ h=>h) rfl ?_ ‹_› ?_;rotate_left
    ·intro E A
     (obtain⟨X,ap,-,-⟩:=fc A.1);(obtain⟨bi,bl,-,-⟩:=fc A.2)
     exact fE
    try simp only[aput,List.set]
    refine eL 2 (v:= ?_) rfl eM (fun _ _ _ h=>h) rfl ?_ ‹_› ?_;rotate_left
    ·intro E A
     (obtain⟨X,ap,-,-⟩:=fc A.1);(obtain⟨bi,bl,-,-⟩:=fc A.2)
     exact fE
    try simp only[aput,List.set]
    generalize wr.drew=wd at *;have n1:C≠w.heap.size:=by omega
    have n2:C+1≠w.heap.size:=by omega
    have n3:w.heap.size+1≠w.heap.size:=by omega
    have n4:w.heap.size≠w.heap.size+1:=by omega
    have B1:=hi9 (fA (u:= .int .u64 (I:Int)) (v:= .int .u64 (J:Int)) A1 n1);have B2:=hi9 (fA (u:= .int .u64 (I:Int)) (v:= .int .u64 (J:Int)) A2 n2);have B4:=hi9 (iR (x':=I) (y':=J) A4 c W);have B5:=hi9 (fA (u:= .int .u64 (I:Int)) (v:= .int .u64 (J:Int)) A5 n3);have B6:=hi9 (ln (b:=w.heap.size) (u:= .int .u64 (I:Int)) (v:= .int .u64 (J:Int)) A6 eK);obtain⟨M,N,O,R⟩:=fc A4;clear A1 A2 A4 A5 A6 F;refine eN (i:=3) eM rfl ?_;intro K B;go_simp;refine B.out _ _ (Or.inr ⟨B1.out,B2.out⟩) ?_;clear B K M N O R;generalize (wd.setCell ⟨w.heap.size,0,none⟩ (.int .u64 (I:Int))).setCell ⟨w.heap.size,1,none⟩ (.int .u64 (J:Int))=we at *;have C4:=hi9 (fA (u:= .int .u64 (sa:Int)) (v:= .int .u64 (D:Int)) B4.out n4);have C5:=hi9 (iR (x':=sa) (y':=D) B5.out k m);have C1:Hid _:=fA (u:= .int .u64 (sa:Int)) (v:= .int .u64 (D:Int)) B1.out (show C≠w.heap.size+1 by omega);have C2:Hid _:=fA (u:= .int .u64 (sa:Int)) (v:= .int .u64 (D:Int)) B2.out (show C+1≠w.heap.size+1 by omega);have C6:=hi9 (ln (b:=w.heap.size+1) (u:= .int .u64 (sa:Int)) (v:= .int .u64 (D:Int)) B6.out eK);obtain⟨M,N,O,R⟩:=fc B5.out;clear B1 B2 B4 B5 B6;refine eN (i:=4) eM rfl ?_;intro K B;go_simp;refine B.out _ _ (Or.inr ⟨C1.out,C2.out⟩) ?_;clear B K M N O R;generalize (we.setCell ⟨w.heap.size+1,0,none⟩ (.int .u64 (sa:Int))).setCell ⟨w.heap.size+1,1,none⟩ (.int .u64 (D:Int))=wf at *;refine eN (i:=5) eM rfl ?_;intro K B;go_simp;refine B.out _ _ (Or.inl ff) ?_;clear B K;refine fh eM ?_ _;obtain⟨M,N,O,R⟩:=fc C4.out
    obtain⟨hz,ia,ib,ih⟩:=fc C5.out;clear C1 C2 C4 C5 n1 n2 n3 n4;go_wp2_with fail;refine bodyPost_ret (v:= .tuple #[.agg #[.int .u64 (I:Int),.int .u64 (J:Int)],.agg #[.int .u64 (sa:Int),.int .u64 (D:Int)],.bool tn]) (by simp [results,Tryz.results208,go_sem, *]) rfl ?_;exact⟨I,J,sa,D,tn,rfl,C6.out,c,W,k,m,S.out.lr.last⟩
  ·have ec:decide (nb≤y)=false:=decide_eq_false h1;clear h1 o;go_wp2_with fail;have c:I<2^64:=S.out.ba;have W:J<2^64:=S.out.bb;have k:sa<2^64:=S.out.bc;have m:D<2^64:=S.out.bd;have A1:Own wr.drew C [I,J]:=ca.out.grow (ag _).drew;have A2:Own wr.drew (C+1) [sa,D]:=an.out.grow (ag _).drew;have A4:Own wr.drew w.heap.size [0,0]:=HP.out.grow (ag _).drew;have A5:Own wr.drew (w.heap.size+1) [0,0]:=HQ.out.grow (ag _).drew;have A6:G w wr.drew:=hG.drew;clear dk dl dq dr;refine fN 5 (fun w'=>Own w' C [I,J]∧Own w' (C+1) [sa,D]) eM ⟨A1,A2⟩ ?_;intro F;refine eL 0 (v:= ?_) rfl eM (fun _ _ _ h=>h) rfl ?_ ‹_› ?_;rotate_left
   ·intro E A
    (obtain⟨X,ap,-,-⟩:=fc A.1);(obtain⟨bi,bl,-,-⟩:=fc A.2)
    exact fE
   try simp only[aput,List.set]
   refine eL 1 (v:= ?_) rfl eM (fun _ _ _ h=>h) rfl ?_ ‹_› ?_;rotate_left
   ·intro E A
    (obtain⟨X,ap,-,-⟩:=fc A.1);(obtain⟨bi,bl,-,-⟩:=fc A.2)
    exact fE
   try simp only[aput,List.set]
   refine eL 2 (v:= ?_) rfl eM (fun _ _ _ h=>h) rfl ?_ ‹_› ?_;rotate_left
   ·intro E A
    (obtain⟨X,ap,-,-⟩:=fc A.1);(obtain⟨bi,bl,-,-⟩:=fc A.2)
    exact fE
   try simp only[aput,List.set]
   generalize wr.drew=wd at *;have n1:C≠w.heap.size:=by omega
   have n2:C+1≠w.heap.size:=by omega
   have n3:w.heap.size+1≠w.heap.size:=by omega
   have n4:w.heap.size≠w.heap.size+1:=by omega
   have B1:=hi9 (fA (u:= .int .u64 (I:Int)) (v:= .int .u64 (J:Int)) A1 n1);have B2:=hi9 (fA (u:= .int .u64 (I:Int)) (v:= .int .u64 (J:Int)) A2 n2);have B4:=hi9 (iR (x':=I) (y':=J) A4 c W);have B5:=hi9 (fA (u:= .int .u64 (I:Int)) (v:= .int .u64 (J:Int)) A5 n3);have B6:=hi9 (ln (b:=w.heap.size) (u:= .int .u64 (I:Int)) (v:= .int .u64 (J:Int)) A6 eK);obtain⟨M,N,O,R⟩:=fc A4;clear A1 A2 A4 A5 A6 F;refine eN (i:=3) eM rfl ?_;intro K B;go_simp;refine B.out _ _ (Or.inr ⟨B1.out,B2.out⟩) ?_;clear B K M N O R;generalize (wd.setCell ⟨w.heap.size,0,none⟩ (.int .u64 (I:Int))).setCell ⟨w.heap.size,1,none⟩ (.int .u64 (J:Int))=we at *;have C4:=hi9 (fA (u:= .int .u64 (sa:Int)) (v:= .int .u64 (D:Int)) B4.out n4);have C5:=hi9 (iR (x':=sa) (y':=D) B5.out k m);have C1:Hid _:=fA (u:= .int .u64 (sa:Int)) (v:= .int .u64 (D:Int)) B1.out (show C≠w.heap.size+1 by omega);have C2:Hid _:=fA (u:= .int .u64 (sa:Int)) (v:= .int .u64 (D:Int)) B2.out (show C+1≠w.heap.size+1 by omega);have C6:=hi9 (ln (b:=w.heap.size+1) (u:= .int .u64 (sa:Int)) (v:= .int .u64 (D:Int)) B6.out eK);obtain⟨M,N,O,R⟩:=fc B5.out;clear B1 B2 B4 B5 B6;refine eN (i:=4) eM rfl ?_;intro K B;go_simp;refine B.out _ _ (Or.inr ⟨C1.out,C2.out⟩) ?_;clear B K M N O R;generalize (we.setCell ⟨w.heap.size+1,0,none⟩ (.int .u64 (sa:Int))).setCell ⟨w.heap.size+1,1,none⟩ (.int .u64 (D:Int))=wf at *;refine eN (i:=5) eM rfl ?_;intro K B;go_simp;refine B.out _ _ (Or.inl ff) ?_;clear B K;refine fh eM ?_ _;obtain⟨M,N,O,R⟩:=fc C4.out
   obtain⟨hz,ia,ib,ih⟩:=fc C5.out;clear C1 C2 C4 C5 n1 n2 n3 n4;go_wp2_with fail;refine bodyPost_ret (v:= .tuple #[.agg #[.int .u64 (I:Int),.int .u64 (J:Int)],.agg #[.int .u64 (sa:Int),.int .u64 (D:Int)],.bool tn]) (by simp [results,Tryz.results208,go_sem, *]) rfl ?_;exact⟨I,J,sa,D,tn,rfl,C6.out,c,W,k,m,S.out.lr.last⟩
/-- The difference that a share tells, as one of numbers. -/
theorem q2Y {t:Bool} {a b p q Z:Nat} (h:(Z:Int)=mx (!t) a b p q):if t then a*p≤b*q∧Z=b*q-a*p else b*q≤a*p∧Z=a*p-b*q:=by
 unfold mx at h;cases t
 ·simp only[dU,if_true,aB,if_false] at h ⊢;rw[← aL,← aL] at h;omega
 ·simp only[cP,if_true,aB,if_false] at h ⊢;rw[← aL,← aL] at h;omega
theorem q3L (w:World) (va vb:Value) (a b p q K:Nat) (t:Bool) (Z:Nat) (C:K≤400000) (cl:1≤K) (ha:Num w va a) (hb:Num w vb b) (W:a<2^(64*K)) (X:b<2^(64*K)) (hp:p<2^64) (hq:q<2^64) (hZ:(Z:Int)=mx (!t) a b p q):
  Calls Tryz.prog 209 #[.agg #[.int .u64 (p:Int),.int .u64 (q:Int)],va,vb,.bool t] w (eU w Z):=by
 have hz:=q2Y hZ;have I:∀ p:Nat,p<2^64→p<2^(64*K):=fun p hp=>ae hp (ai eK eK);have Y:∀ a p:Nat,a<2^(64*K)→p<2^(64*K)→a*p<2^(64*(2*K)):=by
  intro a p h1 h2;rw[show 64*(2*K)=64*K+64*K from by omega,ah];exact bE h1 h2
 have bi:=Y a p W (I p hp);have bl:=Y b q X (I q hq);have al:Hid (∀ B,_):=fun B=>kG B p hp;have am:Hid (∀ B,_):=fun B=>kG B q hq;have k:Hid (∀ B v,G w B→Num B v p→_):=fun B v g hv=>gU B va v a p K eK (ha.G g) hv W (I p hp);have m:Hid (∀ B v,G w B→Num B v q→_):=fun B v g hv=>gU B vb v b q K eK (hb.G g) hv X (I q hq);have R:Hid (∀ B u v,Num B u (a*p)→Num B v (b*q)→b*q≤a*p→_):=fun B u v hu hv hle=>kU B u v (a*p) (b*q) (2*K) eK hu hv bi hle;have S:Hid (∀ B u v,Num B u (b*q)→Num B v (a*p)→a*p≤b*q→_):=fun B u v hu hv hle=>kU B u v (b*q) (a*p) (2*K) eK hu hv bl hle;generalize a*p=ap at *;generalize b*q=bq at *;clear I Y bi bl ha hb W X hZ;go_enter Tryz.func209,Tryz.ntmps209;go_wp2_with fail;have F:G w (w.alloc (.cells #[.int .u64 (p:Int),.int .u64 (q:Int)] 222)):=(ag _).alloc _;have bz:(w.alloc (.cells #[.int .u64 (p:Int),.int .u64 (q:Int)] 222)).cell? ⟨w.heap.size,0,none⟩=some (.int .u64 (p:Int)):=by simp [go_sem]
 have ca:(w.alloc (.cells #[.int .u64 (p:Int),.int .u64 (q:Int)] 222)).cell? ⟨w.heap.size,1,none⟩=some (.int .u64 (q:Int)):=by simp [go_sem]
 have cb:w.heap.size<(w.alloc (.cells #[.int .u64 (p:Int),.int .u64 (q:Int)] 222)).heap.size:=by simp
 generalize w.alloc (.cells #[.int .u64 (p:Int),.int .u64 (q:Int)] 222)=B at *;refine fN 11 (G B) eM (by first|exact(ag _).drew|exact G.drew kg) ?_;intro ao;have E:Hid (∀ D,G B D→D.cell? ⟨w.heap.size,0,none⟩=some (.int .u64 (p:Int))∧D.cell? ⟨w.heap.size,1,none⟩=some (.int .u64 (q:Int))):=fun D A=>⟨kh ⟨w.heap.size,0,none⟩ (.int .u64 (p:Int)) A,kh ⟨w.heap.size,1,none⟩ (.int .u64 (q:Int)) A⟩;refine eL 0 (v:= ?_) rfl eM (fun _ _ _ h=>h) rfl ?_ ‹_› ?_;rotate_left
 ·intro D A;obtain⟨cm,cn⟩:=E.out D A;exact fE
 try simp only[aput,List.set]
 refine eL 1 (v:= ?_) rfl eM (fun _ _ _ h=>h) rfl ?_ ‹_› ?_;rotate_left
 ·intro D A;obtain⟨cr,cs⟩:=E.out D A;exact fE
 try simp only[aput,List.set]
 refine eL 2 (v:= ?_) rfl eM (fun _ _ _ h=>h) rfl ?_ ‹_› ?_;rotate_left
 ·intro D A;obtain⟨cx,cy⟩:=E.out D A;exact fE
 try simp only[aput,List.set]
 refine eL 5 (v:= ?_) rfl eM (fun _ _ _ h=>h) rfl ?_ ‹_› ?_;rotate_left
 ·intro D A;obtain⟨cz,dk⟩:=E.out D A;exact fE
 try simp only[aput,List.set]
 refine eL 6 (v:= ?_) rfl eM (fun _ _ _ h=>h) rfl ?_ ‹_› ?_;rotate_left
 ·intro D A;obtain⟨cc,cd⟩:=E.out D A;exact fE
 try simp only[aput,List.set]
 refine eL 7 (v:= ?_) rfl eM (fun _ _ _ h=>h) rfl ?_ ‹_› ?_;rotate_left
 ·intro D A;obtain⟨ce,ci⟩:=E.out D A;exact fE
 try simp only[aput,List.set]
 clear E;clear bz ca cb;have o:=hi9 (al.out B.drew);refine eN (i:=3) eM rfl ?_;intro K C;go_simp;go_wp2_with (go_at_call 110;refine eJ o.out ?_;intro e w2 J;obtain⟨v1,rfl,g2,bn⟩:=J);have g12:=aa ao g2;refine C.out _ _ (Or.inr g12) ?_;clear C K;have d:=hi9 (k.out w2 v1 (aa F g12) bn);clear bn k al o ao g2;refine eN (i:=4) eM rfl ?_;intro K C;go_simp;go_wp2_with (go_at_call 61;refine eJ d.out ?_;intro e w3 J;obtain⟨x,rfl,g3,bu⟩:=J);have g13:=aa g12 g3;refine C.out _ _ (Or.inr g13) ?_;clear C K d g12 g3;have c:Hid (Num w3 x ap):=bu;have s:=hi9 (am.out w3);clear bu am;refine eN (i:=8) eM rfl ?_;intro K C;go_simp;go_wp2_with (go_at_call 110;refine eJ s.out ?_;intro e w4 J;obtain⟨v2,rfl,g4,bs⟩:=J);have g14:=aa g13 g4;refine C.out _ _ (Or.inr g14) ?_;clear C K s g13;have M:Hid (Num w4 x ap):=c.out.G g4;have j:=hi9 (m.out w4 v2 (aa F g14) bs);clear bs m c g4;refine eN (i:=9) eM rfl ?_;intro K C;go_simp;go_wp2_with (go_at_call 61;refine eJ j.out ?_;intro e w5 J;obtain⟨y,rfl,g5,bv⟩:=J);have g15:=aa g14 g5;refine C.out _ _ (Or.inr g15) ?_;clear C K j g14;have N:Hid (Num w5 x ap):=M.out.G g5;have O:Hid (Num w5 y bq):=bv;clear bv M g5;refine eN (i:=10) eM rfl ?_;intro K C;go_simp;refine C.out _ _ (Or.inr g15) ?_;clear C K;refine eN (i:=11) eM rfl ?_;intro K C;go_simp;refine C.out _ _ (Or.inl ff) ?_;clear C K;refine fh eM ?_ _;have an:=aa F g15;cases t
 ·simp only[aB,if_false] at hz;obtain⟨L,rfl⟩:=hz;have U:=hi9 (R.out w5 x y N.out O.out L);clear R S F g15 L;go_wp2_with fail;refine eJ U.out ?_;intro e w6 J;obtain⟨v,rfl,g6,hn⟩:=J;go_wp2_with fail;go_ret;exact⟨v,rfl,aa an g6,hn⟩
 ·simp only[if_true] at hz;obtain⟨L,rfl⟩:=hz;have U:=hi9 (S.out w5 y x O.out N.out L);clear R S F g15 L;go_wp2_with fail;refine eJ U.out ?_;intro e w6 J;obtain⟨v,rfl,g6,hn⟩:=J;go_wp2_with fail;go_ret;exact⟨v,rfl,aa an g6,hn⟩
/-- Two numbers that are nearer, with the same divisors. -/
def qq (a b:Nat) (w:World) (e:Ending) (A:World):Prop:=∃ (X Y:Nat) (x y:Value),e= .returned (.tuple #[x,y])∧G w A∧Num A x X∧Num A y Y∧Y<X∧X≤b∧Nat.gcd X Y=Nat.gcd a b
set_option maxHeartbeats 4000000 in
theorem nO (w:World) (va vb:Value) (a b K:Nat) (hK:K≤400000) (S:1≤K) (j:Num w va a) (hb:Num w vb b) (F:a<2^(64*K)) (I:b≤a) (M:2^64≤b):
  Calls Tryz.prog 175 #[va,vb] w (qq a b w):=by
 have HS:=hi9 (q0X w va vb a b K hK j hb F I (bk M I));have m:Hid (∀ B,G w B→_):=fun B g=>j9 B va vb a b K hK S (j.G g) (hb.G g) F (aq I F) eK;have d:Hid (∀ B,G w B→∀ (p q:Nat) (t:Bool) (Z:Nat),p<2^64→q<2^64→(Z:Int)=mx (!t) a b p q→_):=fun B g p q t Z hp hq hZ=>q3L B va vb a b p q K t Z hK S (j.G g) (hb.G g) F (aq I F) hp hq hZ;have HB:Hid (Num w vb b):=hb;have k:Hid (0<b):=by show 0<b;omega
 clear j hb F I M;go_enter Tryz.func175,Tryz.ntmps175;go_wp2_with fail;refine eJ HS.out ?_;intro e B hs;obtain⟨C,D,sa,E,tn,rfl,g1,h1,h2,h3,i,N⟩:=hs;clear HS;have HL:Hid (LEnd a b C D sa E tn):=N;clear N;by_cases L:D=0
 ·subst L;go_wp2_with fail;have g2:G w ((B.alloc (.cells #[.int .u64 (C:Int),.int .u64 0] 222)).alloc (.cells #[.int .u64 (sa:Int),.int .u64 (E:Int)] 222)):=(g1.alloc _).alloc _;have R:=hi9 (m.out _ g2);generalize (B.alloc (.cells #[.int .u64 (C:Int),.int .u64 0] 222)).alloc (.cells #[.int .u64 (sa:Int),.int .u64 (E:Int)] 222)=w2 at *;clear m d;refine eJ R.out ?_;intro e w3 hs;obtain⟨v1,v2,rfl,g3,-,U⟩:=hs;have HN:Hid (Num w3 v2 (a%b)):=U;have g4:=aa g2 g3;clear U R g3 g2;go_wp2_with fail
  go_ret2
  exact⟨b,a%b,vb,v2,rfl,g4,HB.out.G g4,HN.out,aX _ k.out,az _,by rw[bL b (a%b),← eg,bL]⟩
 ·have bn:((D:Int)==0)=false:=by simp;exact L
  obtain⟨hd,ap,bi,ao⟩:=HL.out.resolve_left L;obtain⟨X,hX⟩:∃ X:Nat,(X:Int)=mx (!tn) a b C D:=⟨(mx (!tn) a b C D).toNat,by omega⟩;obtain⟨Y,hY⟩:∃ Y:Nat,(Y:Int)=mx tn a b sa E:=⟨(mx tn a b sa E).toNat,by omega⟩;have hg:=q1B hd hX hY;have HG:Hid (Y<X∧X≤b∧Nat.gcd X Y=Nat.gcd a b):=⟨by omega,by omega,hg⟩;have o:Hid (∀ B,G w B→_):=fun B g=>d.out B g C D tn X h1 h2 hX;have s:Hid (∀ B,G w B→_):=fun B g=>d.out B g sa E (!tn) Y h3 i (by rw[Bool.not_not];exact hY);clear L hd ap bi ao hX hY hg d HL m h1 h2 h3 i;go_wp2_with fail;have y:G w ((B.alloc (.cells #[.int .u64 (C:Int),.int .u64 (D:Int)] 222)).alloc (.cells #[.int .u64 (sa:Int),.int .u64 (E:Int)] 222)):=(g1.alloc _).alloc _;have c0:((B.alloc (.cells #[.int .u64 (C:Int),.int .u64 (D:Int)] 222)).alloc (.cells #[.int .u64 (sa:Int),.int .u64 (E:Int)] 222)).cell? ⟨B.heap.size,0,none⟩=some (.int .u64 (C:Int)):=by simp [go_sem]
  have c1:((B.alloc (.cells #[.int .u64 (C:Int),.int .u64 (D:Int)] 222)).alloc (.cells #[.int .u64 (sa:Int),.int .u64 (E:Int)] 222)).cell? ⟨B.heap.size,1,none⟩=some (.int .u64 (D:Int)):=by simp [go_sem]
  have c2:((B.alloc (.cells #[.int .u64 (C:Int),.int .u64 (D:Int)] 222)).alloc (.cells #[.int .u64 (sa:Int),.int .u64 (E:Int)] 222)).cell? ⟨B.heap.size+1,0,none⟩=some (.int .u64 (sa:Int)):=by simp [go_sem]
  have c3:((B.alloc (.cells #[.int .u64 (C:Int),.int .u64 (D:Int)] 222)).alloc (.cells #[.int .u64 (sa:Int),.int .u64 (E:Int)] 222)).cell? ⟨B.heap.size+1,1,none⟩=some (.int .u64 (E:Int)):=by simp [go_sem]
  have hz:((B.alloc (.cells #[.int .u64 (C:Int),.int .u64 (D:Int)] 222)).alloc (.cells #[.int .u64 (sa:Int),.int .u64 (E:Int)] 222)).heap.size=B.heap.size+1+1:=by simp
  generalize (B.alloc (.cells #[.int .u64 (C:Int),.int .u64 (D:Int)] 222)).alloc (.cells #[.int .u64 (sa:Int),.int .u64 (E:Int)] 222)=w2 at *;refine jy 13 0 [.is (.agg #[.int .u64 (C:Int),.int .u64 (D:Int)]),.is (va),.is (vb),.is (.bool tn),.any (fun v O=>Num O v (X)),.is (.agg #[.int .u64 (sa:Int),.int .u64 (E:Int)]),.is (va),.is (vb),.is (.bool tn),.is (.bool (!tn)),.any (fun v O=>Num O v (Y)),.any (fun v O=>Num O v (X)),.any (fun v O=>Num O v (Y))] [some 29,some 30,some 31,some 32,some 33,some 34,some 35,some 36,some 37,some 38,some 39,some 4,some 5] ?_;intro v4 bl c v12 A hA;simp only[fg,Act.put,aj,au,av] at hA;subst hA;refine⟨?_,?_⟩
  ·skip
   refine ab rfl ?a1 (ab rfl ?a6 (ab rfl ?a7 (ab rfl ?a8 (ab rfl ?b6 (ab rfl ?o1_5 (ab rfl ?b0 (ab rfl ?b1 (ab rfl ?b2 (ab rfl ?o1_9 (ab rfl ?b3 (ab rfl ?b4 (ab rfl ?b5 (bQ)))))))))))))
   case a6|a7|a8|b0|b1|b2|o1_9=>
    exact iX
   case a1|o1_5=>
    intro W J hD K hK;clear hD;have bq:=kh ⟨B.heap.size,0,none⟩ (.int .u64 (C:Int)) J;have bs:=kh ⟨B.heap.size,1,none⟩ (.int .u64 (D:Int)) J;have bu:=kh ⟨B.heap.size+1,0,none⟩ (.int .u64 (sa:Int)) J;have bv:=kh ⟨B.heap.size+1,1,none⟩ (.int .u64 (E:Int)) J;go_simp;exact hK.out _ _ ⟨_,rfl,ag _,rfl⟩
   ·intro W J hD K hK;have hc:=hi9 (o.out W (aa y J));exact gH
   ·intro W J hD K hK;have hc:=hi9 (s.out W (aa y J));exact gH
   ·intro W J hD K hK;have i:=gL v4 4 hD;clear hD;go_simp;exact hK.out _ _ ⟨_,rfl,ag _,i⟩
   ·intro W J hD K hK;have al:=gL bl 10 hD;clear hD;go_simp;exact hK.out _ _ ⟨_,rfl,ag _,al⟩
  intro w3 g3 hH;have am:=iW c 11 hH;have an:=iW v12 12 hH;clear hH;refine wpAny_done eM ?_ _;go_wp2_with fail
  go_ret2
  exact⟨X,Y,c,v12,rfl,aa y g3,am,an,HG.out⟩
theorem iG {w:World} {d:Nat} {e:TypeId} (A:d<2^64) (B:d≠0):Num (w.alloc (.cells #[.int .u64 (d:Int)] e)) (.slice (some ⟨w.heap.size,0,none⟩) 1 1) d:=
 ⟨[d],jk w d e A,⟨(jk w d e A).1,fun _=>by simpa using B⟩,by simp [val]⟩
/-- What a canonical slice of a number looks like: nothing, one word, more. -/
theorem gi {w:World} {v:Value} {n:Nat} (h:Num w v n):(n=0∧∃ a c,v= .slice a 0 c)∨(0<n∧n<2^64∧∃ b o c,v= .slice (some ⟨b,o,none⟩) 1 c∧1≤c∧b<w.heap.size∧w.cell? ⟨b,o,none⟩=some (.int .u64 (n:Int)))∨(2^64≤n∧∃ b o k c,v= .slice (some ⟨b,o,none⟩) (k+2) c∧b<w.heap.size∧n<2^(64*(k+2))∧2^(64*(k+1))≤n):=by
 obtain⟨l,E,A,rfl⟩:=h;rcases Sl.cases E with ⟨rfl,a,c,rfl⟩|⟨B,b,o,c,rfl,D,hb,F⟩
 ·exact Or.inl ⟨rfl,a,c,rfl⟩
 ·right;have h1:=fZ A B;have h2:=fm A.1;rcases l with _|⟨d,_|⟨d2,l⟩⟩
  ·exact absurd rfl B
  ·left;have J:d≠0:=A.2 B;have C:d<2^64:=A.1 d fI;have h3:=F 0 fI;simp only[List.getD_cons_zero] at h3;rw[gK];exact⟨by omega,C,b,o,c,rfl,D,hb,h3⟩
  ·right;have e:(d::d2::l).length=l.length+2:=rfl;rw[e] at h1 h2 D;rw[show l.length+2-1=l.length+1 from by omega] at h1;have I:2^64≤2^(64*(l.length+1)):=ai eK eK;exact⟨by omega,b,o,l.length,c,rfl,hb,h2,h1⟩
set_option maxHeartbeats 4000000 in
theorem rY (w:World) (va vb:Value) (a b K:Nat) (hK:K≤400000) (ds:1≤K) (ha:Num w va a) (hb:Num w vb b) (cd:a<2^(64*K)) (E:b<2^(64*K)) (dk:0<a) (dl:0<b):
  Calls Tryz.prog 119 #[va,vb] w (eU w (Nat.gcd a b)):=by
 have HC:=hi9 (iz w va vb a b K eK ha hb cd E);have ca:Hid (Num w va a):=ha;have cb:Hid (Num w vb b):=hb;clear ha hb;by_cases al:a<b
 ·rw[show cmpV a b= -1 from by unfold cmpV;rw[if_pos al]] at HC;have F:Hid (a≤b):=cj al;have L:Hid (0<b):=dl;have d:Hid (b<2^(64*K)):=E;have C:Hid (Nat.gcd b a=Nat.gcd a b):=bL _ _;clear al dk dl cd E;go_enter Tryz.func119,Tryz.ntmps119;go_wp2_with fail;refine eJ HC.out ?_;rintro e w1 ⟨rfl,O⟩;have HA:Hid (Num w1 vb b):=cb.out.G O;have HB:Hid (Num w1 va a):=ca.out.G O;clear ca cb HC;go_wp2_with fail;obtain⟨A0,i⟩:∃ A0,A0=b:=⟨_,rfl⟩;obtain⟨B0,j⟩:∃ B0,B0=a:=⟨_,rfl⟩;rw[← i] at HA F L d;rw[← j] at HB F;have C:Hid (Nat.gcd A0 B0=Nat.gcd a b):=by show Nat.gcd A0 B0=Nat.gcd a b;rw[i,j];exact C.out
  clear i j
  go_loopw [0,1] (fun x y wr=>∃ A B:Nat,Num wr x A∧Num wr y B∧B≤A∧0<A∧A<2^(64*K)∧Nat.gcd A B=Nat.gcd a b∧G w wr) (fun _ y wr=>numV wr y)
  case atStart=>exact⟨A0,B0,HA.out,HB.out,F.out,L.out,d.out,C.out,O⟩
  case round=>
   clear HA HB F L d C O;obtain⟨A,B,hA,hB,hle,M,I,D,hG⟩:=hrel;have HA:Hid (Num wr u0 A):=hA;have C:Hid (Nat.gcd A B=Nat.gcd a b):=D;rcases gi hB with ⟨rfl,pa,pc,rfl⟩|⟨S,E,bb,oo,cc,rfl,en,dq,s⟩|⟨c,bb,oo,k,cc,rfl,dq,dr,bq⟩
   ·have HE:Hid (A=Nat.gcd a b):=by show A=Nat.gcd a b;rw[← D,cX]
    clear hA hB hle M I D C;go_wp2_with fail;go_ret;exact⟨_,rfl,hG,by rw[← HE.out];exact HA.out⟩
   ·have HD:=hi9 (gP wr u0 A B K eK hA I S E);have an:Hid (0<B):=S;have am:Hid (B<18446744073709551616):=E;have ao:Hid (A%B<18446744073709551616):=Nat.lt_trans (aX _ S) E;have N:Hid (Nat.gcd B (A%B)=Nat.gcd a b):=by show Nat.gcd B (A%B)=Nat.gcd a b;rw[bL B (A%B),← eg,bL];exact D
    clear hB hle M I D C S E hA HA;go_wp2_with fail;refine eJ HD.out ?_;intro e w2 hs;obtain⟨v2,rfl,g2,-⟩:=hs;have ap:=aa hG g2;obtain⟨X0,m⟩:∃ X0,X0=B:=⟨_,rfl⟩;obtain⟨Y0,J⟩:∃ Y0,Y0=A%B:=⟨_,rfl⟩;rw[← J] at ao N ⊢;rw[← m] at an am N;have C:Hid (Nat.gcd X0 Y0=Nat.gcd a b):=N.out;clear HD hG g2 J N;go_wp2_with fail;rw[← m];clear s m
    go_loopw [5,7] (fun vx vy wr=>∃ X Y:Nat,vx= .int .u64 X∧vy= .int .u64 Y∧0<X∧X<18446744073709551616∧Y<18446744073709551616∧Nat.gcd X Y=Nat.gcd a b∧G w wr) (fun _ vy _=>(intOf vy).toNat)
    case atStart=>exact⟨X0,Y0,rfl,rfl,an.out,am.out,ao.out,C.out,ap⟩
    case round=>
     obtain⟨X,Y,rfl,rfl,cx,hX,hY,D,R⟩:=hrel;have U:Hid (Nat.gcd X Y=Nat.gcd a b):=D;have ec:(X:Int)≤18446744073709551615:=by omega
     have ee:(Y:Int)≤18446744073709551615:=by omega
     clear D ap;by_cases J:0<Y
     ·have ed:(1:Int)≤Y:=by omega
      have ea:Y≠0:=by omega
      have em:decide (0<Y)=true:=by simpa using J
      have fp:((Y:Int)==0)=false:=by simp;omega
      obtain⟨Z,hZ,o,bn⟩:∃ Z:Nat,Z=X%Y∧(X:Int)%Y=Z∧Z<Y:=⟨X%Y,rfl,by rw[← dx],aX _ J⟩;have cz:(X:Int).tmod Y=Z:=by rw[cY eK];exact o
      have ce:Hid (Nat.gcd Y Z=Nat.gcd a b):=by show Nat.gcd Y Z=Nat.gcd a b;rw[hZ,bL Y (X%Y),← eg,bL];exact U.out
      have cr:Hid (Z<Y):=bn;have cm:Hid (Y<18446744073709551616):=hY;have cn:Hid (0<Y):=J;have cy:Z<18446744073709551616:=by omega
      clear hZ hX hY bn;go_wp2_with fail;refine eV eM eM ?_;intro W hW;clear hW
      repeat (go_big_quiet_step (fail))
      refine wpQuiet_nil ?_;intro w5 bz;have cs:=aa R bz;clear bz;go_wp2_with fail
      try simp only[o]
      go_roundw
      case rel=>exact⟨Y,Z,rfl,by first|rfl|(rw[o])|(rw[cz]),cn.out,cm.out,cy,ce.out,cs⟩
      case measure=>have:=cr.out;simp only[intOf];omega
     ·obtain rfl:Y=0:=by omega
      have bu:X=Nat.gcd a b:=by rw[← U.out,cX]
      have ci:Hid (X=Nat.gcd a b):=bu;have HN:Hid (∀ w1:World,Num (w1.alloc (.cells #[.int .u64 (X:Int)] 78)) (.slice (some ⟨w1.heap.size,0,none⟩) 1 1) X):=fun w1=>iG hX eK;clear hX hY bu cx;go_wp2_with fail;go_ret;exact⟨_,rfl,G.alloc R _,by rw[← ci.out];exact HN.out _⟩
   ·have HN:=hi9 (nO wr u0 _ A B K hK ds hA hB I hle c);have ep:decide ((1:Int)<(k:Int)+2)=true:=by simp;omega
    have bv:numV wr (.slice (some ⟨bb,oo,none⟩) (k+2) cc)=B:=gE hB;have cl:=hi9 bv;have F:Hid (B≤A∧A<2^(64*K)):=⟨hle,I⟩;clear hA hB hle M I D c dr bq bv;go_wp2_with fail;refine eJ HN.out ?_;intro e w2 hs;obtain⟨X,Y,x,y,rfl,g2,hx,hy,bl,bi,bs⟩:=hs;have HX:Hid (Num w2 x X):=hx;have HY:Hid (Num w2 y Y):=hy;have HR:Hid (Y<X∧X≤B∧Nat.gcd X Y=Nat.gcd A B):=⟨bl,bi,bs⟩;have R:=aa hG g2;clear hx hy bl bi bs HN g2 hG;go_wp2_with fail
    go_roundw
    case rel=>
     obtain⟨r1,r2,r3⟩:=HR.out;obtain⟨l1,l2⟩:=F.out;exact⟨X,Y,HX.out,HY.out,by omega,by omega,by omega,r3.trans C.out,R⟩
    case measure=>
     obtain⟨r1,r2,r3⟩:=HR.out;have h1:=gE HY.out;have h2:=cl.out;show numV w2 y<numV wr _;rw[h1,h2];omega
 ·have eb:cmpV a b=0∨cmpV a b=1:=by unfold cmpV;rw[if_neg al];split;exact Or.inl rfl;exact Or.inr rfl
  have fr:decide (cmpV a b<0)=false:=by rcases eb with h|h<;>rw[h]<;>rfl
  have F:Hid (b≤a):=Nat.le_of_not_lt al;have L:Hid (0<a):=dk;have d:Hid (a<2^(64*K)):=cd;have C:Hid (Nat.gcd a b=Nat.gcd a b):=rfl;generalize cmpV a b=cv at *;clear al dk dl cd E eb;go_enter Tryz.func119,Tryz.ntmps119;go_wp2_with fail;refine eJ HC.out ?_;rintro e w1 ⟨rfl,O⟩;have HA:Hid (Num w1 va a):=ca.out.G O;have HB:Hid (Num w1 vb b):=cb.out.G O;clear ca cb HC;go_wp2_with fail;obtain⟨A0,i⟩:∃ A0,A0=a:=⟨_,rfl⟩;obtain⟨B0,j⟩:∃ B0,B0=b:=⟨_,rfl⟩;rw[← i] at HA F L d;rw[← j] at HB F;have C:Hid (Nat.gcd A0 B0=Nat.gcd a b):=by show Nat.gcd A0 B0=Nat.gcd a b;rw[i,j]
  clear i j
  go_loopw [0,1] (fun x y wr=>∃ A B:Nat,Num wr x A∧Num wr y B∧B≤A∧0<A∧A<2^(64*K)∧Nat.gcd A B=Nat.gcd a b∧G w wr) (fun _ y wr=>numV wr y)
  case atStart=>exact⟨A0,B0,HA.out,HB.out,F.out,L.out,d.out,C.out,O⟩
  case round=>
   clear HA HB F L d C O;obtain⟨A,B,hA,hB,hle,M,I,D,hG⟩:=hrel;have HA:Hid (Num wr u0 A):=hA;have C:Hid (Nat.gcd A B=Nat.gcd a b):=D;rcases gi hB with ⟨rfl,pa,pc,rfl⟩|⟨S,E,bb,oo,cc,rfl,en,dq,s⟩|⟨c,bb,oo,k,cc,rfl,dq,dr,bq⟩
   ·have HE:Hid (A=Nat.gcd a b):=by show A=Nat.gcd a b;rw[← D,cX]
    clear hA hB hle M I D C;go_wp2_with fail;go_ret;exact⟨_,rfl,hG,by rw[← HE.out];exact HA.out⟩
   ·have HD:=hi9 (gP wr u0 A B K eK hA I S E);have an:Hid (0<B):=S;have am:Hid (B<18446744073709551616):=E;have ao:Hid (A%B<18446744073709551616):=Nat.lt_trans (aX _ S) E;have N:Hid (Nat.gcd B (A%B)=Nat.gcd a b):=by show Nat.gcd B (A%B)=Nat.gcd a b;rw[bL B (A%B),← eg,bL];exact D
    clear hB hle M I D C S E hA HA;go_wp2_with fail;refine eJ HD.out ?_;intro e w2 hs;obtain⟨v2,rfl,g2,-⟩:=hs;have ap:=aa hG g2;obtain⟨X0,m⟩:∃ X0,X0=B:=⟨_,rfl⟩;obtain⟨Y0,J⟩:∃ Y0,Y0=A%B:=⟨_,rfl⟩;rw[← J] at ao N ⊢;rw[← m] at an am N;have C:Hid (Nat.gcd X0 Y0=Nat.gcd a b):=N.out;clear HD hG g2 J N;go_wp2_with fail;rw[← m];clear s m
    go_loopw [5,7] (fun vx vy wr=>∃ X Y:Nat,vx= .int .u64 X∧vy= .int .u64 Y∧0<X∧X<18446744073709551616∧Y<18446744073709551616∧Nat.gcd X Y=Nat.gcd a b∧G w wr) (fun _ vy _=>(intOf vy).toNat)
    case atStart=>exact⟨X0,Y0,rfl,rfl,an.out,am.out,ao.out,C.out,ap⟩
    case round=>
     obtain⟨X,Y,rfl,rfl,cx,hX,hY,D,R⟩:=hrel;have U:Hid (Nat.gcd X Y=Nat.gcd a b):=D;have ec:(X:Int)≤18446744073709551615:=by omega
     have ee:(Y:Int)≤18446744073709551615:=by omega
     clear D ap;by_cases J:0<Y
     ·have ed:(1:Int)≤Y:=by omega
      have ea:Y≠0:=by omega
      have em:decide (0<Y)=true:=by simpa using J
      have fp:((Y:Int)==0)=false:=by simp;omega
      obtain⟨Z,hZ,o,bn⟩:∃ Z:Nat,Z=X%Y∧(X:Int)%Y=Z∧Z<Y:=⟨X%Y,rfl,by rw[← dx],aX _ J⟩;have cz:(X:Int).tmod Y=Z:=by rw[cY eK];exact o
      have ce:Hid (Nat.gcd Y Z=Nat.gcd a b):=by show Nat.gcd Y Z=Nat.gcd a b;rw[hZ,bL Y (X%Y),← eg,bL];exact U.out
      have cr:Hid (Z<Y):=bn;have cm:Hid (Y<18446744073709551616):=hY;have cn:Hid (0<Y):=J;have cy:Z<18446744073709551616:=by omega
      clear hZ hX hY bn;go_wp2_with fail;refine eV eM eM ?_;intro W hW;clear hW
      repeat (go_big_quiet_step (fail))
      refine wpQuiet_nil ?_;intro w5 bz;have cs:=aa R bz;clear bz;go_wp2_with fail
      try simp only[o]
      go_roundw
      case rel=>exact⟨Y,Z,rfl,by first|rfl|(rw[o])|(rw[cz]),cn.out,cm.out,cy,ce.out,cs⟩
      case measure=>have:=cr.out;simp only[intOf];omega
     ·obtain rfl:Y=0:=by omega
      have bu:X=Nat.gcd a b:=by rw[← U.out,cX]
      have ci:Hid (X=Nat.gcd a b):=bu;have HN:Hid (∀ w1:World,Num (w1.alloc (.cells #[.int .u64 (X:Int)] 78)) (.slice (some ⟨w1.heap.size,0,none⟩) 1 1) X):=fun w1=>iG hX eK;clear hX hY bu cx;go_wp2_with fail;go_ret;exact⟨_,rfl,G.alloc R _,by rw[← ci.out];exact HN.out _⟩
   ·have HN:=hi9 (nO wr u0 _ A B K hK ds hA hB I hle c);have ep:decide ((1:Int)<(k:Int)+2)=true:=by simp;omega
    have bv:numV wr (.slice (some ⟨bb,oo,none⟩) (k+2) cc)=B:=gE hB;have cl:=hi9 bv;have F:Hid (B≤A∧A<2^(64*K)):=⟨hle,I⟩;clear hA hB hle M I D c dr bq bv;go_wp2_with fail;refine eJ HN.out ?_;intro e w2 hs;obtain⟨X,Y,x,y,rfl,g2,hx,hy,bl,bi,bs⟩:=hs;have HX:Hid (Num w2 x X):=hx;have HY:Hid (Num w2 y Y):=hy;have HR:Hid (Y<X∧X≤B∧Nat.gcd X Y=Nat.gcd A B):=⟨bl,bi,bs⟩;have R:=aa hG g2;clear hx hy bl bi bs HN g2 hG;go_wp2_with fail
    go_roundw
    case rel=>
     obtain⟨r1,r2,r3⟩:=HR.out;obtain⟨l1,l2⟩:=F.out;exact⟨X,Y,HX.out,HY.out,by omega,by omega,by omega,r3.trans C.out,R⟩
    case measure=>
     obtain⟨r1,r2,r3⟩:=HR.out;have h1:=gE HY.out;have h2:=cl.out;show numV w2 y<numV wr _;rw[h1,h2];omega
theorem qd (j k:Nat):Nat.Coprime (2*j+1) (2^k):=by
 refine Nat.Coprime.pow_right k ?_;show Nat.gcd (2*j+1) 2=1;rw[bL,eg,show (2*j+1)%2=1 from by omega];rfl
theorem kK (p q i d:Nat):Nat.gcd ((2*p+1)*2^i) ((2*q+1)*2^(i+d))=Nat.gcd (2*p+1) (2*q+1)*2^i:=by
 rw[ah,show (2*q+1)*(2^i*2^d)=(2*q+1)*2^d*2^i from by ac_rfl,Nat.gcd_mul_right]
 congr 1
 exact Nat.Coprime.gcd_mul_right_cancel_right _ (qd p d).symm
theorem q04 (p q i j:Nat):Nat.gcd ((2*p+1)*2^i) ((2*q+1)*2^j)=Nat.gcd (2*p+1) (2*q+1)*2^min i j:=by
 rcases Nat.le_total i j with h|h
 ·obtain⟨d,rfl⟩:∃ d,j=i+d:=⟨j-i,by omega⟩;rw[bM h];exact kK p q i d
 ·obtain⟨d,rfl⟩:∃ d,i=j+d:=⟨i-j,by omega⟩;rw[Nat.min_eq_right h,bL,kK q p j d,bL]
theorem jd {w:World} {b:Nat} {e:TypeId} (hb:b=w.heap.size):Num (w.alloc (.cells #[.int .u64 1] e)) (.slice (some ⟨b,0,none⟩) 1 1) 1:=by
 subst hb;exact iG (d:=1) ff ff
set_option maxRecDepth 10000 in
theorem iO (w:World) (va vb:Value) (a b K:Nat) (hK:K≤150000) (bq:1≤K) (ht:Tab w) (S:Num w va a) (hb:Num w vb b) (B:a<2^(64*K)) (C:b<2^(64*K)):
  Calls Tryz.prog 58 #[va,vb] w (eU w (Nat.gcd a b)):=by
 have HA:Hid (Num w va a):=S;have HB:Hid (Num w vb b):=hb;rcases bo a with E|E
 ·subst E;rcases gi S with ⟨-,pa,pc,rfl⟩|⟨h,-⟩|⟨h,-⟩
  ·rw[Nat.gcd_zero_left];clear S hb B C ht;go_enter Tryz.func58,Tryz.ntmps58;go_wp2_with fail;go_ret;exact⟨_,rfl,ag _,HB.out⟩
  ·omega
  ·omega
 ·have bn:∃ pa na ca,va= .slice pa na ca∧(((na:Nat):Int)==0)=false∧0<na:=by
   rcases gi S with ⟨h,-⟩|⟨-,-,b,o,c,rfl,-⟩|⟨-,b,o,k,c,rfl,-⟩
   ·omega
   ·exact⟨_,1,c,rfl,rfl,by omega⟩
   ·exact⟨_,k+2,c,rfl,by simp;omega,by omega⟩
  rcases bo b with N|N
  ·subst N;rcases gi hb with ⟨-,pb,pc,rfl⟩|⟨h,-⟩|⟨h,-⟩
   ·rw[cX];obtain⟨pa,na,ca,rfl,bu,-⟩:=bn;clear S hb B C ht E;go_enter Tryz.func58,Tryz.ntmps58;go_wp2_with fail;go_ret;exact⟨_,rfl,ag _,HA.out⟩
   ·omega
   ·omega
  ·have bs:∃ pa na ca,vb= .slice pa na ca∧(((na:Nat):Int)==0)=false∧0<na:=by
    rcases gi hb with ⟨h,-⟩|⟨-,-,b,o,c,rfl,-⟩|⟨-,b,o,k,c,rfl,-⟩
    ·omega
    ·exact⟨_,1,c,rfl,rfl,by omega⟩
    ·exact⟨_,k+2,c,rfl,by simp;omega,by omega⟩
   obtain⟨p,i,hp⟩:=jU a E;obtain⟨q,j,hq⟩:=jU b N;have hi:i<64*K:=by
    have:2^i≤a:=by rw[hp];exact dP _ eK
    exact(aY (by omega:1<2)).1 (aq this B)
   have hj:j<64*K:=by
    have:2^j≤b:=by rw[hq];exact dP _ eK
    exact(aY (by omega:1<2)).1 (aq this C)
   have L:=hi9 (kD w va a p i K eK ht S B hp);have M:Hid (∀ A,G w A→_):=fun A g=>kD A vb b q j K eK (ht.G g) (hb.G g) C hq;have J:Hid (∀ A,G w A→Calls Tryz.prog 117 #[va] A fun e w'=>e= .returned (.int .i64 (blen a))∧G A w'):=fun A g=>jF A va a K eK (S.G g) B;have R:Hid (∀ A,G w A→Calls Tryz.prog 117 #[vb] A fun e w'=>e= .returned (.int .i64 (blen b))∧G A w'):=fun A g=>jF A vb b K eK (hb.G g) C;have F:=lf (p:=p) (n:=i);have O:=lf (p:=q) (n:=j);rw[← hp] at F;rw[← hq] at O;have U:a/2^i=2*p+1:=by rw[hp,cN _ (af i)]
   have W:b/2^j=2*q+1:=by rw[hq,cN _ (af j)]
   have am:2*p+1≤a:=by rw[← U];exact aN _ _
   have an:2*q+1≤b:=by rw[← W];exact aN _ _
   obtain⟨m,hm⟩:∃ m,m=min i j:=⟨_,rfl⟩;have Z:Nat.gcd (2*p+1) (2*q+1)<2^(64*K):=by
    have:=Nat.gcd_le_left (2*q+1) (show 0<2*p+1 by omega);omega
   have d:Hid (∀ A x,Num A x (Nat.gcd (2*p+1) (2*q+1))→Calls Tryz.prog 118 #[x,.int .i64 (m:Int)] A (eU A (Nat.gcd a b))):=fun A x hx=>by
    have h:=iC A x _ m K eK eK hx Z;rw[hm,← q04,← hp,← hq] at h;rw[hm];exact h
   have al:Hid (min (i:Int) j=(m:Int)):=by show min (i:Int) j=(m:Int);omega
   obtain⟨pa,na,ca,rfl,bu,-⟩:=bn;obtain⟨pb,nb,cb,rfl,cc,-⟩:=bs;have bv:(i:Int)<9600000:=by omega
   have bz:(j:Int)<9600000:=by omega
   by_cases I:p=0
   ·have t1:(((i:Int)+1)==(blen a:Int))=true:=by have:=F.2 I;simp;omega
    rw[I,bm,aD,Nat.gcd_one_left] at d;generalize blen a=s at *;clear S hb B C ht E N hp hq hi hj U W am an Z HA HB F O R I;go_enter Tryz.func58,Tryz.ntmps58;go_wp2_with fail;refine eJ L.out ?_;rintro e A ⟨rfl,g1⟩;have HT:=hi9 (M.out A g1);clear L M;go_wp2_with fail;refine eJ HT.out ?_;rintro e w2 ⟨rfl,g2⟩;have g12:=aa g1 g2;have HS:=hi9 (J.out w2 g12);clear HT J g1 g2;go_wp2_with fail;refine eJ HS.out ?_;rintro e w3 ⟨rfl,g3⟩;have g13:=aa g12 g3;clear HS g12 g3;go_wp2_with fail;have D:=hi9 (d.out _ _ (jd (w:=w3) (e:=78) rfl));have g15:=G.alloc g13 (.cells #[.int .u64 1] 78);clear d g13;rw[al.out];refine eJ D.out ?_;intro e w8 Y;obtain⟨r,rfl,g6,hr⟩:=Y;have HN:Hid (Num w8 r (Nat.gcd a b)):=hr;clear D hr;go_wp2_with fail;go_ret;exact⟨_,rfl,aa g15 g6,HN.out⟩
   by_cases X:q=0
   ·have t1:(((i:Int)+1)==(blen a:Int))=false:=by have:=fun h=>I (F.1 h);simp;omega
    have t2:(((j:Int)+1)==(blen b:Int))=true:=by have:=O.2 X;simp;omega
    rw[X,bm,aD,cS] at d;generalize blen a=s at *;generalize blen b=s2 at *;clear S hb B C ht E N hp hq hi hj U W am an Z HA HB F O I X;go_enter Tryz.func58,Tryz.ntmps58;go_wp2_with fail;refine eJ L.out ?_;rintro e A ⟨rfl,g1⟩;have HT:=hi9 (M.out A g1);clear L M;go_wp2_with fail;refine eJ HT.out ?_;rintro e w2 ⟨rfl,g2⟩;have g12:=aa g1 g2;have HS:=hi9 (J.out w2 g12);clear HT J g1 g2;go_wp2_with fail;refine eJ HS.out ?_;rintro e w3 ⟨rfl,g3⟩;have g13:=aa g12 g3;clear HS g12 g3;go_wp2_with fail;refine eJ (R.out w3 g13) ?_;rintro e w4 ⟨rfl,g4⟩;have g12:=aa g13 g4;clear R g13 g4;go_wp2_with fail;have D:=hi9 (d.out _ _ (jd (w:=w4) (e:=78) rfl));have g15:=G.alloc g12 (.cells #[.int .u64 1] 78);clear d g12;rw[al.out];refine eJ D.out ?_;intro e w8 Y;obtain⟨r,rfl,g6,hr⟩:=Y;have HN:Hid (Num w8 r (Nat.gcd a b)):=hr;clear D hr;go_wp2_with fail;go_ret;exact⟨_,rfl,aa g15 g6,HN.out⟩
   have t1:(((i:Int)+1)==(blen a:Int))=false:=by have:=fun h=>I (F.1 h);simp;omega
   have t2:(((j:Int)+1)==(blen b:Int))=false:=by have:=fun h=>X (O.1 h);simp;omega
   have bi:Hid (∀ A,G w A→Calls Tryz.prog 120 #[.slice pa na ca,.int .i64 (i:Int)] A (eU A (2*p+1))):=fun A g=>by
    have h:=ig A _ a i K eK eK (S.G g) B;rw[U] at h;exact h
   have bl:Hid (∀ A,G w A→Calls Tryz.prog 120 #[.slice pb nb cb,.int .i64 (j:Int)] A (eU A (2*q+1))):=fun A g=>by
    have h:=ig A _ b j K eK eK (hb.G g) C;rw[W] at h;exact h
   have HE:Hid (∀ A x y,Num A x (2*p+1)→Num A y (2*q+1)→_):=fun A x y hx hy=>rY A x y (2*p+1) (2*q+1) K eK bq hx hy eK eK eK eK;generalize blen a=s at *;generalize blen b=s2 at *;clear S hb B C ht E N hp hq hi hj U W am an Z HA HB F O I X;generalize Nat.gcd (2*p+1) (2*q+1)=gg at *;generalize 2*p+1=P at *;generalize 2*q+1=Q at *;go_enter Tryz.func58,Tryz.ntmps58;go_wp2_with fail;refine eJ L.out ?_;rintro e A ⟨rfl,g1⟩;have HT:=hi9 (M.out A g1);clear L M;go_wp2_with fail;refine eJ HT.out ?_;rintro e w2 ⟨rfl,g2⟩;have g12:=aa g1 g2;have HS:=hi9 (J.out w2 g12);clear HT J g1 g2;go_wp2_with fail;refine eJ HS.out ?_;rintro e w3 ⟨rfl,g3⟩;have g13:=aa g12 g3;clear HS g12 g3;go_wp2_with fail;refine eJ (R.out w3 g13) ?_;rintro e w4 ⟨rfl,g4⟩;have g12:=aa g13 g4;clear R g13 g4;go_wp2_with fail;have HR:=hi9 (bi.out w4 g12);clear bi;refine eJ HR.out ?_;intro e w5 Y;obtain⟨x,rfl,g3,hx⟩:=Y;have g13:=aa g12 g3;have HX:Hid (Num w5 x P):=hx;have ap:Hid _:=bl.out w5 g13;clear HR bl g12 g3 hx;go_wp2_with fail;refine eJ ap.out ?_;intro e w6 Y;obtain⟨y,rfl,g4,hy⟩:=Y;have ao:=hi9 (HE.out w6 x y (HX.out.G g4) hy);have g14:=aa g13 g4;clear ap HE HX hy g13 g4;go_wp2_with fail;refine eJ ao.out ?_;intro e w7 Y;obtain⟨z,rfl,g5,hz⟩:=Y;have D:=hi9 (d.out w7 z hz);have g15:=aa g14 g5;clear ao d hz g14 g5;go_wp2_with fail;rw[al.out];refine eJ D.out ?_;intro e w8 Y;obtain⟨r,rfl,g6,hr⟩:=Y;have HN:Hid (Num w8 r (Nat.gcd a b)):=hr;clear D hr;go_wp2_with fail;go_ret;exact⟨_,rfl,aa g15 g6,HN.out⟩
def sgn (s:Bool) (n:Nat):Int:=if s then -(n:Int) else n
/-- A sign and a size; of 0 any sign. -/
def WholeS (w:World) (v:Value) (s:Bool) (n:Nat):Prop:=∃ a k c,v= .agg #[.bool s,.slice a k c]∧Num w (.slice a k c) n
/-- v is the whole number z. -/
def WholeIs (w:World) (v:Value) (z:Int):Prop:=WholeS w v (decide (z<0)) z.natAbs
theorem WholeS.G {w A:World} {v:Value} {s:Bool} {n:Nat} (h:WholeS w v s n) (g:G w A):WholeS A v s n:=by
 obtain⟨a,k,c,e,B⟩:=h;exact⟨a,k,c,e,B.G g⟩
theorem WholeIs.G {w A:World} {v:Value} {z:Int} (h:WholeIs w v z) (g:G w A):WholeIs A v z:=WholeS.G h g
/-- A block without words isn't one that a number lies in. -/
def gW:Value→Prop
 | .int _ _=>False
 |_=>True
theorem jo {w:World} {v:Value} {n b:Nat} {l:List Value} (h:Num w v n) (r:Rec w b l) (M:∀ x∈l,gW x):∀ A:World,(∀ i k,i≠b→A.cell? ⟨i,k,none⟩=w.cell? ⟨i,k,none⟩)→w.heap.size≤A.heap.size→Num A v n:=by
 intro A L N;obtain⟨m,E,D,hv⟩:=h;refine⟨m,?_,D,hv⟩;rcases Sl.cases E with ⟨rfl,a,c,rfl⟩|⟨F,I,o,c,rfl,C,hb,K⟩
 ·exact⟨E.1,Or.inl ⟨rfl,a,c,rfl⟩⟩
 ·have B:I≠b:=by
   intro e;subst e;have J:=K 0 (bS.2 F);rw[r.cell] at J;have h1:=M _ (cq J);exact h1
  exact⟨E.1,Or.inr ⟨I,o,c,rfl,C,by omega,fun i hi=>by rw[L _ _ B];exact K i hi⟩⟩
theorem gS {w:World} {v:Value} {n b:Nat} {x y u1 u2:Value} (h:Num w v n) (r:Rec w b [x,y]) (C:gW x) (D:gW y):Num ((w.setCell ⟨b,0,none⟩ u1).setCell ⟨b,1,none⟩ u2) v n:=
 jo h r (by intro z B;simp at B;rcases B with rfl|rfl<;>assumption) _ (fun i k hi=>by
  rw[World.cell?_setCell_other _ _ _ _ (by intro e;injection e with A;exact hi A.symm),World.cell?_setCell_other _ _ _ _ (by intro e;injection e with A;exact hi A.symm)]) (by simp [World.setCell])
theorem eT {w:World} {v:Value} {n b:Nat} {x y z u1 u2 u3:Value} (h:Num w v n) (r:Rec w b [x,y,z]) (C:gW x) (D:gW y) (B:gW z):Num (((w.setCell ⟨b,0,none⟩ u1).setCell ⟨b,1,none⟩ u2).setCell ⟨b,2,none⟩ u3) v n:=
 jo h r (by intro z B;simp at B;rcases B with rfl|rfl|rfl<;>assumption) _ (fun i k hi=>by
  rw[World.cell?_setCell_other _ _ _ _ (by intro e;injection e with A;exact hi A.symm),World.cell?_setCell_other _ _ _ _ (by intro e;injection e with A;exact hi A.symm),World.cell?_setCell_other _ _ _ _ (by intro e;injection e with A;exact hi A.symm)]) (by simp [World.setCell])
theorem gu (z:Int):sgn (decide (z<0)) z.natAbs=z:=by
 unfold sgn;by_cases h:z<0<;>simp [h]<;>omega
theorem iE (s:Bool) (n:Nat):(sgn s n).natAbs=n:=by unfold sgn;cases s<;>simp
theorem qc (s:Bool) (n:Nat):decide (sgn s n<0)=(s&&decide (0<n)):=by
 unfold sgn;cases s<;>simp
/-- A call hands back the whole number z. -/
def fj (w:World) (z:Int) (e:Ending) (A:World):Prop:=∃ v,e= .returned v∧G w A∧WholeIs A v z
/-- The length of a slice tells whether its number is 0. -/
theorem gv {w:World} {v:Value} {n:Nat} (h:Num w v n):∃ a k c,v= .slice a k c∧(k=0↔n=0)∧decide (0<k)=decide (0<n)∧(((k:Nat):Int)==0)=decide (n=0):=by
 rcases gi h with ⟨rfl,a,c,rfl⟩|⟨h1,-,b,o,c,rfl,-⟩|⟨h1,b,o,k,c,rfl,-⟩
 ·exact⟨a,0,c,rfl,by omega,rfl,rfl⟩
 ·exact⟨_,1,c,rfl,by omega,by rw[decide_eq_true h1];rfl,by rw[decide_eq_false (by omega:¬ n=0)];rfl⟩
 ·exact⟨_,k+2,c,rfl,by omega,by rw[decide_eq_true (by omega:0<n)];simp,by rw[decide_eq_false (by omega:¬ n=0)];simp;omega⟩
theorem fO (w:World) (m:Value) (s:Bool) (n:Nat) (A:Num w m n):
  Calls Tryz.prog 62 #[.bool s,m] w (fj w (sgn s n)):=by
 obtain⟨a,k,c,rfl,-,D,-⟩:=gv A;have B:Hid (Num w (.slice a k c) (sgn s n).natAbs):=by show Num w _ _;rw[iE];exact A
 have C:Hid (decide (sgn s n<0)=(s&&decide (0<n))):=qc s n;generalize sgn s n=z at *;generalize decide (0<n)=p at *;clear A;cases s
 ·go_enter Tryz.func62,Tryz.ntmps62;go_wp2_with fail;refine bodyPost_ret (v:= .agg #[.bool false,.slice a k c]) (by simp [results,Tryz.results62,go_sem, *]) rfl ?_;exact⟨_,rfl,(ag _).alloc _,a,k,c,by rw[C.out];rfl,B.out.G ((ag _).alloc _)⟩
 ·go_enter Tryz.func62,Tryz.ntmps62;go_wp2_with fail;refine bodyPost_ret (v:= .agg #[.bool (decide (0<k)),.slice a k c]) (by simp [results,Tryz.results62,go_sem, *]) rfl ?_;exact⟨_,rfl,(ag _).alloc _,a,k,c,by rw[C.out,D];rfl,B.out.G ((ag _).alloc _)⟩
theorem nj (w:World) (v:Value) (z:Int) (h:WholeIs w v z):
  Calls Tryz.prog 67 #[v] w fun e O=>e= .returned (.int .i64 z.sign)∧G w O:=by
 obtain⟨a,k,c,rfl,J⟩:=h;obtain⟨a2,S,R,e,A,-,F⟩:=gv J;injection e with K L M;subst K;subst L;subst M;clear J;by_cases E:z=0
 ·subst E;have I:k=0:=A.2 rfl;subst I;go_enter Tryz.func67,Tryz.ntmps67;go_wp2_with fail;go_ret;exact⟨rfl,(ag _).alloc _⟩
 ·have N:((k:Int)==0)=false:=by rw[F];simp;omega
  by_cases D:z<0
  ·have B:decide (z<0)=true:=decide_eq_true D;have C:z.sign= -1:=dI D;rw[C,B];clear F A E D B C;go_enter Tryz.func67,Tryz.ntmps67;go_wp2_with fail;go_ret;exact⟨rfl,(ag _).alloc _⟩
  ·have B:decide (z<0)=false:=decide_eq_false D;have C:z.sign=1:=dz eK;rw[C,B];clear F A E D B C;go_enter Tryz.func67,Tryz.ntmps67;go_wp2_with fail;go_ret;exact⟨rfl,(ag _).alloc _⟩
theorem p6 (w:World) (v:Value) (z:Int) (K:Nat) (hK:K≤1000000) (h:WholeIs w v z) (hz:z.natAbs<2^(64*K)):
  Calls Tryz.prog 63 #[v] w (fj w (-z)):=by
 obtain⟨a,k,c,rfl,hm⟩:=h;have i:Hid (∀ B,G w B→_):=fun B g=>lj B (.slice a k c) _ K hK (hm.G g) hz;have j:Hid (∀ B v,Num B v z.natAbs→Calls Tryz.prog 62 #[.bool (!decide (z<0)),v] B (fj B (-z))):=fun B v hv=>by
  have h:=fO B v (!decide (z<0)) _ hv;rw[show sgn (!decide (z<0)) z.natAbs= -z from by unfold sgn;by_cases h:z<0<;>simp [h]<;>omega] at h;exact h
 generalize z.natAbs=n at *;generalize decide (z<0)=s at *;generalize -z=y at *;clear hm hz;go_enter Tryz.func63,Tryz.ntmps63;go_wp2_with fail;obtain⟨w0,O,g0,an,R0,X⟩:=iy w [.bool s,.slice a k c] [.bool false,.slice none 0 0] 27 27;rw[O];clear O;refine jy 7 1 [.is (.pointer (some ⟨w.heap.size,0,none⟩)),.is (.bool s),.is (.bool (!s)),.is (.pointer (some ⟨w.heap.size,1,none⟩)),.is (.slice a k c),.any (fun v d=>Num d v (n)),.any (fun v d=>WholeIs d v (y))] [some 3,some 4,some 5,some 6,some 7,some 8,some 9] ?_;intro v5 v6 A m;simp only[fg,Act.put,aj,au,av] at m;subst m;refine⟨?_,?_⟩
 ·skip
  refine ab rfl ?a1 (ab rfl ?a6 (ab rfl ?a7 (ab rfl ?o1_3 (ab rfl ?o1_4 (ab rfl ?a8 (ab rfl ?b0 (bQ)))))))
  case a1|a7|o1_3=>
   exact iX
  case a6|o1_4=>
   intro W R hD K hK;clear hD;have ⟨Y,Z⟩:=rc29 R0 R;go_simp;exact hK.out _ _ ⟨_,rfl,ag _,rfl⟩
  ·intro W R hD K hK;have hc:=hi9 (i.out W (aa g0 R));exact gH
  ·intro W R hD K hK;have h5:=gL v5 5 hD;have hc:=hi9 (j.out W v5 h5);exact gH
 intro B g1 hH;have h6:=iW v6 6 hH;clear hH;clear i j;obtain⟨a9,E,D,rfl,N⟩:=h6;have S:Hid (Num B (.slice a9 E D) (y).natAbs):=N;obtain⟨t9,C⟩:∃ t,t=decide ((y)<0):=⟨_,rfl⟩;rw[← C];have U:Hid (t9=decide ((y)<0)):=C;clear N C;obtain⟨I,J,L,M⟩:=iD X (g1);refine wpAny_ready (rs:=[7]) eM fI ?_;refine AllReady.cons rfl (fun K hK=> ?_) AllReady.nil;go_simp;refine hK _ _ ?_;clear hK K I J L M;refine wpAny_done eM ?_ _;have F:Num _ _ _:=gS (u1:= .bool t9) (u2:= .slice a9 E D) S.out (aM X.out (g1)) trivial trivial;go_wp2_with fail;have hT:Hid (Rec _ (w.heap.size+1) [.bool t9,.slice a9 E D]):=Rec.set2 (aM X.out (g1));have g9:=Rec.h2 hT.out (aa g0 g1) eK;generalize (World.setCell (World.setCell B ⟨w.heap.size+1,0,none⟩ (.bool t9)) ⟨w.heap.size+1,1,none⟩ (.slice a9 E D))=w9 at *;obtain⟨o,e,al,am⟩:=iD hT (((ag _)));refine bodyPost_ret (v:= .agg #[.bool t9,.slice a9 E D]) (by simp [results,Tryz.results63,go_sem, *]) rfl ?_;exact⟨_,rfl,g9,a9,E,D,by rw[← U.out],F⟩
end Go.Proofs.YtfnkkkcojnffdaaGreatDoor.EN
