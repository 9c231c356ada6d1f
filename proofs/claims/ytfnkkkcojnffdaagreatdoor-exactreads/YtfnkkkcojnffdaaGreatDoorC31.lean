/- What is proved here: contracts of package exact: divide, over this seat's translation.
What is proved here: contracts of package exact: divide, over, over this seat's translation.
What is proved here: contracts of package exact: root, over this seat's translation.
What is proved here: Lehmer's steps, their arithmetic (no program).
What is proved here: contracts of package exact: shares, over this seat's translation.
What is proved here: contracts of package exact: mix, over this seat's translation.
What is proved here: contracts of package exact: nearer, over this seat's translation.
What is proved here: contracts of package exact: euclid, over this seat's translation.
What is proved here: contracts of package exact: common, over this seat's translation.
What is proved here: contracts of package exact: whole numbers with a sign, over this seat's translation.
What is proved here: contracts of package exact: fractions are made, over this seat's translation. -/
import Derived.Test.YtfnkkkcojnffdaaGreatDoorC1
import Derived.Test.YtfnkkkcojnffdaaGreatDoorC8
import Derived.Test.YtfnkkkcojnffdaaGreatDoorC3
import Derived.Test.YtfnkkkcojnffdaaGreatDoorC22
import Derived.Test.YtfnkkkcojnffdaaGreatDoorC30
import Derived.Test.YtfnkkkcojnffdaaGreatDoorC6
import Derived.Test.YtfnkkkcojnffdaaGreatDoorC23
namespace Go.Proofs.YtfnkkkcojnffdaaGreatDoor.EN
open Go.ChangeShapes Go.WideShapes Go.ChangeAt Go.RowKit
/-- A quotient and a rest, both numbers. -/
def mZ (w:World) (q r:Nat) (e:Ending) (A:World):Prop:=∃ B v2,e= .returned (.tuple #[B,v2])∧G w A∧Num A B q∧Num A v2 r
theorem km (w:World) (va J:Value) (a b K:Nat) (S:K≤400000) (I:Num w va a) (hb:Num w J b) (B:a<2^(64*K)) (D:b<2^(64*K)) (A:a<b):
  Calls Tryz.prog 71 #[va,J] w (mZ w (a/b) (a%b)):=by
 have F:=hi9 (gN w va J a b K dT I hb B D);rw[show cmpV a b= -1 from by unfold cmpV;rw[if_pos A]] at F;have L:Hid (∀ E,G w E→_):=fun E g=>pA E va a K dT (I.G g) B;rw[aN A,aM A];clear I hb B D A;go_enter Tryz.func71,Tryz.ntmps71;go_wp2_with fail;refine dS F.out ?_;rintro e E ⟨rfl,g1⟩;have C:=hi9 (L.out E g1);clear L F;go_wp2_with fail;refine dS C.out ?_;intro e R O;obtain⟨v,rfl,g2,M⟩:=O;have N:Hid (Num R v a):=M;clear M C;go_wp2_with fail
 go_ret2
 exact⟨_,v,rfl,aa g1 g2,⟨[],⟨fb,Or.inl ⟨rfl,_,_,rfl⟩⟩,eQ,rfl⟩,N.out⟩
theorem l8 (w:World) (va s:Value) (a b K:Nat) (hK:K≤400000) (Z:Num w va a) (hb:Num w s b) (D:a<2^(64*K)) (J:b<2^64) (I:0<b) (d:b≤a) (al:1≤K):
  Calls Tryz.prog 71 #[va,s] w (mZ w (a/b) (a%b)):=by
 have X:=hi9 (gN w va s a b K dT Z hb D dT);have O:cmpV a b=0∨cmpV a b=1:=by unfold cmpV;rw[if_neg dT];split;exact Or.inl rfl;exact Or.inr rfl
 have an:decide (cmpV a b<0)=false:=by rcases O with h|h<;>rw[h]<;>rfl
 have y:Hid (∀ W,G w W→_):=fun W g=>fj W va a b K dT (Z.G g) D I J;have HW:Hid _:=fun w=>iT w (a%b) (by have:=aU a I;omega);obtain⟨m,hm,N,A⟩:=hb;have i:=dX (k:=1) N (by rw[A];simpa using J);have B:m≠[]:=by intro e;rw[e] at A;simp [val] at A;omega
 have R:m.length=1:=by have:=bD.2 B;omega
 have L:m.getD 0 0=b:=by
  have:=ew (l:=m) (k:=0) dT;rw[aL (show m.length≤0+1 by omega),A] at this;simpa [val] using this.symm
 obtain⟨pb,cb,rfl,c,U⟩:=ei hm;obtain⟨b1,o1,rfl,C,E⟩:=U 0 dT;rw[L,aP] at E;rw[R] at X ⊢;generalize cmpV a b=cv at *;have am:(b:Int)≤18446744073709551615:=by omega
 clear Z U hm N A i B R L c D d hK O;go_enter Tryz.func71,Tryz.ntmps71;go_wp2_with fail;refine dS X.out ?_;rintro e W ⟨rfl,g1⟩;have M:=g1.cell C E;have o:=ad C g1.size;have F:=hi9 (y.out W g1);clear X y E C;go_wp2_with fail;refine dS F.out ?_;intro e w2 j;obtain⟨v,rfl,g2,hn⟩:=j;have HN:Hid (Num w2 v (a/b)):=hn;clear hn F M o;go_wp2_with fail;refine dS (HW.out _) ?_;intro e w3 j;obtain⟨v2,rfl,g3,S⟩:=j;have Y:Hid (Num w3 v2 (a%b)):=S;clear S HW;go_wp2_with fail
 go_ret2
 exact⟨v,v2,rfl,aa (aa g1 g2) g3,HN.out.G g3,Y.out⟩
theorem Own.gb {w B:World} {b c o n:Nat} {l:List Nat} (h:Own w b l) (g:GB c o n w B) (A:b≠c):Own B b l:=by
 have hb:=g.gx.block b h.2.1 (by intro e;cases e;exact A rfl);refine⟨h.1,ad h.2.1 g.size,fun i hi=> ?_,fun i hi=> ?_⟩
 ·exact(World.cell?_of_block hb).trans (h.2.2.1 i hi)
 ·exact(World.frozen?_of_block hb).trans (h.2.2.2 i hi)
theorem Own.setOther {w:World} {b c i:Nat} {l:List Nat} {u:Value} (h:Own w b l) (A:b≠c):Own (w.setCell ⟨c,i,none⟩ u) b l:=
 ⟨h.1,by simpa [World.setCell] using h.2.1,h.2.2.1.set A,fun j B=>by rw[World.frozen?_setCell];exact h.2.2.2 j B⟩
theorem Sl.setOther {w:World} {B D cv m c i:Nat} {vl:List Nat} {u:Value} (h:Sl w (.slice (some ⟨B,D,none⟩) m cv) vl) (C:B≠c):Sl (w.setCell ⟨c,i,none⟩ u) (.slice (some ⟨B,D,none⟩) m cv) vl:=by
 refine⟨h.1,?_⟩;rcases h.2 with ⟨h1,h2⟩|⟨J,K,c1,e,h1,h2,h3⟩
 ·exact Or.inl ⟨h1,h2⟩
 ·injection e with A E F;injection A with A;injection A with A I;subst A;subst I;subst E;subst F;exact Or.inr ⟨B,D,cv,rfl,h1,by simpa [World.setCell] using h2,h3.set C⟩
set_option maxHeartbeats 4000000 in
set_option maxRecDepth 100000 in
theorem l7 (w:World) (va vb:Value) (a b K:Nat) (X:K≤400000) (ha:Num w va a) (hb:Num w vb b) (cx:a<2^(64*K)) (dk:b<2^(64*K)) (re:b≤a) (ms:2^64≤b):
  Calls Tryz.prog 71 #[va,vb] w (mZ w (a/b) (a%b)):=by
 have HC:=hi9 (gN w va vb a b K dT ha hb cx dk);have E:cmpV a b=0∨cmpV a b=1:=by unfold cmpV;rw[if_neg dT];split;exact Or.inl rfl;exact Or.inr rfl
 have rv:decide (cmpV a b<0)=false:=by rcases E with h|h<;>rw[h]<;>rfl
 obtain⟨l,hl,B,I⟩:=ha;obtain⟨m,hm,Y,cd⟩:=hb;have rh:=dX B (by rw[I];exact cx);have rj:=dX Y (by rw[cd];exact dk);have ol:2≤m.length:=by
  by_cases h:2≤m.length
  ·exact h
  ·have h1:=eo Y.1;have h2:2^(64*m.length)≤2^(64*1):=ak dT dT;rw[cd] at h1;omega
 have oj:m.length≤l.length:=by
  by_cases h:m.length≤l.length
  ·exact h
  ·have:=eE B Y dT;omega
 obtain⟨n,hn⟩:∃ n,m.length=n+1:=⟨m.length-1,by omega⟩;obtain⟨s,s1,s2,s3,s4,s5⟩:=iG Y hn;rw[cd] at s3 s4 s5;have hx:=dW Y.1 n;have hy:Hid _:=fun w=>Tryz.bits_LeadingZeros64 (m.getD n 0:Int) w dT dT;rw[Int.toNat_natCast,← s2] at hy;have hw:Hid (∀ w1,G w w1→_):=fun w1 g=>gR w1 vb b s K dT dT (Num.G ⟨m,hm,Y,cd⟩ g) dk;have kv:Hid (∀ w1,G w w1→_):=fun w1 g=>gR w1 va a s K dT dT (Num.G ⟨l,hl,B,I⟩ g) cx;obtain⟨pa,ca,rfl,rc,-⟩:=ei hl;obtain⟨pb,cb,rfl,oa,jj⟩:=ei hm;obtain⟨b1,o1,rfl,ii,nl⟩:=jj n dT;generalize m.getD n 0=top at *;have oi:2^(64*l.length)>a:=by have:=eo B.1;rw[I] at this;exact this
 generalize ri:l.length=A at *;rw[hn] at HC hw oj ol oa jj ⊢;generalize cmpV a b=cv at *;have y:Hid (a<2^(64*A)):=oi;have ci:Hid (b*2^s<2^(64*(n+1))):=s3;have pu:Hid (2^(64*n)≤b):=s4;have ll:Hid (2^(64*n)≤b*2^s):=s5;have am:Hid (0<b):=by show 0<b;omega
 have sa:(n:Int)≤400000:=by omega
 have rz:(A:Int)≤400000:=by omega
 have sb:(n:Int)+1≤A:=by omega
 have it:(1:Int)≤n:=by omega
 have sc:(s:Int)≤63:=by omega
 have sd:((n:Int)+1==1)=false:=by simp;omega
 clear hl B I hm Y cd rh rj hx jj oi ri rc oa s1 s2 s3 s4 s5 E re ms cx dk hn oj ol;go_enter Tryz.func71,Tryz.ntmps71;go_wp2_with fail;refine dS HC.out ?_;rintro e w1 ⟨rfl,g1⟩;have np:=g1.cell ii nl;have rk:=ad ii g1.size;clear HC nl ii;go_wp2_with fail;refine dS (hy.out _) ?_;rintro e w2 ⟨rfl,rfl⟩;clear hy np rk;have ek:=hi9 (hw.out _ g1);clear hw;go_wp2_with fail;refine dS ek.out ?_;intro e w3 hs;obtain⟨v,rfl,g3,dq⟩:=hs;have lb:Hid (Num w3 v (b*2^s)):=dq;have g13:=aa g1 g3;clear dq ek g1 g3;have oo:=fc (A+1) dT;rw[show ((A+1:Nat):Int)=(A:Int)+1 from by omega] at oo;go_wp2_with fail;have c:=hi9 (eA w3 (A+1) 78);have dl:G w3 (w3.alloc (.cells (madeCells #[.int .u64 0] (A+1)) 78)):=(af _).alloc _;obtain⟨vl,C,Z,ce⟩:=lb.out;have I:vl.length=n+1:=by
  have k1:=dX Z (by rw[ce];exact ci.out);by_cases h:n+1≤vl.length
  ·omega
  ·have k2:=eo Z.1;have k3:2^(64*vl.length)≤2^(64*n):=ak dT dT;have:=ll.out;omega
 have rl:=gi Z I;obtain⟨pv,N,rfl,E,pm⟩:=ei C;obtain⟨L,ov,rfl,qt,-⟩:=pm n dT;rw[I] at C E ⊢;have hp:=C.G dl;have G4:=aa g13 dl;have ec:=hi9 (kv.out _ G4);have dr:w3.heap.size<(w3.alloc (.cells (madeCells #[.int .u64 0] (A+1)) 78)).heap.size:=by simp
 generalize w3.alloc (.cells (madeCells #[.int .u64 0] (A+1)) 78)=w4 at *;have kb:=g13.size;obtain⟨U,nc⟩:∃ U,U=w3.heap.size:=⟨_,rfl⟩;rw[← nc] at c qt kb dr ⊢;have cl:Hid (Sl w4 (.slice (some ⟨L,ov,none⟩) (n+1) N) vl):=hp;have px:Hid (vl.length=n+1):=I;have ih:Hid (val vl=b*2^s):=ce;have qa:Hid (0<vl.getD n 0):=by show 0<vl.getD n 0;omega
 have ng:L<w4.heap.size:=by omega
 have hd:L≠U:=by omega
 have fv:Hid (Sl w3 (.slice (some ⟨L,ov,none⟩) (n+1) N) vl):=C;clear C hp Z ce I rl pm E kv lb ll oo cl;refine dS ec.out ?_;intro e w5 hs;obtain⟨v2,rfl,g5,dq⟩:=hs;obtain⟨al,jp,he,cc⟩:=dq;have hc:al.length≤A+1:=by
  refine dX he ?_;rw[cc];have h1:a*2^s<2^(64*A)*2^s:=aD y.out (ae s);rw[← ah] at h1;exact ad h1 (ak dT dT)
 have hh:=Own.grow c.out g5;obtain⟨w6,pi,bz,io⟩:=kX (w0:=w3) (n:=A+1) (va:=v2) hh eO jp hc (aa dl g5) dT 3;have hq:(al++(List.replicate (A+1) 0).drop al.length).length=A+1:=by rw[ag,bO,List.length_replicate];omega
 have hr:val (al++(List.replicate (A+1) 0).drop al.length)=a*2^s:=by
  rw[val_append,List.drop_replicate,jf,bm,aP,cc]
 obtain⟨pz,cz,rfl,-,-⟩:=ei jp;generalize al++(List.replicate (A+1) 0).drop al.length=ea at *;obtain⟨M,hM⟩:∃ M,A=n+M:=⟨A-n,by omega⟩;have ru:1≤M:=by omega
 have ly:a*2^s<2^(64*M)*(b*2^s):=by
  have k1:2^(64*M)*2^(64*n)≤2^(64*M)*b:=au _ pu.out;rw[← ah,show 64*M+64*n=64*A from by omega] at k1;rw[← aj];exact aD (by have:=y.out;omega) (ae s)
 have kq:Hid (DI ea (List.replicate M 0) M (A+1) M (b*2^s) (a*2^s)):=DI.start hq hr ly;have ep:Hid (Own w6 U ea):=bz;have ga:Hid (Sl w6 (.slice (some ⟨L,ov,none⟩) (n+1) N) vl):=fv.out.G io;have G6:=aa g13 io;have mv:U<w6.heap.size:=bz.2.1;have bi:L<w6.heap.size:=by omega
 have ox:=fc M dT;have rb:(A:Int)-((n:Int)+1)+1=(M:Int):=by omega
 have rn:(M:Int)≤400000:=by omega
 have HM:Hid (A=n+M):=hM;have kk:Hid (L≠U):=hd;clear jp he cc hc hh bz io hq hr ly ec c g5 dl G4 g13 fv ng dr nc y hM hd;go_wp2_with fail;have an:=hi9 (eA w6 M 78);have bl:G w6 (w6.alloc (.cells (madeCells #[.int .u64 0] M) 78)):=(af _).alloc _;have dr:w6.heap.size<(w6.alloc (.cells (madeCells #[.int .u64 0] M) 78)).heap.size:=by simp
 generalize w6.alloc (.cells (madeCells #[.int .u64 0] M) 78)=w7 at *;have eb:Hid (L<w7.heap.size):=ad bi bl.size;have pn:=G6.size;generalize w6.heap.size=d at *;have fs:Hid (Own w7 U ea):=Own.grow ep.out bl;have gg:Hid (Sl w7 (.slice (some ⟨L,ov,none⟩) (n+1) N) vl):=ga.out.G bl;have G7:=aa G6 bl;have li:Hid (d≠U):=by show d≠U;omega
 have ps:Hid (d≠L):=by show d≠L;omega
 have qb:Hid (w.heap.size≤d):=pn;have qq:Hid (w.heap.size≤U):=kb;clear ep ga G6 bl mv bi ox dr pn kb rb pi
 go_loopw [11] (fun vi wr=>∃ (t:Nat) (us k:List Nat),t≤M∧vi= .int .i64 ((t:Int)-1)∧DI us k t (A+1) M (b*2^s) (a*2^s)∧Own wr U us∧Own wr d k∧Sl wr (.slice (some ⟨L,ov,none⟩) (n+1) N) vl∧L<wr.heap.size∧G w wr) (fun vi _=>(intOf vi+1).toNat)
 case atStart=>exact⟨M,ea,_,ay _,rfl,kq.out,fs.out,an.out,gg.out,eb.out,G7⟩
 case round=>
  clear kq fs an gg G7 eb;obtain⟨t,us,k,ht,rfl,R,S,bn,C,O,hG⟩:=hrel;cases t with
  |succ j=>
   have ds:us.length=A+1:=R.1;have jx:=fun cs=>DI.step (cs:=cs) (n:=n+1) R S.1 dT (by have:=HM.out;omega) ci.out (bT am.out (ae s));have D:=At.sub (i:=j) (n:=n+1+1) S.at (by have:=HM.out;omega);have F:((us.drop j).take (n+1+1)).length=n+2:=by rw[aR,bO];have:=HM.out;omega
   rw[az] at D;have ks:Hid _:=q0g wr U j (A+1-j) L ov N _ vl n dT F px.out D (by rw[F];have:=HM.out;omega) C kk.out O qa.out (by rw[ih.out];exact(jx []).1);have ib:=hi9 jx;have c:Hid (Own wr U us):=S;have an:Hid (Own wr d k):=bn;have cl:Hid (Sl wr (.slice (some ⟨L,ov,none⟩) (n+1) N) vl):=C;have lm:=hi9 F;have lx:Hid (us.length=A+1):=ds;have ia:Hid (k.length=M):=R.2.1;have ry:(j:Int)+1≤M:=by omega
   have rf:(j:Int)+((n:Int)+1)+1≤(A:Int)+1:=by have:=HM.out;omega
   have rq:U<wr.heap.size:=S.2.1;have rp:d<wr.heap.size:=bn.2.1;clear jx D F ds R S bn C;go_wp2_with fail;rw[show j+(n+1)+1-j=n+2 from by omega];refine dS ks.out ?_;rintro e w8 ⟨cs,rfl,B,mm,W,E⟩;rw[lm.out] at B W;rw[ih.out] at E;have hg:=(ib.out cs).2 B E;have ob:=At.join (o:=0) (i:=j) (n:=n+2) c.out.at (by rw[az];exact W) (by rw[az];exact mm) B (by have:=lx.out;have:=HM.out;omega);have lc:Hid (Own w8 U (us.take j++(cs++us.drop (j+(n+2))))):=ob.own;have ao:Hid (Own w8 d k):=Own.gb an.out W li.out;have ls:Hid (Sl w8 (.slice (some ⟨L,ov,none⟩) (n+1) N) vl):=Sl.gb cl.out W kk.out O;have ra:=GB.fresh hG W qq.out;have kr:Hid (DI (us.take j++(cs++us.drop (j+(n+2)))) (k.set j (val ((us.drop j).take (n+1+1))/(b*2^s))) j (A+1) M (b*2^s) (a*2^s)):=hg;have nd:L<w8.heap.size:=ad O W.size;have hj:val ((us.drop j).take (n+1+1))/(b*2^s)<2^64:=by
    have h1:=(ib.out []).1;exact(aX (bT am.out (ae s))).2 h1
   rw[ih.out];generalize val ((us.drop j).take (n+1+1))/(b*2^s)=q at *;generalize us.take j++(cs++us.drop (j+(n+2)))=rm at *;have ho:=Own.cell (w:=w8) (b:=d) (l:=k) (i:=j) ao.out (by have:=ia.out;omega);have hf:=Own.frozen (w:=w8) (b:=d) (l:=k) (i:=j) ao.out (by have:=ia.out;omega);have lg:Hid (q<2^64):=hj;generalize k.getD j 0=z at *;clear hg ob B mm W E ks ib lm lx c an cl hj hG O rf;go_wp2_with fail
   go_roundw
   case rel=>exact⟨j,rm,k.set j q,by omega,by congr 1,kr.out,Own.setOther lc.out li.out.symm,Own.set ao.out j q (by have:=ia.out;omega) lg.out,Sl.setOther ls.out ps.out.symm,by simpa [World.setCell] using nd,ra.setCell (p:=⟨d,j,none⟩) qb.out _⟩
   case measure=>simp [intOf]
  |zero=>
   obtain⟨f1,f2⟩:=DI.fin R (ae s) am.out;have ds:us.length=A+1:=R.1;have pd:k.length=M:=R.2.1;have gm:Hid (∀ J,G wr J→Calls Tryz.prog 122 #[.slice (some ⟨d,0,none⟩) M M] J (ef J (a/b))):=by
    intro J g;have h2:=eC (Own.grow bn g) pd dT;rw[f1] at h2;exact h2
   have D:=At.sub (i:=0) (n:=n+1) S.at dT;have F:((us.drop 0).take (n+1)).length=n+1:=by rw[List.drop_zero,aR];omega
   have hk:val ((us.drop 0).take (n+1))=(a%b)*2^s:=by
    have k1:=iS us 0 (n+1) dT;have k2:val (us.drop (n+1))=0:=by
     rw[fG S.1];refine aN ?_;rw[f2];have k3:(a%b)*2^s<b*2^s:=aD (aU _ am.out) (ae s);have:=ci.out;omega
    simp only[az] at k1;rw[k2] at k1;simp only[List.take_zero,bm,bW,aW,aP,val,az] at k1;rw[← k1,f2]
   have lw:Hid (∀ J,G wr J→Calls Tryz.prog 122 #[.slice (some ⟨U,0,none⟩) (n+1) (A+1)] J (ef J ((a%b)*2^s))):=by
    intro J g;have h1:=(At.gr D g).sl (A+1) (by rw[F];omega);rw[F] at h1;have h2:=trim_c J _ _ h1 (by rw[F];omega);rw[hk] at h2;exact h2
   have HR:Hid (∀ J v,Num J v ((a%b)*2^s)→Calls Tryz.prog 120 #[v,.int .i64 (s:Int)] J (ef J (a%b))):=by
    intro J v hv;have h1:=fL J v _ s (n+1) dT dT hv (by
     have k3:(a%b)*2^s<b*2^s:=aD (aU _ am.out) (ae s);have:=ci.out;omega)
    rw[cD _ (ae s)] at h1;exact h1
   clear f1 f2 ds pd D F hk R S bn C O;have rr:n≤A:=by omega
   have rs:(0:Int)≤(n:Int)+1:=by omega
   go_wp2_with fail;refine fS 9 (G wr) dV (by first|exact(af _).drew|exact G.drew kV) ?_;intro cr;refine dU 0 (v:= ?_) rfl dV (fun _ _ _ h=>h) rfl ?_ ‹_› ?_;rotate_left
   ·exact gt9
   try simp only[aput,List.set]
   refine dU 2 (v:= ?_) rfl dV (fun _ _ _ h=>h) rfl ?_ ‹_› ?_;rotate_left
   ·exact gt9
   try simp only[aput,List.set]
   refine dU 3 (v:= ?_) rfl dV (fun _ _ _ h=>h) rfl ?_ ‹_› ?_;rotate_left
   ·exact gt9
   try simp only[aput,List.set]
   refine dU 4 (v:= ?_) rfl dV (fun _ _ _ h=>h) rfl ?_ ‹_› ?_;rotate_left
   ·exact gt9
   try simp only[aput,List.set]
   refine dU 5 (v:= ?_) rfl dV (fun _ _ _ h=>h) rfl ?_ ‹_› ?_;rotate_left
   ·exact gt9
   try simp only[aput,List.set]
   refine dU 7 (v:= ?_) rfl dV (fun _ _ _ h=>h) rfl ?_ ‹_› ?_;rotate_left
   ·exact gt9
   try simp only[aput,List.set]
   refine dY (i:=1) dV rfl ?_;intro K X;go_simp;go_wp2_with (go_at_call 122;refine dS (gm.out _ cr) ?_;intro e J hs;obtain⟨v1,rfl,g9,it⟩:=hs);refine X.out _ _ (Or.inr (aa cr g9)) ?_;clear X K;have cn:=aa cr g9;have kw:Hid (Num J v1 (a/b)):=it;clear it cr g9;refine dY (i:=6) dV rfl ?_;intro K X;go_simp;go_wp2_with (go_at_call 122;refine dS (lw.out _ cn) ?_;intro e po hs;obtain⟨v2,rfl,g10,oy⟩:=hs);refine X.out _ _ (Or.inr (aa cn g10)) ?_;clear X K;have ap:=aa cn g10;have em:Hid (Num po v1 (a/b)):=kw.out.G g10;have lk:=hi9 (HR.out po v2 oy);clear oy cn g10 kw HR lw gm;refine dY (i:=8) dV rfl ?_;intro K X;go_simp;go_wp2_with (go_at_call 120;refine dS lk.out ?_;intro e pp hs;obtain⟨v3,rfl,g11,pc⟩:=hs);refine X.out _ _ (Or.inr (aa ap g11)) ?_;clear X K;have mp:=aa ap g11;have pr:Hid (Num pp v3 (a%b)):=pc;have hz:Hid (Num pp v1 (a/b)):=em.out.G g11;clear pc ap g11 em lk;refine dY (i:=9) dV rfl ?_;intro K X;go_simp;refine X.out _ _ (Or.inl ey) ?_;clear X K;refine dY (i:=10) dV rfl ?_;intro K X;go_simp;refine X.out _ _ (Or.inl ey) ?_;clear X K;refine fa dV ?_ _;go_wp2_with fail
   go_ret2
   exact⟨v1,v3,rfl,aa hG mp,hz.out,pr.out⟩
theorem jk (w:World) (va C:Value) (a b K:Nat) (D:K≤400000) (E:1≤K) (F:Num w va a) (hb:Num w C b) (A:a<2^(64*K)) (B:b<2^(64*K)) (I:0<b):
  Calls Tryz.prog 71 #[va,C] w (mZ w (a/b) (a%b)):=by
 by_cases h:a<b
 ·exact km w va C a b K D F hb A B h
 ·by_cases h2:b<2^64
  ·exact l8 w va C a b K D F hb A h2 I dT E
  ·exact l7 w va C a b K D F hb A B dT dT
theorem ji {p n:Nat}:n+1=blen ((2*p+1)*2^n)↔p=0:=by
 have A:(2*p+1)*2^n≠0:=ct dT (Nat.ne_of_gt (ae n));unfold blen;rw[if_neg A];constructor
 ·intro h;have h1:=(cV (k:=n) A).1 dT;have h2:(2*p+1)*2^n<2*2^n:=by rw[← Nat.pow_succ'];exact h1.2
  have:=bN h2;omega
 ·rintro rfl;have B:=ae n;have h1:=(cV (k:=n) A).2 ⟨by omega,by rw[bF];omega⟩;omega
theorem q0X {a p i K:Nat} (B:a=(2*p+1)*2^i) (A:a<2^(64*K)):i<64*K:=by
 have:2^i≤a:=by rw[B];exact Nat.le_mul_of_pos_left _ dT
 exact(aY (by omega:1<2)).1 (aG this A)
theorem kA (w:World) (va M:Value) (a b K:Nat) (hK:K≤150000) (Y:1≤K) (Z:Tab w) (W:Num w va a) (hb:Num w M b) (I:a<2^(64*K)) (B:b<2^(64*K)) (J:0<b):
  Calls Tryz.prog 60 #[va,M] w (ef w (a/b)):=by
 obtain⟨p,n,L⟩:=jy b J;have o:=q0X L B;have F:=hi9 (iQ w M b p n K dT Z hb B L);have U:Hid (∀ A,G w A→Calls Tryz.prog 117 #[M] A fun e w'=>e= .returned (.int .i64 (blen b))∧G A w'):=fun A g=>iO A M b K dT (hb.G g) B;have D:=ji (p:=p) (n:=n);rw[← L] at D;have y:(n:Int)≤9600000:=by omega
 by_cases h1:p=0
 ·have R:b=2^n:=by rw[L,h1];omega
  have ht:(((n:Int)+1)==(blen b:Int))=true:=by have:=D.2 h1;simp;omega
  have m:Hid (∀ A,G w A→Calls Tryz.prog 120 #[va,.int .i64 (n:Int)] A (ef A (a/b))):=fun A g=>by
   rw[R];exact fL A va a n K dT dT (W.G g) I
  generalize blen b=s at *;clear W hb I B J h1 R L D o Z;go_enter Tryz.func60,Tryz.ntmps60;go_wp2_with fail;refine dS F.out ?_;rintro e A ⟨rfl,g1⟩;have C:=hi9 (U.out A g1);clear F U;go_wp2_with fail;refine dS C.out ?_;rintro e i ⟨rfl,g2⟩;have g12:=aa g1 g2;have O:=hi9 (m.out i g12);clear C m g1 g2;go_wp2_with fail;refine dS O.out ?_;intro e j d;obtain⟨S,rfl,g3,E⟩:=d;have X:Hid (Num j S (a/b)):=E;clear E O;go_wp2_with fail;go_ret;exact⟨S,rfl,aa g12 g3,X.out⟩
 ·have ht:(((n:Int)+1)==(blen b:Int))=false:=by have:=fun h=>h1 (D.1 h);simp;omega
  have k:Hid (∀ A,G w A→_):=fun A g=>jk A va M a b K dT Y (W.G g) (hb.G g) I B J;generalize blen b=s at *;clear W hb I B J h1 L D o Z;go_enter Tryz.func60,Tryz.ntmps60;go_wp2_with fail;refine dS F.out ?_;rintro e A ⟨rfl,g1⟩;have C:=hi9 (U.out A g1);clear F U;go_wp2_with fail;refine dS C.out ?_;rintro e i ⟨rfl,g2⟩;have g12:=aa g1 g2;have N:=hi9 (k.out i g12);clear C k g1 g2;go_wp2_with fail;refine dS N.out ?_;intro e j d;obtain⟨S,v2,rfl,g3,E,c⟩:=d;have X:Hid (Num j S (a/b)):=E;clear E c N;go_wp2_with fail;go_ret;exact⟨S,rfl,aa g12 g3,X.out⟩
/-- The number that a slice of words holds. -/
def numV (w:World):Value→Nat
 | .slice (some a) n _=>val ((List.range n).map fun i=>match w.cell? ⟨a.block,a.off+i,none⟩ with
  |some (.int _ z)=>z.toNat
  |_=>0)
 |_=>0
theorem fm {w:World} {v:Value} {n:Nat} (h:Num w v n):numV w v=n:=by
 obtain⟨l,A,-,rfl⟩:=h;rcases Sl.cases A with ⟨rfl,a,c,rfl⟩|⟨-,b,o,c,rfl,-,-,B⟩
 ·cases a<;>rfl
 ·show val _=val l
  congr 1
  refine List.ext_getElem eO fun i h1 h2=> ?_;rw[List.getElem_map,List.getElem_range];rw[B i h2];simp [List.getD_eq_getElem?_getD,h2]
/-- A share's number: of a and b, the sign told by s. -/
def mx (s:Bool) (a b p q:Nat):Int:=if s then (a:Int)*p-(b:Int)*q else (b:Int)*q-(a:Int)*p
/-- Along the row of rests: x, y are rests of the first words x0, y0; sure and next are their shares. -/
structure LR (a b x0 y0 x y la lb sa sb na nb:Nat) (tn:Bool):Prop where
 f1:x*nb+y*sb=x0
 fx:(x:Int)=mx tn x0 y0 sa sb
 fy:(y:Int)=mx (!tn) x0 y0 na nb
 yx:y≤x
 nn:na≤nb
 sn:sa+na≤sb+nb
 n1:1≤nb
 sx:sb≤x
 sw:tn=false→sa≤sb
 det:(if tn then (sa:Int)*nb-(sb:Int)*na else (sb:Int)*na-(sa:Int)*nb)=1
 sure:sb=0∨mx tn a b sa sb≤b
 last:lb=0∨((if tn then (lb:Int)*sa-(la:Int)*sb else (la:Int)*sb-(lb:Int)*sa)=1∧0≤mx tn a b sa sb∧mx tn a b sa sb<mx (!tn) a b la lb∧mx (!tn) a b la lb≤b)
/-- A number of first words and what is behind them. -/
theorem lF {s:Bool} {a b B C p q P A be:Nat} (D:a=B*P+A) (hb:b=C*P+be):mx s a b p q=mx s B C p q*P+(if s then (A:Int)*p-(be:Int)*q else (be:Int)*q-(A:Int)*p):=by
 have h1:(a:Int)*p=(B:Int)*p*P+(A:Int)*p:=by
  rw[D];push_cast;rw[Int.add_mul];congr 1;ac_rfl
 have h2:(b:Int)*q=(C:Int)*q*P+(be:Int)*q:=by
  rw[hb];push_cast;rw[Int.add_mul];congr 1;ac_rfl
 unfold mx;cases s
 ·simp only[aE,if_false];rw[h1,h2,dh];omega
 ·simp only[if_true];rw[h1,h2,dh];omega
/-- It isn't below 0, if its first words are enough. -/
theorem q1B {s:Bool} {a b C D p q P A be z:Nat} (E:a=C*P+A) (hb:b=D*P+be) (h1:A<P) (h2:be<P) (I:(z:Int)=mx s C D p q) (N:q≤z) (F:s=false→p≤q):0≤mx s a b p q:=by
 rw[lF E hb,← I];have J:(q:Int)*P≤(z:Int)*P:=Int.mul_le_mul_of_nonneg_right dT dT;cases s
 ·have B:=F rfl;have K:(A:Int)*p≤(P:Int)*q:=by
   have:A*p≤P*q:=cj dT B;have h:=Int.ofNat_le.2 this
   rwa[aV,aV] at h
  have L:(0:Int)≤(be:Int)*q:=dw dT dT;have M:(P:Int)*q=(q:Int)*P:=dx _ _;simp only[aE,if_false];omega
 ·have K:(be:Int)*q≤(P:Int)*q:=Int.mul_le_mul_of_nonneg_right dT dT;have L:(0:Int)≤(A:Int)*p:=dw dT dT;have M:(P:Int)*q=(q:Int)*P:=dx _ _;simp only[if_true];omega
theorem q1Z {s:Bool} {a b C D p q P A be:Nat} {z:Int} (F:a=C*P+A) (hb:b=D*P+be) (h1:A<P) (h2:be<P) (L:z=mx s C D p q) (J:(q:Int)≤z) (B:p≤q) (K:1≤q):0<mx s a b p q:=by
 rw[lF F hb,← L];have M:(q:Int)*P≤z*P:=Int.mul_le_mul_of_nonneg_right J dT;have S:(P:Int)*q=(q:Int)*P:=dx _ _;have lt:∀ c p:Nat,c<P→p≤q→(c:Int)*p<(P:Int)*q:=by
  intro c p I B;have h3:(c+1)*q≤P*q:=aq _ I;have R:c*p≤c*q:=au _ B;have E:c*p<P*q:=by rw[aH,aW] at h3;omega
  have h:=Int.ofNat_lt.2 E
  rwa[aV,aV] at h
 cases s
 ·have N:=lt A p h1 B;have O:(0:Int)≤(be:Int)*q:=dw dT dT;simp only[aE,if_false];omega
 ·have N:=lt be q h2 (ay _);have O:(0:Int)≤(A:Int)*p:=dw dT dT;simp only[if_true];omega
theorem mF (s:Bool) (a b p q A B:Nat):mx s a b (p+A) (q+B)=mx s a b p q-mx (!s) a b A B:=by
 unfold mx;cases s<;>simp only[dL,cP,aE,if_false,if_true]<;>push_cast<;>rw[Int.mul_add,Int.mul_add]<;>omega
theorem q1y (s:Bool) (a b p q k:Nat):mx s a b (k*p) (k*q)=k*mx s a b p q:=by
 unfold mx;have A:(a:Int)*((k*p:Nat):Int)=k*((a:Int)*p):=by push_cast;ac_rfl
 have B:(b:Int)*((k*q:Nat):Int)=k*((b:Int)*q):=by push_cast;ac_rfl
 rw[A,B];cases s
 ·simp only[aE,if_false];rw[Int.mul_sub]
 ·simp only[if_true];rw[Int.mul_sub]
theorem LR.start {a b A B:Nat} (h:B≤A):LR a b A B A B 0 0 1 0 0 1 true:=
 {f1:=by omega
  fx:=by simp [mx]
  fy:=by simp [mx]
  yx:=h
  nn:=by omega
  sn:=by omega
  n1:=by omega
  sx:=by omega
  sw:=fun h=>by cases h
  det:=by simp
  sure:=Or.inl rfl
  last:=Or.inl rfl}
theorem LR.step {a b I J x y o s sa A na nb P U be:Nat} {tn:Bool} (h:LR a b I J x y o s sa A na nb tn) (W:a=I*P+U) (hb:b=J*P+be) (h1:U<P) (h2:be<P) (X:nb≤y) (hc:A+nb≤x-y):
  LR a b I J y (x%y) sa A na nb (sa+x/y*na) (A+x/y*nb) (!tn):=by
 obtain⟨f1,fx,fy,yx,nn,sn,n1,sx,sw,det,sure,last⟩:=h;have E:0<y:=by omega
 have O:1≤x/y:=(cX E).2 dT;have M:=bY x y;have D:=aU x E;have L:0≤mx (!tn) a b na nb:=q1B W hb h1 h2 fy X (fun _=>nn);have K:mx (!tn) a b na nb<mx tn a b sa A:=by
  have m:(x:Int)-y=mx tn I J (sa+na) (A+nb):=by rw[mF,← fx,← fy]
  have:=q1Z W hb h1 h2 m dT sn dT;rw[mF] at this;omega
 have B:(!(!tn))=tn:=by cases tn<;>rfl
 obtain⟨q,c⟩:∃ q,q=x/y:=⟨_,rfl⟩;rw[← c] at M O ⊢;have j:na+(q-1)*na=q*na:=by
  obtain⟨F,rfl⟩:∃ F,q=F+1:=⟨q-1,by omega⟩;rw[dK,aH,aW,bt]
 have d:nb+(q-1)*nb=q*nb:=by
  obtain⟨F,rfl⟩:∃ F,q=F+1:=⟨q-1,by omega⟩;rw[dK,aH,aW,bt]
 have i:(q-1)*na≤(q-1)*nb:=au _ nn;refine⟨?_,fy,?_,cy D,by omega,by omega,by omega,X,fun _=>nn,?_,?_,?_⟩
 ·have e:y*(A+q*nb)=y*A+y*q*nb:=by rw[ax,aj]
  have e2:x*nb=y*q*nb+x%y*nb:=by rw[← aH,M]
  omega
 ·rw[B,mF,q1y,← fx];have Y:mx (!tn) I J na nb=y:=fy.symm;rw[Y];have:((y*q+x%y:Nat):Int)=(x:Int):=by rw[M]
  push_cast at this
  rw[dx (q:Int) y];omega
 ·cases tn
  ·simp only[dL,if_true,aE,if_false] at det ⊢
   push_cast
   rw[Int.mul_add,Int.mul_add,show (na:Int)*((q:Int)*nb)=(nb:Int)*((q:Int)*na) from by ac_rfl];rw[dx (sa:Int) nb,dx (A:Int) na] at det;omega
  ·simp only[cP,if_true,aE,if_false] at det ⊢
   push_cast
   rw[Int.mul_add,Int.mul_add,show (na:Int)*((q:Int)*nb)=(nb:Int)*((q:Int)*na) from by ac_rfl];rw[dx (sa:Int) nb,dx (A:Int) na] at det;omega
 ·right;rcases sure with C|C
  ·subst C;have k:(sa:Int)*nb=1∨ -((sa:Int)*nb)=1:=by
    cases tn
    ·right;simp only[aE,if_false] at det;omega
    ·left;simp only[if_true] at det;omega
   have Z:(0:Int)≤(sa:Int)*nb:=dw dT dT;have R:(sa:Int)*nb=1:=by omega
   have S:sa*nb=1:=by
    have:=R;rw[← aV] at this;omega
   have N:nb=1:=Nat.eq_one_of_mul_eq_one_left S;cases tn
   ·simp only[aE,if_false] at det;omega
   ·unfold mx;simp only[cP,aE,if_false];have:(0:Int)≤(a:Int)*na:=dw dT dT;rw[N];simp only[Int.natCast_one,Int.mul_one];omega
  ·omega
 ·rcases sure with C|C
  ·exact Or.inl C
  ·right;rw[B];refine⟨?_,L,K,C⟩;cases tn
   ·simp only[dL,if_true,aE,if_false] at det ⊢;omega
   ·simp only[cP,if_true,aE,if_false] at det ⊢;omega
/-- What two shares of a and b have in common. -/
theorem q0q {a b C D sa E:Nat} {tn:Bool} {X Y:Nat} (R:(if tn then (D:Int)*sa-(C:Int)*E else (C:Int)*E-(D:Int)*sa)=1) (N:(X:Int)=mx (!tn) a b C D) (O:(Y:Int)=mx tn a b sa E):Nat.gcd X Y=Nat.gcd a b:=by
 have S:((Nat.gcd a b:Nat):Int)∣(a:Int):=bV.2 (cC _ _);have U:((Nat.gcd a b:Nat):Int)∣(b:Int):=bV.2 (bQ _ _);have K:((Nat.gcd X Y:Nat):Int)∣(X:Int):=bV.2 (cC _ _);have L:((Nat.gcd X Y:Nat):Int)∣(Y:Int):=bV.2 (bQ _ _);have main:∀ s:Bool,s=tn→∃ A B:Int,A=a∧B=b∧((X:Int)=B*D-A*C∧(Y:Int)=A*sa-B*E∧(D:Int)*sa-(C:Int)*E=1∨(X:Int)=A*C-B*D∧(Y:Int)=B*E-A*sa∧(C:Int)*E-(D:Int)*sa=1):=by
  intro s W;refine⟨a,b,rfl,rfl,?_⟩;cases tn
  ·right;simp only[mx,dL,if_true,aE,if_false] at N O R;exact⟨N,O,R⟩
  ·left;simp only[mx,cP,if_true,aE,if_false] at N O R;exact⟨N,O,R⟩
 obtain⟨A,B,rfl,rfl,F⟩:=main tn rfl;apply Nat.dvd_antisymm
 ·refine Nat.dvd_gcd (bV.1 ?_) (bV.1 ?_)
  ·rcases F with ⟨I,J,M⟩|⟨I,J,M⟩
   ·have:(a:Int)=X*E+Y*D:=by
     rw[I,J,dh,dh];have:(a:Int)*((D:Int)*sa-(C:Int)*E)=a:=by rw[M,Int.mul_one]
     rw[Int.mul_sub] at this;rw[show (a:Int)*C*E=a*((C:Int)*E) from by ac_rfl,show (a:Int)*sa*D=a*((D:Int)*sa) from by ac_rfl,show (b:Int)*E*D=(b:Int)*D*E from by ac_rfl];omega
    rw[this];exact Int.dvd_add (dp K (cN _ _)) (dp L (cN _ _))
   ·have:(a:Int)=X*E+Y*D:=by
     rw[I,J,dh,dh];have:(a:Int)*((C:Int)*E-(D:Int)*sa)=a:=by rw[M,Int.mul_one]
     rw[Int.mul_sub] at this;rw[show (a:Int)*C*E=a*((C:Int)*E) from by ac_rfl,show (a:Int)*sa*D=a*((D:Int)*sa) from by ac_rfl,show (b:Int)*E*D=(b:Int)*D*E from by ac_rfl];omega
    rw[this];exact Int.dvd_add (dp K (cN _ _)) (dp L (cN _ _))
  ·rcases F with ⟨I,J,M⟩|⟨I,J,M⟩
   ·have:(b:Int)=X*sa+Y*C:=by
     rw[I,J,dh,dh];have:(b:Int)*((D:Int)*sa-(C:Int)*E)=b:=by rw[M,Int.mul_one]
     rw[Int.mul_sub] at this;rw[show (b:Int)*D*sa=b*((D:Int)*sa) from by ac_rfl,show (b:Int)*E*C=b*((C:Int)*E) from by ac_rfl,show (a:Int)*sa*C=(a:Int)*C*sa from by ac_rfl];omega
    rw[this];exact Int.dvd_add (dp K (cN _ _)) (dp L (cN _ _))
   ·have:(b:Int)=X*sa+Y*C:=by
     rw[I,J,dh,dh];have:(b:Int)*((C:Int)*E-(D:Int)*sa)=b:=by rw[M,Int.mul_one]
     rw[Int.mul_sub] at this;rw[show (b:Int)*D*sa=b*((D:Int)*sa) from by ac_rfl,show (b:Int)*E*C=b*((C:Int)*E) from by ac_rfl,show (a:Int)*sa*C=(a:Int)*C*sa from by ac_rfl];omega
    rw[this];exact Int.dvd_add (dp K (cN _ _)) (dp L (cN _ _))
 ·refine Nat.dvd_gcd (bV.1 ?_) (bV.1 ?_)
  ·rcases F with ⟨I,-,-⟩|⟨I,-,-⟩<;>rw[I]<;>exact Int.dvd_sub (dR kV) (dR kV)
  ·rcases F with ⟨-,J,-⟩|⟨-,J,-⟩<;>rw[J]<;>exact Int.dvd_sub (dR kV) (dR kV)
/-- What two shares are to the numbers that their row begins with. -/
def LEnd (a b B A sa C:Nat) (tn:Bool):Prop:=A=0∨((if tn then (A:Int)*sa-(B:Int)*C else (B:Int)*C-(A:Int)*sa)=1∧0≤mx tn a b sa C∧mx tn a b sa C<mx (!tn) a b B A∧mx (!tn) a b B A≤b)
def nX (a b:Nat) (w:World) (e:Ending) (D:World):Prop:=∃ (A B sa C:Nat) (tn:Bool),e= .returned (.tuple #[.agg #[.int .u64 (A:Int),.int .u64 (B:Int)],.agg #[.int .u64 (sa:Int),.int .u64 (C:Int)],.bool tn])∧G w D∧A<2^64∧B<2^64∧sa<2^64∧C<2^64∧LEnd a b A B sa C tn
/-- The walk's state: all that is in it is below a word. -/
structure LW (a b x0 y0 x y la lb sa sb na nb:Nat) (tn:Bool):Prop where
 lr:LR a b x0 y0 x y la lb sa sb na nb tn
 bx:x≤x0
 ba:la<18446744073709551616
 bb:lb<18446744073709551616
 bc:sa<18446744073709551616
 bd:sb<18446744073709551616
 be:na<18446744073709551616
 bf:nb<18446744073709551616
theorem LW.start {a b A B:Nat} (h:B≤A):LW a b A B A B 0 0 1 0 0 1 true:=
 ⟨LR.start h,ay _,by omega,by omega,by omega,by omega,by omega,by omega⟩
/-- What is below a word in a step. -/
theorem LW.small {a b C I x y E F sa A na nb:Nat} {tn:Bool} (h:LW a b C I x y E F sa A na nb tn) (J:nb≤y):0<y∧y≤x∧A+nb≤C:=by
 have D:=h.lr.n1;have B:=h.lr.yx;have f1:=h.lr.f1;refine⟨by omega,B,?_⟩;have h1:1*nb≤x*nb:=aq _ dT;have h2:1*A≤y*A:=aq _ dT;omega
theorem LW.next {a b C D x y S U sa A na nb P E be q:Nat} {tn:Bool} (h:LW a b C D x y S U sa A na nb tn) (N:C<18446744073709551616) (I:a=C*P+E) (hb:b=D*P+be) (h1:E<P) (h2:be<P) (O:nb≤y) (K:A+nb≤x-y) (M:q=x/y):
  LW a b C D y (x%y) sa A na nb (sa+q*na) (A+q*nb) (!tn)∧sa+q*na<18446744073709551616∧A+q*nb<18446744073709551616:=by
 have B:=h.lr.step I hb h1 h2 O K;rw[← M] at B;have L:=h.lr.n1;have R:=h.lr.yx;have J:=h.bx;have f1:=B.f1;have h3:1*(A+q*nb)≤y*(A+q*nb):=aq _ dT;have W:=B.nn;have X:A+q*nb≤C:=by
  generalize y*(A+q*nb)=u at *;generalize x%y*nb=v at *;omega
 have h6:sa+q*na<18446744073709551616:=by omega
 have F:A+q*nb<18446744073709551616:=by omega
 exact⟨⟨B,by omega,h.bc,h.bd,h.be,h.bf,h6,F⟩,h6,F⟩
theorem jN (w:World) (va:Value) (a n K:Nat) (F:n≤100000000) (L:K≤1040000) (C:Num w va a) (A:a<2^(64*K)) (I:a/2^n<2^64):
  Calls Tryz.prog 176 #[va,.int .i64 (n:Int)] w fun e J=>e= .returned (.int .u64 ((a/2^n:Nat):Int))∧G w J:=by
 obtain⟨l,D,B,rfl⟩:=C;have E:=dX B A;have h:=ma w va l n F D dT;rw[aM I] at h;exact h
theorem gE (w:World) (x y t:Nat) (B:x<2^64) (C:y<2^64):Own (w.alloc (.cells #[.int .u64 (x:Int),.int .u64 (y:Int)] t)) w.heap.size [x,y]:=by
 refine⟨?_,by simp,fun i hi=> ?_,fun i hi=> ?_⟩
 ·intro d A;simp only[bC,cS,or_false] at A;rcases A with rfl|rfl
  ·exact B
  ·exact C
 ·have h2:i<2:=hi;have h3:i=0∨i=1:=by omega
  rcases h3 with rfl|rfl<;>simp [go_sem]
 ·have h2:i<2:=hi;have h3:i=0∨i=1:=by omega
  rcases h3 with rfl|rfl<;>simp [go_sem]
theorem gn {w:World} {b x y x' y':Nat} (h:Own w b [x,y]) (A:x'<2^64) (B:y'<2^64):Own ((w.setCell ⟨b,0,none⟩ (.int .u64 (x':Int))).setCell ⟨b,1,none⟩ (.int .u64 (y':Int))) b [x',y']:=
 (h.set 0 x' eO A).set 1 y' eO B
theorem eu {w:World} {b c:Nat} {u v:Value} {l:List Nat} (h:Own w b l) (A:b≠c):Own ((w.setCell ⟨c,0,none⟩ u).setCell ⟨c,1,none⟩ v) b l:=
 (h.setOther A).setOther A
theorem ej {w:World} {b x y:Nat} (h:Own w b [x,y]):w.cell? ⟨b,0,none⟩=some (.int .u64 (x:Int))∧w.cell? ⟨b,1,none⟩=some (.int .u64 (y:Int))∧w.frozen? ⟨b,0,none⟩=false∧w.frozen? ⟨b,1,none⟩=false:=
 ⟨h.cell (i:=0) eO,h.cell (i:=1) eO,h.2.2.2 0 eO,h.2.2.2 1 eO⟩
theorem jn {w0 w:World} {b:Nat} {u v:Value} (g:G w0 w) (h:w0.heap.size≤b):G w0 ((w.setCell ⟨b,0,none⟩ u).setCell ⟨b,1,none⟩ v):=
 (g.setCell (p:=⟨b,0,none⟩) h _).setCell (p:=⟨b,1,none⟩) h _
set_option maxHeartbeats 4000000 in
theorem qG (w:World) (va vb:Value) (a b K:Nat) (B:K≤400000) (ha:Num w va a) (hb:Num w vb b) (bq:a<2^(64*K)) (li:b≤a) (ec:2^64≤a):
  Calls Tryz.prog 208 #[va,vb] w (nX a b w):=by
 have HS:Hid (∀ s,G w s→_):=fun s g=>iO s va a K dT (ha.G g) bq;have ao:a≠0:=by omega
 have cc:blen a=Nat.log2 a+1:=by unfold blen;rw[if_neg ao]
 have h1:a<2^(Nat.log2 a+1):=(cA ao).1 dT;have h2:64≤Nat.log2 a:=(Nat.le_log2 ao).2 ec;have h3:Nat.log2 a<64*K:=(cA ao).2 bq;obtain⟨n,hn⟩:∃ n:Nat,Nat.log2 a+1=n+64:=⟨Nat.log2 a-63,by omega⟩;have lm:n≤25600000:=by omega
 rw[hn] at cc h1;have hP:0<2^n:=ae n;have hx:a/2^n<2^64:=by
  rw[aX hP,← ah,bt];exact h1
 have bn:b/2^n≤a/2^n:=Nat.div_le_div_right li;have W:b<2^(64*K):=by omega
 have HX:Hid (∀ s,G w s→_):=fun s g=>jN s va a n K dT dT (ha.G g) bq hx;have HY:Hid (∀ s,G w s→_):=fun s g=>jN s vb b n K dT dT (hb.G g) W dT;have em:a=a/2^n*2^n+a%2^n:=by rw[aF];exact(bY a (2^n)).symm
 have cd:b=b/2^n*2^n+b%2^n:=by rw[aF];exact(bY b (2^n)).symm
 have fv:=aU a hP;have ga:=aU b hP;rw[show (2:Nat)^64=18446744073709551616 from rfl] at hx;have HN:Hid (∀ (x y I J sa D na nb q:Nat) (tn:Bool),LW a b (a/2^n) (b/2^n) x y I J sa D na nb tn→nb≤y→D+nb≤x-y→q=x/y→LW a b (a/2^n) (b/2^n) y (x%y) sa D na nb (sa+q*na) (D+q*nb) (!tn)∧sa+q*na<18446744073709551616∧D+q*nb<18446744073709551616):=
  fun x y I J sa D na nb q tn h hy hc hq=>h.next hx em cd fv ga hy hc hq
 have dk:Hid (LW a b (a/2^n) (b/2^n) (a/2^n) (b/2^n) 0 0 1 0 0 1 true):=LW.start bn;rw[cc] at HS;have ll:((n+64:Nat):Int)-64=(n:Int):=by omega
 have ls:(n:Int)≤25600000:=by omega
 have lk:((n+64:Nat):Int)≤25600064:=by omega
 generalize n+64=bb at *;generalize a/2^n=x0 at *;generalize b/2^n=y0 at *;clear em cd fv ga W hP lm h1 h2 h3 hn cc ao ha hb bq ec bn;go_enter Tryz.func208,Tryz.ntmps208;go_wp2_with fail;have g0:G w ((w.alloc (.cells #[.int .u64 0,.int .u64 0] 222)).alloc (.cells #[.int .u64 0,.int .u64 0] 222)):=((af _).alloc _).alloc _;have ek:((w.alloc (.cells #[.int .u64 0,.int .u64 0] 222)).alloc (.cells #[.int .u64 0,.int .u64 0] 222)).heap.size=w.heap.size+2:=by simp
 have gg:Own ((w.alloc (.cells #[.int .u64 0,.int .u64 0] 222)).alloc (.cells #[.int .u64 0,.int .u64 0] 222)) w.heap.size [0,0]:=(gE w 0 0 222 dT dT).grow ((af _).alloc _);have gm:Own ((w.alloc (.cells #[.int .u64 0,.int .u64 0] 222)).alloc (.cells #[.int .u64 0,.int .u64 0] 222)) (w.heap.size+1) [0,0]:=by
  have h:=gE (w.alloc (.cells #[.int .u64 0,.int .u64 0] 222)) 0 0 222 dT dT;have h2:(w.alloc (.cells #[.int .u64 0,.int .u64 0] 222)).heap.size=w.heap.size+1:=by simp
  rw[h2] at h;exact h
 have cx:=hi9 (HS.out _ g0);generalize (w.alloc (.cells #[.int .u64 0,.int .u64 0] 222)).alloc (.cells #[.int .u64 0,.int .u64 0] 222)=w0 at *;have cn:Hid (Own w0 w.heap.size [0,0]):=gg;have cr:Hid (Own w0 (w.heap.size+1) [0,0]):=gm;clear gg gm;refine Calls.mono (P:=Tryz.prog) cx.out ?_;rintro e s ⟨rfl,g1⟩;have dl:=hi9 (HX.out s (aa g0 g1));clear HS HX cx;go_wp2_with fail;refine Calls.mono (P:=Tryz.prog) dl.out ?_;rintro e w2 ⟨rfl,g2⟩;have g12:=aa g1 g2;have dq:=hi9 (HY.out w2 (aa g0 g12));clear dl HY g1 g2;go_wp2_with fail;refine Calls.mono (P:=Tryz.prog) dq.out ?_;rintro e U ⟨rfl,g3⟩;have g13:=aa g12 g3;have bz:Hid (Own U w.heap.size [0,0]):=cn.out.grow g13;have ca:Hid (Own U (w.heap.size+1) [0,0]):=cr.out.grow g13;have G3:=aa g0 g13;have ms:=g13.size;rw[ek] at ms;clear dq g12 g3 ll ls lk cn cr g0 g13 ek;go_wp2_with fail;have gA:=(af U).alloc (.cells #[.int .u64 0,.int .u64 0] 222);have gB:=gA.alloc (.cells #[.int .u64 1,.int .u64 0] 222);have gC:=gB.alloc (.cells #[.int .u64 0,.int .u64 1] 222);have hl:Own (((U.alloc (.cells #[.int .u64 0,.int .u64 0] 222)).alloc (.cells #[.int .u64 1,.int .u64 0] 222)).alloc (.cells #[.int .u64 0,.int .u64 1] 222)) U.heap.size [0,0]:=((gE U 0 0 222 dT dT).grow ((af _).alloc (.cells #[.int .u64 1,.int .u64 0] 222))).grow ((af _).alloc (.cells #[.int .u64 0,.int .u64 1] 222))
 have hs:Own (((U.alloc (.cells #[.int .u64 0,.int .u64 0] 222)).alloc (.cells #[.int .u64 1,.int .u64 0] 222)).alloc (.cells #[.int .u64 0,.int .u64 1] 222)) (U.alloc (.cells #[.int .u64 0,.int .u64 0] 222)).heap.size [1,0]:=(gE (U.alloc (.cells #[.int .u64 0,.int .u64 0] 222)) 1 0 222 dT dT).grow ((af _).alloc (.cells #[.int .u64 0,.int .u64 1] 222));have hn:Own (((U.alloc (.cells #[.int .u64 0,.int .u64 0] 222)).alloc (.cells #[.int .u64 1,.int .u64 0] 222)).alloc (.cells #[.int .u64 0,.int .u64 1] 222)) ((U.alloc (.cells #[.int .u64 0,.int .u64 0] 222)).alloc (.cells #[.int .u64 1,.int .u64 0] 222)).heap.size [0,1]:=gE ((U.alloc (.cells #[.int .u64 0,.int .u64 0] 222)).alloc (.cells #[.int .u64 1,.int .u64 0] 222)) 0 1 222 dT dT;have ia:(U.alloc (.cells #[.int .u64 0,.int .u64 0] 222)).heap.size=U.heap.size+1:=by simp
 have ib:((U.alloc (.cells #[.int .u64 0,.int .u64 0] 222)).alloc (.cells #[.int .u64 1,.int .u64 0] 222)).heap.size=U.heap.size+1+1:=by simp
 rw[ia] at hs;rw[ib] at hn;have HP:Hid (Own (((U.alloc (.cells #[.int .u64 0,.int .u64 0] 222)).alloc (.cells #[.int .u64 1,.int .u64 0] 222)).alloc (.cells #[.int .u64 0,.int .u64 1] 222)) w.heap.size [0,0]):=bz.out.grow gC;have HQ:Hid (Own (((U.alloc (.cells #[.int .u64 0,.int .u64 0] 222)).alloc (.cells #[.int .u64 1,.int .u64 0] 222)).alloc (.cells #[.int .u64 0,.int .u64 1] 222)) (w.heap.size+1) [0,0]):=ca.out.grow gC;have GC:=aa G3 gC;have HL:Hid (Own (((U.alloc (.cells #[.int .u64 0,.int .u64 0] 222)).alloc (.cells #[.int .u64 1,.int .u64 0] 222)).alloc (.cells #[.int .u64 0,.int .u64 1] 222)) U.heap.size [0,0]):=hl;have cz:Hid (Own (((U.alloc (.cells #[.int .u64 0,.int .u64 0] 222)).alloc (.cells #[.int .u64 1,.int .u64 0] 222)).alloc (.cells #[.int .u64 0,.int .u64 1] 222)) (U.heap.size+1) [1,0]):=hs;have cl:Hid (Own (((U.alloc (.cells #[.int .u64 0,.int .u64 0] 222)).alloc (.cells #[.int .u64 1,.int .u64 0] 222)).alloc (.cells #[.int .u64 0,.int .u64 1] 222)) (U.heap.size+1+1) [0,1]):=hn;clear hl hs hn ia ib gA gB gC bz ca G3;generalize ((U.alloc (.cells #[.int .u64 0,.int .u64 0] 222)).alloc (.cells #[.int .u64 1,.int .u64 0] 222)).alloc (.cells #[.int .u64 0,.int .u64 1] 222)=w4 at *;generalize U.heap.size=C at *
 go_loopw [8,9,13] (fun vx vy vt wr=>∃ (x y I J sa D na nb:Nat) (tn:Bool),vx= .int .u64 x∧vy= .int .u64 y∧vt= .bool tn∧LW a b x0 y0 x y I J sa D na nb tn∧Own wr C [I,J]∧Own wr (C+1) [sa,D]∧Own wr (C+1+1) [na,nb]∧Own wr w.heap.size [0,0]∧Own wr (w.heap.size+1) [0,0]∧G w wr) (fun _ vy _ _=>(intOf vy).toNat)
 case atStart=>exact⟨x0,y0,0,0,1,0,0,1,true,rfl,rfl,rfl,dk.out,HL.out,cz.out,cl.out,HP.out,HQ.out,GC⟩
 case round=>
  clear HP HQ HL cz cl dk GC;obtain⟨x,y,I,J,sa,D,na,nb,tn,rfl,rfl,rfl,o,he,bv,bu,hp,hq,hG⟩:=hrel;have S:Hid (LW a b x0 y0 x y I J sa D na nb tn):=o;have cb:Hid (Own wr C [I,J]):=he;have an:Hid (Own wr (C+1) [sa,D]):=bv;have cs:Hid (Own wr (C+1+1) [na,nb]):=bu;have HP:Hid (Own wr w.heap.size [0,0]):=hp;have HQ:Hid (Own wr (w.heap.size+1) [0,0]):=hq;have dr:wr.cell? ⟨C+1+1,0,none⟩=some (.int .u64 (na:Int)):=bu.cell (i:=0) eO;have ds:wr.cell? ⟨C+1+1,1,none⟩=some (.int .u64 (nb:Int)):=bu.cell (i:=1) eO;have ea:wr.cell? ⟨C+1,0,none⟩=some (.int .u64 (sa:Int)):=bv.cell (i:=0) eO;have eb:wr.cell? ⟨C+1,1,none⟩=some (.int .u64 (D:Int)):=bv.cell (i:=1) eO;clear he bv bu hp hq;by_cases h1:nb≤y
  ·obtain⟨hz,bn,hk⟩:=o.small h1;have hw:=o.bx;obtain⟨d,hd⟩:∃ d:Nat,d=x-y:=⟨_,rfl⟩;obtain⟨t,ht⟩:∃ t:Nat,t=D+nb:=⟨_,rfl⟩;have nl:(x:Int)-y=(d:Int):=by omega
   have ol:(D:Int)+nb=(t:Int):=by omega
   have cd:(d:Int)<18446744073709551616:=by omega
   have oo:(t:Int)<18446744073709551616:=by omega
   have ep:decide (nb≤y)=true:=decide_eq_true h1;by_cases h2:t≤d
   ·have fs:decide (t≤d)=true:=decide_eq_true h2;obtain⟨q,hq⟩:∃ q:Nat,q=x/y:=⟨_,rfl⟩;obtain⟨r,hr⟩:∃ r:Nat,r=x%y:=⟨_,rfl⟩;have am:=hi9 (HN.out x y I J sa D na nb q tn o h1 dT hq);have X:(x:Int)/y=(q:Int):=by rw[hq];rfl
    have oi:(x:Int)%y=(r:Int):=by rw[hr];rfl
    have ng:((y:Int)==0)=false:=by simp;omega
    have oy:(y:Int)<18446744073709551616:=by omega
    have mv:(x:Int)<18446744073709551616:=by omega
    have lw:q≤x:=by rw[hq];exact bh _ _
    have hg:r<y:=by rw[hr];exact aU _ hz
    have np:(q:Int)<18446744073709551616:=by omega
    have oj:(r:Int)<18446744073709551616:=by omega
    rw[← hr] at am;have ce:sa+q*na<18446744073709551616:=am.out.2.1;have ci:D+q*nb<18446744073709551616:=am.out.2.2;have al:Hid (LW a b x0 y0 y r sa D na nb (sa+q*na) (D+q*nb) (!tn)):=am.out.1;obtain⟨u,hu⟩:∃ u:Nat,u=q*na:=⟨_,rfl⟩;obtain⟨v,hv⟩:∃ v:Nat,v=q*nb:=⟨_,rfl⟩;have oa:(q:Int)*na=(u:Int):=by rw[hu];push_cast;rfl
    have ob:(q:Int)*nb=(v:Int):=by rw[hv];push_cast;rfl
    rw[← hu] at ce al;rw[← hv] at ci al;obtain⟨sx,hm⟩:∃ sx:Nat,sx=sa+u:=⟨_,rfl⟩;obtain⟨Z,ho⟩:∃ Z:Nat,Z=D+v:=⟨_,rfl⟩;have ly:(sa:Int)+u=(sx:Int):=by omega
    have mm:(D:Int)+v=(Z:Int):=by omega
    rw[← hm] at al ce;rw[← ho] at al ci;have ov:(u:Int)<18446744073709551616:=by omega
    have ox:(v:Int)<18446744073709551616:=by omega
    have nc:(sx:Int)<18446744073709551616:=by omega
    have nd:(Z:Int)<18446744073709551616:=by omega
    clear hu hv hm ho ce ci am;have jp:Hid (IntKind.u64.wrap (u:Int)=u):=by show IntKind.u64.wrap (u:Int)=u;rw[IntKind.wrap_u64];omega
    have jx:Hid (IntKind.u64.wrap (v:Int)=v):=by show IntKind.u64.wrap (v:Int)=v;rw[IntKind.wrap_u64];omega
    have kb:Hid (IntKind.u64.wrap (sx:Int)=sx):=by show IntKind.u64.wrap (sx:Int)=sx;rw[IntKind.wrap_u64];omega
    have kk:Hid (IntKind.u64.wrap (Z:Int)=Z):=by show IntKind.u64.wrap (Z:Int)=Z;rw[IntKind.wrap_u64];omega
    have jj:Hid (r<y):=hg;have kq:Hid (y≠0):=by show y≠0;omega
    have it:Hid ((x:Int).tmod y=(r:Int)):=by
     show (x:Int).tmod y=(r:Int);rw[hr];rfl
    clear hq hr hd ht h1 h2 o hk bn hw lw hg;go_wp2_with fail;have mp:=kq.out;have lx:=it.out;refine wp_region_any dV ?_;refine eB (i:=0) (v:= ?_) rfl dV dV dV (fun _ _ _ h=>h) (Or.inl ⟨by rfl,?_⟩) ?_;rotate_left
    ·intro E;first|(go_simp;done)|(go_simp;with_reducible rfl)
    try simp only[Act.put,aA,aI,aJ]
    refine eB (i:=1) (v:= ?_) rfl dV dV dV (fun _ _ _ h=>h) (Or.inl ⟨by rfl,?_⟩) ?_;rotate_left
    ·intro E;first|(go_simp;done)|(go_simp;with_reducible rfl)
    try simp only[Act.put,aA,aI,aJ]
    refine eB (i:=2) (v:= ?_) rfl dV dV dV (fun _ _ _ h=>h) (Or.inl ⟨by rfl,?_⟩) ?_;rotate_left
    ·intro E;first|(go_simp;done)|(go_simp;with_reducible rfl)
    try simp only[Act.put,aA,aI,aJ]
    refine eB (i:=3) (v:= ?_) rfl dV dV dV (fun _ _ _ h=>h) (Or.inl ⟨by rfl,?_⟩) ?_;rotate_left
    ·intro E;first|(go_simp;done)|(go_simp;with_reducible rfl)
    try simp only[Act.put,aA,aI,aJ]
    clear mp lx;refine wpAny_ready (rs:=[4]) dV eO ?_;refine AllReady.cons rfl (fun K B=> ?_) AllReady.nil;go_simp;refine B _ _ ?_;clear K B;refine wpAny_ready (rs:=[5]) dV eO ?_;refine AllReady.cons rfl (fun K B=> ?_) AllReady.nil;go_simp;refine B _ _ ?_;clear K B;refine wpAny_done dV ?_ _;go_wp2_with fail;refine fS 19 (fun w'=>Own w' (C+1+1) [na,nb]) dV ((cs.out.grow (af _).drew).grow (af _).drew) ?_;intro F;refine dU 2 (v:= ?_) rfl dV (fun _ _ _ h=>h) rfl ?_ ‹_› ?_;rotate_left
    ·intro E A
     skip
     exact ft
    try simp only[aput,List.set]
    refine dU 4 (v:= ?_) rfl dV (fun _ _ _ h=>h) rfl ?_ ‹_› ?_;rotate_left
    ·intro E A
     skip
     exact ft
    try simp only[aput,List.set]
    refine dU 5 (v:= ?_) rfl dV (fun _ _ _ h=>h) rfl ?_ ‹_› ?_;rotate_left
    ·intro E A
     skip
     exact ft
    try simp only[aput,List.set]
    refine dU 9 (v:= ?_) rfl dV (fun _ _ _ h=>h) rfl ?_ ‹_› ?_;rotate_left
    ·intro E A
     skip
     exact ft
    try simp only[aput,List.set]
    refine dU 11 (v:= ?_) rfl dV (fun _ _ _ h=>h) rfl ?_ ‹_› ?_;rotate_left
    ·intro E A
     skip
     exact ft
    try simp only[aput,List.set]
    refine dU 12 (v:= ?_) rfl dV (fun _ _ _ h=>h) rfl ?_ ‹_› ?_;rotate_left
    ·intro E A
     skip
     exact ft
    try simp only[aput,List.set]
    refine dU 6 (v:= ?_) rfl dV (fun _ _ _ h=>h) rfl ?_ ‹_› ?_;rotate_left
    ·intro E A
     (have hf:E.cell? ⟨C+1+1,0,none⟩=some (.int .u64 (na:Int)):=Own.cell (i:=0) A eO);(have X:E.cell? ⟨C+1+1,1,none⟩=some (.int .u64 (nb:Int)):=Own.cell (i:=1) A eO)
     exact ft
    try simp only[aput,List.set]
    refine dU 13 (v:= ?_) rfl dV (fun _ _ _ h=>h) rfl ?_ ‹_› ?_;rotate_left
    ·intro E A
     (have hf:E.cell? ⟨C+1+1,0,none⟩=some (.int .u64 (na:Int)):=Own.cell (i:=0) A eO);(have X:E.cell? ⟨C+1+1,1,none⟩=some (.int .u64 (nb:Int)):=Own.cell (i:=1) A eO)
     exact ft
    try simp only[aput,List.set]
    refine dU 7 (v:= ?_) rfl dV (fun _ _ _ h=>h) rfl ?_ ‹_› ?_;rotate_left
    ·intro E A
     skip
     exact ft
    try simp only[aput,List.set]
    refine dU 14 (v:= ?_) rfl dV (fun _ _ _ h=>h) rfl ?_ ‹_› ?_;rotate_left
    ·intro E A
     skip
     exact ft
    try simp only[aput,List.set]
    refine dU 1 (v:= ?_) rfl dV (fun _ _ _ h=>h) rfl ?_ ‹_› ?_;rotate_left
    ·intro E A
     (have hf:E.cell? ⟨C+1+1,0,none⟩=some (.int .u64 (na:Int)):=Own.cell (i:=0) A eO);(have X:E.cell? ⟨C+1+1,1,none⟩=some (.int .u64 (nb:Int)):=Own.cell (i:=1) A eO)
     exact ft
    try simp only[aput,List.set]
    generalize Y:wr.drew.drew=wd at *;have hh:wd.cell? ⟨C+1,0,none⟩=some (.int .u64 (sa:Int)):=by rw[← Y];exact Own.cell (i:=0) ((an.out.grow (af _).drew).grow (af _).drew) eO
    have hj:wd.cell? ⟨C+1,1,none⟩=some (.int .u64 (D:Int)):=by rw[← Y];exact Own.cell (i:=1) ((an.out.grow (af _).drew).grow (af _).drew) eO
    apply share
    ·intro L;refine kO (i:=0) (j:=3) (l:=10) dV rfl rfl rfl ?_ ?_ ?_
     ·skip
      intro K B;go_simp;refine B.out _ _ (Or.inr F) ?_;clear B K;refine gX (i:=3) (j:=10) dV rfl rfl ?_ ?_
      ·skip
       intro K B;go_simp;refine B.out _ _ (Or.inr F) ?_;clear B K;refine dU 8 (v:= ?_) rfl dV (fun _ _ _ h=>h) rfl ?_ ‹_› ?_;rotate_left
       ·intro E A
        skip
        exact ft
       try simp only[aput,List.set]
       refine dY (i:=10) dV rfl ?_;intro K B;go_simp;refine B.out _ _ (Or.inr F) ?_;clear B K;refine dU 15 (v:= ?_) rfl dV (fun _ _ _ h=>h) rfl ?_ ‹_› ?_;rotate_left
       ·intro E A
        skip
        exact ft
       try simp only[aput,List.set]
       refine dU 16 (v:= ?_) rfl dV (fun _ _ _ h=>h) rfl ?_ ‹_› ?_;rotate_left
       ·intro E A
        skip
        exact ft
       try simp only[aput,List.set]
       exact L.out
      ·skip
       intro K B;go_simp;refine B.out _ _ (Or.inr F) ?_;clear B K;refine dU 15 (v:= ?_) rfl dV (fun _ _ _ h=>h) rfl ?_ ‹_› ?_;rotate_left
       ·intro E A
        skip
        exact ft
       try simp only[aput,List.set]
       refine dY (i:=3) dV rfl ?_;intro K B;go_simp;refine B.out _ _ (Or.inr F) ?_;clear B K;refine dU 8 (v:= ?_) rfl dV (fun _ _ _ h=>h) rfl ?_ ‹_› ?_;rotate_left
       ·intro E A
        skip
        exact ft
       try simp only[aput,List.set]
       refine dU 16 (v:= ?_) rfl dV (fun _ _ _ h=>h) rfl ?_ ‹_› ?_;rotate_left
       ·intro E A
        skip
        exact ft
       try simp only[aput,List.set]
       exact fg dV L.out
     ·skip
      intro K B;go_simp;refine B.out _ _ (Or.inr F) ?_;clear B K;refine dU 8 (v:= ?_) rfl dV (fun _ _ _ h=>h) rfl ?_ ‹_› ?_;rotate_left
      ·intro E A
       skip
       exact ft
      try simp only[aput,List.set]
      refine gX (i:=0) (j:=10) dV rfl rfl ?_ ?_
      ·skip
       intro K B;go_simp;refine B.out _ _ (Or.inr F) ?_;clear B K;refine dY (i:=10) dV rfl ?_;intro K B;go_simp;refine B.out _ _ (Or.inr F) ?_;clear B K;refine dU 15 (v:= ?_) rfl dV (fun _ _ _ h=>h) rfl ?_ ‹_› ?_;rotate_left
       ·intro E A
        skip
        exact ft
       try simp only[aput,List.set]
       refine dU 16 (v:= ?_) rfl dV (fun _ _ _ h=>h) rfl ?_ ‹_› ?_;rotate_left
       ·intro E A
        skip
        exact ft
       try simp only[aput,List.set]
       exact fg dV L.out
      ·skip
       intro K B;go_simp;refine B.out _ _ (Or.inr F) ?_;clear B K;refine dU 15 (v:= ?_) rfl dV (fun _ _ _ h=>h) rfl ?_ ‹_› ?_;rotate_left
       ·intro E A
        skip
        exact ft
       try simp only[aput,List.set]
       refine dU 16 (v:= ?_) rfl dV (fun _ _ _ h=>h) rfl ?_ ‹_› ?_;rotate_left
       ·intro E A
        skip
        exact ft
       try simp only[aput,List.set]
       refine dY (i:=0) dV rfl ?_;intro K B;go_simp;refine B.out _ _ (Or.inr F) ?_;clear B K;exact fg dV L.out
     ·skip
      intro K B;go_simp;refine B.out _ _ (Or.inr F) ?_;clear B K;refine dU 15 (v:= ?_) rfl dV (fun _ _ _ h=>h) rfl ?_ ‹_› ?_;rotate_left
      ·intro E A
       skip
       exact ft
      try simp only[aput,List.set]
      refine gX (i:=0) (j:=3) dV rfl rfl ?_ ?_
      ·skip
       intro K B;go_simp;refine B.out _ _ (Or.inr F) ?_;clear B K;refine dY (i:=3) dV rfl ?_;intro K B;go_simp;refine B.out _ _ (Or.inr F) ?_;clear B K;refine dU 8 (v:= ?_) rfl dV (fun _ _ _ h=>h) rfl ?_ ‹_› ?_;rotate_left
       ·intro E A
        skip
        exact ft
       try simp only[aput,List.set]
       refine dU 16 (v:= ?_) rfl dV (fun _ _ _ h=>h) rfl ?_ ‹_› ?_;rotate_left
       ·intro E A
        skip
        exact ft
       try simp only[aput,List.set]
       exact fg dV L.out
      ·skip
       intro K B;go_simp;refine B.out _ _ (Or.inr F) ?_;clear B K;refine dU 8 (v:= ?_) rfl dV (fun _ _ _ h=>h) rfl ?_ ‹_› ?_;rotate_left
       ·intro E A
        skip
        exact ft
       try simp only[aput,List.set]
       refine dU 16 (v:= ?_) rfl dV (fun _ _ _ h=>h) rfl ?_ ‹_› ?_;rotate_left
       ·intro E A
        skip
        exact ft
       try simp only[aput,List.set]
       refine dY (i:=0) dV rfl ?_;intro K B;go_simp;refine B.out _ _ (Or.inr F) ?_;clear B K;exact fg dV L.out
    ·refine Later.mk ?_;have c:sa<2^64:=S.out.bc;have W:D<2^64:=S.out.bd;have k:na<2^64:=S.out.be;have m:nb<2^64:=S.out.bf;have lc:sx<2^64:=by omega
     have lg:Z<2^64:=by omega
     have A1:Own wd C [I,J]:=by rw[← Y];exact(cb.out.grow (af _).drew).grow (af _).drew
     have A2:Own wd (C+1) [sa,D]:=by rw[← Y];exact(an.out.grow (af _).drew).grow (af _).drew
     have A3:Own wd (C+1+1) [na,nb]:=by rw[← Y];exact(cs.out.grow (af _).drew).grow (af _).drew
     have A4:Own wd w.heap.size [0,0]:=by rw[← Y];exact(HP.out.grow (af _).drew).grow (af _).drew
     have A5:Own wd (w.heap.size+1) [0,0]:=by rw[← Y];exact(HQ.out.grow (af _).drew).grow (af _).drew
     have A6:G w wd:=by rw[← Y];exact hG.drew.drew
     have n1:C+1≠C:=by omega
     have n2:C+1+1≠C:=by omega
     have n3:w.heap.size≠C:=by omega
     have n4:w.heap.size+1≠C:=by omega
     have n5:C≠C+1:=by omega
     have n6:C+1+1≠C+1:=by omega
     have n7:w.heap.size≠C+1:=by omega
     have n8:w.heap.size+1≠C+1:=by omega
     have n9:C≠C+1+1:=by omega
     have ih:C+1≠C+1+1:=by omega
     have ii:w.heap.size≠C+1+1:=by omega
     have io:w.heap.size+1≠C+1+1:=by omega
     have B1:=hi9 (gn (x':=sa) (y':=D) A1 c W);have B2:=hi9 (eu (u:= .int .u64 (sa:Int)) (v:= .int .u64 (D:Int)) A2 n1);have B3:=hi9 (eu (u:= .int .u64 (sa:Int)) (v:= .int .u64 (D:Int)) A3 n2);have B4:=hi9 (eu (u:= .int .u64 (sa:Int)) (v:= .int .u64 (D:Int)) A4 n3);have B5:=hi9 (eu (u:= .int .u64 (sa:Int)) (v:= .int .u64 (D:Int)) A5 n4);have B6:=hi9 (jn (b:=C) (u:= .int .u64 (sa:Int)) (v:= .int .u64 (D:Int)) A6 dT);obtain⟨M,N,O,R⟩:=ej A1;clear A1 A2 A3 A4 A5 A6 hh hj F;refine dY (i:=17) dV rfl ?_;intro K B;go_simp;refine B.out _ _ (Or.inr B3.out) ?_;clear B K M N O R Y;generalize (wd.setCell ⟨C,0,none⟩ (.int .u64 (sa:Int))).setCell ⟨C,1,none⟩ (.int .u64 (D:Int))=we at *;have C1:=hi9 (eu (u:= .int .u64 (na:Int)) (v:= .int .u64 (nb:Int)) B1.out n5);have C2:=hi9 (gn (x':=na) (y':=nb) B2.out k m);have C3:=hi9 (eu (u:= .int .u64 (na:Int)) (v:= .int .u64 (nb:Int)) B3.out n6);have C4:=hi9 (eu (u:= .int .u64 (na:Int)) (v:= .int .u64 (nb:Int)) B4.out n7);have C5:=hi9 (eu (u:= .int .u64 (na:Int)) (v:= .int .u64 (nb:Int)) B5.out n8);have C6:=hi9 (jn (b:=C+1) (u:= .int .u64 (na:Int)) (v:= .int .u64 (nb:Int)) B6.out dT);obtain⟨M,N,O,R⟩:=ej B2.out;clear B1 B2 B3 B4 B5 B6;refine dY (i:=18) dV rfl ?_;intro K B;go_simp;refine B.out _ _ (Or.inr C3.out) ?_;clear B K M N O R;generalize (we.setCell ⟨C+1,0,none⟩ (.int .u64 (na:Int))).setCell ⟨C+1,1,none⟩ (.int .u64 (nb:Int))=wf at *;have D1:=hi9 (eu (u:= .int .u64 (sx:Int)) (v:= .int .u64 (Z:Int)) C1.out n9)
     have D2:=hi9 (eu (u:= .int .u64 (sx:Int)) (v:= .int .u64 (Z:Int)) C2.out ih);have D3:=hi9 (gn (x':=sx) (y':=Z) C3.out lc lg);have D4:=hi9 (eu (u:= .int .u64 (sx:Int)) (v:= .int .u64 (Z:Int)) C4.out ii);have D5:=hi9 (eu (u:= .int .u64 (sx:Int)) (v:= .int .u64 (Z:Int)) C5.out io);have D6:=hi9 (jn (b:=C+1+1) (u:= .int .u64 (sx:Int)) (v:= .int .u64 (Z:Int)) C6.out dT);obtain⟨M,N,O,R⟩:=ej C3.out;clear C1 C2 C3 C4 C5 C6;refine dY (i:=19) dV rfl ?_;intro K B;go_simp;refine B.out _ _ (Or.inl ey) ?_;clear B K M N O R;rw[jp.out,jx.out,ly,mm,kb.out,kk.out];generalize (wf.setCell ⟨C+1+1,0,none⟩ (.int .u64 (sx:Int))).setCell ⟨C+1+1,1,none⟩ (.int .u64 (Z:Int))=wg at *;refine fa dV ?_ _;clear n1 n2 n3 n4 n5 n6 n7 n8 n9 ih ii io;go_wp2_with fail
     go_roundw
     case rel=>exact⟨y,r,sa,D,na,nb,sx,Z, !tn,rfl,rfl,rfl,al.out,D1.out,D2.out,D3.out,D4.out,D5.out,D6.out⟩
     case measure=>
      have h:=jj.out;simp only[intOf];omega
   ·have fs:decide (t≤d)=false:=decide_eq_false h2;clear hd ht h1 h2 o hk bn hw hz;go_wp2_with fail;have c:I<2^64:=S.out.ba;have W:J<2^64:=S.out.bb;have k:sa<2^64:=S.out.bc;have m:D<2^64:=S.out.bd;have A1:Own wr.drew C [I,J]:=cb.out.grow (af _).drew;have A2:Own wr.drew (C+1) [sa,D]:=an.out.grow (af _).drew;have A4:Own wr.drew w.heap.size [0,0]:=HP.out.grow (af _).drew;have A5:Own wr.drew (w.heap.size+1) [0,0]:=HQ.out.grow (af _).drew;have A6:G w wr.drew:=hG.drew;clear dr ds ea eb;refine fS 5 (fun w'=>Own w' C [I,J]∧Own w' (C+1) [sa,D]) dV ⟨A1,A2⟩ ?_;intro F;refine dU 0 (v:= ?_) rfl dV (fun _ _ _ h=>h) rfl ?_ ‹_› ?_;rotate_left
    ·intro E A
     (obtain⟨X,ap,-,-⟩:=ej A.1);(obtain⟨bi,bl,-,-⟩:=ej A.2)
     exact ft
    try simp only[aput,List.set]
    refine dU 1 (v:= ?_) rfl dV (fun _ _ _ h=>h) rfl ?_ ‹_› ?_;rotate_left
    ·intro E A
     (obtain⟨X,ap,-,-⟩:=ej A.1);(obtain⟨bi,bl,-,-⟩:=ej A.2)
     exact ft
    try simp only[aput,List.set]
    refine dU 2 (v:= ?_) rfl dV (fun _ _ _ h=>h) rfl ?_ ‹_› ?_;rotate_left
    ·intro E A
     (obtain⟨X,ap,-,-⟩:=ej A.1);(obtain⟨bi,bl,-,-⟩:=ej A.2)
     exact ft
    try simp only[aput,List.set]
    generalize wr.drew=wd at *;have n1:C≠w.heap.size:=by omega
    have n2:C+1≠w.heap.size:=by omega
    have n3:w.heap.size+1≠w.heap.size:=by omega
    have n4:w.heap.size≠w.heap.size+1:=by omega
    have B1:=hi9 (eu (u:= .int .u64 (I:Int)) (v:= .int .u64 (J:Int)) A1 n1);have B2:=hi9 (eu (u:= .int .u64 (I:Int)) (v:= .int .u64 (J:Int)) A2 n2);have B4:=hi9 (gn (x':=I) (y':=J) A4 c W);have B5:=hi9 (eu (u:= .int .u64 (I:Int)) (v:= .int .u64 (J:Int)) A5 n3);have B6:=hi9 (jn (b:=w.heap.size) (u:= .int .u64 (I:Int)) (v:= .int .u64 (J:Int)) A6 dT);obtain⟨M,N,O,R⟩:=ej A4;clear A1 A2 A4 A5 A6 F;refine dY (i:=3) dV rfl ?_;intro K B;go_simp;refine B.out _ _ (Or.inr ⟨B1.out,B2.out⟩) ?_;clear B K M N O R;generalize (wd.setCell ⟨w.heap.size,0,none⟩ (.int .u64 (I:Int))).setCell ⟨w.heap.size,1,none⟩ (.int .u64 (J:Int))=we at *;have C4:=hi9 (eu (u:= .int .u64 (sa:Int)) (v:= .int .u64 (D:Int)) B4.out n4);have C5:=hi9 (gn (x':=sa) (y':=D) B5.out k m);have C1:Hid _:=eu (u:= .int .u64 (sa:Int)) (v:= .int .u64 (D:Int)) B1.out (show C≠w.heap.size+1 by omega);have C2:Hid _:=eu (u:= .int .u64 (sa:Int)) (v:= .int .u64 (D:Int)) B2.out (show C+1≠w.heap.size+1 by omega);have C6:=hi9 (jn (b:=w.heap.size+1) (u:= .int .u64 (sa:Int)) (v:= .int .u64 (D:Int)) B6.out dT);obtain⟨M,N,O,R⟩:=ej B5.out;clear B1 B2 B4 B5 B6;refine dY (i:=4) dV rfl ?_;intro K B;go_simp;refine B.out _ _ (Or.inr ⟨C1.out,C2.out⟩) ?_;clear B K M N O R;generalize (we.setCell ⟨w.heap.size+1,0,none⟩ (.int .u64 (sa:Int))).setCell ⟨w.heap.size+1,1,none⟩ (.int .u64 (D:Int))=wf at *;refine dY (i:=5) dV rfl ?_;intro K B;go_simp;refine B.out _ _ (Or.inl ey) ?_;clear B K;refine fa dV ?_ _;obtain⟨M,N,O,R⟩:=ej C4.out
    obtain⟨kr,ks,kv,kw⟩:=ej C5.out;clear C1 C2 C4 C5 n1 n2 n3 n4;go_wp2_with fail;refine bodyPost_ret (v:= .tuple #[.agg #[.int .u64 (I:Int),.int .u64 (J:Int)],.agg #[.int .u64 (sa:Int),.int .u64 (D:Int)],.bool tn]) (by simp [results,Tryz.results208,go_sem, *]) rfl ?_;exact⟨I,J,sa,D,tn,rfl,C6.out,c,W,k,m,S.out.lr.last⟩
  ·have ep:decide (nb≤y)=false:=decide_eq_false h1;clear h1 o;go_wp2_with fail;have c:I<2^64:=S.out.ba;have W:J<2^64:=S.out.bb;have k:sa<2^64:=S.out.bc;have m:D<2^64:=S.out.bd;have A1:Own wr.drew C [I,J]:=cb.out.grow (af _).drew;have A2:Own wr.drew (C+1) [sa,D]:=an.out.grow (af _).drew;have A4:Own wr.drew w.heap.size [0,0]:=HP.out.grow (af _).drew;have A5:Own wr.drew (w.heap.size+1) [0,0]:=HQ.out.grow (af _).drew;have A6:G w wr.drew:=hG.drew;clear dr ds ea eb;refine fS 5 (fun w'=>Own w' C [I,J]∧Own w' (C+1) [sa,D]) dV ⟨A1,A2⟩ ?_;intro F;refine dU 0 (v:= ?_) rfl dV (fun _ _ _ h=>h) rfl ?_ ‹_› ?_;rotate_left
   ·intro E A
    (obtain⟨X,ap,-,-⟩:=ej A.1);(obtain⟨bi,bl,-,-⟩:=ej A.2)
    exact ft
   try simp only[aput,List.set]
   refine dU 1 (v:= ?_) rfl dV (fun _ _ _ h=>h) rfl ?_ ‹_› ?_;rotate_left
   ·intro E A
    (obtain⟨X,ap,-,-⟩:=ej A.1);(obtain⟨bi,bl,-,-⟩:=ej A.2)
    exact ft
   try simp only[aput,List.set]
   refine dU 2 (v:= ?_) rfl dV (fun _ _ _ h=>h) rfl ?_ ‹_› ?_;rotate_left
   ·intro E A
    (obtain⟨X,ap,-,-⟩:=ej A.1);(obtain⟨bi,bl,-,-⟩:=ej A.2)
    exact ft
   try simp only[aput,List.set]
   generalize wr.drew=wd at *;have n1:C≠w.heap.size:=by omega
   have n2:C+1≠w.heap.size:=by omega
   have n3:w.heap.size+1≠w.heap.size:=by omega
   have n4:w.heap.size≠w.heap.size+1:=by omega
   have B1:=hi9 (eu (u:= .int .u64 (I:Int)) (v:= .int .u64 (J:Int)) A1 n1);have B2:=hi9 (eu (u:= .int .u64 (I:Int)) (v:= .int .u64 (J:Int)) A2 n2);have B4:=hi9 (gn (x':=I) (y':=J) A4 c W);have B5:=hi9 (eu (u:= .int .u64 (I:Int)) (v:= .int .u64 (J:Int)) A5 n3);have B6:=hi9 (jn (b:=w.heap.size) (u:= .int .u64 (I:Int)) (v:= .int .u64 (J:Int)) A6 dT);obtain⟨M,N,O,R⟩:=ej A4;clear A1 A2 A4 A5 A6 F;refine dY (i:=3) dV rfl ?_;intro K B;go_simp;refine B.out _ _ (Or.inr ⟨B1.out,B2.out⟩) ?_;clear B K M N O R;generalize (wd.setCell ⟨w.heap.size,0,none⟩ (.int .u64 (I:Int))).setCell ⟨w.heap.size,1,none⟩ (.int .u64 (J:Int))=we at *;have C4:=hi9 (eu (u:= .int .u64 (sa:Int)) (v:= .int .u64 (D:Int)) B4.out n4);have C5:=hi9 (gn (x':=sa) (y':=D) B5.out k m);have C1:Hid _:=eu (u:= .int .u64 (sa:Int)) (v:= .int .u64 (D:Int)) B1.out (show C≠w.heap.size+1 by omega);have C2:Hid _:=eu (u:= .int .u64 (sa:Int)) (v:= .int .u64 (D:Int)) B2.out (show C+1≠w.heap.size+1 by omega);have C6:=hi9 (jn (b:=w.heap.size+1) (u:= .int .u64 (sa:Int)) (v:= .int .u64 (D:Int)) B6.out dT);obtain⟨M,N,O,R⟩:=ej B5.out;clear B1 B2 B4 B5 B6;refine dY (i:=4) dV rfl ?_;intro K B;go_simp;refine B.out _ _ (Or.inr ⟨C1.out,C2.out⟩) ?_;clear B K M N O R;generalize (we.setCell ⟨w.heap.size+1,0,none⟩ (.int .u64 (sa:Int))).setCell ⟨w.heap.size+1,1,none⟩ (.int .u64 (D:Int))=wf at *;refine dY (i:=5) dV rfl ?_;intro K B;go_simp;refine B.out _ _ (Or.inl ey) ?_;clear B K;refine fa dV ?_ _;obtain⟨M,N,O,R⟩:=ej C4.out
   obtain⟨kr,ks,kv,kw⟩:=ej C5.out;clear C1 C2 C4 C5 n1 n2 n3 n4;go_wp2_with fail;refine bodyPost_ret (v:= .tuple #[.agg #[.int .u64 (I:Int),.int .u64 (J:Int)],.agg #[.int .u64 (sa:Int),.int .u64 (D:Int)],.bool tn]) (by simp [results,Tryz.results208,go_sem, *]) rfl ?_;exact⟨I,J,sa,D,tn,rfl,C6.out,c,W,k,m,S.out.lr.last⟩
/-- The difference that a share tells, as one of numbers. -/
theorem q1A {t:Bool} {a b p q Z:Nat} (h:(Z:Int)=mx (!t) a b p q):if t then a*p≤b*q∧Z=b*q-a*p else b*q≤a*p∧Z=a*p-b*q:=by
 unfold mx at h;cases t
 ·simp only[dL,if_true,aE,if_false] at h ⊢;rw[← aV,← aV] at h;omega
 ·simp only[cP,if_true,aE,if_false] at h ⊢;rw[← aV,← aV] at h;omega
theorem q1X (w:World) (va vb:Value) (a b p q K:Nat) (t:Bool) (Z:Nat) (C:K≤400000) (cn:1≤K) (ha:Num w va a) (hb:Num w vb b) (W:a<2^(64*K)) (X:b<2^(64*K)) (hp:p<2^64) (hq:q<2^64) (hZ:(Z:Int)=mx (!t) a b p q):
  Calls Tryz.prog 209 #[.agg #[.int .u64 (p:Int),.int .u64 (q:Int)],va,vb,.bool t] w (ef w Z):=by
 have hz:=q1A hZ;have I:∀ p:Nat,p<2^64→p<2^(64*K):=fun p hp=>ad hp (ak dT dT);have Y:∀ a p:Nat,a<2^(64*K)→p<2^(64*K)→a*p<2^(64*(2*K)):=by
  intro a p h1 h2;rw[show 64*(2*K)=64*K+64*K from by omega,ah];exact dj h1 h2
 have bi:=Y a p W (I p hp);have bl:=Y b q X (I q hq);have al:Hid (∀ B,_):=fun B=>iT B p hp;have am:Hid (∀ B,_):=fun B=>iT B q hq;have k:Hid (∀ B v,G w B→Num B v p→_):=fun B v g hv=>iz B va v a p K dT (ha.G g) hv W (I p hp);have m:Hid (∀ B v,G w B→Num B v q→_):=fun B v g hv=>iz B vb v b q K dT (hb.G g) hv X (I q hq);have R:Hid (∀ B u v,Num B u (a*p)→Num B v (b*q)→b*q≤a*p→_):=fun B u v hu hv hle=>nG B u v (a*p) (b*q) (2*K) dT hu hv bi hle;have S:Hid (∀ B u v,Num B u (b*q)→Num B v (a*p)→a*p≤b*q→_):=fun B u v hu hv hle=>nG B u v (b*q) (a*p) (2*K) dT hu hv bl hle;generalize a*p=ap at *;generalize b*q=bq at *;clear I Y bi bl ha hb W X hZ;go_enter Tryz.func209,Tryz.ntmps209;go_wp2_with fail;have F:G w (w.alloc (.cells #[.int .u64 (p:Int),.int .u64 (q:Int)] 222)):=(af _).alloc _;have ca:(w.alloc (.cells #[.int .u64 (p:Int),.int .u64 (q:Int)] 222)).cell? ⟨w.heap.size,0,none⟩=some (.int .u64 (p:Int)):=by simp [go_sem]
 have cb:(w.alloc (.cells #[.int .u64 (p:Int),.int .u64 (q:Int)] 222)).cell? ⟨w.heap.size,1,none⟩=some (.int .u64 (q:Int)):=by simp [go_sem]
 have cc:w.heap.size<(w.alloc (.cells #[.int .u64 (p:Int),.int .u64 (q:Int)] 222)).heap.size:=by simp
 generalize w.alloc (.cells #[.int .u64 (p:Int),.int .u64 (q:Int)] 222)=B at *;refine fS 11 (G B) dV (by first|exact(af _).drew|exact G.drew kV) ?_;intro ao;have E:Hid (∀ D,G B D→D.cell? ⟨w.heap.size,0,none⟩=some (.int .u64 (p:Int))∧D.cell? ⟨w.heap.size,1,none⟩=some (.int .u64 (q:Int))):=fun D A=>⟨ge9 ⟨w.heap.size,0,none⟩ (.int .u64 (p:Int)) A,ge9 ⟨w.heap.size,1,none⟩ (.int .u64 (q:Int)) A⟩;refine dU 0 (v:= ?_) rfl dV (fun _ _ _ h=>h) rfl ?_ ‹_› ?_;rotate_left
 ·intro D A;obtain⟨cr,cs⟩:=E.out D A;exact ft
 try simp only[aput,List.set]
 refine dU 1 (v:= ?_) rfl dV (fun _ _ _ h=>h) rfl ?_ ‹_› ?_;rotate_left
 ·intro D A;obtain⟨cx,cz⟩:=E.out D A;exact ft
 try simp only[aput,List.set]
 refine dU 2 (v:= ?_) rfl dV (fun _ _ _ h=>h) rfl ?_ ‹_› ?_;rotate_left
 ·intro D A;obtain⟨dk,dl⟩:=E.out D A;exact ft
 try simp only[aput,List.set]
 refine dU 5 (v:= ?_) rfl dV (fun _ _ _ h=>h) rfl ?_ ‹_› ?_;rotate_left
 ·intro D A;obtain⟨dq,dr⟩:=E.out D A;exact ft
 try simp only[aput,List.set]
 refine dU 6 (v:= ?_) rfl dV (fun _ _ _ h=>h) rfl ?_ ‹_› ?_;rotate_left
 ·intro D A;obtain⟨cd,ce⟩:=E.out D A;exact ft
 try simp only[aput,List.set]
 refine dU 7 (v:= ?_) rfl dV (fun _ _ _ h=>h) rfl ?_ ‹_› ?_;rotate_left
 ·intro D A;obtain⟨ci,cl⟩:=E.out D A;exact ft
 try simp only[aput,List.set]
 clear E;clear ca cb cc;have o:=hi9 (al.out B.drew);refine dY (i:=3) dV rfl ?_;intro K C;go_simp;go_wp2_with (go_at_call 110;refine dS o.out ?_;intro e w2 J;obtain⟨v1,rfl,g2,bn⟩:=J);have g12:=aa ao g2;refine C.out _ _ (Or.inr g12) ?_;clear C K;have d:=hi9 (k.out w2 v1 (aa F g12) bn);clear bn k al o ao g2;refine dY (i:=4) dV rfl ?_;intro K C;go_simp;go_wp2_with (go_at_call 61;refine dS d.out ?_;intro e w3 J;obtain⟨x,rfl,g3,bv⟩:=J);have g13:=aa g12 g3;refine C.out _ _ (Or.inr g13) ?_;clear C K d g12 g3;have c:Hid (Num w3 x ap):=bv;have s:=hi9 (am.out w3);clear bv am;refine dY (i:=8) dV rfl ?_;intro K C;go_simp;go_wp2_with (go_at_call 110;refine dS s.out ?_;intro e w4 J;obtain⟨v2,rfl,g4,bu⟩:=J);have g14:=aa g13 g4;refine C.out _ _ (Or.inr g14) ?_;clear C K s g13;have M:Hid (Num w4 x ap):=c.out.G g4;have j:=hi9 (m.out w4 v2 (aa F g14) bu);clear bu m c g4;refine dY (i:=9) dV rfl ?_;intro K C;go_simp;go_wp2_with (go_at_call 61;refine dS j.out ?_;intro e w5 J;obtain⟨y,rfl,g5,bz⟩:=J);have g15:=aa g14 g5;refine C.out _ _ (Or.inr g15) ?_;clear C K j g14;have N:Hid (Num w5 x ap):=M.out.G g5;have O:Hid (Num w5 y bq):=bz;clear bz M g5;refine dY (i:=10) dV rfl ?_;intro K C;go_simp;refine C.out _ _ (Or.inr g15) ?_;clear C K;refine dY (i:=11) dV rfl ?_;intro K C;go_simp;refine C.out _ _ (Or.inl ey) ?_;clear C K;refine fa dV ?_ _;have an:=aa F g15;cases t
 ·simp only[aE,if_false] at hz;obtain⟨L,rfl⟩:=hz;have U:=hi9 (R.out w5 x y N.out O.out L);clear R S F g15 L;go_wp2_with fail;refine dS U.out ?_;intro e w6 J;obtain⟨v,rfl,g6,hn⟩:=J;go_wp2_with fail;go_ret;exact⟨v,rfl,aa an g6,hn⟩
 ·simp only[if_true] at hz;obtain⟨L,rfl⟩:=hz;have U:=hi9 (S.out w5 y x O.out N.out L);clear R S F g15 L;go_wp2_with fail;refine dS U.out ?_;intro e w6 J;obtain⟨v,rfl,g6,hn⟩:=J;go_wp2_with fail;go_ret;exact⟨v,rfl,aa an g6,hn⟩
/-- Two numbers that are nearer, with the same divisors. -/
def nW (a b:Nat) (w:World) (e:Ending) (A:World):Prop:=∃ (X Y:Nat) (x y:Value),e= .returned (.tuple #[x,y])∧G w A∧Num A x X∧Num A y Y∧Y<X∧X≤b∧Nat.gcd X Y=Nat.gcd a b
set_option maxHeartbeats 4000000 in
theorem lH (w:World) (va M:Value) (a b K:Nat) (hK:K≤400000) (U:1≤K) (k:Num w va a) (hb:Num w M b) (F:a<2^(64*K)) (I:b≤a) (N:2^64≤b):
  Calls Tryz.prog 175 #[va,M] w (nW a b w):=by
 have HS:=hi9 (qG w va M a b K hK k hb F I (ch N I));have o:Hid (∀ B,G w B→_):=fun B g=>jk B va M a b K hK U (k.G g) (hb.G g) F (aG I F) dT;have i:Hid (∀ B,G w B→∀ (p q:Nat) (t:Bool) (Z:Nat),p<2^64→q<2^64→(Z:Int)=mx (!t) a b p q→_):=fun B g p q t Z hp hq hZ=>q1X B va M a b p q K t Z hK U (k.G g) (hb.G g) F (aG I F) hp hq hZ;have HB:Hid (Num w M b):=hb;have m:Hid (0<b):=by show 0<b;omega
 clear k hb F I N;go_enter Tryz.func175,Tryz.ntmps175;go_wp2_with fail;refine dS HS.out ?_;intro e B hs;obtain⟨C,D,sa,E,tn,rfl,g1,h1,h2,h3,j,O⟩:=hs;clear HS;have HL:Hid (LEnd a b C D sa E tn):=O;clear O;by_cases L:D=0
 ·subst L;go_wp2_with fail;have g2:G w ((B.alloc (.cells #[.int .u64 (C:Int),.int .u64 0] 222)).alloc (.cells #[.int .u64 (sa:Int),.int .u64 (E:Int)] 222)):=(g1.alloc _).alloc _;have S:=hi9 (o.out _ g2);generalize (B.alloc (.cells #[.int .u64 (C:Int),.int .u64 0] 222)).alloc (.cells #[.int .u64 (sa:Int),.int .u64 (E:Int)] 222)=w2 at *;clear o i;refine dS S.out ?_;intro e w3 hs;obtain⟨v1,v2,rfl,g3,-,c⟩:=hs;have HN:Hid (Num w3 v2 (a%b)):=c;have g4:=aa g2 g3;clear c S g3 g2;go_wp2_with fail
  go_ret2
  exact⟨b,a%b,M,v2,rfl,g4,HB.out.G g4,HN.out,aU _ m.out,ay _,by rw[bG b (a%b),← dC,bG]⟩
 ·have bn:((D:Int)==0)=false:=by simp;exact L
  obtain⟨hd,ap,bi,ao⟩:=HL.out.resolve_left L;obtain⟨X,hX⟩:∃ X:Nat,(X:Int)=mx (!tn) a b C D:=⟨(mx (!tn) a b C D).toNat,by omega⟩;obtain⟨Y,hY⟩:∃ Y:Nat,(Y:Int)=mx tn a b sa E:=⟨(mx tn a b sa E).toNat,by omega⟩;have hg:=q0q hd hX hY;have HG:Hid (Y<X∧X≤b∧Nat.gcd X Y=Nat.gcd a b):=⟨by omega,by omega,hg⟩;have s:Hid (∀ B,G w B→_):=fun B g=>i.out B g C D tn X h1 h2 hX;have y:Hid (∀ B,G w B→_):=fun B g=>i.out B g sa E (!tn) Y h3 j (by rw[Bool.not_not];exact hY);clear L hd ap bi ao hX hY hg i HL o h1 h2 h3 j;go_wp2_with fail;have gB:G w ((B.alloc (.cells #[.int .u64 (C:Int),.int .u64 (D:Int)] 222)).alloc (.cells #[.int .u64 (sa:Int),.int .u64 (E:Int)] 222)):=(g1.alloc _).alloc _;have c0:((B.alloc (.cells #[.int .u64 (C:Int),.int .u64 (D:Int)] 222)).alloc (.cells #[.int .u64 (sa:Int),.int .u64 (E:Int)] 222)).cell? ⟨B.heap.size,0,none⟩=some (.int .u64 (C:Int)):=by simp [go_sem]
  have c1:((B.alloc (.cells #[.int .u64 (C:Int),.int .u64 (D:Int)] 222)).alloc (.cells #[.int .u64 (sa:Int),.int .u64 (E:Int)] 222)).cell? ⟨B.heap.size,1,none⟩=some (.int .u64 (D:Int)):=by simp [go_sem]
  have c2:((B.alloc (.cells #[.int .u64 (C:Int),.int .u64 (D:Int)] 222)).alloc (.cells #[.int .u64 (sa:Int),.int .u64 (E:Int)] 222)).cell? ⟨B.heap.size+1,0,none⟩=some (.int .u64 (sa:Int)):=by simp [go_sem]
  have c3:((B.alloc (.cells #[.int .u64 (C:Int),.int .u64 (D:Int)] 222)).alloc (.cells #[.int .u64 (sa:Int),.int .u64 (E:Int)] 222)).cell? ⟨B.heap.size+1,1,none⟩=some (.int .u64 (E:Int)):=by simp [go_sem]
  have hz:((B.alloc (.cells #[.int .u64 (C:Int),.int .u64 (D:Int)] 222)).alloc (.cells #[.int .u64 (sa:Int),.int .u64 (E:Int)] 222)).heap.size=B.heap.size+1+1:=by simp
  generalize (B.alloc (.cells #[.int .u64 (C:Int),.int .u64 (D:Int)] 222)).alloc (.cells #[.int .u64 (sa:Int),.int .u64 (E:Int)] 222)=w2 at *;refine oW 13 0 [.is (.agg #[.int .u64 (C:Int),.int .u64 (D:Int)]),.is (va),.is (M),.is (.bool tn),.any (fun v R=>Num R v (X)),.is (.agg #[.int .u64 (sa:Int),.int .u64 (E:Int)]),.is (va),.is (M),.is (.bool tn),.is (.bool (!tn)),.any (fun v R=>Num R v (Y)),.any (fun v R=>Num R v (X)),.any (fun v R=>Num R v (Y))] [some 29,some 30,some 31,some 32,some 33,some 34,some 35,some 36,some 37,some 38,some 39,some 4,some 5] ?_;intro v4 bl d v12 A hA;simp only[eY,Act.put,aA,aI,aJ] at hA;subst hA;refine⟨?_,?_⟩
  ·skip
   refine ai rfl ?a1 (ai rfl ?a6 (ai rfl ?a7 (ai rfl ?a8 (ai rfl ?b7 (ai rfl ?o1_5 (ai rfl ?b0 (ai rfl ?b1 (ai rfl ?b2 (ai rfl ?o1_9 (ai rfl ?b3 (ai rfl ?b4 (ai rfl ?b5 (Eaches.nil)))))))))))))
   case a6|a7|a8|b0|b1|b2|o1_9=>
    exact oV
   case a1|o1_5=>
    intro W J hD K hK;clear hD;have bq:=ge9 ⟨B.heap.size,0,none⟩ (.int .u64 (C:Int)) J;have bu:=ge9 ⟨B.heap.size,1,none⟩ (.int .u64 (D:Int)) J;have bv:=ge9 ⟨B.heap.size+1,0,none⟩ (.int .u64 (sa:Int)) J;have bz:=ge9 ⟨B.heap.size+1,1,none⟩ (.int .u64 (E:Int)) J;go_simp;exact hK.out _ _ ⟨_,rfl,af _,rfl⟩
   ·intro W J hD K hK;have hc:=hi9 (s.out W (aa gB J));exact kP
   ·intro W J hD K hK;have hc:=hi9 (y.out W (aa gB J));exact kP
   ·intro W J hD K hK;have j:=kZ v4 4 hD;clear hD;go_simp;exact hK.out _ _ ⟨_,rfl,af _,j⟩
   ·intro W J hD K hK;have al:=kZ bl 10 hD;clear hD;go_simp;exact hK.out _ _ ⟨_,rfl,af _,al⟩
  intro w3 g3 hH;have am:=nA d 11 hH;have an:=nA v12 12 hH;clear hH;refine wpAny_done dV ?_ _;go_wp2_with fail
  go_ret2
  exact⟨X,Y,d,v12,rfl,aa gB g3,am,an,HG.out⟩
theorem fo {w:World} {d:Nat} {e:TypeId} (A:d<2^64) (B:d≠0):Num (w.alloc (.cells #[.int .u64 (d:Int)] e)) (.slice (some ⟨w.heap.size,0,none⟩) 1 1) d:=
 ⟨[d],jH w d e A,⟨(jH w d e A).1,fun _=>by simpa using B⟩,by simp [val]⟩
/-- What a canonical slice of a number looks like: nothing, one word, more. -/
theorem eR {w:World} {v:Value} {n:Nat} (h:Num w v n):(n=0∧∃ a c,v= .slice a 0 c)∨(0<n∧n<2^64∧∃ b o c,v= .slice (some ⟨b,o,none⟩) 1 c∧1≤c∧b<w.heap.size∧w.cell? ⟨b,o,none⟩=some (.int .u64 (n:Int)))∨(2^64≤n∧∃ b o k c,v= .slice (some ⟨b,o,none⟩) (k+2) c∧b<w.heap.size∧n<2^(64*(k+2))∧2^(64*(k+1))≤n):=by
 obtain⟨l,E,A,rfl⟩:=h;rcases Sl.cases E with ⟨rfl,a,c,rfl⟩|⟨B,b,o,c,rfl,D,hb,F⟩
 ·exact Or.inl ⟨rfl,a,c,rfl⟩
 ·right;have h1:=eN A B;have h2:=eo A.1;rcases l with _|⟨d,_|⟨d2,l⟩⟩
  ·exact absurd rfl B
  ·left;have J:d≠0:=A.2 B;have C:d<2^64:=A.1 d eO;have h3:=F 0 eO;simp only[List.getD_cons_zero] at h3;rw[fi];exact⟨by omega,C,b,o,c,rfl,D,hb,h3⟩
  ·right;have e:(d::d2::l).length=l.length+2:=rfl;rw[e] at h1 h2 D;rw[show l.length+2-1=l.length+1 from by omega] at h1;have I:2^64≤2^(64*(l.length+1)):=ak dT dT;exact⟨by omega,b,o,l.length,c,rfl,hb,h2,h1⟩
set_option maxHeartbeats 4000000 in
theorem pK (w:World) (va vb:Value) (a b K:Nat) (hK:K≤400000) (ec:1≤K) (ha:Num w va a) (hb:Num w vb b) (ce:a<2^(64*K)) (E:b<2^(64*K)) (dr:0<a) (ds:0<b):
  Calls Tryz.prog 119 #[va,vb] w (ef w (Nat.gcd a b)):=by
 have HC:=hi9 (gN w va vb a b K dT ha hb ce E);have cb:Hid (Num w va a):=ha;have cd:Hid (Num w vb b):=hb;clear ha hb;by_cases al:a<b
 ·rw[show cmpV a b= -1 from by unfold cmpV;rw[if_pos al]] at HC;have F:Hid (a≤b):=cy al;have L:Hid (0<b):=ds;have d:Hid (b<2^(64*K)):=E;have C:Hid (Nat.gcd b a=Nat.gcd a b):=bG _ _;clear al dr ds ce E;go_enter Tryz.func119,Tryz.ntmps119;go_wp2_with fail;refine dS HC.out ?_;rintro e w1 ⟨rfl,O⟩;have HA:Hid (Num w1 vb b):=cd.out.G O;have HB:Hid (Num w1 va a):=cb.out.G O;clear cb cd HC;go_wp2_with fail;obtain⟨A0,i⟩:∃ A0,A0=b:=⟨_,rfl⟩;obtain⟨B0,j⟩:∃ B0,B0=a:=⟨_,rfl⟩;rw[← i] at HA F L d;rw[← j] at HB F;have C:Hid (Nat.gcd A0 B0=Nat.gcd a b):=by show Nat.gcd A0 B0=Nat.gcd a b;rw[i,j];exact C.out
  clear i j
  go_loopw [0,1] (fun x y wr=>∃ A B:Nat,Num wr x A∧Num wr y B∧B≤A∧0<A∧A<2^(64*K)∧Nat.gcd A B=Nat.gcd a b∧G w wr) (fun _ y wr=>numV wr y)
  case atStart=>exact⟨A0,B0,HA.out,HB.out,F.out,L.out,d.out,C.out,O⟩
  case round=>
   clear HA HB F L d C O;obtain⟨A,B,hA,hB,hle,M,I,D,hG⟩:=hrel;have HA:Hid (Num wr u0 A):=hA;have C:Hid (Nat.gcd A B=Nat.gcd a b):=D;rcases eR hB with ⟨rfl,pa,pc,rfl⟩|⟨S,E,bb,oo,cc,rfl,gg,ea,s⟩|⟨c,bb,oo,k,cc,rfl,ea,eb,bq⟩
   ·have HE:Hid (A=Nat.gcd a b):=by show A=Nat.gcd a b;rw[← D,cE]
    clear hA hB hle M I D C;go_wp2_with fail;go_ret;exact⟨_,rfl,hG,by rw[← HE.out];exact HA.out⟩
   ·have HD:=hi9 (fj wr u0 A B K dT hA I S E);have an:Hid (0<B):=S;have am:Hid (B<18446744073709551616):=E;have ao:Hid (A%B<18446744073709551616):=Nat.lt_trans (aU _ S) E;have N:Hid (Nat.gcd B (A%B)=Nat.gcd a b):=by show Nat.gcd B (A%B)=Nat.gcd a b;rw[bG B (A%B),← dC,bG];exact D
    clear hB hle M I D C S E hA HA;go_wp2_with fail;refine dS HD.out ?_;intro e w2 hs;obtain⟨v2,rfl,g2,-⟩:=hs;have ap:=aa hG g2;obtain⟨X0,m⟩:∃ X0,X0=B:=⟨_,rfl⟩;obtain⟨Y0,J⟩:∃ Y0,Y0=A%B:=⟨_,rfl⟩;rw[← J] at ao N ⊢;rw[← m] at an am N;have C:Hid (Nat.gcd X0 Y0=Nat.gcd a b):=N.out;clear HD hG g2 J N;go_wp2_with fail;rw[← m];clear s m
    go_loopw [5,7] (fun vx vy wr=>∃ X Y:Nat,vx= .int .u64 X∧vy= .int .u64 Y∧0<X∧X<18446744073709551616∧Y<18446744073709551616∧Nat.gcd X Y=Nat.gcd a b∧G w wr) (fun _ vy _=>(intOf vy).toNat)
    case atStart=>exact⟨X0,Y0,rfl,rfl,an.out,am.out,ao.out,C.out,ap⟩
    case round=>
     obtain⟨X,Y,rfl,rfl,dk,hX,hY,D,R⟩:=hrel;have U:Hid (Nat.gcd X Y=Nat.gcd a b):=D;have ep:(X:Int)≤18446744073709551615:=by omega
     have fv:(Y:Int)≤18446744073709551615:=by omega
     clear D ap;by_cases J:0<Y
     ·have fs:(1:Int)≤Y:=by omega
      have ek:Y≠0:=by omega
      have ga:decide (0<Y)=true:=by simpa using J
      have hc:((Y:Int)==0)=false:=by simp;omega
      obtain⟨Z,hZ,o,bn⟩:∃ Z:Nat,Z=X%Y∧(X:Int)%Y=Z∧Z<Y:=⟨X%Y,rfl,by rw[← cT],aU _ J⟩;have dq:(X:Int).tmod Y=Z:=by rw[df dT];exact o
      have ci:Hid (Nat.gcd Y Z=Nat.gcd a b):=by show Nat.gcd Y Z=Nat.gcd a b;rw[hZ,bG Y (X%Y),← dC,bG];exact U.out
      have cx:Hid (Z<Y):=bn;have cr:Hid (Y<18446744073709551616):=hY;have cs:Hid (0<Y):=J;have dl:Z<18446744073709551616:=by omega
      clear hZ hX hY bn;go_wp2_with fail;refine ee dV dV ?_;intro W hW;clear hW
      repeat (go_big_quiet_step (fail))
      refine wpQuiet_nil ?_;intro w5 ca;have cz:=aa R ca;clear ca;go_wp2_with fail
      try simp only[o]
      go_roundw
      case rel=>exact⟨Y,Z,rfl,by first|rfl|(rw[o])|(rw[dq]),cs.out,cr.out,dl,ci.out,cz⟩
      case measure=>have:=cx.out;simp only[intOf];omega
     ·obtain rfl:Y=0:=by omega
      have bv:X=Nat.gcd a b:=by rw[← U.out,cE]
      have cl:Hid (X=Nat.gcd a b):=bv;have HN:Hid (∀ w1:World,Num (w1.alloc (.cells #[.int .u64 (X:Int)] 78)) (.slice (some ⟨w1.heap.size,0,none⟩) 1 1) X):=fun w1=>fo hX dT;clear hX hY bv dk;go_wp2_with fail;go_ret;exact⟨_,rfl,G.alloc R _,by rw[← cl.out];exact HN.out _⟩
   ·have HN:=hi9 (lH wr u0 _ A B K hK ec hA hB I hle c);have gm:decide ((1:Int)<(k:Int)+2)=true:=by simp;omega
    have bz:numV wr (.slice (some ⟨bb,oo,none⟩) (k+2) cc)=B:=fm hB;have cn:=hi9 bz;have F:Hid (B≤A∧A<2^(64*K)):=⟨hle,I⟩;clear hA hB hle M I D c eb bq bz;go_wp2_with fail;refine dS HN.out ?_;intro e w2 hs;obtain⟨X,Y,x,y,rfl,g2,hx,hy,bl,bi,bu⟩:=hs;have HX:Hid (Num w2 x X):=hx;have HY:Hid (Num w2 y Y):=hy;have HR:Hid (Y<X∧X≤B∧Nat.gcd X Y=Nat.gcd A B):=⟨bl,bi,bu⟩;have R:=aa hG g2;clear hx hy bl bi bu HN g2 hG;go_wp2_with fail
    go_roundw
    case rel=>
     obtain⟨r1,r2,r3⟩:=HR.out;obtain⟨l1,l2⟩:=F.out;exact⟨X,Y,HX.out,HY.out,by omega,by omega,by omega,r3.trans C.out,R⟩
    case measure=>
     obtain⟨r1,r2,r3⟩:=HR.out;have h1:=fm HY.out;have h2:=cn.out;show numV w2 y<numV wr _;rw[h1,h2];omega
 ·have em:cmpV a b=0∨cmpV a b=1:=by unfold cmpV;rw[if_neg al];split;exact Or.inl rfl;exact Or.inr rfl
  have hd:decide (cmpV a b<0)=false:=by rcases em with h|h<;>rw[h]<;>rfl
  have F:Hid (b≤a):=Nat.le_of_not_lt al;have L:Hid (0<a):=dr;have d:Hid (a<2^(64*K)):=ce;have C:Hid (Nat.gcd a b=Nat.gcd a b):=rfl;generalize cmpV a b=cv at *;clear al dr ds ce E em;go_enter Tryz.func119,Tryz.ntmps119;go_wp2_with fail;refine dS HC.out ?_;rintro e w1 ⟨rfl,O⟩;have HA:Hid (Num w1 va a):=cb.out.G O;have HB:Hid (Num w1 vb b):=cd.out.G O;clear cb cd HC;go_wp2_with fail;obtain⟨A0,i⟩:∃ A0,A0=a:=⟨_,rfl⟩;obtain⟨B0,j⟩:∃ B0,B0=b:=⟨_,rfl⟩;rw[← i] at HA F L d;rw[← j] at HB F;have C:Hid (Nat.gcd A0 B0=Nat.gcd a b):=by show Nat.gcd A0 B0=Nat.gcd a b;rw[i,j]
  clear i j
  go_loopw [0,1] (fun x y wr=>∃ A B:Nat,Num wr x A∧Num wr y B∧B≤A∧0<A∧A<2^(64*K)∧Nat.gcd A B=Nat.gcd a b∧G w wr) (fun _ y wr=>numV wr y)
  case atStart=>exact⟨A0,B0,HA.out,HB.out,F.out,L.out,d.out,C.out,O⟩
  case round=>
   clear HA HB F L d C O;obtain⟨A,B,hA,hB,hle,M,I,D,hG⟩:=hrel;have HA:Hid (Num wr u0 A):=hA;have C:Hid (Nat.gcd A B=Nat.gcd a b):=D;rcases eR hB with ⟨rfl,pa,pc,rfl⟩|⟨S,E,bb,oo,cc,rfl,gg,ea,s⟩|⟨c,bb,oo,k,cc,rfl,ea,eb,bq⟩
   ·have HE:Hid (A=Nat.gcd a b):=by show A=Nat.gcd a b;rw[← D,cE]
    clear hA hB hle M I D C;go_wp2_with fail;go_ret;exact⟨_,rfl,hG,by rw[← HE.out];exact HA.out⟩
   ·have HD:=hi9 (fj wr u0 A B K dT hA I S E);have an:Hid (0<B):=S;have am:Hid (B<18446744073709551616):=E;have ao:Hid (A%B<18446744073709551616):=Nat.lt_trans (aU _ S) E;have N:Hid (Nat.gcd B (A%B)=Nat.gcd a b):=by show Nat.gcd B (A%B)=Nat.gcd a b;rw[bG B (A%B),← dC,bG];exact D
    clear hB hle M I D C S E hA HA;go_wp2_with fail;refine dS HD.out ?_;intro e w2 hs;obtain⟨v2,rfl,g2,-⟩:=hs;have ap:=aa hG g2;obtain⟨X0,m⟩:∃ X0,X0=B:=⟨_,rfl⟩;obtain⟨Y0,J⟩:∃ Y0,Y0=A%B:=⟨_,rfl⟩;rw[← J] at ao N ⊢;rw[← m] at an am N;have C:Hid (Nat.gcd X0 Y0=Nat.gcd a b):=N.out;clear HD hG g2 J N;go_wp2_with fail;rw[← m];clear s m
    go_loopw [5,7] (fun vx vy wr=>∃ X Y:Nat,vx= .int .u64 X∧vy= .int .u64 Y∧0<X∧X<18446744073709551616∧Y<18446744073709551616∧Nat.gcd X Y=Nat.gcd a b∧G w wr) (fun _ vy _=>(intOf vy).toNat)
    case atStart=>exact⟨X0,Y0,rfl,rfl,an.out,am.out,ao.out,C.out,ap⟩
    case round=>
     obtain⟨X,Y,rfl,rfl,dk,hX,hY,D,R⟩:=hrel;have U:Hid (Nat.gcd X Y=Nat.gcd a b):=D;have ep:(X:Int)≤18446744073709551615:=by omega
     have fv:(Y:Int)≤18446744073709551615:=by omega
     clear D ap;by_cases J:0<Y
     ·have fs:(1:Int)≤Y:=by omega
      have ek:Y≠0:=by omega
      have ga:decide (0<Y)=true:=by simpa using J
      have hc:((Y:Int)==0)=false:=by simp;omega
      obtain⟨Z,hZ,o,bn⟩:∃ Z:Nat,Z=X%Y∧(X:Int)%Y=Z∧Z<Y:=⟨X%Y,rfl,by rw[← cT],aU _ J⟩;have dq:(X:Int).tmod Y=Z:=by rw[df dT];exact o
      have ci:Hid (Nat.gcd Y Z=Nat.gcd a b):=by show Nat.gcd Y Z=Nat.gcd a b;rw[hZ,bG Y (X%Y),← dC,bG];exact U.out
      have cx:Hid (Z<Y):=bn;have cr:Hid (Y<18446744073709551616):=hY;have cs:Hid (0<Y):=J;have dl:Z<18446744073709551616:=by omega
      clear hZ hX hY bn;go_wp2_with fail;refine ee dV dV ?_;intro W hW;clear hW
      repeat (go_big_quiet_step (fail))
      refine wpQuiet_nil ?_;intro w5 ca;have cz:=aa R ca;clear ca;go_wp2_with fail
      try simp only[o]
      go_roundw
      case rel=>exact⟨Y,Z,rfl,by first|rfl|(rw[o])|(rw[dq]),cs.out,cr.out,dl,ci.out,cz⟩
      case measure=>have:=cx.out;simp only[intOf];omega
     ·obtain rfl:Y=0:=by omega
      have bv:X=Nat.gcd a b:=by rw[← U.out,cE]
      have cl:Hid (X=Nat.gcd a b):=bv;have HN:Hid (∀ w1:World,Num (w1.alloc (.cells #[.int .u64 (X:Int)] 78)) (.slice (some ⟨w1.heap.size,0,none⟩) 1 1) X):=fun w1=>fo hX dT;clear hX hY bv dk;go_wp2_with fail;go_ret;exact⟨_,rfl,G.alloc R _,by rw[← cl.out];exact HN.out _⟩
   ·have HN:=hi9 (lH wr u0 _ A B K hK ec hA hB I hle c);have gm:decide ((1:Int)<(k:Int)+2)=true:=by simp;omega
    have bz:numV wr (.slice (some ⟨bb,oo,none⟩) (k+2) cc)=B:=fm hB;have cn:=hi9 bz;have F:Hid (B≤A∧A<2^(64*K)):=⟨hle,I⟩;clear hA hB hle M I D c eb bq bz;go_wp2_with fail;refine dS HN.out ?_;intro e w2 hs;obtain⟨X,Y,x,y,rfl,g2,hx,hy,bl,bi,bu⟩:=hs;have HX:Hid (Num w2 x X):=hx;have HY:Hid (Num w2 y Y):=hy;have HR:Hid (Y<X∧X≤B∧Nat.gcd X Y=Nat.gcd A B):=⟨bl,bi,bu⟩;have R:=aa hG g2;clear hx hy bl bi bu HN g2 hG;go_wp2_with fail
    go_roundw
    case rel=>
     obtain⟨r1,r2,r3⟩:=HR.out;obtain⟨l1,l2⟩:=F.out;exact⟨X,Y,HX.out,HY.out,by omega,by omega,by omega,r3.trans C.out,R⟩
    case measure=>
     obtain⟨r1,r2,r3⟩:=HR.out;have h1:=fm HY.out;have h2:=cn.out;show numV w2 y<numV wr _;rw[h1,h2];omega
theorem q0K (j k:Nat):Nat.Coprime (2*j+1) (2^k):=by
 refine Nat.Coprime.pow_right k ?_;show Nat.gcd (2*j+1) 2=1;rw[bG,dC,show (2*j+1)%2=1 from by omega];rfl
theorem iX (p q i d:Nat):Nat.gcd ((2*p+1)*2^i) ((2*q+1)*2^(i+d))=Nat.gcd (2*p+1) (2*q+1)*2^i:=by
 rw[ah,show (2*q+1)*(2^i*2^d)=(2*q+1)*2^d*2^i from by ac_rfl,Nat.gcd_mul_right]
 congr 1
 exact Nat.Coprime.gcd_mul_right_cancel_right _ (q0K p d).symm
theorem pR (p q i j:Nat):Nat.gcd ((2*p+1)*2^i) ((2*q+1)*2^j)=Nat.gcd (2*p+1) (2*q+1)*2^min i j:=by
 rcases Nat.le_total i j with h|h
 ·obtain⟨d,rfl⟩:∃ d,j=i+d:=⟨j-i,by omega⟩;rw[bE h];exact iX p q i d
 ·obtain⟨d,rfl⟩:∃ d,i=j+d:=⟨i-j,by omega⟩;rw[Nat.min_eq_right h,bG,iX q p j d,bG]
theorem kz {w:World} {b:Nat} {e:TypeId} (hb:b=w.heap.size):Num (w.alloc (.cells #[.int .u64 1] e)) (.slice (some ⟨b,0,none⟩) 1 1) 1:=by
 subst hb;exact fo (d:=1) ey ey
set_option maxRecDepth 10000 in
theorem im (w:World) (va vb:Value) (a b K:Nat) (hK:K≤150000) (bq:1≤K) (ht:Tab w) (S:Num w va a) (hb:Num w vb b) (B:a<2^(64*K)) (C:b<2^(64*K)):
  Calls Tryz.prog 58 #[va,vb] w (ef w (Nat.gcd a b)):=by
 have HA:Hid (Num w va a):=S;have HB:Hid (Num w vb b):=hb;rcases bK a with E|E
 ·subst E;rcases eR S with ⟨-,pa,pc,rfl⟩|⟨h,-⟩|⟨h,-⟩
  ·rw[Nat.gcd_zero_left];clear S hb B C ht;go_enter Tryz.func58,Tryz.ntmps58;go_wp2_with fail;go_ret;exact⟨_,rfl,af _,HB.out⟩
  ·omega
  ·omega
 ·have bn:∃ pa na ca,va= .slice pa na ca∧(((na:Nat):Int)==0)=false∧0<na:=by
   rcases eR S with ⟨h,-⟩|⟨-,-,b,o,c,rfl,-⟩|⟨-,b,o,k,c,rfl,-⟩
   ·omega
   ·exact⟨_,1,c,rfl,rfl,by omega⟩
   ·exact⟨_,k+2,c,rfl,by simp;omega,by omega⟩
  rcases bK b with N|N
  ·subst N;rcases eR hb with ⟨-,pb,pc,rfl⟩|⟨h,-⟩|⟨h,-⟩
   ·rw[cE];obtain⟨pa,na,ca,rfl,bv,-⟩:=bn;clear S hb B C ht E;go_enter Tryz.func58,Tryz.ntmps58;go_wp2_with fail;go_ret;exact⟨_,rfl,af _,HA.out⟩
   ·omega
   ·omega
  ·have bu:∃ pa na ca,vb= .slice pa na ca∧(((na:Nat):Int)==0)=false∧0<na:=by
    rcases eR hb with ⟨h,-⟩|⟨-,-,b,o,c,rfl,-⟩|⟨-,b,o,k,c,rfl,-⟩
    ·omega
    ·exact⟨_,1,c,rfl,rfl,by omega⟩
    ·exact⟨_,k+2,c,rfl,by simp;omega,by omega⟩
   obtain⟨p,i,hp⟩:=jy a E;obtain⟨q,j,hq⟩:=jy b N;have hi:i<64*K:=by
    have:2^i≤a:=by rw[hp];exact Nat.le_mul_of_pos_left _ dT
    exact(aY (by omega:1<2)).1 (aG this B)
   have hj:j<64*K:=by
    have:2^j≤b:=by rw[hq];exact Nat.le_mul_of_pos_left _ dT
    exact(aY (by omega:1<2)).1 (aG this C)
   have L:=hi9 (iQ w va a p i K dT ht S B hp);have M:Hid (∀ A,G w A→_):=fun A g=>iQ A vb b q j K dT (ht.G g) (hb.G g) C hq;have J:Hid (∀ A,G w A→Calls Tryz.prog 117 #[va] A fun e w'=>e= .returned (.int .i64 (blen a))∧G A w'):=fun A g=>iO A va a K dT (S.G g) B;have R:Hid (∀ A,G w A→Calls Tryz.prog 117 #[vb] A fun e w'=>e= .returned (.int .i64 (blen b))∧G A w'):=fun A g=>iO A vb b K dT (hb.G g) C;have F:=ji (p:=p) (n:=i);have O:=ji (p:=q) (n:=j);rw[← hp] at F;rw[← hq] at O;have U:a/2^i=2*p+1:=by rw[hp,cD _ (ae i)]
   have W:b/2^j=2*q+1:=by rw[hq,cD _ (ae j)]
   have am:2*p+1≤a:=by rw[← U];exact bh _ _
   have an:2*q+1≤b:=by rw[← W];exact bh _ _
   obtain⟨m,hm⟩:∃ m,m=min i j:=⟨_,rfl⟩;have Z:Nat.gcd (2*p+1) (2*q+1)<2^(64*K):=by
    have:=Nat.gcd_le_left (2*q+1) (show 0<2*p+1 by omega);omega
   have d:Hid (∀ A x,Num A x (Nat.gcd (2*p+1) (2*q+1))→Calls Tryz.prog 118 #[x,.int .i64 (m:Int)] A (ef A (Nat.gcd a b))):=fun A x hx=>by
    have h:=gR A x _ m K dT dT hx Z;rw[hm,← pR,← hp,← hq] at h;rw[hm];exact h
   have al:Hid (min (i:Int) j=(m:Int)):=by show min (i:Int) j=(m:Int);omega
   obtain⟨pa,na,ca,rfl,bv,-⟩:=bn;obtain⟨pb,nb,cb,rfl,cd,-⟩:=bu;have bz:(i:Int)<9600000:=by omega
   have cc:(j:Int)<9600000:=by omega
   by_cases I:p=0
   ·have t1:(((i:Int)+1)==(blen a:Int))=true:=by have:=F.2 I;simp;omega
    rw[I,bm,az,Nat.gcd_one_left] at d;generalize blen a=s at *;clear S hb B C ht E N hp hq hi hj U W am an Z HA HB F O R I;go_enter Tryz.func58,Tryz.ntmps58;go_wp2_with fail;refine dS L.out ?_;rintro e A ⟨rfl,g1⟩;have HT:=hi9 (M.out A g1);clear L M;go_wp2_with fail;refine dS HT.out ?_;rintro e w2 ⟨rfl,g2⟩;have g12:=aa g1 g2;have HS:=hi9 (J.out w2 g12);clear HT J g1 g2;go_wp2_with fail;refine dS HS.out ?_;rintro e w3 ⟨rfl,g3⟩;have g13:=aa g12 g3;clear HS g12 g3;go_wp2_with fail;have D:=hi9 (d.out _ _ (kz (w:=w3) (e:=78) rfl));have g15:=G.alloc g13 (.cells #[.int .u64 1] 78);clear d g13;rw[al.out];refine dS D.out ?_;intro e w8 Y;obtain⟨r,rfl,g6,hr⟩:=Y;have HN:Hid (Num w8 r (Nat.gcd a b)):=hr;clear D hr;go_wp2_with fail;go_ret;exact⟨_,rfl,aa g15 g6,HN.out⟩
   by_cases X:q=0
   ·have t1:(((i:Int)+1)==(blen a:Int))=false:=by have:=fun h=>I (F.1 h);simp;omega
    have t2:(((j:Int)+1)==(blen b:Int))=true:=by have:=O.2 X;simp;omega
    rw[X,bm,az,du] at d;generalize blen a=s at *;generalize blen b=s2 at *;clear S hb B C ht E N hp hq hi hj U W am an Z HA HB F O I X;go_enter Tryz.func58,Tryz.ntmps58;go_wp2_with fail;refine dS L.out ?_;rintro e A ⟨rfl,g1⟩;have HT:=hi9 (M.out A g1);clear L M;go_wp2_with fail;refine dS HT.out ?_;rintro e w2 ⟨rfl,g2⟩;have g12:=aa g1 g2;have HS:=hi9 (J.out w2 g12);clear HT J g1 g2;go_wp2_with fail;refine dS HS.out ?_;rintro e w3 ⟨rfl,g3⟩;have g13:=aa g12 g3;clear HS g12 g3;go_wp2_with fail;refine dS (R.out w3 g13) ?_;rintro e w4 ⟨rfl,g4⟩;have g12:=aa g13 g4;clear R g13 g4;go_wp2_with fail;have D:=hi9 (d.out _ _ (kz (w:=w4) (e:=78) rfl));have g15:=G.alloc g12 (.cells #[.int .u64 1] 78);clear d g12;rw[al.out];refine dS D.out ?_;intro e w8 Y;obtain⟨r,rfl,g6,hr⟩:=Y;have HN:Hid (Num w8 r (Nat.gcd a b)):=hr;clear D hr;go_wp2_with fail;go_ret;exact⟨_,rfl,aa g15 g6,HN.out⟩
   have t1:(((i:Int)+1)==(blen a:Int))=false:=by have:=fun h=>I (F.1 h);simp;omega
   have t2:(((j:Int)+1)==(blen b:Int))=false:=by have:=fun h=>X (O.1 h);simp;omega
   have bi:Hid (∀ A,G w A→Calls Tryz.prog 120 #[.slice pa na ca,.int .i64 (i:Int)] A (ef A (2*p+1))):=fun A g=>by
    have h:=fL A _ a i K dT dT (S.G g) B;rw[U] at h;exact h
   have bl:Hid (∀ A,G w A→Calls Tryz.prog 120 #[.slice pb nb cb,.int .i64 (j:Int)] A (ef A (2*q+1))):=fun A g=>by
    have h:=fL A _ b j K dT dT (hb.G g) C;rw[W] at h;exact h
   have HE:Hid (∀ A x y,Num A x (2*p+1)→Num A y (2*q+1)→_):=fun A x y hx hy=>pK A x y (2*p+1) (2*q+1) K dT bq hx hy dT dT dT dT;generalize blen a=s at *;generalize blen b=s2 at *;clear S hb B C ht E N hp hq hi hj U W am an Z HA HB F O I X;generalize Nat.gcd (2*p+1) (2*q+1)=gg at *;generalize 2*p+1=P at *;generalize 2*q+1=Q at *;go_enter Tryz.func58,Tryz.ntmps58;go_wp2_with fail;refine dS L.out ?_;rintro e A ⟨rfl,g1⟩;have HT:=hi9 (M.out A g1);clear L M;go_wp2_with fail;refine dS HT.out ?_;rintro e w2 ⟨rfl,g2⟩;have g12:=aa g1 g2;have HS:=hi9 (J.out w2 g12);clear HT J g1 g2;go_wp2_with fail;refine dS HS.out ?_;rintro e w3 ⟨rfl,g3⟩;have g13:=aa g12 g3;clear HS g12 g3;go_wp2_with fail;refine dS (R.out w3 g13) ?_;rintro e w4 ⟨rfl,g4⟩;have g12:=aa g13 g4;clear R g13 g4;go_wp2_with fail;have HR:=hi9 (bi.out w4 g12);clear bi;refine dS HR.out ?_;intro e w5 Y;obtain⟨x,rfl,g3,hx⟩:=Y;have g13:=aa g12 g3;have HX:Hid (Num w5 x P):=hx;have ap:Hid _:=bl.out w5 g13;clear HR bl g12 g3 hx;go_wp2_with fail;refine dS ap.out ?_;intro e w6 Y;obtain⟨y,rfl,g4,hy⟩:=Y;have ao:=hi9 (HE.out w6 x y (HX.out.G g4) hy);have g14:=aa g13 g4;clear ap HE HX hy g13 g4;go_wp2_with fail;refine dS ao.out ?_;intro e w7 Y;obtain⟨z,rfl,g5,hz⟩:=Y;have D:=hi9 (d.out w7 z hz);have g15:=aa g14 g5;clear ao d hz g14 g5;go_wp2_with fail;rw[al.out];refine dS D.out ?_;intro e w8 Y;obtain⟨r,rfl,g6,hr⟩:=Y;have HN:Hid (Num w8 r (Nat.gcd a b)):=hr;clear D hr;go_wp2_with fail;go_ret;exact⟨_,rfl,aa g15 g6,HN.out⟩
def sgn (s:Bool) (n:Nat):Int:=if s then -(n:Int) else n
/-- A sign and a size; of 0 any sign. -/
def WholeS (w:World) (v:Value) (s:Bool) (n:Nat):Prop:=∃ a k c,v= .agg #[.bool s,.slice a k c]∧Num w (.slice a k c) n
/-- v is the whole number z. -/
def WholeIs (w:World) (v:Value) (z:Int):Prop:=WholeS w v (decide (z<0)) z.natAbs
theorem WholeS.G {w A:World} {v:Value} {s:Bool} {n:Nat} (h:WholeS w v s n) (g:G w A):WholeS A v s n:=by
 obtain⟨a,k,c,e,B⟩:=h;exact⟨a,k,c,e,B.G g⟩
theorem WholeIs.G {w A:World} {v:Value} {z:Int} (h:WholeIs w v z) (g:G w A):WholeIs A v z:=WholeS.G h g
/-- A block without words isn't one that a number lies in. -/
def fk:Value→Prop
 | .int _ _=>False
 |_=>True
theorem iM {w:World} {v:Value} {n b:Nat} {l:List Value} (h:Num w v n) (r:Rec w b l) (M:∀ x∈l,fk x):∀ A:World,(∀ i k,i≠b→A.cell? ⟨i,k,none⟩=w.cell? ⟨i,k,none⟩)→w.heap.size≤A.heap.size→Num A v n:=by
 intro A L N;obtain⟨m,E,D,hv⟩:=h;refine⟨m,?_,D,hv⟩;rcases Sl.cases E with ⟨rfl,a,c,rfl⟩|⟨F,I,o,c,rfl,C,hb,K⟩
 ·exact⟨E.1,Or.inl ⟨rfl,a,c,rfl⟩⟩
 ·have B:I≠b:=by
   intro e;subst e;have J:=K 0 (bD.2 F);rw[r.cell] at J;have h1:=M _ (bH J);exact h1
  exact⟨E.1,Or.inr ⟨I,o,c,rfl,C,by omega,fun i hi=>by rw[L _ _ B];exact K i hi⟩⟩
theorem lK {w:World} {v:Value} {n b:Nat} {x y u1 u2:Value} (h:Num w v n) (r:Rec w b [x,y]) (C:fk x) (D:fk y):Num ((w.setCell ⟨b,0,none⟩ u1).setCell ⟨b,1,none⟩ u2) v n:=
 iM h r (by intro z B;simp at B;rcases B with rfl|rfl<;>assumption) _ (fun i k hi=>by
  rw[World.cell?_setCell_other _ _ _ _ (by intro e;injection e with A;exact hi A.symm),World.cell?_setCell_other _ _ _ _ (by intro e;injection e with A;exact hi A.symm)]) (by simp [World.setCell])
theorem eF {w:World} {v:Value} {n b:Nat} {x y z u1 u2 u3:Value} (h:Num w v n) (r:Rec w b [x,y,z]) (C:fk x) (D:fk y) (B:fk z):Num (((w.setCell ⟨b,0,none⟩ u1).setCell ⟨b,1,none⟩ u2).setCell ⟨b,2,none⟩ u3) v n:=
 iM h r (by intro z B;simp at B;rcases B with rfl|rfl|rfl<;>assumption) _ (fun i k hi=>by
  rw[World.cell?_setCell_other _ _ _ _ (by intro e;injection e with A;exact hi A.symm),World.cell?_setCell_other _ _ _ _ (by intro e;injection e with A;exact hi A.symm),World.cell?_setCell_other _ _ _ _ (by intro e;injection e with A;exact hi A.symm)]) (by simp [World.setCell])
theorem nL (z:Int):sgn (decide (z<0)) z.natAbs=z:=by
 unfold sgn;by_cases h:z<0<;>simp [h]<;>omega
theorem fU (s:Bool) (n:Nat):(sgn s n).natAbs=n:=by unfold sgn;cases s<;>simp
theorem q0J (s:Bool) (n:Nat):decide (sgn s n<0)=(s&&decide (0<n)):=by
 unfold sgn;cases s<;>simp
/-- A call hands back the whole number z. -/
def gd (w:World) (z:Int) (e:Ending) (A:World):Prop:=∃ v,e= .returned v∧G w A∧WholeIs A v z
/-- The length of a slice tells whether its number is 0. -/
theorem fp {w:World} {v:Value} {n:Nat} (h:Num w v n):∃ a k c,v= .slice a k c∧(k=0↔n=0)∧decide (0<k)=decide (0<n)∧(((k:Nat):Int)==0)=decide (n=0):=by
 rcases eR h with ⟨rfl,a,c,rfl⟩|⟨h1,-,b,o,c,rfl,-⟩|⟨h1,b,o,k,c,rfl,-⟩
 ·exact⟨a,0,c,rfl,by omega,rfl,rfl⟩
 ·exact⟨_,1,c,rfl,by omega,by rw[decide_eq_true h1];rfl,by rw[decide_eq_false (by omega:¬ n=0)];rfl⟩
 ·exact⟨_,k+2,c,rfl,by omega,by rw[decide_eq_true (by omega:0<n)];simp,by rw[decide_eq_false (by omega:¬ n=0)];simp;omega⟩
theorem fF (w:World) (m:Value) (s:Bool) (n:Nat) (A:Num w m n):
  Calls Tryz.prog 62 #[.bool s,m] w (gd w (sgn s n)):=by
 obtain⟨a,k,c,rfl,-,D,-⟩:=fp A;have B:Hid (Num w (.slice a k c) (sgn s n).natAbs):=by show Num w _ _;rw[fU];exact A
 have C:Hid (decide (sgn s n<0)=(s&&decide (0<n))):=q0J s n;generalize sgn s n=z at *;generalize decide (0<n)=p at *;clear A;cases s
 ·go_enter Tryz.func62,Tryz.ntmps62;go_wp2_with fail;refine bodyPost_ret (v:= .agg #[.bool false,.slice a k c]) (by simp [results,Tryz.results62,go_sem, *]) rfl ?_;exact⟨_,rfl,(af _).alloc _,a,k,c,by rw[C.out];rfl,B.out.G ((af _).alloc _)⟩
 ·go_enter Tryz.func62,Tryz.ntmps62;go_wp2_with fail;refine bodyPost_ret (v:= .agg #[.bool (decide (0<k)),.slice a k c]) (by simp [results,Tryz.results62,go_sem, *]) rfl ?_;exact⟨_,rfl,(af _).alloc _,a,k,c,by rw[C.out,D];rfl,B.out.G ((af _).alloc _)⟩
theorem nU (w:World) (v:Value) (z:Int) (h:WholeIs w v z):
  Calls Tryz.prog 67 #[v] w fun e O=>e= .returned (.int .i64 z.sign)∧G w O:=by
 obtain⟨a,k,c,rfl,J⟩:=h;obtain⟨a2,S,R,e,A,-,F⟩:=fp J;injection e with K L M;subst K;subst L;subst M;clear J;by_cases E:z=0
 ·subst E;have I:k=0:=A.2 rfl;subst I;go_enter Tryz.func67,Tryz.ntmps67;go_wp2_with fail;go_ret;exact⟨rfl,(af _).alloc _⟩
 ·have N:((k:Int)==0)=false:=by rw[F];simp;omega
  by_cases D:z<0
  ·have B:decide (z<0)=true:=decide_eq_true D;have C:z.sign= -1:=Int.sign_eq_neg_one_of_neg D;rw[C,B];clear F A E D B C;go_enter Tryz.func67,Tryz.ntmps67;go_wp2_with fail;go_ret;exact⟨rfl,(af _).alloc _⟩
  ·have B:decide (z<0)=false:=decide_eq_false D;have C:z.sign=1:=Int.sign_eq_one_of_pos dT;rw[C,B];clear F A E D B C;go_enter Tryz.func67,Tryz.ntmps67;go_wp2_with fail;go_ret;exact⟨rfl,(af _).alloc _⟩
/-- What is kept below the bar: nothing for 1. -/
def fQ (d:Nat):Nat:=if d=1 then 0 else d
/-- v is the fraction q. -/
def QIs (w:World) (v:Value) (q:Rat):Prop:=∃ a k c A B c',v= .agg #[.bool (decide (q.num<0)),.slice a k c,.slice A B c']∧Num w (.slice a k c) q.num.natAbs∧Num w (.slice A B c') (fQ q.den)
theorem QIs.G {w A:World} {v:Value} {q:Rat} (h:QIs w v q) (g:G w A):QIs A v q:=by
 obtain⟨a,k,c,B,C,c',e,h2,h3⟩:=h;exact⟨a,k,c,B,C,c',e,h2.G g,h3.G g⟩
/-- A call hands back the fraction q. -/
def RetQ (w:World) (q:Rat) (e:Ending) (A:World):Prop:=∃ v,e= .returned v∧G w A∧QIs A v q
/-- Lowest terms are told by the number alone. -/
theorem rat_low {q:Rat} {z:Int} {d:Nat} (B:0<d) (A:Nat.gcd z.natAbs d=1) (h:z*q.den=q.num*d):q.num=z∧q.den=d:=by
 have e:(Rat.mk' z d dT A)=q:=by
  rw[Rat.mk_eq_divInt,← Rat.num_divInt_den q,Rat.divInt_eq_divInt_iff dT (by have:=q.den_pos;omega)];exact h
 rw[← e];exact⟨rfl,rfl⟩
theorem mk_cross {q:Rat} {n:Int} {d:Nat} (A:0<d) (h:q=mkRat n d):n*q.den=q.num*d:=by
 have h2:mkRat n d=mkRat q.num q.den:=by rw[Rat.mkRat_self];exact h.symm
 exact(Rat.mkRat_eq_iff dT q.den_nz).1 h2
theorem fh (w:World) (a:Option Addr) (c:Nat):Num w (.slice a 0 c) 0:=⟨[],⟨fb,Or.inl ⟨rfl,_,_,rfl⟩⟩,eQ,rfl⟩
theorem gp (w:World):QIs w (.agg #[.bool false,.slice none 0 0,.slice none 0 0]) 0:=⟨none,0,0,none,0,0,rfl,fh _ _ _,fh _ _ _⟩
theorem q1d {w:World} {t:Bool} {a A:Option Addr} {k c B c':Nat} {q:Rat} (h:QIs w (.agg #[.bool t,.slice a k c,.slice A B c']) q):Num w (.slice a k c) q.num.natAbs:=by
 obtain⟨_,_,_,_,_,_,e,h1,h2⟩:=h;simp only[Value.agg.injEq,Array.mk.injEq,List.cons.injEq,Value.slice.injEq,and_true,Value.bool.injEq] at e;obtain⟨-,⟨rfl,rfl,rfl⟩,rfl,rfl,rfl⟩:=e;exact h1
theorem q1c {w:World} {t:Bool} {a A:Option Addr} {k c B c':Nat} {q:Rat} (h:QIs w (.agg #[.bool t,.slice a k c,.slice A B c']) q):Num w (.slice A B c') (fQ q.den):=by
 obtain⟨_,_,_,_,_,_,e,h1,h2⟩:=h;simp only[Value.agg.injEq,Array.mk.injEq,List.cons.injEq,Value.slice.injEq,and_true,Value.bool.injEq] at e;obtain⟨-,⟨rfl,rfl,rfl⟩,rfl,rfl,rfl⟩:=e;exact h2
theorem oU (w:World) (z:Int) (h1: -9223372036854775808≤z) (h2:z<9223372036854775808):
  Calls Tryz.prog 49 #[.int .i64 z] w (gd w z):=by
 by_cases h0:z<0
 ·obtain⟨n,rfl⟩:∃ n:Nat,z= -(n:Int):=⟨z.natAbs,by omega⟩;have j:n<18446744073709551616:=by omega
  have O:Hid (∀ A,_):=fun A=>iT A n j;have N:Hid (∀ A v,Num A v n→Calls Tryz.prog 62 #[.bool true,v] A (gd A (-(n:Int)))):=fun A v hv=>fF A v true n hv;have o:decide (-(n:Int)<0)=true:=by simp;omega
  have s:(1:Int)≤n:=by omega
  have y:(n:Int)≤9223372036854775808:=by omega
  have hu:IntKind.u64.wrap (-(n:Int))=18446744073709551616-n:=by rw[IntKind.wrap_u64];omega
  have al:IntKind.u64.wrap (-(18446744073709551616-(n:Int)))=n:=by rw[IntKind.wrap_u64];omega
  generalize (-(n:Int))=z at *;clear h0 h1 h2 j;go_enter Tryz.func49,Tryz.ntmps49;go_wp2_with fail;obtain⟨w0,I,g0,am,L⟩:=eD w [.bool false,.slice none 0 0] 27;rw[I];clear I;refine dS (O.out w0) ?_;intro e A M;obtain⟨v,rfl,g1,R⟩:=M;go_wp2_with fail;refine dS (N.out A v R) ?_;intro e k M;obtain⟨u,rfl,g2,m⟩:=M;clear O N R o hu al;obtain⟨a9,D,C,rfl,F⟩:=m;have J:Hid (Num k (.slice a9 D C) (z).natAbs):=F;obtain⟨t9,B⟩:∃ t,t=decide ((z)<0):=⟨_,rfl⟩;rw[← B];have K:Hid (t9=decide ((z)<0)):=B;clear F B;obtain⟨Y,Z,c,d⟩:=eU L (((aa g1 g2)));have E:Num _ _ _:=lK (u1:= .bool t9) (u2:= .slice a9 D C) J.out (bs L.out (aa g1 g2)) trivial trivial;go_wp2_with fail;have i:Hid (Rec _ (w.heap.size) [.bool t9,.slice a9 D C]):=Rec.set2 (bs L.out (aa g1 g2));have g9:=Rec.h2 i.out (aa g0 (aa g1 g2)) dT;generalize (World.setCell (World.setCell k ⟨w.heap.size,0,none⟩ (.bool t9)) ⟨w.heap.size,1,none⟩ (.slice a9 D C))=w9 at *;obtain⟨S,U,W,X⟩:=eU i (((af _)));refine bodyPost_ret (v:= .agg #[.bool t9,.slice a9 D C]) (by simp [results,Tryz.results49,go_sem, *]) rfl ?_;exact⟨_,rfl,g9,a9,D,C,by rw[← K.out],E⟩
 ·obtain⟨n,rfl⟩:∃ n:Nat,z=(n:Int):=⟨z.natAbs,by omega⟩;have j:n<18446744073709551616:=by omega
  have O:Hid (∀ A,_):=fun A=>iT A n j;have N:Hid (∀ A v,Num A v n→Calls Tryz.prog 62 #[.bool false,v] A (gd A (n:Int))):=fun A v hv=>fF A v false n hv;have s:(0:Int)≤n:=by omega
  have y:(n:Int)≤9223372036854775807:=by omega
  have o:decide ((n:Int)<0)=false:=by simp
  clear h0 h1 h2 j;go_enter Tryz.func49,Tryz.ntmps49;go_wp2_with fail;obtain⟨w0,I,g0,am,L⟩:=eD w [.bool false,.slice none 0 0] 27;rw[I];clear I;refine dS (O.out w0) ?_;intro e A M;obtain⟨v,rfl,g1,R⟩:=M;go_wp2_with fail;refine dS (N.out A v R) ?_;intro e k M;obtain⟨u,rfl,g2,m⟩:=M;clear O N R o;obtain⟨a9,D,C,rfl,F⟩:=m;have J:Hid (Num k (.slice a9 D C) ((n:Int)).natAbs):=F;obtain⟨t9,B⟩:∃ t,t=decide (((n:Int))<0):=⟨_,rfl⟩;rw[← B];have K:Hid (t9=decide (((n:Int))<0)):=B;clear F B;obtain⟨Y,Z,c,d⟩:=eU L (((aa g1 g2)));have E:Num _ _ _:=lK (u1:= .bool t9) (u2:= .slice a9 D C) J.out (bs L.out (aa g1 g2)) trivial trivial;go_wp2_with fail;have i:Hid (Rec _ (w.heap.size) [.bool t9,.slice a9 D C]):=Rec.set2 (bs L.out (aa g1 g2));have g9:=Rec.h2 i.out (aa g0 (aa g1 g2)) dT;generalize (World.setCell (World.setCell k ⟨w.heap.size,0,none⟩ (.bool t9)) ⟨w.heap.size,1,none⟩ (.slice a9 D C))=w9 at *;obtain⟨S,U,W,X⟩:=eU i (((af _)));refine bodyPost_ret (v:= .agg #[.bool t9,.slice a9 D C]) (by simp [results,Tryz.results49,go_sem, *]) rfl ?_;exact⟨_,rfl,g9,a9,D,C,by rw[← K.out],E⟩
theorem gl (w:World) (t l:Value) (z:Int) (d K:Nat) (q:Rat) (ht:WholeIs w t z) (hl:Num w l d) (M:0<d) (hd:d<2^(64*K)) (hc:z≠0→Nat.gcd z.natAbs d=1) (B:q=mkRat z d):
  Calls Tryz.prog 48 #[t,l] w (RetQ w q):=by
 have hq:=mk_cross M B;clear B;have HS:Hid (∀ D,G w D→_):=fun D g=>nU D t z (ht.G g);obtain⟨a,k,c,rfl,hm⟩:=ht;by_cases h0:z=0
 ·subst h0;have B:q=0:=by
   have h1:q.num*(d:Int)=0:=by rw[← hq];simp
   have h2:q.num=0:=by rcases Int.mul_eq_zero.1 h1 with h|h;exact h;omega
   exact Rat.num_eq_zero.1 h2
  rw[B];rw[show decide ((0:Int)<0)=false from rfl] at *;clear hl M hd hc hm hq B;go_enter Tryz.func48,Tryz.ntmps48;go_wp2_with fail;obtain⟨w0,A,g0,ao,R0,E⟩:=fW w [.bool false,.slice a k c] [.bool false,.slice none 0 0,.slice none 0 0] 27 29;rw[A];clear A;refine dS (HS.out w0 g0) ?_;rintro e D ⟨rfl,g1⟩;clear HS;obtain⟨Y,Z,i,j,m,o⟩:=ev E (((g1)));go_wp2_with fail;have s:Hid (Rec _ (w.heap.size+1) [.bool false,.slice none 0 0,.slice none 0 0]):=Rec.set3 (bs E.out (g1));have g9:=Rec.h3 s.out (aa g0 g1) dT;generalize (World.setCell (World.setCell (World.setCell D ⟨w.heap.size+1,0,none⟩ (.bool false)) ⟨w.heap.size+1,1,none⟩ (.slice none 0 0)) ⟨w.heap.size+1,2,none⟩ (.slice none 0 0))=w9 at *;obtain⟨O,R,S,U,W,X⟩:=ev s (((af _)));refine bodyPost_ret (v:= .agg #[.bool false,.slice none 0 0,.slice none 0 0]) (by simp [results,Tryz.results48,go_sem, *]) rfl ?_;exact⟨_,rfl,g9,gp w9⟩
 ·obtain⟨rfl,rfl⟩:=rat_low M (hc h0) hq;have HO:Hid (∀ D,G w D→_):=fun D g=>q20 D l q.den K (hl.G g) hd;have an:(q.num.sign==0)=false:=by
   rcases Int.lt_trichotomy q.num 0 with h|h|h
   ·rw[Int.sign_eq_neg_one_of_neg h];rfl
   ·exact absurd h h0
   ·rw[Int.sign_eq_one_of_pos h];rfl
  obtain⟨J,L,c',rfl,-⟩:=fp hl;have HL:Hid (Num w (.slice J L c') q.den):=hl;obtain⟨t,am⟩:∃ t,t=decide (q.num<0):=⟨_,rfl⟩;rw[← am] at HS ⊢;have HT:Hid (t=decide (q.num<0)):=am;have HM:Hid (Num w (.slice a k c) q.num.natAbs):=hm;generalize q.num.sign=sg at *;clear M hd hc hl am hm hq;by_cases h1:q.den=1
  ·rw[decide_eq_true h1] at HO;go_enter Tryz.func48,Tryz.ntmps48;go_wp2_with fail;obtain⟨w0,A,g0,ao,R0,E⟩:=fW w [.bool t,.slice a k c] [.bool false,.slice none 0 0,.slice none 0 0] 27 29;rw[A];clear A;refine dS (HS.out w0 g0) ?_;rintro e D ⟨rfl,g1⟩;go_wp2_with fail;refine dS (HO.out D (aa g0 g1)) ?_;rintro e N ⟨rfl,g2⟩;have C:=eU R0 (aa g1 g2);have B:=C.1;have ap:=C.2.1;have h5:QIs N (.agg #[.bool (decide (q.num<0)),.slice a k c,.slice none 0 0]) q:=⟨a,k,c,none,0,0,rfl,HM.out.G (aa g0 (aa g1 g2)),by unfold fQ;rw[if_pos h1];exact fh _ _ _⟩;clear C HS HO h0 h1 an;have y:Hid (Num N (.slice a k c) (q).num.natAbs):=q1d h5;have al:Hid (Num N (.slice none 0 0) (fQ (q).den)):=q1c h5;clear h5;obtain⟨Y,Z,i,j,m,o⟩:=ev E (((aa g1 g2)));have F:Num _ _ _:=eF (u1:= .bool t) (u2:= .slice a k c) (u3:= .slice none 0 0) y.out (bs E.out (aa g1 g2)) trivial trivial trivial;have I:Num _ _ _:=eF (u1:= .bool t) (u2:= .slice a k c) (u3:= .slice none 0 0) al.out (bs E.out (aa g1 g2)) trivial trivial trivial;go_wp2_with fail;have s:Hid (Rec _ (w.heap.size+1) [.bool t,.slice a k c,.slice none 0 0]):=Rec.set3 (bs E.out (aa g1 g2));have g9:=Rec.h3 s.out (aa g0 (aa g1 g2)) dT;generalize (World.setCell (World.setCell (World.setCell N ⟨w.heap.size+1,0,none⟩ (.bool t)) ⟨w.heap.size+1,1,none⟩ (.slice a k c)) ⟨w.heap.size+1,2,none⟩ (.slice none 0 0))=w9 at *;obtain⟨O,R,S,U,W,X⟩:=ev s (((af _)))
   refine bodyPost_ret (v:= .agg #[.bool t,.slice a k c,.slice none 0 0]) (by simp [results,Tryz.results48,go_sem, *]) rfl ?_;exact⟨_,rfl,g9,a,k,c,none,0,0,by rw[← HT.out],F,I⟩
  ·rw[decide_eq_false h1] at HO;go_enter Tryz.func48,Tryz.ntmps48;go_wp2_with fail;obtain⟨w0,A,g0,ao,R0,E⟩:=fW w [.bool t,.slice a k c] [.bool false,.slice none 0 0,.slice none 0 0] 27 29;rw[A];clear A;refine dS (HS.out w0 g0) ?_;rintro e D ⟨rfl,g1⟩;go_wp2_with fail;refine dS (HO.out D (aa g0 g1)) ?_;rintro e N ⟨rfl,g2⟩;have C:=eU R0 (aa g1 g2);have B:=C.1;have ap:=C.2.1;have h5:QIs N (.agg #[.bool (decide (q.num<0)),.slice a k c,.slice J L c']) q:=⟨a,k,c,J,L,c',rfl,HM.out.G (aa g0 (aa g1 g2)),by unfold fQ;rw[if_neg h1];exact HL.out.G (aa g0 (aa g1 g2))⟩;clear C HS HO h0 h1 an;have y:Hid (Num N (.slice a k c) (q).num.natAbs):=q1d h5;have al:Hid (Num N (.slice J L c') (fQ (q).den)):=q1c h5;clear h5;obtain⟨Y,Z,i,j,m,o⟩:=ev E (((aa g1 g2)));have F:Num _ _ _:=eF (u1:= .bool t) (u2:= .slice a k c) (u3:= .slice J L c') y.out (bs E.out (aa g1 g2)) trivial trivial trivial;have I:Num _ _ _:=eF (u1:= .bool t) (u2:= .slice a k c) (u3:= .slice J L c') al.out (bs E.out (aa g1 g2)) trivial trivial trivial;go_wp2_with fail;have s:Hid (Rec _ (w.heap.size+1) [.bool t,.slice a k c,.slice J L c']):=Rec.set3 (bs E.out (aa g1 g2));have g9:=Rec.h3 s.out (aa g0 (aa g1 g2)) dT;generalize (World.setCell (World.setCell (World.setCell N ⟨w.heap.size+1,0,none⟩ (.bool t)) ⟨w.heap.size+1,1,none⟩ (.slice a k c)) ⟨w.heap.size+1,2,none⟩ (.slice J L c'))=w9 at *;obtain⟨O,R,S,U,W,X⟩:=ev s (((af _)))
   refine bodyPost_ret (v:= .agg #[.bool t,.slice a k c,.slice J L c']) (by simp [results,Tryz.results48,go_sem, *]) rfl ?_;exact⟨_,rfl,g9,a,k,c,J,L,c',by rw[← HT.out],F,I⟩
end Go.Proofs.YtfnkkkcojnffdaaGreatDoor.EN
