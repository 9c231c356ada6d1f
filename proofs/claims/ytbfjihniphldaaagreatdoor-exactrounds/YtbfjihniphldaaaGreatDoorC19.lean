/- What is proved here: contracts of package exact: divide, over this seat's translation.
What is proved here: contracts of package exact: divide, over, over this seat's translation.
What is proved here: contracts of package exact: root, over this seat's translation.
What is proved here: Lehmer's steps, their arithmetic (no program).
What is proved here: contracts of package exact: shares, over this seat's translation.
What is proved here: contracts of package exact: mix, over this seat's translation.
What is proved here: contracts of package exact: nearer, over this seat's translation.
What is proved here: contracts of package exact: euclid, over this seat's translation.
What is proved here: contracts of package exact: common, over this seat's translation.
What is proved here: contracts of package exact: whole numbers with a sign, over this seat's translation. -/
import Derived.Test.YtbfjihniphldaaaGreatDoorC14
import Derived.Test.YtbfjihniphldaaaGreatDoorC18
import Derived.Test.YtbfjihniphldaaaGreatDoorC7
namespace Go.Proofs.YtbfjihniphldaaaGreatDoor.EN
open Go.ChangeShapes Go.WideShapes Go.ChangeAt Go.RowKit
/-- A quotient and a rest, both numbers. -/
def q8v (w:World) (q r:Nat) (e:Ending) (w':World):Prop:=∃ v1 v2,e= .returned (.tuple #[v1,v2])∧G w w'∧Num w' v1 q∧Num w' v2 r
theorem q4y (w:World) (va vb:Value) (a b K:Nat) (hK:K≤400000) (ha:Num w va a) (hb:Num w vb b) (ha2:a<2^(64*K)) (hb2:b<2^(64*K)) (hlt:a<b):
  Calls Tryz.prog 130 #[va,vb] w (q8v w (a/b) (a%b)):=by
 have HC:Hid _:=q2H w va vb a b K (by omega) ha hb ha2 hb2;rw[show cmpV a b= -1 from by unfold cmpV;rw[if_pos hlt]] at HC;have HP:Hid (∀ w1,G w w1→_):=fun w1 g=>q8Q w1 va a K (by omega) (ha.G g) ha2;rw[Nat.div_eq_of_lt hlt,Nat.mod_eq_of_lt hlt];clear ha hb ha2 hb2 hlt;go_enter Tryz.func130,Tryz.ntmps130;go_wp2_with fail;refine q00 HC.out ?_;rintro e w1 ⟨rfl,g1⟩;have iR:Hid _:=HP.out w1 g1;clear HP HC;go_wp2_with fail;refine q00 iR.out ?_;intro e w2 hs;obtain⟨v,rfl,g2,hn⟩:=hs;have HN:Hid (Num w2 v a):=hn;clear hn iR;go_wp2_with fail
 go_ret2
 exact⟨_,v,rfl,G.trans g1 g2,⟨[],⟨q1f,Or.inl ⟨rfl,_,_,rfl⟩⟩,q0Y,rfl⟩,HN.out⟩
theorem q5J (w:World) (va vb:Value) (a b K:Nat) (hK:K≤400000) (ha:Num w va a) (hb:Num w vb b) (ha2:a<2^(64*K)) (hb2:b<2^64) (hb0:0<b) (hge:b≤a) (hK1:1≤K):
  Calls Tryz.prog 130 #[va,vb] w (q8v w (a/b) (a%b)):=by
 have HC:Hid _:=q2H w va vb a b K (by omega) ha hb ha2 (by omega);have hcv:cmpV a b=0∨cmpV a b=1:=by unfold cmpV;rw[if_neg (by omega)];split;exact Or.inl rfl;exact Or.inr rfl
 have hct:decide (cmpV a b<0)=false:=by rcases hcv with h|h<;>rw[h]<;>rfl
 have HD:Hid (∀ w1,G w w1→_):=fun w1 g=>q1E w1 va a b K (by omega) (ha.G g) ha2 hb0 hb2;have HW:Hid _:=fun w=>q5l w (a%b) (by have:=Nat.mod_lt a hb0;omega);obtain⟨m,hm,hcm,iG⟩:=hb;have pR:=q06 (k:=1) hcm (by rw[iG];simpa using hb2);have DK:m≠[]:=by intro e;rw[e] at iG;simp [val] at iG;omega
 have hm1:m.length=1:=by have:=List.length_pos_iff.2 DK;omega
 have hbd:m.getD 0 0=b:=by
  have:=q0t (l:=m) (k:=0) (by omega);rw[List.drop_eq_nil_of_le (show m.length≤0+1 by omega),iG] at this;simpa [val] using this.symm
 obtain⟨pb,cb,rfl,hcb,hrb⟩:=q0n hm;obtain⟨b1,o1,rfl,hB1,hc1⟩:=hrb 0 (by omega);rw[hbd,Nat.add_zero] at hc1;rw[hm1] at HC ⊢;generalize cmpV a b=cv at *;have hbi:(b:Int)≤18446744073709551615:=by omega
 clear ha hrb hm hcm iG pR DK hm1 hbd hcb ha2 hge hK hcv;go_enter Tryz.func130,Tryz.ntmps130;go_wp2_with fail;refine q00 HC.out ?_;rintro e w1 ⟨rfl,g1⟩;have hc1':=g1.cell hB1 hc1;have hs1:=Nat.lt_of_lt_of_le hB1 g1.size;have HD1:Hid _:=HD.out w1 g1;clear HC HD hc1 hB1;go_wp2_with fail;refine q00 HD1.out ?_;intro e w2 hs;obtain⟨v,rfl,g2,hn⟩:=hs;have HN:Hid (Num w2 v (a/b)):=hn;clear hn HD1 hc1' hs1;go_wp2_with fail;refine q00 (HW.out _) ?_;intro e w3 hs;obtain⟨v2,rfl,g3,hn2⟩:=hs;have bW:Hid (Num w3 v2 (a%b)):=hn2;clear hn2 HW;go_wp2_with fail
 go_ret2
 exact⟨v,v2,rfl,G.trans (G.trans g1 g2) g3,HN.out.G g3,bW.out⟩
theorem Own.gb {w w':World} {b c o n:Nat} {l:List Nat} (h:Own w b l) (g:GB c o n w w') (hne:b≠c):Own w' b l:=by
 have hb:=g.gx.block b h.2.1 (by intro e;cases e;exact hne rfl);refine⟨h.1,Nat.lt_of_lt_of_le h.2.1 g.size,fun i hi=> ?_,fun i hi=> ?_⟩
 ·exact(World.cell?_of_block hb).trans (h.2.2.1 i hi)
 ·exact(World.frozen?_of_block hb).trans (h.2.2.2 i hi)
theorem Own.setOther {w:World} {b c i:Nat} {l:List Nat} {u:Value} (h:Own w b l) (hne:b≠c):Own (w.setCell ⟨c,i,none⟩ u) b l:=
 ⟨h.1,by simpa [World.setCell] using h.2.1,h.2.2.1.set hne,fun j hj=>by rw[World.frozen?_setCell];exact h.2.2.2 j hj⟩
theorem Sl.setOther {w:World} {bv ov cv m c i:Nat} {vl:List Nat} {u:Value} (h:Sl w (.slice (some ⟨bv,ov,none⟩) m cv) vl) (hne:bv≠c):Sl (w.setCell ⟨c,i,none⟩ u) (.slice (some ⟨bv,ov,none⟩) m cv) vl:=by
 refine⟨h.1,?_⟩;rcases h.2 with ⟨h1,h2⟩|⟨b1,o1,c1,e,h1,h2,h3⟩
 ·exact Or.inl ⟨h1,h2⟩
 ·injection e with e1 e2 e3;injection e1 with e1;injection e1 with e1 e4;subst e1;subst e4;subst e2;subst e3;exact Or.inr ⟨bv,ov,cv,rfl,h1,by simpa [World.setCell] using h2,h3.set hne⟩
set_option maxHeartbeats 4000000 in
set_option maxRecDepth 100000 in
theorem q5O (w:World) (va vb:Value) (a b K:Nat) (hK:K≤400000) (ha:Num w va a) (hb:Num w vb b) (ha2:a<2^(64*K)) (hb2:b<2^(64*K)) (hge:b≤a) (hbig:2^64≤b):
  Calls Tryz.prog 130 #[va,vb] w (q8v w (a/b) (a%b)):=by
 have HC:Hid _:=q2H w va vb a b K (by omega) ha hb ha2 hb2;have hcv:cmpV a b=0∨cmpV a b=1:=by unfold cmpV;rw[if_neg (by omega)];split;exact Or.inl rfl;exact Or.inr rfl
 have hct:decide (cmpV a b<0)=false:=by rcases hcv with h|h<;>rw[h]<;>rfl
 obtain⟨l,hl,hcl,hvl⟩:=ha;obtain⟨m,hm,hcm,iG⟩:=hb;have hll:=q06 hcl (by rw[hvl];exact ha2);have pR:=q06 hcm (by rw[iG];exact hb2);have hm2:2≤m.length:=by
  by_cases h:2≤m.length
  ·exact h
  ·have h1:=q0v hcm.1;have h2:2^(64*m.length)≤2^(64*1):=Nat.pow_le_pow_right (by omega) (by omega);rw[iG] at h1;omega
 have hlm:m.length≤l.length:=by
  by_cases h:m.length≤l.length
  ·exact h
  ·have:=q0J hcl hcm (by omega);omega
 obtain⟨n,hn⟩:∃ n,m.length=n+1:=⟨m.length-1,by omega⟩;obtain⟨s,s1,s2,s3,s4,s5⟩:=q3h hcm hn;rw[iG] at s3 s4 s5;have hx:=q05 hcm.1 n;have JM:Hid _:=fun w=>Tryz.bits_LeadingZeros64 (m.getD n 0:Int) w (by omega) (by omega);rw[Int.toNat_natCast,← s2] at JM;have zJ:Hid (∀ w1,G w w1→_):=fun w1 g=>q21 w1 vb b s K (by omega) (by omega) (Num.G ⟨m,hm,hcm,iG⟩ g) hb2;have eH:Hid (∀ w1,G w w1→_):=fun w1 g=>q21 w1 va a s K (by omega) (by omega) (Num.G ⟨l,hl,hcl,hvl⟩ g) ha2;obtain⟨pa,ca,rfl,dL,-⟩:=q0n hl;obtain⟨pb,cb,rfl,hcb,hrb⟩:=q0n hm;obtain⟨b1,o1,rfl,hB1,hc1⟩:=hrb n (by omega);generalize m.getD n 0=top at *;have hla:2^(64*l.length)>a:=by have:=q0v hcl.1;rw[hvl] at this;exact this
 generalize hln:l.length=la at *;rw[hn] at HC zJ hlm hm2 hcb hrb ⊢;generalize cmpV a b=cv at *;have zK:Hid (a<2^(64*la)):=hla;have qD:Hid (b*2^s<2^(64*(n+1))):=s3;have DL:Hid (2^(64*n)≤b):=s4;have NM:Hid (2^(64*n)≤b*2^s):=s5;have HB0:Hid (0<b):=by show 0<b;omega
 have hni:(n:Int)≤400000:=by omega
 have Ri:(la:Int)≤400000:=by omega
 have hnl:(n:Int)+1≤la:=by omega
 have hn1:(1:Int)≤n:=by omega
 have hsi:(s:Int)≤63:=by omega
 have ht1:((n:Int)+1==1)=false:=by simp;omega
 clear hl hcl hvl hm hcm iG hll pR hx hrb hla hln dL hcb s1 s2 s3 s4 s5 hcv hge hbig ha2 hb2 hn hlm hm2;go_enter Tryz.func130,Tryz.ntmps130;go_wp2_with fail;refine q00 HC.out ?_;rintro e w1 ⟨rfl,g1⟩;have hc1':=g1.cell hB1 hc1;have hs1:=Nat.lt_of_lt_of_le hB1 g1.size;clear HC hc1 hB1;go_wp2_with fail;refine q00 (JM.out _) ?_;rintro e w2 ⟨rfl,rfl⟩;clear JM hc1' hs1;have DN:Hid _:=zJ.out _ g1;clear zJ;go_wp2_with fail;refine q00 DN.out ?_;intro e w3 hs;obtain⟨v,rfl,g3,Gi⟩:=hs;have NP:Hid (Num w3 v (b*2^s)):=Gi;have g13:=G.trans g1 g3;clear Gi DN g1 g3;have hmk:=q1e (la+1) (by omega);rw[show ((la+1:Nat):Int)=(la:Int)+1 from by omega] at hmk;go_wp2_with fail;have AU:Hid _:=q0C w3 (la+1) 85;have hg4:G w3 (w3.alloc (.cells (madeCells #[.int .u64 0] (la+1)) 85)):=(G.refl _).alloc _;obtain⟨vl,hsv,vK,zL⟩:=NP.out;have hvl:vl.length=n+1:=by
  have k1:=q06 vK (by rw[zL];exact qD.out);by_cases h:n+1≤vl.length
  ·omega
  ·have k2:=q0v vK.1;have k3:2^(64*vl.length)≤2^(64*n):=Nat.pow_le_pow_right (by omega) (by omega);have:=NM.out;omega
 have wC:=q28 vK hvl;obtain⟨pv,wS,rfl,hcv,NQ⟩:=q0n hsv;obtain⟨bv,ov,rfl,Sc,-⟩:=NQ n (by omega);rw[hvl] at hsv hcv ⊢;have DR:=hsv.G hg4;have G4:=G.trans g13 hg4;have DT:Hid _:=eH.out _ G4;have hsz:w3.heap.size<(w3.alloc (.cells (madeCells #[.int .u64 0] (la+1)) 85)).heap.size:=by simp
 generalize w3.alloc (.cells (madeCells #[.int .u64 0] (la+1)) 85)=w4 at *;have JN:=g13.size;obtain⟨bu,hbu⟩:∃ bu,bu=w3.heap.size:=⟨_,rfl⟩;rw[← hbu] at AU Sc JN hsz ⊢;have Gj:Hid (Sl w4 (.slice (some ⟨bv,ov,none⟩) (n+1) wS) vl):=DR;have kv:Hid (vl.length=n+1):=hvl;have vw:Hid (val vl=b*2^s):=zL;have FW:Hid (0<vl.getD n 0):=by show 0<vl.getD n 0;omega
 have JO:bv<w4.heap.size:=by omega
 have hbne:bv≠bu:=by omega
 have DU:Hid (Sl w3 (.slice (some ⟨bv,ov,none⟩) (n+1) wS) vl):=hsv;clear hsv DR vK zL hvl wC NQ hcv eH NP NM hmk Gj;refine q00 DT.out ?_;intro e w5 hs;obtain⟨v2,rfl,g5,Gi⟩:=hs;obtain⟨al,hsa,DV,hval⟩:=Gi;have hall:al.length≤la+1:=by
  refine q06 DV ?_;rw[hval];have h1:a*2^s<2^(64*la)*2^s:=Nat.mul_lt_mul_of_pos_right zK.out (Nat.two_pow_pos s);rw[← Nat.pow_add] at h1;exact Nat.lt_of_lt_of_le h1 (Nat.pow_le_pow_right (by omega) (by omega))
 have DW:=Own.grow AU.out g5;obtain⟨w6,hrun,hown,pJ⟩:=q6n (w0:=w3) (n:=la+1) (va:=v2) DW (by simp) hsa hall (G.trans hg4 g5) (by omega) 3;have DX:(al++(List.replicate (la+1) 0).drop al.length).length=la+1:=by rw[List.length_append,List.length_drop,List.length_replicate];omega
 have DY:val (al++(List.replicate (la+1) 0).drop al.length)=a*2^s:=by
  rw[val_append,List.drop_replicate,q43,Nat.mul_zero,Nat.add_zero,hval]
 obtain⟨pz,cz,rfl,-,-⟩:=q0n hsa;generalize al++(List.replicate (la+1) 0).drop al.length=Gl at *;obtain⟨M,hM⟩:∃ M,la=n+M:=⟨la-n,by omega⟩;have hM1:1≤M:=by omega
 have NR:a*2^s<2^(64*M)*(b*2^s):=by
  have k1:2^(64*M)*2^(64*n)≤2^(64*M)*b:=Nat.mul_le_mul_left _ DL.out;rw[← Nat.pow_add,show 64*M+64*n=64*la from by omega] at k1;rw[← Nat.mul_assoc];exact Nat.mul_lt_mul_of_pos_right (by have:=zK.out;omega) (Nat.two_pow_pos s)
 have uC:Hid (DI Gl (List.replicate M 0) M (la+1) M (b*2^s) (a*2^s)):=DI.start DX DY NR;have DZ:Hid (Own w6 bu Gl):=hown;have E5:Hid (Sl w6 (.slice (some ⟨bv,ov,none⟩) (n+1) wS) vl):=DU.out.G pJ;have G6:=G.trans g13 pJ;have JP:bu<w6.heap.size:=hown.2.1;have wT:bv<w6.heap.size:=by omega
 have yN:=q1e M (by omega);have MF:(la:Int)-((n:Int)+1)+1=(M:Int):=by omega
 have Sd:(M:Int)≤400000:=by omega
 have HM:Hid (la=n+M):=hM;have uz:Hid (bv≠bu):=hbne;clear hsa DV hval hall DW hown pJ DX DY NR DT AU g5 hg4 G4 g13 DU JO hsz hbu zK hM hbne;go_wp2_with fail;have wF:Hid _:=q0C w6 M 85;have kY:G w6 (w6.alloc (.cells (madeCells #[.int .u64 0] M) 85)):=(G.refl _).alloc _;have hsz:w6.heap.size<(w6.alloc (.cells (madeCells #[.int .u64 0] M) 85)).heap.size:=by simp
 generalize w6.alloc (.cells (madeCells #[.int .u64 0] M) 85)=w7 at *;have E8:Hid (bv<w7.heap.size):=Nat.lt_of_lt_of_le wT kY.size;have Gm:=G6.size;generalize w6.heap.size=bq at *;have E9:Hid (Own w7 bu Gl):=Own.grow DZ.out kY;have Ea:Hid (Sl w7 (.slice (some ⟨bv,ov,none⟩) (n+1) wS) vl):=E5.out.G kY;have G7:=G.trans G6 kY;have NS:Hid (bq≠bu):=by show bq≠bu;omega
 have Sg:Hid (bq≠bv):=by show bq≠bv;omega
 have Gn:Hid (w.heap.size≤bq):=Gm;have JI:Hid (w.heap.size≤bu):=JN;clear DZ E5 G6 kY JP wT yN hsz Gm JN MF hrun
 go_loopw [11] (fun vi wr=>∃ (t:Nat) (us qs:List Nat),t≤M∧vi= .int .i64 ((t:Int)-1)∧DI us qs t (la+1) M (b*2^s) (a*2^s)∧Own wr bu us∧Own wr bq qs∧Sl wr (.slice (some ⟨bv,ov,none⟩) (n+1) wS) vl∧bv<wr.heap.size∧G w wr) (fun vi _=>(intOf vi+1).toNat)
 case atStart=>exact⟨M,Gl,_,Nat.le_refl _,rfl,uC.out,E9.out,wF.out,Ea.out,E8.out,G7⟩
 case round=>
  clear uC E9 wF Ea G7 E8;obtain⟨t,us,qs,ht,rfl,hdi,hou,hoq,hsv,sM,hG⟩:=hrel;cases t with
  |succ j=>
   have oL:us.length=la+1:=hdi.1;have hst:=fun cs=>DI.step (cs:=cs) (n:=n+1) hdi hou.1 (by omega) (by have:=HM.out;omega) qD.out (Nat.mul_pos HB0.out (Nat.two_pow_pos s));have hsub:=At.sub (i:=j) (n:=n+1+1) hou.at (by have:=HM.out;omega);have hsl:((us.drop j).take (n+1+1)).length=n+2:=by rw[List.length_take,List.length_drop];have:=HM.out;omega
   rw[Nat.zero_add] at hsub;have NT:Hid _:=qaj wr bu j (la+1-j) bv ov wS _ vl n (by omega) hsl kv.out hsub (by rw[hsl];have:=HM.out;omega) hsv uz.out sM FW.out (by rw[vw.out];exact(hst []).1);have HST:Hid _:=hst;have AU:Hid (Own wr bu us):=hou;have wF:Hid (Own wr bq qs):=hoq;have Gj:Hid (Sl wr (.slice (some ⟨bv,ov,none⟩) (n+1) wS) vl):=hsv;have NU:Hid _:=hsl;have kN:Hid (us.length=la+1):=oL;have uS:Hid (qs.length=M):=hdi.2.1;have hji:(j:Int)+1≤M:=by omega
   have hjl:(j:Int)+((n:Int)+1)+1≤(la:Int)+1:=by have:=HM.out;omega
   have Si:bu<wr.heap.size:=hou.2.1;have Sj:bq<wr.heap.size:=hoq.2.1;clear hst hsub hsl oL hdi hou hoq hsv;go_wp2_with fail;rw[show j+(n+1)+1-j=n+2 from by omega];refine q00 NT.out ?_;rintro e w8 ⟨cs,rfl,hcl,hAt,fD,hcv⟩;rw[NU.out] at hcl fD;rw[vw.out] at hcv;have yM:=(HST.out cs).2 hcl hcv;have hjn:=At.join (o:=0) (i:=j) (n:=n+2) AU.out.at (by rw[Nat.zero_add];exact fD) (by rw[Nat.zero_add];exact hAt) hcl (by have:=kN.out;have:=HM.out;omega);have JQ:Hid (Own w8 bu (us.take j++(cs++us.drop (j+(n+2))))):=hjn.own;have zM:Hid (Own w8 bq qs):=Own.gb wF.out fD NS.out;have JR:Hid (Sl w8 (.slice (some ⟨bv,ov,none⟩) (n+1) wS) vl):=Sl.gb Gj.out fD uz.out sM;have vL:=GB.fresh hG fD JI.out;have JS:Hid (DI (us.take j++(cs++us.drop (j+(n+2)))) (qs.set j (val ((us.drop j).take (n+1+1))/(b*2^s))) j (la+1) M (b*2^s) (a*2^s)):=yM;have JU:bv<w8.heap.size:=Nat.lt_of_lt_of_le sM fD.size;have zg:val ((us.drop j).take (n+1+1))/(b*2^s)<2^64:=by
    have h1:=(HST.out []).1;exact(Nat.div_lt_iff_lt_mul (Nat.mul_pos HB0.out (Nat.two_pow_pos s))).2 h1
   rw[vw.out];generalize val ((us.drop j).take (n+1+1))/(b*2^s)=q at *;generalize us.take j++(cs++us.drop (j+(n+2)))=dx at *;have ho:=Own.cell (w:=w8) (b:=bq) (l:=qs) (i:=j) zM.out (by have:=uS.out;omega);have hf:=Own.frozen (w:=w8) (b:=bq) (l:=qs) (i:=j) zM.out (by have:=uS.out;omega);have JV:Hid (q<2^64):=zg;generalize qs.getD j 0=z at *;clear yM hjn hcl hAt fD hcv NT HST NU kN AU wF Gj zg hG sM hjl;go_wp2_with fail
   go_roundw
   case rel=>exact⟨j,dx,qs.set j q,by omega,by congr 1,JS.out,Own.setOther JQ.out NS.out.symm,Own.set zM.out j q (by have:=uS.out;omega) JV.out,Sl.setOther JR.out Sg.out.symm,by simpa [World.setCell] using JU,vL.setCell (p:=⟨bq,j,none⟩) Gn.out _⟩
   case measure=>simp [intOf]
  |zero=>
   obtain⟨f1,f2⟩:=DI.fin hdi (Nat.two_pow_pos s) HB0.out;have oL:us.length=la+1:=hdi.1;have Cx:qs.length=M:=hdi.2.1;have Eb:Hid (∀ w9,G wr w9→Calls Tryz.prog 132 #[.slice (some ⟨bq,0,none⟩) M M] w9 (q0e w9 (a/b))):=by
    intro w9 g;have h2:=q0G (Own.grow hoq g) Cx (by omega);rw[f1] at h2;exact h2
   have hsub:=At.sub (i:=0) (n:=n+1) hou.at (by omega);have hsl:((us.drop 0).take (n+1)).length=n+1:=by rw[List.drop_zero,List.length_take];omega
   have Ec:val ((us.drop 0).take (n+1))=(a%b)*2^s:=by
    have k1:=q3B us 0 (n+1) (by omega);have k2:val (us.drop (n+1))=0:=by
     rw[q1m hou.1];refine Nat.div_eq_of_lt ?_;rw[f2];have k3:(a%b)*2^s<b*2^s:=Nat.mul_lt_mul_of_pos_right (Nat.mod_lt _ HB0.out) (Nat.two_pow_pos s);have:=qD.out;omega
    simp only[Nat.zero_add] at k1;rw[k2] at k1;simp only[List.take_zero,Nat.mul_zero,Nat.pow_zero,Nat.one_mul,Nat.add_zero,val,Nat.zero_add] at k1;rw[← k1,f2]
   have HT2:Hid (∀ w9,G wr w9→Calls Tryz.prog 132 #[.slice (some ⟨bu,0,none⟩) (n+1) (la+1)] w9 (q0e w9 ((a%b)*2^s))):=by
    intro w9 g;have h1:=(At.gr hsub g).sl (la+1) (by rw[hsl];omega);rw[hsl] at h1;have h2:=trim_c w9 _ _ h1 (by rw[hsl];omega);rw[Ec] at h2;exact h2
   have HR:Hid (∀ w9 v,Num w9 v ((a%b)*2^s)→Calls Tryz.prog 129 #[v,.int .i64 (s:Int)] w9 (q0e w9 (a%b))):=by
    intro w9 v hv;have h1:=q1b w9 v _ s (n+1) (by omega) (by omega) hv (by
     have k3:(a%b)*2^s<b*2^s:=Nat.mul_lt_mul_of_pos_right (Nat.mod_lt _ HB0.out) (Nat.two_pow_pos s);have:=qD.out;omega)
    rw[Nat.mul_div_cancel _ (Nat.two_pow_pos s)] at h1;exact h1
   clear f1 f2 oL Cx hsub hsl Ec hdi hou hoq hsv sM;have Sk:n≤la:=by omega
   have Uc:(0:Int)≤(n:Int)+1:=by omega
   go_wp2_with fail;refine q0L 9 (G wr) (by kernel_rfl) (by first|exact(G.refl _).drew|exact G.drew (by assumption)) ?_;intro bn;refine q02 0 (v:= ?_) rfl (by kernel_rfl) (fun _ _ _ h=>h) rfl ?_ ‹_› ?_;rotate_left
   ·intro wq hwq
    first|(go_simp;done)|(go_simp;with_reducible rfl)
   try simp only[aput,List.set]
   refine q02 2 (v:= ?_) rfl (by kernel_rfl) (fun _ _ _ h=>h) rfl ?_ ‹_› ?_;rotate_left
   ·intro wq hwq
    first|(go_simp;done)|(go_simp;with_reducible rfl)
   try simp only[aput,List.set]
   refine q02 3 (v:= ?_) rfl (by kernel_rfl) (fun _ _ _ h=>h) rfl ?_ ‹_› ?_;rotate_left
   ·intro wq hwq
    first|(go_simp;done)|(go_simp;with_reducible rfl)
   try simp only[aput,List.set]
   refine q02 4 (v:= ?_) rfl (by kernel_rfl) (fun _ _ _ h=>h) rfl ?_ ‹_› ?_;rotate_left
   ·intro wq hwq
    first|(go_simp;done)|(go_simp;with_reducible rfl)
   try simp only[aput,List.set]
   refine q02 5 (v:= ?_) rfl (by kernel_rfl) (fun _ _ _ h=>h) rfl ?_ ‹_› ?_;rotate_left
   ·intro wq hwq
    first|(go_simp;done)|(go_simp;with_reducible rfl)
   try simp only[aput,List.set]
   refine q02 7 (v:= ?_) rfl (by kernel_rfl) (fun _ _ _ h=>h) rfl ?_ ‹_› ?_;rotate_left
   ·intro wq hwq
    first|(go_simp;done)|(go_simp;with_reducible rfl)
   try simp only[aput,List.set]
   refine q04 (i:=1) (by kernel_rfl) rfl ?_;intro K hK;go_simp;go_wp2_with (go_at_call 132;refine q00 (Eb.out _ bn) ?_;intro e w9 hs;obtain⟨v1,rfl,g9,hn1⟩:=hs);refine hK.out _ _ (Or.inr (G.trans bn g9)) ?_;clear hK K;have aO:=G.trans bn g9;have ny:Hid (Num w9 v1 (a/b)):=hn1;clear hn1 bn g9;refine q04 (i:=6) (by kernel_rfl) rfl ?_;intro K hK;go_simp;go_wp2_with (go_at_call 132;refine q00 (HT2.out _ aO) ?_;intro e aR hs;obtain⟨v2,rfl,g10,hn2⟩:=hs);refine hK.out _ _ (Or.inr (G.trans aO g10)) ?_;clear hK K;have aF:=G.trans aO g10;have Ed:Hid (Num aR v1 (a/b)):=ny.out.G g10;have HR2:Hid _:=HR.out aR v2 hn2;clear hn2 aO g10 ny HR HT2 Eb;refine q04 (i:=8) (by kernel_rfl) rfl ?_;intro K hK;go_simp;go_wp2_with (go_at_call 129;refine q00 HR2.out ?_;intro e dH hs;obtain⟨v3,rfl,g11,iF⟩:=hs);refine hK.out _ _ (Or.inr (G.trans aF g11)) ?_;clear hK K;have aV:=G.trans aF g11;have fJ:Hid (Num dH v3 (a%b)):=iF;have Ee:Hid (Num dH v1 (a/b)):=Ed.out.G g11;clear iF aF g11 Ed HR2;refine q04 (i:=9) (by kernel_rfl) rfl ?_;intro K hK;go_simp;refine hK.out _ _ (Or.inl (by decide)) ?_;clear hK K;refine q04 (i:=10) (by kernel_rfl) rfl ?_;intro K hK;go_simp;refine hK.out _ _ (Or.inl (by decide)) ?_;clear hK K;refine q0m (by kernel_rfl) ?_ _;go_wp2_with fail
   go_ret2
   exact⟨v1,v3,rfl,G.trans hG aV,Ee.out,fJ.out⟩
theorem q2y (w:World) (va vb:Value) (a b K:Nat) (hK:K≤400000) (hK1:1≤K) (ha:Num w va a) (hb:Num w vb b) (ha2:a<2^(64*K)) (hb2:b<2^(64*K)) (hb0:0<b):
  Calls Tryz.prog 130 #[va,vb] w (q8v w (a/b) (a%b)):=by
 by_cases h:a<b
 ·exact q4y w va vb a b K hK ha hb ha2 hb2 h
 ·by_cases h2:b<2^64
  ·exact q5J w va vb a b K hK ha hb ha2 h2 hb0 (by omega) hK1
  ·exact q5O w va vb a b K hK ha hb ha2 hb2 (by omega) (by omega)
theorem q4s {p n:Nat}:n+1=blen ((2*p+1)*2^n)↔p=0:=by
 have h0:(2*p+1)*2^n≠0:=Nat.mul_ne_zero (by omega) (Nat.ne_of_gt (Nat.two_pow_pos n));unfold blen;rw[if_neg h0];constructor
 ·intro h;have h1:=(Nat.log2_eq_iff (k:=n) h0).1 (by omega);have h2:(2*p+1)*2^n<2*2^n:=by rw[← Nat.pow_succ'];exact h1.2
  have:=Nat.lt_of_mul_lt_mul_right h2;omega
 ·rintro rfl;have hp:=Nat.two_pow_pos n;have h1:=(Nat.log2_eq_iff (k:=n) h0).2 ⟨by omega,by rw[Nat.pow_succ];omega⟩;omega
theorem qa9 {a p i K:Nat} (hp:a=(2*p+1)*2^i) (ha2:a<2^(64*K)):i<64*K:=by
 have:2^i≤a:=by rw[hp];exact Nat.le_mul_of_pos_left _ (by omega)
 exact(Nat.pow_lt_pow_iff_right (by omega:1<2)).1 (Nat.lt_of_le_of_lt this ha2)
theorem q34 (w:World) (va vb:Value) (a b K:Nat) (hK:K≤150000) (hK1:1≤K) (hT:Tab w) (ha:Num w va a) (hb:Num w vb b) (ha2:a<2^(64*K)) (hb2:b<2^(64*K)) (hb0:0<b):
  Calls Tryz.prog 57 #[va,vb] w (q0e w (a/b)):=by
 obtain⟨p,n,hp⟩:=q38 b hb0;have hn:=qa9 hp hb2;have HT1:Hid _:=q35 w vb b p n K (by omega) hT hb hb2 hp;have HS:Hid (∀ w1,G w w1→Calls Tryz.prog 127 #[vb] w1 fun e w'=>e= .returned (.int .i64 (blen b))∧G w1 w'):=fun w1 g=>q2C w1 vb b K (by omega) (hb.G g) hb2;have hbe:=q4s (p:=p) (n:=n);rw[← hp] at hbe;have hni:(n:Int)≤9600000:=by omega
 by_cases h1:p=0
 ·have hb1:b=2^n:=by rw[hp,h1];omega
  have ht:(((n:Int)+1)==(blen b:Int))=true:=by have:=hbe.2 h1;simp;omega
  have HR:Hid (∀ w1,G w w1→Calls Tryz.prog 129 #[va,.int .i64 (n:Int)] w1 (q0e w1 (a/b))):=fun w1 g=>by
   rw[hb1];exact q1b w1 va a n K (by omega) (by omega) (ha.G g) ha2
  generalize blen b=s at *;clear ha hb ha2 hb2 hb0 h1 hb1 hp hbe hn hT;go_enter Tryz.func57,Tryz.ntmps57;go_wp2_with fail;refine q00 HT1.out ?_;rintro e w1 ⟨rfl,g1⟩;have iZ:Hid _:=HS.out w1 g1;clear HT1 HS;go_wp2_with fail;refine q00 iZ.out ?_;rintro e w2 ⟨rfl,g2⟩;have g12:=G.trans g1 g2;have HR1:Hid _:=HR.out w2 g12;clear iZ HR g1 g2;go_wp2_with fail;refine q00 HR1.out ?_;intro e w3 hs;obtain⟨v1,rfl,g3,hn1⟩:=hs;have HN:Hid (Num w3 v1 (a/b)):=hn1;clear hn1 HR1;go_wp2_with fail;go_ret;exact⟨v1,rfl,G.trans g12 g3,HN.out⟩
 ·have ht:(((n:Int)+1)==(blen b:Int))=false:=by have:=fun h=>h1 (hbe.1 h);simp;omega
  have HD:Hid (∀ w1,G w w1→_):=fun w1 g=>q2y w1 va vb a b K (by omega) hK1 (ha.G g) (hb.G g) ha2 hb2 hb0;generalize blen b=s at *;clear ha hb ha2 hb2 hb0 h1 hp hbe hn hT;go_enter Tryz.func57,Tryz.ntmps57;go_wp2_with fail;refine q00 HT1.out ?_;rintro e w1 ⟨rfl,g1⟩;have iZ:Hid _:=HS.out w1 g1;clear HT1 HS;go_wp2_with fail;refine q00 iZ.out ?_;rintro e w2 ⟨rfl,g2⟩;have g12:=G.trans g1 g2;have HD1:Hid _:=HD.out w2 g12;clear iZ HD g1 g2;go_wp2_with fail;refine q00 HD1.out ?_;intro e w3 hs;obtain⟨v1,v2,rfl,g3,hn1,hn2⟩:=hs;have HN:Hid (Num w3 v1 (a/b)):=hn1;clear hn1 hn2 HD1;go_wp2_with fail;go_ret;exact⟨v1,rfl,G.trans g12 g3,HN.out⟩
/-- The number that a slice of words holds. -/
def numV (w:World):Value→Nat
 | .slice (some a) n _=>val ((List.range n).map fun i=>match w.cell? ⟨a.block,a.off+i,none⟩ with
  |some (.int _ z)=>z.toNat
  |_=>0)
 |_=>0
theorem q1O {w:World} {v:Value} {n:Nat} (h:Num w v n):numV w v=n:=by
 obtain⟨l,hl,-,rfl⟩:=h;rcases Sl.cases hl with ⟨rfl,a,c,rfl⟩|⟨-,b,o,c,rfl,-,-,hr⟩
 ·cases a<;>rfl
 ·show val _=val l
  congr 1
  refine List.ext_getElem (by simp) fun i h1 h2=> ?_;rw[List.getElem_map,List.getElem_range];rw[hr i h2];simp [List.getD_eq_getElem?_getD,h2]
/-- Newton's steps. -/
theorem q8l {a r s:Nat} (h:r*r≤a) (hs:0<s):r≤(s+a/s)/2:=by
 rw[Nat.le_div_iff_mul_le (by omega)];by_cases h2:2*r≤s
 ·generalize a/s=f;omega
 ·obtain⟨t,ht⟩:∃ t,2*r=s+t:=⟨2*r-s,by omega⟩;have h3:t*s≤r*r:=by
   have e1:(s+t)*(s+t)=4*(r*r):=by rw[← ht,show 2*r*(2*r)=2*2*(r*r) from by ac_rfl]
   have e2:(s+t)*(s+t)=s*s+t*t+2*(t*s):=by rw[Nat.add_mul,Nat.mul_add,Nat.mul_add,Nat.mul_comm s t];omega
   have e3:2*(t*s)≤s*s+t*t:=by
    rcases Nat.le_total s t with h|h
    ·obtain⟨d,rfl⟩:∃ d,t=s+d:=⟨t-s,by omega⟩;have e4:(s+d)*(s+d)=s*s+2*(s*d)+d*d:=by rw[Nat.add_mul,Nat.mul_add,Nat.mul_add,Nat.mul_comm d s];omega
     have e5:(s+d)*s=s*s+s*d:=by rw[Nat.add_mul,Nat.mul_comm d s]
     omega
    ·obtain⟨d,rfl⟩:∃ d,s=t+d:=⟨s-t,by omega⟩;have e4:(t+d)*(t+d)=t*t+2*(t*d)+d*d:=by rw[Nat.add_mul,Nat.mul_add,Nat.mul_add,Nat.mul_comm d t];omega
     have e5:t*(t+d)=t*t+t*d:=by rw[Nat.mul_add]
     omega
   omega
  have h4:t≤a/s:=(Nat.le_div_iff_mul_le hs).2 (by omega);omega
theorem q70 {a r s:Nat} (h1:a<(r+1)*(r+1)) (hs:0<s) (hr:r≤s) (h:s≤(s+a/s)/2):s=r:=by
 have h2:s≤a/s:=by omega
 have h3:=(Nat.le_div_iff_mul_le hs).1 h2;by_cases h4:s≤r
 ·omega
 ·have:(r+1)*(r+1)≤s*s:=Nat.mul_le_mul (by omega) (by omega);omega
theorem q4G {a r:Nat} (h:r*r≤a):r≤2^((blen a+1)/2):=by
 by_cases hx:r≤2^((blen a+1)/2)
 ·exact hx
 ·exfalso;have h1:2^((blen a+1)/2)*2^((blen a+1)/2)≤r*r:=Nat.mul_le_mul (by omega) (by omega);rw[← Nat.pow_add] at h1;have h2:a<2^blen a:=by
   unfold blen;split
   ·omega
   ·exact Nat.lt_log2_self
  have h3:2^blen a≤2^((blen a+1)/2+(blen a+1)/2):=Nat.pow_le_pow_right (by omega) (by omega);omega
set_option maxHeartbeats 4000000 in
set_option maxRecDepth 100000 in
theorem qby (w:World) (va:Value) (a r K:Nat) (hK:K≤100000) (hK1:1≤K) (ha:Num w va a) (ha2:a<2^(64*K)) (hr1:r*r≤a) (hr2:a<(r+1)*(r+1)):
  Calls Tryz.prog 137 #[va] w (q0e w r):=by
 have HA:Hid (Num w va a):=ha;have HS:Hid (∀ w1,G w w1→_):=fun w1 g=>q2C w1 va a K (by omega) (ha.G g) ha2;obtain⟨l,hl,hcl,hlv⟩:=ha;obtain⟨pa,ca,rfl,dL,-⟩:=q0n hl;have hll:=q06 hcl (by rw[hlv];exact ha2);by_cases h0:l.length=0
 ·have hl0:l=[]:=List.eq_nil_of_length_eq_zero h0;have ha0:a=0:=by rw[← hlv,hl0];rfl
  have hr0:r=0:=by
   rcases Nat.eq_zero_or_pos r with h|h
   ·exact h
   ·have:=Nat.mul_le_mul h h;omega
  rw[h0,hr0];clear hl hcl hlv dL hll h0 hl0 ha0 hr0 HA HS hr1 hr2 ha2;go_enter Tryz.func137,Tryz.ntmps137;go_wp2_with fail;go_ret;exact⟨_,rfl,G.refl _,[],⟨q1f,Or.inl ⟨rfl,_,_,rfl⟩⟩,q0Y,rfl⟩
 ·have ht0:((l.length:Int)==0)=false:=by simp;exact fun e=>h0 (by rw[e];rfl)
  have hbl:blen a≤64*K:=by
   unfold blen;split
   ·omega
   ·have:=(Nat.log2_lt (by omega)).2 ha2;omega
  generalize l.length=j at *;have HR1:Hid (r*r≤a):=hr1;have HR2:Hid (a<(r+1)*(r+1)):=hr2;have HA2:Hid (a<2^(64*K)):=ha2;have DF:Hid (blen a≤64*K):=hbl;have hki:((blen a:Nat):Int)≤6400000:=by omega
  have hbe:((blen a:Nat):Int)+1=((blen a+1:Nat):Int):=by omega
  obtain⟨k,hk⟩:∃ k,k=(blen a+1)/2:=⟨_,rfl⟩;have hk2:(((blen a:Nat):Int)+1)/2=(k:Int):=by omega
  have HST:Hid (r≤2^k):=by show r≤2^k;rw[hk];exact q4G hr1
  have xQ:Hid (2^k<2^(64*(2*K))):=Nat.pow_lt_pow_right (by omega) (by omega);have hkk:(k:Int)≤3200001:=by omega
  generalize hbb:blen a=bb at *;have hj1:(j:Int)≤100000:=by omega
  clear hl hcl hlv dL hll h0 hbl hr1 hr2 ha2 hk hbe;go_enter Tryz.func137,Tryz.ntmps137;go_wp2_with fail;have hg0:G w (w.alloc (.cells #[.int .u64 1] 85)):=(G.refl _).alloc _;have hone:=q3V w 1 85 (by omega);have DJ:Hid (Num (w.alloc (.cells #[.int .u64 1] 85)) (.slice (some ⟨w.heap.size,0,none⟩) 1 1) 1):=⟨[1],hone,⟨hone.1,fun _=>by simp⟩,rfl⟩;have iZ:Hid _:=HS.out _ hg0;generalize w.alloc (.cells #[.int .u64 1] 85)=w1 at *;clear hone HS hbb;refine q00 iZ.out ?_;rintro e w2 ⟨rfl,g2⟩;have HL:Hid _:=q21 w2 _ 1 k 1 (by omega) (by omega) (DJ.out.G g2) (by omega);have G2:=G.trans hg0 g2;clear DJ iZ hg0 g2;go_wp2_with fail;refine q00 HL.out ?_;intro e w3 hs;obtain⟨v,rfl,g3,hn⟩:=hs;rw[Nat.one_mul] at hn;have HN:Hid (Num w3 v (2^k)):=hn;have G3:=G.trans G2 g3;clear hn HL G2 g3;go_wp2_with fail
  go_loopw [3] (fun vs wr=>∃ t:Nat,Num wr vs t∧0<t∧r≤t∧t≤2^k∧G w wr) (fun vs wr=>numV wr vs)
  case atStart=>exact⟨2^k,HN.out,Nat.two_pow_pos k,HST.out,Nat.le_refl _,G3⟩
  case round=>
   clear HN G3;obtain⟨t,hn,ht0',hrt,htk,hG⟩:=hrel;have hmu:=q1O hn;have yF:Hid (numV wr u3=t):=hmu;have zI:a<2^(64*(2*K)):=Nat.lt_of_lt_of_le HA2.out (Nat.pow_le_pow_right (by omega) (by omega));have Gf:t<2^(64*(2*K)):=Nat.lt_of_le_of_lt htk xQ.out;have HD:Hid _:=q2y wr _ u3 a t (2*K) (by omega) (by omega) (HA.out.G hG) hn zI Gf ht0';have hq:a/t<2^(64*(2*K)):=Nat.lt_of_le_of_lt (Nat.div_le_self a t) zI;have HP:Hid (∀ w5 v,G wr w5→Num w5 v (a/t)→Calls Tryz.prog 122 #[u3,v] w5 (q0e w5 (t+a/t))):=fun w5 v g hv=>q9q w5 u3 v t (a/t) (2*K) (by omega) (hn.G g) hv Gf hq;have hsum:t+a/t<2^(64*(2*K+1)):=by
    have:2^(64*(2*K+1))=2^(64*(2*K))*2^64:=by rw[← Nat.pow_add];rfl
    omega
   have HH:Hid (∀ w5 v,Num w5 v (t+a/t)→Calls Tryz.prog 129 #[v,.int .i64 1] w5 (q0e w5 ((t+a/t)/2))):=by
    intro w5 v hv;have h1:=q1b w5 v _ 1 (2*K+1) (by omega) (by omega) hv hsum;rw[Nat.pow_one] at h1;exact h1
   have hge:=q8l HR1.out ht0';have hen:=q70 HR2.out ht0' hrt;have bI:Hid (∀ w5 v,G wr w5→Num w5 v ((t+a/t)/2)→_):=fun w5 v g hv=>q2H w5 v u3 ((t+a/t)/2) t (2*K+1) (by omega) hv (hn.G g) (by omega) (Nat.lt_of_lt_of_le Gf (Nat.pow_le_pow_right (by omega) (by omega)));have RS:Hid (r≤(t+a/t)/2):=hge;have RU:Hid (t≤(t+a/t)/2→t=r):=hen;have Sa:Hid (Num wr u3 t):=hn;have Gg:Hid (t≤2^k):=htk;have lK:Hid (0<(t+a/t)/2):=by
    show 0<(t+a/t)/2;by_cases h1:2≤t
    ·generalize a/t=f;omega
    ·have h2:t=1:=by omega
     have h3:1≤r∨r=0:=by omega
     rcases h3 with h3|h3
     ·omega
     ·exfalso;have:=HR2.out;rw[h3] at this;have ha0:a=0:=by omega
      have NJ:=HA.out;rw[ha0] at NJ;obtain⟨l2,hl2,hc2,hv2⟩:=NJ;have JK:=(q0V hc2).1 hv2;obtain⟨a2,c2,e2,-,-⟩:=q0n hl2;rw[JK] at e2;injection e2 with e3 e4 e5;rw[e4] at ht0;simp at ht0
   generalize (t+a/t)/2=nx at *;generalize t+a/t=sm at *;generalize a/t=q at *;clear hmu zI Gf hq hsum hge hen hn htk hrt;go_wp2_with fail;refine q00 HD.out ?_;intro e w5 hs;obtain⟨v1,v2,rfl,g5,hn1,hn2⟩:=hs;have jV:Hid _:=HP.out w5 v1 g5 hn1;clear hn1 hn2 HD HP;go_wp2_with fail;refine q00 jV.out ?_;intro e w6 hs;obtain⟨v3,rfl,g6,iF⟩:=hs;have NK:Hid _:=HH.out w6 v3 iF;have NL:=G.trans g5 g6;clear iF jV HH g5 g6;go_wp2_with fail;refine q00 NK.out ?_;intro e w7 hs;obtain⟨v4,rfl,g7,uo⟩:=hs;have Gh:=G.trans NL g7;have eB:Hid (Num w7 v4 nx):=uo;have cB:Hid _:=bI.out w7 v4 Gh uo;clear uo NK NL g7 bI;go_wp2_with fail;refine q00 cB.out ?_;rintro e w8 ⟨rfl,g8⟩;have JL:=G.trans Gh g8;by_cases hlt:nx<t
   ·rw[show cmpV nx t= -1 from by unfold cmpV;rw[if_pos hlt]];have iY:Hid (Num w8 v4 nx):=eB.out.G g8;clear cB eB Gh g8;go_wp2_with fail
    go_roundw
    case rel=>exact⟨nx,iY.out,lK.out,RS.out,by have:=Gg.out;omega,G.trans hG JL⟩
    case measure=>
     have h1:=q1O iY.out;have h2:=yF.out;show numV w8 v4<numV wr u3;omega
   ·have hcv:cmpV nx t=0∨cmpV nx t=1:=by unfold cmpV;rw[if_neg hlt];split;exact Or.inl rfl;exact Or.inr rfl
    have hct:decide (0≤cmpV nx t)=true:=by rcases hcv with h|h<;>rw[h]<;>rfl
    have htr:t=r:=RU.out (by omega);have Sb:Hid (Num w8 u3 r):=by show Num w8 u3 r;rw[← htr];exact Sa.out.G JL
    generalize cmpV nx t=cv at *;clear cB eB Gh g8 hcv htr hlt;go_wp2_with fail;go_ret;exact⟨_,rfl,G.trans hG JL,Sb.out⟩
/-- A share's number: of a and b, the sign told by s. -/
def mx (s:Bool) (a b p q:Nat):Int:=if s then (a:Int)*p-(b:Int)*q else (b:Int)*q-(a:Int)*p
/-- Along the row of rests: x, y are rests of the first words x0, y0; sure and next are their shares. -/
structure LR (a b x0 y0 x y la lb sa sb na nb:Nat) (tn:Bool):Prop where
 f1:x*nb+y*sb=x0
 fx:(x:Int)=mx tn x0 y0 sa sb
 fy:(y:Int)=mx (!tn) x0 y0 na nb
 yx:y≤x
 nn:na≤nb
 sn:sa+na≤sb+nb
 n1:1≤nb
 sx:sb≤x
 sw:tn=false→sa≤sb
 det:(if tn then (sa:Int)*nb-(sb:Int)*na else (sb:Int)*na-(sa:Int)*nb)=1
 sure:sb=0∨mx tn a b sa sb≤b
 last:lb=0∨((if tn then (lb:Int)*sa-(la:Int)*sb else (la:Int)*sb-(lb:Int)*sa)=1∧0≤mx tn a b sa sb∧mx tn a b sa sb<mx (!tn) a b la lb∧mx (!tn) a b la lb≤b)
/-- A number of first words and what is behind them. -/
theorem q5Z {s:Bool} {a b x0 y0 p q P al be:Nat} (ha:a=x0*P+al) (hb:b=y0*P+be):mx s a b p q=mx s x0 y0 p q*P+(if s then (al:Int)*p-(be:Int)*q else (be:Int)*q-(al:Int)*p):=by
 have h1:(a:Int)*p=(x0:Int)*p*P+(al:Int)*p:=by
  rw[ha];push_cast;rw[Int.add_mul];congr 1;ac_rfl
 have h2:(b:Int)*q=(y0:Int)*q*P+(be:Int)*q:=by
  rw[hb];push_cast;rw[Int.add_mul];congr 1;ac_rfl
 unfold mx;cases s
 ·simp only[Bool.false_eq_true,if_false];rw[h1,h2,Int.sub_mul];omega
 ·simp only[if_true];rw[h1,h2,Int.sub_mul];omega
/-- It isn't below 0, if its first words are enough. -/
theorem qb0 {s:Bool} {a b x0 y0 p q P al be z:Nat} (ha:a=x0*P+al) (hb:b=y0*P+be) (h1:al<P) (h2:be<P) (hz:(z:Int)=mx s x0 y0 p q) (hq:q≤z) (hp:s=false→p≤q):0≤mx s a b p q:=by
 rw[q5Z ha hb,← hz];have RH:(q:Int)*P≤(z:Int)*P:=Int.mul_le_mul_of_nonneg_right (by omega) (by omega);cases s
 ·have hpq:=hp rfl;have k1:(al:Int)*p≤(P:Int)*q:=by
   have:al*p≤P*q:=Nat.mul_le_mul (by omega) hpq;have h:=Int.ofNat_le.2 this
   rwa[Int.natCast_mul,Int.natCast_mul] at h
  have k2:(0:Int)≤(be:Int)*q:=Int.mul_nonneg (by omega) (by omega);have k3:(P:Int)*q=(q:Int)*P:=Int.mul_comm _ _;simp only[Bool.false_eq_true,if_false];omega
 ·have k1:(be:Int)*q≤(P:Int)*q:=Int.mul_le_mul_of_nonneg_right (by omega) (by omega);have k2:(0:Int)≤(al:Int)*p:=Int.mul_nonneg (by omega) (by omega);have k3:(P:Int)*q=(q:Int)*P:=Int.mul_comm _ _;simp only[if_true];omega
theorem qcv {s:Bool} {a b x0 y0 p q P al be:Nat} {z:Int} (ha:a=x0*P+al) (hb:b=y0*P+be) (h1:al<P) (h2:be<P) (hz:z=mx s x0 y0 p q) (hq:(q:Int)≤z) (hp:p≤q) (hq1:1≤q):0<mx s a b p q:=by
 rw[q5Z ha hb,← hz];have RH:(q:Int)*P≤z*P:=Int.mul_le_mul_of_nonneg_right hq (by omega);have k3:(P:Int)*q=(q:Int)*P:=Int.mul_comm _ _;have lt:∀ c p:Nat,c<P→p≤q→(c:Int)*p<(P:Int)*q:=by
  intro c p hc hp;have h3:(c+1)*q≤P*q:=Nat.mul_le_mul_right _ hc;have h4:c*p≤c*q:=Nat.mul_le_mul_left _ hp;have h5:c*p<P*q:=by rw[Nat.add_mul,Nat.one_mul] at h3;omega
  have h:=Int.ofNat_lt.2 h5
  rwa[Int.natCast_mul,Int.natCast_mul] at h
 cases s
 ·have k1:=lt al p h1 hp;have k2:(0:Int)≤(be:Int)*q:=Int.mul_nonneg (by omega) (by omega);simp only[Bool.false_eq_true,if_false];omega
 ·have k1:=lt be q h2 (Nat.le_refl _);have k2:(0:Int)≤(al:Int)*p:=Int.mul_nonneg (by omega) (by omega);simp only[if_true];omega
theorem q8c (s:Bool) (a b p q p' q':Nat):mx s a b (p+p') (q+q')=mx s a b p q-mx (!s) a b p' q':=by
 unfold mx;cases s<;>simp only[Bool.not_false,Bool.not_true,Bool.false_eq_true,if_false,if_true]<;>push_cast<;>rw[Int.mul_add,Int.mul_add]<;>omega
theorem qbJ (s:Bool) (a b p q k:Nat):mx s a b (k*p) (k*q)=k*mx s a b p q:=by
 unfold mx;have e1:(a:Int)*((k*p:Nat):Int)=k*((a:Int)*p):=by push_cast;ac_rfl
 have e2:(b:Int)*((k*q:Nat):Int)=k*((b:Int)*q):=by push_cast;ac_rfl
 rw[e1,e2];cases s
 ·simp only[Bool.false_eq_true,if_false];rw[Int.mul_sub]
 ·simp only[if_true];rw[Int.mul_sub]
theorem LR.start {a b x0 y0:Nat} (h:y0≤x0):LR a b x0 y0 x0 y0 0 0 1 0 0 1 true:=
 {f1:=by omega
  fx:=by simp [mx]
  fy:=by simp [mx]
  yx:=h
  nn:=by omega
  sn:=by omega
  n1:=by omega
  sx:=by omega
  sw:=fun h=>by cases h
  det:=by simp
  sure:=Or.inl rfl
  last:=Or.inl rfl}
theorem LR.step {a b x0 y0 x y la lb sa sb na nb P al be:Nat} {tn:Bool} (h:LR a b x0 y0 x y la lb sa sb na nb tn) (ha:a=x0*P+al) (hb:b=y0*P+be) (h1:al<P) (h2:be<P) (hy:nb≤y) (hc:sb+nb≤x-y):
  LR a b x0 y0 y (x%y) sa sb na nb (sa+x/y*na) (sb+x/y*nb) (!tn):=by
 obtain⟨f1,fx,fy,yx,nn,sn,n1,sx,sw,det,sure,last⟩:=h;have hy0:0<y:=by omega
 have hq1:1≤x/y:=(Nat.le_div_iff_mul_le hy0).2 (by omega);have hm:=Nat.div_add_mod x y;have hmod:=Nat.mod_lt x hy0;have RJ:0≤mx (!tn) a b na nb:=qb0 ha hb h1 h2 fy hy (fun _=>nn);have RO:mx (!tn) a b na nb<mx tn a b sa sb:=by
  have hz:(x:Int)-y=mx tn x0 y0 (sa+na) (sb+nb):=by rw[q8c,← fx,← fy]
  have:=qcv ha hb h1 h2 hz (by omega) sn (by omega);rw[q8c] at this;omega
 have hnot:(!(!tn))=tn:=by cases tn<;>rfl
 obtain⟨q,hq⟩:∃ q,q=x/y:=⟨_,rfl⟩;rw[← hq] at hm hq1 ⊢;have MK:na+(q-1)*na=q*na:=by
  obtain⟨q',rfl⟩:∃ q',q=q'+1:=⟨q-1,by omega⟩;rw[Nat.add_sub_cancel,Nat.add_mul,Nat.one_mul,Nat.add_comm]
 have uj:nb+(q-1)*nb=q*nb:=by
  obtain⟨q',rfl⟩:∃ q',q=q'+1:=⟨q-1,by omega⟩;rw[Nat.add_sub_cancel,Nat.add_mul,Nat.one_mul,Nat.add_comm]
 have Cx:(q-1)*na≤(q-1)*nb:=Nat.mul_le_mul_left _ nn;refine⟨?_,fy,?_,Nat.le_of_lt hmod,by omega,by omega,by omega,hy,fun _=>nn,?_,?_,?_⟩
 ·have e1:y*(sb+q*nb)=y*sb+y*q*nb:=by rw[Nat.mul_add,Nat.mul_assoc]
  have e2:x*nb=y*q*nb+x%y*nb:=by rw[← Nat.add_mul,hm]
  omega
 ·rw[hnot,q8c,qbJ,← fx];have e3:mx (!tn) x0 y0 na nb=y:=fy.symm;rw[e3];have:((y*q+x%y:Nat):Int)=(x:Int):=by rw[hm]
  push_cast at this
  rw[Int.mul_comm (q:Int) y];omega
 ·cases tn
  ·simp only[Bool.not_false,if_true,Bool.false_eq_true,if_false] at det ⊢
   push_cast
   rw[Int.mul_add,Int.mul_add,show (na:Int)*((q:Int)*nb)=(nb:Int)*((q:Int)*na) from by ac_rfl];rw[Int.mul_comm (sa:Int) nb,Int.mul_comm (sb:Int) na] at det;omega
  ·simp only[Bool.not_true,if_true,Bool.false_eq_true,if_false] at det ⊢
   push_cast
   rw[Int.mul_add,Int.mul_add,show (na:Int)*((q:Int)*nb)=(nb:Int)*((q:Int)*na) from by ac_rfl];rw[Int.mul_comm (sa:Int) nb,Int.mul_comm (sb:Int) na] at det;omega
 ·right;rcases sure with h0|h0
  ·subst h0;have hs1:(sa:Int)*nb=1∨ -((sa:Int)*nb)=1:=by
    cases tn
    ·right;simp only[Bool.false_eq_true,if_false] at det;omega
    ·left;simp only[if_true] at det;omega
   have hp0:(0:Int)≤(sa:Int)*nb:=Int.mul_nonneg (by omega) (by omega);have hs2:(sa:Int)*nb=1:=by omega
   have hs3:sa*nb=1:=by
    have:=hs2;rw[← Int.natCast_mul] at this;omega
   have hnb:nb=1:=Nat.eq_one_of_mul_eq_one_left hs3;cases tn
   ·simp only[Bool.false_eq_true,if_false] at det;omega
   ·unfold mx;simp only[Bool.not_true,Bool.false_eq_true,if_false];have:(0:Int)≤(a:Int)*na:=Int.mul_nonneg (by omega) (by omega);rw[hnb];simp only[Int.natCast_one,Int.mul_one];omega
  ·omega
 ·rcases sure with h0|h0
  ·exact Or.inl h0
  ·right;rw[hnot];refine⟨?_,RJ,RO,h0⟩;cases tn
   ·simp only[Bool.not_false,if_true,Bool.false_eq_true,if_false] at det ⊢;omega
   ·simp only[Bool.not_true,if_true,Bool.false_eq_true,if_false] at det ⊢;omega
/-- What two shares of a and b have in common. -/
theorem qa5 {a b la lb sa sb:Nat} {tn:Bool} {X Y:Nat} (hd:(if tn then (lb:Int)*sa-(la:Int)*sb else (la:Int)*sb-(lb:Int)*sa)=1) (hX:(X:Int)=mx (!tn) a b la lb) (hY:(Y:Int)=mx tn a b sa sb):Nat.gcd X Y=Nat.gcd a b:=by
 have hg1:((Nat.gcd a b:Nat):Int)∣(a:Int):=Int.natCast_dvd_natCast.2 (Nat.gcd_dvd_left _ _);have hg2:((Nat.gcd a b:Nat):Int)∣(b:Int):=Int.natCast_dvd_natCast.2 (Nat.gcd_dvd_right _ _);have hk1:((Nat.gcd X Y:Nat):Int)∣(X:Int):=Int.natCast_dvd_natCast.2 (Nat.gcd_dvd_left _ _);have hk2:((Nat.gcd X Y:Nat):Int)∣(Y:Int):=Int.natCast_dvd_natCast.2 (Nat.gcd_dvd_right _ _);have main:∀ s:Bool,s=tn→∃ A B:Int,A=a∧B=b∧((X:Int)=B*lb-A*la∧(Y:Int)=A*sa-B*sb∧(lb:Int)*sa-(la:Int)*sb=1∨(X:Int)=A*la-B*lb∧(Y:Int)=B*sb-A*sa∧(la:Int)*sb-(lb:Int)*sa=1):=by
  intro s hs;refine⟨a,b,rfl,rfl,?_⟩;cases tn
  ·right;simp only[mx,Bool.not_false,if_true,Bool.false_eq_true,if_false] at hX hY hd;exact⟨hX,hY,hd⟩
  ·left;simp only[mx,Bool.not_true,if_true,Bool.false_eq_true,if_false] at hX hY hd;exact⟨hX,hY,hd⟩
 obtain⟨A,B,rfl,rfl,hcase⟩:=main tn rfl;apply Nat.dvd_antisymm
 ·refine Nat.dvd_gcd (Int.natCast_dvd_natCast.1 ?_) (Int.natCast_dvd_natCast.1 ?_)
  ·rcases hcase with ⟨e1,e2,e3⟩|⟨e1,e2,e3⟩
   ·have:(a:Int)=X*sb+Y*lb:=by
     rw[e1,e2,Int.sub_mul,Int.sub_mul];have:(a:Int)*((lb:Int)*sa-(la:Int)*sb)=a:=by rw[e3,Int.mul_one]
     rw[Int.mul_sub] at this;rw[show (a:Int)*la*sb=a*((la:Int)*sb) from by ac_rfl,show (a:Int)*sa*lb=a*((lb:Int)*sa) from by ac_rfl,show (b:Int)*sb*lb=(b:Int)*lb*sb from by ac_rfl];omega
    rw[this];exact Int.dvd_add (Int.dvd_trans hk1 (Int.dvd_mul_right _ _)) (Int.dvd_trans hk2 (Int.dvd_mul_right _ _))
   ·have:(a:Int)=X*sb+Y*lb:=by
     rw[e1,e2,Int.sub_mul,Int.sub_mul];have:(a:Int)*((la:Int)*sb-(lb:Int)*sa)=a:=by rw[e3,Int.mul_one]
     rw[Int.mul_sub] at this;rw[show (a:Int)*la*sb=a*((la:Int)*sb) from by ac_rfl,show (a:Int)*sa*lb=a*((lb:Int)*sa) from by ac_rfl,show (b:Int)*sb*lb=(b:Int)*lb*sb from by ac_rfl];omega
    rw[this];exact Int.dvd_add (Int.dvd_trans hk1 (Int.dvd_mul_right _ _)) (Int.dvd_trans hk2 (Int.dvd_mul_right _ _))
  ·rcases hcase with ⟨e1,e2,e3⟩|⟨e1,e2,e3⟩
   ·have:(b:Int)=X*sa+Y*la:=by
     rw[e1,e2,Int.sub_mul,Int.sub_mul];have:(b:Int)*((lb:Int)*sa-(la:Int)*sb)=b:=by rw[e3,Int.mul_one]
     rw[Int.mul_sub] at this;rw[show (b:Int)*lb*sa=b*((lb:Int)*sa) from by ac_rfl,show (b:Int)*sb*la=b*((la:Int)*sb) from by ac_rfl,show (a:Int)*sa*la=(a:Int)*la*sa from by ac_rfl];omega
    rw[this];exact Int.dvd_add (Int.dvd_trans hk1 (Int.dvd_mul_right _ _)) (Int.dvd_trans hk2 (Int.dvd_mul_right _ _))
   ·have:(b:Int)=X*sa+Y*la:=by
     rw[e1,e2,Int.sub_mul,Int.sub_mul];have:(b:Int)*((la:Int)*sb-(lb:Int)*sa)=b:=by rw[e3,Int.mul_one]
     rw[Int.mul_sub] at this;rw[show (b:Int)*lb*sa=b*((lb:Int)*sa) from by ac_rfl,show (b:Int)*sb*la=b*((la:Int)*sb) from by ac_rfl,show (a:Int)*sa*la=(a:Int)*la*sa from by ac_rfl];omega
    rw[this];exact Int.dvd_add (Int.dvd_trans hk1 (Int.dvd_mul_right _ _)) (Int.dvd_trans hk2 (Int.dvd_mul_right _ _))
 ·refine Nat.dvd_gcd (Int.natCast_dvd_natCast.1 ?_) (Int.natCast_dvd_natCast.1 ?_)
  ·rcases hcase with ⟨e1,-,-⟩|⟨e1,-,-⟩<;>rw[e1]<;>exact Int.dvd_sub (Int.dvd_mul_of_dvd_left (by assumption)) (Int.dvd_mul_of_dvd_left (by assumption))
  ·rcases hcase with ⟨-,e2,-⟩|⟨-,e2,-⟩<;>rw[e2]<;>exact Int.dvd_sub (Int.dvd_mul_of_dvd_left (by assumption)) (Int.dvd_mul_of_dvd_left (by assumption))
/-- What two shares are to the numbers that their row begins with. -/
def LEnd (a b la lb sa sb:Nat) (tn:Bool):Prop:=lb=0∨((if tn then (lb:Int)*sa-(la:Int)*sb else (la:Int)*sb-(lb:Int)*sa)=1∧0≤mx tn a b sa sb∧mx tn a b sa sb<mx (!tn) a b la lb∧mx (!tn) a b la lb≤b)
def q7y (a b:Nat) (w:World) (e:Ending) (w':World):Prop:=∃ (la lb sa sb:Nat) (tn:Bool),e= .returned (.tuple #[.agg #[.int .u64 (la:Int),.int .u64 (lb:Int)],.agg #[.int .u64 (sa:Int),.int .u64 (sb:Int)],.bool tn])∧G w w'∧la<2^64∧lb<2^64∧sa<2^64∧sb<2^64∧LEnd a b la lb sa sb tn
/-- The walk's state: all that is in it is below a word. -/
structure LW (a b x0 y0 x y la lb sa sb na nb:Nat) (tn:Bool):Prop where
 lr:LR a b x0 y0 x y la lb sa sb na nb tn
 bx:x≤x0
 ba:la<18446744073709551616
 bb:lb<18446744073709551616
 bc:sa<18446744073709551616
 bd:sb<18446744073709551616
 be:na<18446744073709551616
 bf:nb<18446744073709551616
theorem LW.start {a b x0 y0:Nat} (h:y0≤x0):LW a b x0 y0 x0 y0 0 0 1 0 0 1 true:=
 ⟨LR.start h,Nat.le_refl _,by omega,by omega,by omega,by omega,by omega,by omega⟩
/-- What is below a word in a step. -/
theorem LW.small {a b x0 y0 x y la lb sa sb na nb:Nat} {tn:Bool} (h:LW a b x0 y0 x y la lb sa sb na nb tn) (hy:nb≤y):0<y∧y≤x∧sb+nb≤x0:=by
 have hn1:=h.lr.n1;have hyx:=h.lr.yx;have f1:=h.lr.f1;refine⟨by omega,hyx,?_⟩;have h1:1*nb≤x*nb:=Nat.mul_le_mul_right _ (by omega);have h2:1*sb≤y*sb:=Nat.mul_le_mul_right _ (by omega);omega
theorem LW.next {a b x0 y0 x y la lb sa sb na nb P al be q:Nat} {tn:Bool} (h:LW a b x0 y0 x y la lb sa sb na nb tn) (hx0:x0<18446744073709551616) (ha:a=x0*P+al) (hb:b=y0*P+be) (h1:al<P) (h2:be<P) (hy:nb≤y) (hc:sb+nb≤x-y) (hq:q=x/y):
  LW a b x0 y0 y (x%y) sa sb na nb (sa+q*na) (sb+q*nb) (!tn)∧sa+q*na<18446744073709551616∧sb+q*nb<18446744073709551616:=by
 have hst:=h.lr.step ha hb h1 h2 hy hc;rw[← hq] at hst;have hn1:=h.lr.n1;have hyx:=h.lr.yx;have hbx:=h.bx;have f1:=hst.f1;have h3:1*(sb+q*nb)≤y*(sb+q*nb):=Nat.mul_le_mul_right _ (by omega);have h4:=hst.nn;have h5:sb+q*nb≤x0:=by
  generalize y*(sb+q*nb)=u at *;generalize x%y*nb=v at *;omega
 have h6:sa+q*na<18446744073709551616:=by omega
 have h7:sb+q*nb<18446744073709551616:=by omega
 exact⟨⟨hst,by omega,h.bc,h.bd,h.be,h.bf,h6,h7⟩,h6,h7⟩
theorem q3U (w:World) (va:Value) (a n K:Nat) (hn:n≤100000000) (hK:K≤1040000) (ha:Num w va a) (ha2:a<2^(64*K)) (hw:a/2^n<2^64):
  Calls Tryz.prog 188 #[va,.int .i64 (n:Int)] w fun e w'=>e= .returned (.int .u64 ((a/2^n:Nat):Int))∧G w w':=by
 obtain⟨l,hl,hcl,rfl⟩:=ha;have hll:=q06 hcl ha2;have h:=q6A w va l n hn hl (by omega);rw[Nat.mod_eq_of_lt hw] at h;exact h
theorem q2I (w:World) (x y t:Nat) (hx:x<2^64) (hy:y<2^64):Own (w.alloc (.cells #[.int .u64 (x:Int),.int .u64 (y:Int)] t)) w.heap.size [x,y]:=by
 refine⟨?_,by simp,fun i hi=> ?_,fun i hi=> ?_⟩
 ·intro d hd;simp only[List.mem_cons,List.not_mem_nil,or_false] at hd;rcases hd with rfl|rfl
  ·exact hx
  ·exact hy
 ·have h2:i<2:=hi;have h3:i=0∨i=1:=by omega
  rcases h3 with rfl|rfl<;>simp [go_sem]
 ·have h2:i<2:=hi;have h3:i=0∨i=1:=by omega
  rcases h3 with rfl|rfl<;>simp [go_sem]
theorem q2l {w:World} {b x y x' y':Nat} (h:Own w b [x,y]) (hx:x'<2^64) (hy:y'<2^64):Own ((w.setCell ⟨b,0,none⟩ (.int .u64 (x':Int))).setCell ⟨b,1,none⟩ (.int .u64 (y':Int))) b [x',y']:=
 (h.set 0 x' (by simp) hx).set 1 y' (by simp) hy
theorem q0A {w:World} {b c:Nat} {u v:Value} {l:List Nat} (h:Own w b l) (hne:b≠c):Own ((w.setCell ⟨c,0,none⟩ u).setCell ⟨c,1,none⟩ v) b l:=
 (h.setOther hne).setOther hne
theorem q0k {w:World} {b x y:Nat} (h:Own w b [x,y]):w.cell? ⟨b,0,none⟩=some (.int .u64 (x:Int))∧w.cell? ⟨b,1,none⟩=some (.int .u64 (y:Int))∧w.frozen? ⟨b,0,none⟩=false∧w.frozen? ⟨b,1,none⟩=false:=
 ⟨h.cell (i:=0) (by simp),h.cell (i:=1) (by simp),h.2.2.2 0 (by simp),h.2.2.2 1 (by simp)⟩
theorem q5n {w0 w:World} {b:Nat} {u v:Value} (g:G w0 w) (h:w0.heap.size≤b):G w0 ((w.setCell ⟨b,0,none⟩ u).setCell ⟨b,1,none⟩ v):=
 (g.setCell (p:=⟨b,0,none⟩) h _).setCell (p:=⟨b,1,none⟩) h _
set_option maxHeartbeats 4000000 in
theorem q9h (w:World) (va vb:Value) (a b K:Nat) (hK:K≤400000) (ha:Num w va a) (hb:Num w vb b) (ha2:a<2^(64*K)) (gX:b≤a) (h64:2^64≤a):
  Calls Tryz.prog 226 #[va,vb] w (q7y a b w):=by
 have HS:Hid (∀ w1,G w w1→_):=fun w1 g=>q2C w1 va a K (by omega) (ha.G g) ha2;have hne:a≠0:=by omega
 have hbl:blen a=Nat.log2 a+1:=by unfold blen;rw[if_neg hne]
 have h1:a<2^(Nat.log2 a+1):=(Nat.log2_lt hne).1 (by omega);have h2:64≤Nat.log2 a:=(Nat.le_log2 hne).2 h64;have h3:Nat.log2 a<64*K:=(Nat.log2_lt hne).2 ha2;obtain⟨n,hn⟩:∃ n:Nat,Nat.log2 a+1=n+64:=⟨Nat.log2 a-63,by omega⟩;have hnb:n≤25600000:=by omega
 rw[hn] at hbl h1;have hP:0<2^n:=Nat.two_pow_pos n;have hx:a/2^n<2^64:=by
  rw[Nat.div_lt_iff_lt_mul hP,← Nat.pow_add,Nat.add_comm];exact h1
 have hyx:b/2^n≤a/2^n:=Nat.div_le_div_right gX;have hb2:b<2^(64*K):=by omega
 have HX:Hid (∀ w1,G w w1→_):=fun w1 g=>q3U w1 va a n K (by omega) (by omega) (ha.G g) ha2 hx;have HY:Hid (∀ w1,G w w1→_):=fun w1 g=>q3U w1 vb b n K (by omega) (by omega) (hb.G g) hb2 (by omega);have Gd:a=a/2^n*2^n+a%2^n:=by rw[Nat.mul_comm];exact(Nat.div_add_mod a (2^n)).symm
 have JD:b=b/2^n*2^n+b%2^n:=by rw[Nat.mul_comm];exact(Nat.div_add_mod b (2^n)).symm
 have NB:=Nat.mod_lt a hP;have hmb:=Nat.mod_lt b hP;rw[show (2:Nat)^64=18446744073709551616 from rfl] at hx;have HN:Hid (∀ (x y la lb sa sb na nb q:Nat) (tn:Bool),LW a b (a/2^n) (b/2^n) x y la lb sa sb na nb tn→nb≤y→sb+nb≤x-y→q=x/y→LW a b (a/2^n) (b/2^n) y (x%y) sa sb na nb (sa+q*na) (sb+q*nb) (!tn)∧sa+q*na<18446744073709551616∧sb+q*nb<18446744073709551616):=
  fun x y la lb sa sb na nb q tn h hy hc hq=>h.next hx Gd JD NB hmb hy hc hq
 have HST:Hid (LW a b (a/2^n) (b/2^n) (a/2^n) (b/2^n) 0 0 1 0 0 1 true):=LW.start hyx;rw[hbl] at HS;have hn1:((n+64:Nat):Int)-64=(n:Int):=by omega
 have hni:(n:Int)≤25600000:=by omega
 have hbi:((n+64:Nat):Int)≤25600064:=by omega
 generalize n+64=bb at *;generalize a/2^n=x0 at *;generalize b/2^n=y0 at *;clear Gd JD NB hmb hb2 hP hnb h1 h2 h3 hn hbl hne ha hb ha2 h64 hyx;go_enter Tryz.func226,Tryz.ntmps226;go_wp2_with fail;have g0:G w ((w.alloc (.cells #[.int .u64 0,.int .u64 0] 223)).alloc (.cells #[.int .u64 0,.int .u64 0] 223)):=((G.refl _).alloc _).alloc _;have hb0:((w.alloc (.cells #[.int .u64 0,.int .u64 0] 223)).alloc (.cells #[.int .u64 0,.int .u64 0] 223)).heap.size=w.heap.size+2:=by simp
 have ho1:Own ((w.alloc (.cells #[.int .u64 0,.int .u64 0] 223)).alloc (.cells #[.int .u64 0,.int .u64 0] 223)) w.heap.size [0,0]:=(q2I w 0 0 223 (by omega) (by omega)).grow ((G.refl _).alloc _);have ho2:Own ((w.alloc (.cells #[.int .u64 0,.int .u64 0] 223)).alloc (.cells #[.int .u64 0,.int .u64 0] 223)) (w.heap.size+1) [0,0]:=by
  have h:=q2I (w.alloc (.cells #[.int .u64 0,.int .u64 0] 223)) 0 0 223 (by omega) (by omega);have h2:(w.alloc (.cells #[.int .u64 0,.int .u64 0] 223)).heap.size=w.heap.size+1:=by simp
  rw[h2] at h;exact h
 have iZ:Hid _:=HS.out _ g0;generalize (w.alloc (.cells #[.int .u64 0,.int .u64 0] 223)).alloc (.cells #[.int .u64 0,.int .u64 0] 223)=w0 at *;have uD:Hid (Own w0 w.heap.size [0,0]):=ho1;have iT:Hid (Own w0 (w.heap.size+1) [0,0]):=ho2;clear ho1 ho2;refine Calls.mono (P:=Tryz.prog) iZ.out ?_;rintro e w1 ⟨rfl,g1⟩;have yS:Hid _:=HX.out w1 (G.trans g0 g1);clear HS HX iZ;go_wp2_with fail;refine Calls.mono (P:=Tryz.prog) yS.out ?_;rintro e w2 ⟨rfl,g2⟩;have g12:=G.trans g1 g2;have NC:Hid _:=HY.out w2 (G.trans g0 g12);clear yS HY g1 g2;go_wp2_with fail;refine Calls.mono (P:=Tryz.prog) NC.out ?_;rintro e w3 ⟨rfl,g3⟩;have g13:=G.trans g12 g3;have Dx:Hid (Own w3 w.heap.size [0,0]):=uD.out.grow g13;have Dy:Hid (Own w3 (w.heap.size+1) [0,0]):=iT.out.grow g13;have G3:=G.trans g0 g13;have hz3:=g13.size;rw[hb0] at hz3;clear NC g12 g3 hn1 hni hbi uD iT g0 g13 hb0;go_wp2_with fail;have gA:=(G.refl w3).alloc (.cells #[.int .u64 0,.int .u64 0] 223);have gB:=gA.alloc (.cells #[.int .u64 1,.int .u64 0] 223);have gC:=gB.alloc (.cells #[.int .u64 0,.int .u64 1] 223);have hl:Own (((w3.alloc (.cells #[.int .u64 0,.int .u64 0] 223)).alloc (.cells #[.int .u64 1,.int .u64 0] 223)).alloc (.cells #[.int .u64 0,.int .u64 1] 223)) w3.heap.size [0,0]:=((q2I w3 0 0 223 (by omega) (by omega)).grow ((G.refl _).alloc (.cells #[.int .u64 1,.int .u64 0] 223))).grow ((G.refl _).alloc (.cells #[.int .u64 0,.int .u64 1] 223))
 have hs:Own (((w3.alloc (.cells #[.int .u64 0,.int .u64 0] 223)).alloc (.cells #[.int .u64 1,.int .u64 0] 223)).alloc (.cells #[.int .u64 0,.int .u64 1] 223)) (w3.alloc (.cells #[.int .u64 0,.int .u64 0] 223)).heap.size [1,0]:=(q2I (w3.alloc (.cells #[.int .u64 0,.int .u64 0] 223)) 1 0 223 (by omega) (by omega)).grow ((G.refl _).alloc (.cells #[.int .u64 0,.int .u64 1] 223));have hn:Own (((w3.alloc (.cells #[.int .u64 0,.int .u64 0] 223)).alloc (.cells #[.int .u64 1,.int .u64 0] 223)).alloc (.cells #[.int .u64 0,.int .u64 1] 223)) ((w3.alloc (.cells #[.int .u64 0,.int .u64 0] 223)).alloc (.cells #[.int .u64 1,.int .u64 0] 223)).heap.size [0,1]:=q2I ((w3.alloc (.cells #[.int .u64 0,.int .u64 0] 223)).alloc (.cells #[.int .u64 1,.int .u64 0] 223)) 0 1 223 (by omega) (by omega);have hz1:(w3.alloc (.cells #[.int .u64 0,.int .u64 0] 223)).heap.size=w3.heap.size+1:=by simp
 have hz2:((w3.alloc (.cells #[.int .u64 0,.int .u64 0] 223)).alloc (.cells #[.int .u64 1,.int .u64 0] 223)).heap.size=w3.heap.size+1+1:=by simp
 rw[hz1] at hs;rw[hz2] at hn;have HP:Hid (Own (((w3.alloc (.cells #[.int .u64 0,.int .u64 0] 223)).alloc (.cells #[.int .u64 1,.int .u64 0] 223)).alloc (.cells #[.int .u64 0,.int .u64 1] 223)) w.heap.size [0,0]):=Dx.out.grow gC;have HQ:Hid (Own (((w3.alloc (.cells #[.int .u64 0,.int .u64 0] 223)).alloc (.cells #[.int .u64 1,.int .u64 0] 223)).alloc (.cells #[.int .u64 0,.int .u64 1] 223)) (w.heap.size+1) [0,0]):=Dy.out.grow gC;have GC:=G.trans G3 gC;have HL:Hid (Own (((w3.alloc (.cells #[.int .u64 0,.int .u64 0] 223)).alloc (.cells #[.int .u64 1,.int .u64 0] 223)).alloc (.cells #[.int .u64 0,.int .u64 1] 223)) w3.heap.size [0,0]):=hl;have zn:Hid (Own (((w3.alloc (.cells #[.int .u64 0,.int .u64 0] 223)).alloc (.cells #[.int .u64 1,.int .u64 0] 223)).alloc (.cells #[.int .u64 0,.int .u64 1] 223)) (w3.heap.size+1) [1,0]):=hs;have kP:Hid (Own (((w3.alloc (.cells #[.int .u64 0,.int .u64 0] 223)).alloc (.cells #[.int .u64 1,.int .u64 0] 223)).alloc (.cells #[.int .u64 0,.int .u64 1] 223)) (w3.heap.size+1+1) [0,1]):=hn;clear hl hs hn hz1 hz2 gA gB gC Dx Dy G3;generalize ((w3.alloc (.cells #[.int .u64 0,.int .u64 0] 223)).alloc (.cells #[.int .u64 1,.int .u64 0] 223)).alloc (.cells #[.int .u64 0,.int .u64 1] 223)=w4 at *;generalize w3.heap.size=s3 at *
 go_loopw [8,9,13] (fun vx vy vt wr=>∃ (x y la lb sa sb na nb:Nat) (tn:Bool),vx= .int .u64 x∧vy= .int .u64 y∧vt= .bool tn∧LW a b x0 y0 x y la lb sa sb na nb tn∧Own wr s3 [la,lb]∧Own wr (s3+1) [sa,sb]∧Own wr (s3+1+1) [na,nb]∧Own wr w.heap.size [0,0]∧Own wr (w.heap.size+1) [0,0]∧G w wr) (fun _ vy _ _=>(intOf vy).toNat)
 case atStart=>exact⟨x0,y0,0,0,1,0,0,1,true,rfl,rfl,rfl,HST.out,HL.out,zn.out,kP.out,HP.out,HQ.out,GC⟩
 case round=>
  clear HP HQ HL zn kP HST GC;obtain⟨x,y,la,lb,sa,sb,na,nb,tn,rfl,rfl,rfl,zH,hol,hos,hon,hp,hq,hG⟩:=hrel;have mq:Hid (LW a b x0 y0 x y la lb sa sb na nb tn):=zH;have JE:Hid (Own wr s3 [la,lb]):=hol;have Dz:Hid (Own wr (s3+1) [sa,sb]):=hos;have ND:Hid (Own wr (s3+1+1) [na,nb]):=hon;have HP:Hid (Own wr w.heap.size [0,0]):=hp;have HQ:Hid (Own wr (w.heap.size+1) [0,0]):=hq;have NF:wr.cell? ⟨s3+1+1,0,none⟩=some (.int .u64 (na:Int)):=hon.cell (i:=0) (by simp);have NG:wr.cell? ⟨s3+1+1,1,none⟩=some (.int .u64 (nb:Int)):=hon.cell (i:=1) (by simp);have cs0:wr.cell? ⟨s3+1,0,none⟩=some (.int .u64 (sa:Int)):=hos.cell (i:=0) (by simp);have cs1:wr.cell? ⟨s3+1,1,none⟩=some (.int .u64 (sb:Int)):=hos.cell (i:=1) (by simp);clear hol hos hon hp hq;by_cases h1:nb≤y
  ·obtain⟨hy0,hyx,hsn⟩:=zH.small h1;have hxb:=zH.bx;obtain⟨d,hd⟩:∃ d:Nat,d=x-y:=⟨_,rfl⟩;obtain⟨t,ht⟩:∃ t:Nat,t=sb+nb:=⟨_,rfl⟩;have hd1:(x:Int)-y=(d:Int):=by omega
   have ht1:(sb:Int)+nb=(t:Int):=by omega
   have JD:(d:Int)<18446744073709551616:=by omega
   have htb:(t:Int)<18446744073709551616:=by omega
   have JF:decide (nb≤y)=true:=decide_eq_true h1;by_cases h2:t≤d
   ·have JG:decide (t≤d)=true:=decide_eq_true h2;obtain⟨q,hq⟩:∃ q:Nat,q=x/y:=⟨_,rfl⟩;obtain⟨r,hr⟩:∃ r:Nat,r=x%y:=⟨_,rfl⟩;have oW:Hid _:=HN.out x y la lb sa sb na nb q tn zH h1 (by omega) hq;have hq1:(x:Int)/y=(q:Int):=by rw[hq];rfl
    have hr1:(x:Int)%y=(r:Int):=by rw[hr];rfl
    have Rp:((y:Int)==0)=false:=by simp;omega
    have hyb:(y:Int)<18446744073709551616:=by omega
    have fP:(x:Int)<18446744073709551616:=by omega
    have Rq:q≤x:=by rw[hq];exact Nat.div_le_self _ _
    have NH:r<y:=by rw[hr];exact Nat.mod_lt _ hy0
    have uj:(q:Int)<18446744073709551616:=by omega
    have hrb:(r:Int)<18446744073709551616:=by omega
    rw[← hr] at oW;have Ga:sa+q*na<18446744073709551616:=oW.out.2.1;have JH:sb+q*nb<18446744073709551616:=oW.out.2.2;have DC:Hid (LW a b x0 y0 y r sa sb na nb (sa+q*na) (sb+q*nb) (!tn)):=oW.out.1;obtain⟨u,hu⟩:∃ u:Nat,u=q*na:=⟨_,rfl⟩;obtain⟨v,hv⟩:∃ v:Nat,v=q*nb:=⟨_,rfl⟩;have Ua:(q:Int)*na=(u:Int):=by rw[hu];push_cast;rfl
    have Ub:(q:Int)*nb=(v:Int):=by rw[hv];push_cast;rfl
    rw[← hu] at Ga DC;rw[← hv] at JH DC;obtain⟨sx,hsx⟩:∃ sx:Nat,sx=sa+u:=⟨_,rfl⟩;obtain⟨sy,hsy⟩:∃ sy:Nat,sy=sb+v:=⟨_,rfl⟩;have hsu:(sa:Int)+u=(sx:Int):=by omega
    have hsv:(sb:Int)+v=(sy:Int):=by omega
    rw[← hsx] at DC Ga;rw[← hsy] at DC JH;have hub:(u:Int)<18446744073709551616:=by omega
    have hvb:(v:Int)<18446744073709551616:=by omega
    have Rs:(sx:Int)<18446744073709551616:=by omega
    have Rt:(sy:Int)<18446744073709551616:=by omega
    clear hu hv hsx hsy Ga JH oW;have JI:Hid (IntKind.u64.wrap (u:Int)=u):=by show IntKind.u64.wrap (u:Int)=u;rw[IntKind.wrap_u64];omega
    have Ru:Hid (IntKind.u64.wrap (v:Int)=v):=by show IntKind.u64.wrap (v:Int)=v;rw[IntKind.wrap_u64];omega
    have Rv:Hid (IntKind.u64.wrap (sx:Int)=sx):=by show IntKind.u64.wrap (sx:Int)=sx;rw[IntKind.wrap_u64];omega
    have Rw:Hid (IntKind.u64.wrap (sy:Int)=sy):=by show IntKind.u64.wrap (sy:Int)=sy;rw[IntKind.wrap_u64];omega
    have Rx:Hid (r<y):=NH;have Ry:Hid (y≠0):=by show y≠0;omega
    have um:Hid ((x:Int).tmod y=(r:Int)):=by
     show (x:Int).tmod y=(r:Int);rw[hr];rfl
    clear hq hr hd ht h1 h2 zH hsn hyx hxb Rq NH;go_wp2_with fail;have Rz:=Ry.out;have hrt:=um.out;refine wp_region_any (by kernel_rfl) ?_;refine q0o (i:=0) (v:= ?_) rfl (by kernel_rfl) (by kernel_rfl) (by kernel_rfl) (fun _ _ _ h=>h) (Or.inl ⟨by rfl,?_⟩) ?_;rotate_left
    ·intro wq;first|(go_simp;done)|(go_simp;with_reducible rfl)
    try simp only[Act.put,List.setIfInBounds_toArray,List.set_cons_zero,List.set_cons_succ]
    refine q0o (i:=1) (v:= ?_) rfl (by kernel_rfl) (by kernel_rfl) (by kernel_rfl) (fun _ _ _ h=>h) (Or.inl ⟨by rfl,?_⟩) ?_;rotate_left
    ·intro wq;first|(go_simp;done)|(go_simp;with_reducible rfl)
    try simp only[Act.put,List.setIfInBounds_toArray,List.set_cons_zero,List.set_cons_succ]
    refine q0o (i:=2) (v:= ?_) rfl (by kernel_rfl) (by kernel_rfl) (by kernel_rfl) (fun _ _ _ h=>h) (Or.inl ⟨by rfl,?_⟩) ?_;rotate_left
    ·intro wq;first|(go_simp;done)|(go_simp;with_reducible rfl)
    try simp only[Act.put,List.setIfInBounds_toArray,List.set_cons_zero,List.set_cons_succ]
    refine q0o (i:=3) (v:= ?_) rfl (by kernel_rfl) (by kernel_rfl) (by kernel_rfl) (fun _ _ _ h=>h) (Or.inl ⟨by rfl,?_⟩) ?_;rotate_left
    ·intro wq;first|(go_simp;done)|(go_simp;with_reducible rfl)
    try simp only[Act.put,List.setIfInBounds_toArray,List.set_cons_zero,List.set_cons_succ]
    clear Rz hrt;refine wpAny_ready (rs:=[4]) (by kernel_rfl) (by simp) ?_;refine AllReady.cons rfl (fun K hK=> ?_) AllReady.nil;go_simp;refine hK _ _ ?_;clear K hK;refine wpAny_ready (rs:=[5]) (by kernel_rfl) (by simp) ?_;refine AllReady.cons rfl (fun K hK=> ?_) AllReady.nil;go_simp;refine hK _ _ ?_;clear K hK;refine wpAny_done (by kernel_rfl) ?_ _;go_wp2_with fail;refine q0L 19 (fun w'=>Own w' (s3+1+1) [na,nb]) (by kernel_rfl) ((ND.out.grow (G.refl _).drew).grow (G.refl _).drew) ?_;intro bn;refine q02 2 (v:= ?_) rfl (by kernel_rfl) (fun _ _ _ h=>h) rfl ?_ ‹_› ?_;rotate_left
    ·intro wq hwq
     skip
     first|(go_simp;done)|(go_simp;with_reducible rfl)
    try simp only[aput,List.set]
    refine q02 4 (v:= ?_) rfl (by kernel_rfl) (fun _ _ _ h=>h) rfl ?_ ‹_› ?_;rotate_left
    ·intro wq hwq
     skip
     first|(go_simp;done)|(go_simp;with_reducible rfl)
    try simp only[aput,List.set]
    refine q02 5 (v:= ?_) rfl (by kernel_rfl) (fun _ _ _ h=>h) rfl ?_ ‹_› ?_;rotate_left
    ·intro wq hwq
     skip
     first|(go_simp;done)|(go_simp;with_reducible rfl)
    try simp only[aput,List.set]
    refine q02 9 (v:= ?_) rfl (by kernel_rfl) (fun _ _ _ h=>h) rfl ?_ ‹_› ?_;rotate_left
    ·intro wq hwq
     skip
     first|(go_simp;done)|(go_simp;with_reducible rfl)
    try simp only[aput,List.set]
    refine q02 11 (v:= ?_) rfl (by kernel_rfl) (fun _ _ _ h=>h) rfl ?_ ‹_› ?_;rotate_left
    ·intro wq hwq
     skip
     first|(go_simp;done)|(go_simp;with_reducible rfl)
    try simp only[aput,List.set]
    refine q02 12 (v:= ?_) rfl (by kernel_rfl) (fun _ _ _ h=>h) rfl ?_ ‹_› ?_;rotate_left
    ·intro wq hwq
     skip
     first|(go_simp;done)|(go_simp;with_reducible rfl)
    try simp only[aput,List.set]
    refine q02 6 (v:= ?_) rfl (by kernel_rfl) (fun _ _ _ h=>h) rfl ?_ ‹_› ?_;rotate_left
    ·intro wq hwq
     (have hq0:wq.cell? ⟨s3+1+1,0,none⟩=some (.int .u64 (na:Int)):=Own.cell (i:=0) hwq (by simp));(have hq1:wq.cell? ⟨s3+1+1,1,none⟩=some (.int .u64 (nb:Int)):=Own.cell (i:=1) hwq (by simp))
     first|(go_simp;done)|(go_simp;with_reducible rfl)
    try simp only[aput,List.set]
    refine q02 13 (v:= ?_) rfl (by kernel_rfl) (fun _ _ _ h=>h) rfl ?_ ‹_› ?_;rotate_left
    ·intro wq hwq
     (have hq0:wq.cell? ⟨s3+1+1,0,none⟩=some (.int .u64 (na:Int)):=Own.cell (i:=0) hwq (by simp));(have hq1:wq.cell? ⟨s3+1+1,1,none⟩=some (.int .u64 (nb:Int)):=Own.cell (i:=1) hwq (by simp))
     first|(go_simp;done)|(go_simp;with_reducible rfl)
    try simp only[aput,List.set]
    refine q02 7 (v:= ?_) rfl (by kernel_rfl) (fun _ _ _ h=>h) rfl ?_ ‹_› ?_;rotate_left
    ·intro wq hwq
     skip
     first|(go_simp;done)|(go_simp;with_reducible rfl)
    try simp only[aput,List.set]
    refine q02 14 (v:= ?_) rfl (by kernel_rfl) (fun _ _ _ h=>h) rfl ?_ ‹_› ?_;rotate_left
    ·intro wq hwq
     skip
     first|(go_simp;done)|(go_simp;with_reducible rfl)
    try simp only[aput,List.set]
    refine q02 1 (v:= ?_) rfl (by kernel_rfl) (fun _ _ _ h=>h) rfl ?_ ‹_› ?_;rotate_left
    ·intro wq hwq
     (have hq0:wq.cell? ⟨s3+1+1,0,none⟩=some (.int .u64 (na:Int)):=Own.cell (i:=0) hwq (by simp));(have hq1:wq.cell? ⟨s3+1+1,1,none⟩=some (.int .u64 (nb:Int)):=Own.cell (i:=1) hwq (by simp))
     first|(go_simp;done)|(go_simp;with_reducible rfl)
    try simp only[aput,List.set]
    generalize hwd:wr.drew.drew=wd at *;have JJ:wd.cell? ⟨s3+1,0,none⟩=some (.int .u64 (sa:Int)):=by rw[← hwd];exact Own.cell (i:=0) ((Dz.out.grow (G.refl _).drew).grow (G.refl _).drew) (by simp)
    have hsd1:wd.cell? ⟨s3+1,1,none⟩=some (.int .u64 (sb:Int)):=by rw[← hwd];exact Own.cell (i:=1) ((Dz.out.grow (G.refl _).drew).grow (G.refl _).drew) (by simp)
    apply share
    ·intro L;refine q0I (i:=0) (j:=3) (l:=10) (by kernel_rfl) rfl rfl rfl ?_ ?_ ?_
     ·skip
      intro K hK;go_simp;refine hK.out _ _ (Or.inr bn) ?_;clear hK K;refine q0d (i:=3) (j:=10) (by kernel_rfl) rfl rfl ?_ ?_
      ·skip
       intro K hK;go_simp;refine hK.out _ _ (Or.inr bn) ?_;clear hK K;refine q02 8 (v:= ?_) rfl (by kernel_rfl) (fun _ _ _ h=>h) rfl ?_ ‹_› ?_;rotate_left
       ·intro wq hwq
        skip
        first|(go_simp;done)|(go_simp;with_reducible rfl)
       try simp only[aput,List.set]
       refine q04 (i:=10) (by kernel_rfl) rfl ?_;intro K hK;go_simp;refine hK.out _ _ (Or.inr bn) ?_;clear hK K;refine q02 15 (v:= ?_) rfl (by kernel_rfl) (fun _ _ _ h=>h) rfl ?_ ‹_› ?_;rotate_left
       ·intro wq hwq
        skip
        first|(go_simp;done)|(go_simp;with_reducible rfl)
       try simp only[aput,List.set]
       refine q02 16 (v:= ?_) rfl (by kernel_rfl) (fun _ _ _ h=>h) rfl ?_ ‹_› ?_;rotate_left
       ·intro wq hwq
        skip
        first|(go_simp;done)|(go_simp;with_reducible rfl)
       try simp only[aput,List.set]
       exact L.out
      ·skip
       intro K hK;go_simp;refine hK.out _ _ (Or.inr bn) ?_;clear hK K;refine q02 15 (v:= ?_) rfl (by kernel_rfl) (fun _ _ _ h=>h) rfl ?_ ‹_› ?_;rotate_left
       ·intro wq hwq
        skip
        first|(go_simp;done)|(go_simp;with_reducible rfl)
       try simp only[aput,List.set]
       refine q04 (i:=3) (by kernel_rfl) rfl ?_;intro K hK;go_simp;refine hK.out _ _ (Or.inr bn) ?_;clear hK K;refine q02 8 (v:= ?_) rfl (by kernel_rfl) (fun _ _ _ h=>h) rfl ?_ ‹_› ?_;rotate_left
       ·intro wq hwq
        skip
        first|(go_simp;done)|(go_simp;with_reducible rfl)
       try simp only[aput,List.set]
       refine q02 16 (v:= ?_) rfl (by kernel_rfl) (fun _ _ _ h=>h) rfl ?_ ‹_› ?_;rotate_left
       ·intro wq hwq
        skip
        first|(go_simp;done)|(go_simp;with_reducible rfl)
       try simp only[aput,List.set]
       exact q03 (by kernel_rfl) L.out
     ·skip
      intro K hK;go_simp;refine hK.out _ _ (Or.inr bn) ?_;clear hK K;refine q02 8 (v:= ?_) rfl (by kernel_rfl) (fun _ _ _ h=>h) rfl ?_ ‹_› ?_;rotate_left
      ·intro wq hwq
       skip
       first|(go_simp;done)|(go_simp;with_reducible rfl)
      try simp only[aput,List.set]
      refine q0d (i:=0) (j:=10) (by kernel_rfl) rfl rfl ?_ ?_
      ·skip
       intro K hK;go_simp;refine hK.out _ _ (Or.inr bn) ?_;clear hK K;refine q04 (i:=10) (by kernel_rfl) rfl ?_;intro K hK;go_simp;refine hK.out _ _ (Or.inr bn) ?_;clear hK K;refine q02 15 (v:= ?_) rfl (by kernel_rfl) (fun _ _ _ h=>h) rfl ?_ ‹_› ?_;rotate_left
       ·intro wq hwq
        skip
        first|(go_simp;done)|(go_simp;with_reducible rfl)
       try simp only[aput,List.set]
       refine q02 16 (v:= ?_) rfl (by kernel_rfl) (fun _ _ _ h=>h) rfl ?_ ‹_› ?_;rotate_left
       ·intro wq hwq
        skip
        first|(go_simp;done)|(go_simp;with_reducible rfl)
       try simp only[aput,List.set]
       exact q03 (by kernel_rfl) L.out
      ·skip
       intro K hK;go_simp;refine hK.out _ _ (Or.inr bn) ?_;clear hK K;refine q02 15 (v:= ?_) rfl (by kernel_rfl) (fun _ _ _ h=>h) rfl ?_ ‹_› ?_;rotate_left
       ·intro wq hwq
        skip
        first|(go_simp;done)|(go_simp;with_reducible rfl)
       try simp only[aput,List.set]
       refine q02 16 (v:= ?_) rfl (by kernel_rfl) (fun _ _ _ h=>h) rfl ?_ ‹_› ?_;rotate_left
       ·intro wq hwq
        skip
        first|(go_simp;done)|(go_simp;with_reducible rfl)
       try simp only[aput,List.set]
       refine q04 (i:=0) (by kernel_rfl) rfl ?_;intro K hK;go_simp;refine hK.out _ _ (Or.inr bn) ?_;clear hK K;exact q03 (by kernel_rfl) L.out
     ·skip
      intro K hK;go_simp;refine hK.out _ _ (Or.inr bn) ?_;clear hK K;refine q02 15 (v:= ?_) rfl (by kernel_rfl) (fun _ _ _ h=>h) rfl ?_ ‹_› ?_;rotate_left
      ·intro wq hwq
       skip
       first|(go_simp;done)|(go_simp;with_reducible rfl)
      try simp only[aput,List.set]
      refine q0d (i:=0) (j:=3) (by kernel_rfl) rfl rfl ?_ ?_
      ·skip
       intro K hK;go_simp;refine hK.out _ _ (Or.inr bn) ?_;clear hK K;refine q04 (i:=3) (by kernel_rfl) rfl ?_;intro K hK;go_simp;refine hK.out _ _ (Or.inr bn) ?_;clear hK K;refine q02 8 (v:= ?_) rfl (by kernel_rfl) (fun _ _ _ h=>h) rfl ?_ ‹_› ?_;rotate_left
       ·intro wq hwq
        skip
        first|(go_simp;done)|(go_simp;with_reducible rfl)
       try simp only[aput,List.set]
       refine q02 16 (v:= ?_) rfl (by kernel_rfl) (fun _ _ _ h=>h) rfl ?_ ‹_› ?_;rotate_left
       ·intro wq hwq
        skip
        first|(go_simp;done)|(go_simp;with_reducible rfl)
       try simp only[aput,List.set]
       exact q03 (by kernel_rfl) L.out
      ·skip
       intro K hK;go_simp;refine hK.out _ _ (Or.inr bn) ?_;clear hK K;refine q02 8 (v:= ?_) rfl (by kernel_rfl) (fun _ _ _ h=>h) rfl ?_ ‹_› ?_;rotate_left
       ·intro wq hwq
        skip
        first|(go_simp;done)|(go_simp;with_reducible rfl)
       try simp only[aput,List.set]
       refine q02 16 (v:= ?_) rfl (by kernel_rfl) (fun _ _ _ h=>h) rfl ?_ ‹_› ?_;rotate_left
       ·intro wq hwq
        skip
        first|(go_simp;done)|(go_simp;with_reducible rfl)
       try simp only[aput,List.set]
       refine q04 (i:=0) (by kernel_rfl) rfl ?_;intro K hK;go_simp;refine hK.out _ _ (Or.inr bn) ?_;clear hK K;exact q03 (by kernel_rfl) L.out
    ·refine Later.mk ?_;have hb1:sa<2^64:=mq.out.bc;have hb2:sb<2^64:=mq.out.bd;have hb3:na<2^64:=mq.out.be;have hb4:nb<2^64:=mq.out.bf;have hb5:sx<2^64:=by omega
     have hb6:sy<2^64:=by omega
     have A1:Own wd s3 [la,lb]:=by rw[← hwd];exact(JE.out.grow (G.refl _).drew).grow (G.refl _).drew
     have A2:Own wd (s3+1) [sa,sb]:=by rw[← hwd];exact(Dz.out.grow (G.refl _).drew).grow (G.refl _).drew
     have A3:Own wd (s3+1+1) [na,nb]:=by rw[← hwd];exact(ND.out.grow (G.refl _).drew).grow (G.refl _).drew
     have A4:Own wd w.heap.size [0,0]:=by rw[← hwd];exact(HP.out.grow (G.refl _).drew).grow (G.refl _).drew
     have A5:Own wd (w.heap.size+1) [0,0]:=by rw[← hwd];exact(HQ.out.grow (G.refl _).drew).grow (G.refl _).drew
     have A6:G w wd:=by rw[← hwd];exact hG.drew.drew
     have n1:s3+1≠s3:=by omega
     have n2:s3+1+1≠s3:=by omega
     have n3:w.heap.size≠s3:=by omega
     have n4:w.heap.size+1≠s3:=by omega
     have n5:s3≠s3+1:=by omega
     have n6:s3+1+1≠s3+1:=by omega
     have n7:w.heap.size≠s3+1:=by omega
     have n8:w.heap.size+1≠s3+1:=by omega
     have n9:s3≠s3+1+1:=by omega
     have n10:s3+1≠s3+1+1:=by omega
     have n11:w.heap.size≠s3+1+1:=by omega
     have n12:w.heap.size+1≠s3+1+1:=by omega
     have B1:Hid _:=q2l (x':=sa) (y':=sb) A1 hb1 hb2;have B2:Hid _:=q0A (u:= .int .u64 (sa:Int)) (v:= .int .u64 (sb:Int)) A2 n1;have B3:Hid _:=q0A (u:= .int .u64 (sa:Int)) (v:= .int .u64 (sb:Int)) A3 n2;have B4:Hid _:=q0A (u:= .int .u64 (sa:Int)) (v:= .int .u64 (sb:Int)) A4 n3;have B5:Hid _:=q0A (u:= .int .u64 (sa:Int)) (v:= .int .u64 (sb:Int)) A5 n4;have B6:Hid _:=q5n (b:=s3) (u:= .int .u64 (sa:Int)) (v:= .int .u64 (sb:Int)) A6 (by omega);obtain⟨nY,nZ,o5,o6⟩:=q0k A1;clear A1 A2 A3 A4 A5 A6 JJ hsd1 bn;refine q04 (i:=17) (by kernel_rfl) rfl ?_;intro K hK;go_simp;refine hK.out _ _ (Or.inr B3.out) ?_;clear hK K nY nZ o5 o6 hwd;generalize (wd.setCell ⟨s3,0,none⟩ (.int .u64 (sa:Int))).setCell ⟨s3,1,none⟩ (.int .u64 (sb:Int))=we at *;have C1:Hid _:=q0A (u:= .int .u64 (na:Int)) (v:= .int .u64 (nb:Int)) B1.out n5;have C2:Hid _:=q2l (x':=na) (y':=nb) B2.out hb3 hb4;have C3:Hid _:=q0A (u:= .int .u64 (na:Int)) (v:= .int .u64 (nb:Int)) B3.out n6;have C4:Hid _:=q0A (u:= .int .u64 (na:Int)) (v:= .int .u64 (nb:Int)) B4.out n7;have C5:Hid _:=q0A (u:= .int .u64 (na:Int)) (v:= .int .u64 (nb:Int)) B5.out n8;have C6:Hid _:=q5n (b:=s3+1) (u:= .int .u64 (na:Int)) (v:= .int .u64 (nb:Int)) B6.out (by omega);obtain⟨nY,nZ,o5,o6⟩:=q0k B2.out;clear B1 B2 B3 B4 B5 B6;refine q04 (i:=18) (by kernel_rfl) rfl ?_;intro K hK;go_simp;refine hK.out _ _ (Or.inr C3.out) ?_;clear hK K nY nZ o5 o6;generalize (we.setCell ⟨s3+1,0,none⟩ (.int .u64 (na:Int))).setCell ⟨s3+1,1,none⟩ (.int .u64 (nb:Int))=wf at *
     have D1:Hid _:=q0A (u:= .int .u64 (sx:Int)) (v:= .int .u64 (sy:Int)) C1.out n9;have D2:Hid _:=q0A (u:= .int .u64 (sx:Int)) (v:= .int .u64 (sy:Int)) C2.out n10;have D3:Hid _:=q2l (x':=sx) (y':=sy) C3.out hb5 hb6;have D4:Hid _:=q0A (u:= .int .u64 (sx:Int)) (v:= .int .u64 (sy:Int)) C4.out n11;have D5:Hid _:=q0A (u:= .int .u64 (sx:Int)) (v:= .int .u64 (sy:Int)) C5.out n12;have D6:Hid _:=q5n (b:=s3+1+1) (u:= .int .u64 (sx:Int)) (v:= .int .u64 (sy:Int)) C6.out (by omega);obtain⟨nY,nZ,o5,o6⟩:=q0k C3.out;clear C1 C2 C3 C4 C5 C6;refine q04 (i:=19) (by kernel_rfl) rfl ?_;intro K hK;go_simp;refine hK.out _ _ (Or.inl (by decide)) ?_;clear hK K nY nZ o5 o6;rw[JI.out,Ru.out,hsu,hsv,Rv.out,Rw.out];generalize (wf.setCell ⟨s3+1+1,0,none⟩ (.int .u64 (sx:Int))).setCell ⟨s3+1+1,1,none⟩ (.int .u64 (sy:Int))=wg at *;refine q0m (by kernel_rfl) ?_ _;clear n1 n2 n3 n4 n5 n6 n7 n8 n9 n10 n11 n12;go_wp2_with fail
     go_roundw
     case rel=>exact⟨y,r,sa,sb,na,nb,sx,sy, !tn,rfl,rfl,rfl,DC.out,D1.out,D2.out,D3.out,D4.out,D5.out,D6.out⟩
     case measure=>
      have h:=Rx.out;simp only[intOf];omega
   ·have JG:decide (t≤d)=false:=decide_eq_false h2;clear hd ht h1 h2 zH hsn hyx hxb hy0;go_wp2_with fail;have hb1:la<2^64:=mq.out.ba;have hb2:lb<2^64:=mq.out.bb;have hb3:sa<2^64:=mq.out.bc;have hb4:sb<2^64:=mq.out.bd;have A1:Own wr.drew s3 [la,lb]:=JE.out.grow (G.refl _).drew;have A2:Own wr.drew (s3+1) [sa,sb]:=Dz.out.grow (G.refl _).drew;have A4:Own wr.drew w.heap.size [0,0]:=HP.out.grow (G.refl _).drew;have A5:Own wr.drew (w.heap.size+1) [0,0]:=HQ.out.grow (G.refl _).drew;have A6:G w wr.drew:=hG.drew;clear NF NG cs0 cs1;refine q0L 5 (fun w'=>Own w' s3 [la,lb]∧Own w' (s3+1) [sa,sb]) (by kernel_rfl) ⟨A1,A2⟩ ?_;intro bn;refine q02 0 (v:= ?_) rfl (by kernel_rfl) (fun _ _ _ h=>h) rfl ?_ ‹_› ?_;rotate_left
    ·intro wq hwq
     (obtain⟨hq1,hq2,-,-⟩:=q0k hwq.1);(obtain⟨hq3,hq4,-,-⟩:=q0k hwq.2)
     first|(go_simp;done)|(go_simp;with_reducible rfl)
    try simp only[aput,List.set]
    refine q02 1 (v:= ?_) rfl (by kernel_rfl) (fun _ _ _ h=>h) rfl ?_ ‹_› ?_;rotate_left
    ·intro wq hwq
     (obtain⟨hq1,hq2,-,-⟩:=q0k hwq.1);(obtain⟨hq3,hq4,-,-⟩:=q0k hwq.2)
     first|(go_simp;done)|(go_simp;with_reducible rfl)
    try simp only[aput,List.set]
    refine q02 2 (v:= ?_) rfl (by kernel_rfl) (fun _ _ _ h=>h) rfl ?_ ‹_› ?_;rotate_left
    ·intro wq hwq
     (obtain⟨hq1,hq2,-,-⟩:=q0k hwq.1);(obtain⟨hq3,hq4,-,-⟩:=q0k hwq.2)
     first|(go_simp;done)|(go_simp;with_reducible rfl)
    try simp only[aput,List.set]
    generalize wr.drew=wd at *;have n1:s3≠w.heap.size:=by omega
    have n2:s3+1≠w.heap.size:=by omega
    have n3:w.heap.size+1≠w.heap.size:=by omega
    have n4:w.heap.size≠w.heap.size+1:=by omega
    have B1:Hid _:=q0A (u:= .int .u64 (la:Int)) (v:= .int .u64 (lb:Int)) A1 n1;have B2:Hid _:=q0A (u:= .int .u64 (la:Int)) (v:= .int .u64 (lb:Int)) A2 n2;have B4:Hid _:=q2l (x':=la) (y':=lb) A4 hb1 hb2;have B5:Hid _:=q0A (u:= .int .u64 (la:Int)) (v:= .int .u64 (lb:Int)) A5 n3;have B6:Hid _:=q5n (b:=w.heap.size) (u:= .int .u64 (la:Int)) (v:= .int .u64 (lb:Int)) A6 (by omega);obtain⟨nY,nZ,o5,o6⟩:=q0k A4;clear A1 A2 A4 A5 A6 bn;refine q04 (i:=3) (by kernel_rfl) rfl ?_;intro K hK;go_simp;refine hK.out _ _ (Or.inr ⟨B1.out,B2.out⟩) ?_;clear hK K nY nZ o5 o6;generalize (wd.setCell ⟨w.heap.size,0,none⟩ (.int .u64 (la:Int))).setCell ⟨w.heap.size,1,none⟩ (.int .u64 (lb:Int))=we at *;have C4:Hid _:=q0A (u:= .int .u64 (sa:Int)) (v:= .int .u64 (sb:Int)) B4.out n4;have C5:Hid _:=q2l (x':=sa) (y':=sb) B5.out hb3 hb4;have C1:Hid _:=q0A (u:= .int .u64 (sa:Int)) (v:= .int .u64 (sb:Int)) B1.out (show s3≠w.heap.size+1 by omega);have C2:Hid _:=q0A (u:= .int .u64 (sa:Int)) (v:= .int .u64 (sb:Int)) B2.out (show s3+1≠w.heap.size+1 by omega);have C6:Hid _:=q5n (b:=w.heap.size+1) (u:= .int .u64 (sa:Int)) (v:= .int .u64 (sb:Int)) B6.out (by omega);obtain⟨nY,nZ,o5,o6⟩:=q0k B5.out;clear B1 B2 B4 B5 B6;refine q04 (i:=4) (by kernel_rfl) rfl ?_;intro K hK;go_simp;refine hK.out _ _ (Or.inr ⟨C1.out,C2.out⟩) ?_;clear hK K nY nZ o5 o6;generalize (we.setCell ⟨w.heap.size+1,0,none⟩ (.int .u64 (sa:Int))).setCell ⟨w.heap.size+1,1,none⟩ (.int .u64 (sb:Int))=wf at *;refine q04 (i:=5) (by kernel_rfl) rfl ?_;intro K hK
    go_simp;refine hK.out _ _ (Or.inl (by decide)) ?_;clear hK K;refine q0m (by kernel_rfl) ?_ _;obtain⟨nY,nZ,o5,o6⟩:=q0k C4.out;obtain⟨RB,RD,RF,RG⟩:=q0k C5.out;clear C1 C2 C4 C5 n1 n2 n3 n4;go_wp2_with fail;refine bodyPost_ret (v:= .tuple #[.agg #[.int .u64 (la:Int),.int .u64 (lb:Int)],.agg #[.int .u64 (sa:Int),.int .u64 (sb:Int)],.bool tn]) (by simp [results,Tryz.results226,go_sem, *]) rfl ?_;exact⟨la,lb,sa,sb,tn,rfl,C6.out,hb1,hb2,hb3,hb4,mq.out.lr.last⟩
  ·have JF:decide (nb≤y)=false:=decide_eq_false h1;clear h1 zH;go_wp2_with fail;have hb1:la<2^64:=mq.out.ba;have hb2:lb<2^64:=mq.out.bb;have hb3:sa<2^64:=mq.out.bc;have hb4:sb<2^64:=mq.out.bd;have A1:Own wr.drew s3 [la,lb]:=JE.out.grow (G.refl _).drew;have A2:Own wr.drew (s3+1) [sa,sb]:=Dz.out.grow (G.refl _).drew;have A4:Own wr.drew w.heap.size [0,0]:=HP.out.grow (G.refl _).drew;have A5:Own wr.drew (w.heap.size+1) [0,0]:=HQ.out.grow (G.refl _).drew;have A6:G w wr.drew:=hG.drew;clear NF NG cs0 cs1;refine q0L 5 (fun w'=>Own w' s3 [la,lb]∧Own w' (s3+1) [sa,sb]) (by kernel_rfl) ⟨A1,A2⟩ ?_;intro bn;refine q02 0 (v:= ?_) rfl (by kernel_rfl) (fun _ _ _ h=>h) rfl ?_ ‹_› ?_;rotate_left
   ·intro wq hwq
    (obtain⟨hq1,hq2,-,-⟩:=q0k hwq.1);(obtain⟨hq3,hq4,-,-⟩:=q0k hwq.2)
    first|(go_simp;done)|(go_simp;with_reducible rfl)
   try simp only[aput,List.set]
   refine q02 1 (v:= ?_) rfl (by kernel_rfl) (fun _ _ _ h=>h) rfl ?_ ‹_› ?_;rotate_left
   ·intro wq hwq
    (obtain⟨hq1,hq2,-,-⟩:=q0k hwq.1);(obtain⟨hq3,hq4,-,-⟩:=q0k hwq.2)
    first|(go_simp;done)|(go_simp;with_reducible rfl)
   try simp only[aput,List.set]
   refine q02 2 (v:= ?_) rfl (by kernel_rfl) (fun _ _ _ h=>h) rfl ?_ ‹_› ?_;rotate_left
   ·intro wq hwq
    (obtain⟨hq1,hq2,-,-⟩:=q0k hwq.1);(obtain⟨hq3,hq4,-,-⟩:=q0k hwq.2)
    first|(go_simp;done)|(go_simp;with_reducible rfl)
   try simp only[aput,List.set]
   generalize wr.drew=wd at *;have n1:s3≠w.heap.size:=by omega
   have n2:s3+1≠w.heap.size:=by omega
   have n3:w.heap.size+1≠w.heap.size:=by omega
   have n4:w.heap.size≠w.heap.size+1:=by omega
   have B1:Hid _:=q0A (u:= .int .u64 (la:Int)) (v:= .int .u64 (lb:Int)) A1 n1;have B2:Hid _:=q0A (u:= .int .u64 (la:Int)) (v:= .int .u64 (lb:Int)) A2 n2;have B4:Hid _:=q2l (x':=la) (y':=lb) A4 hb1 hb2;have B5:Hid _:=q0A (u:= .int .u64 (la:Int)) (v:= .int .u64 (lb:Int)) A5 n3;have B6:Hid _:=q5n (b:=w.heap.size) (u:= .int .u64 (la:Int)) (v:= .int .u64 (lb:Int)) A6 (by omega);obtain⟨nY,nZ,o5,o6⟩:=q0k A4;clear A1 A2 A4 A5 A6 bn;refine q04 (i:=3) (by kernel_rfl) rfl ?_;intro K hK;go_simp;refine hK.out _ _ (Or.inr ⟨B1.out,B2.out⟩) ?_;clear hK K nY nZ o5 o6;generalize (wd.setCell ⟨w.heap.size,0,none⟩ (.int .u64 (la:Int))).setCell ⟨w.heap.size,1,none⟩ (.int .u64 (lb:Int))=we at *;have C4:Hid _:=q0A (u:= .int .u64 (sa:Int)) (v:= .int .u64 (sb:Int)) B4.out n4;have C5:Hid _:=q2l (x':=sa) (y':=sb) B5.out hb3 hb4;have C1:Hid _:=q0A (u:= .int .u64 (sa:Int)) (v:= .int .u64 (sb:Int)) B1.out (show s3≠w.heap.size+1 by omega);have C2:Hid _:=q0A (u:= .int .u64 (sa:Int)) (v:= .int .u64 (sb:Int)) B2.out (show s3+1≠w.heap.size+1 by omega);have C6:Hid _:=q5n (b:=w.heap.size+1) (u:= .int .u64 (sa:Int)) (v:= .int .u64 (sb:Int)) B6.out (by omega);obtain⟨nY,nZ,o5,o6⟩:=q0k B5.out;clear B1 B2 B4 B5 B6;refine q04 (i:=4) (by kernel_rfl) rfl ?_;intro K hK;go_simp;refine hK.out _ _ (Or.inr ⟨C1.out,C2.out⟩) ?_;clear hK K nY nZ o5 o6;generalize (we.setCell ⟨w.heap.size+1,0,none⟩ (.int .u64 (sa:Int))).setCell ⟨w.heap.size+1,1,none⟩ (.int .u64 (sb:Int))=wf at *;refine q04 (i:=5) (by kernel_rfl) rfl ?_;intro K hK
   go_simp;refine hK.out _ _ (Or.inl (by decide)) ?_;clear hK K;refine q0m (by kernel_rfl) ?_ _;obtain⟨nY,nZ,o5,o6⟩:=q0k C4.out;obtain⟨RB,RD,RF,RG⟩:=q0k C5.out;clear C1 C2 C4 C5 n1 n2 n3 n4;go_wp2_with fail;refine bodyPost_ret (v:= .tuple #[.agg #[.int .u64 (la:Int),.int .u64 (lb:Int)],.agg #[.int .u64 (sa:Int),.int .u64 (sb:Int)],.bool tn]) (by simp [results,Tryz.results226,go_sem, *]) rfl ?_;exact⟨la,lb,sa,sb,tn,rfl,C6.out,hb1,hb2,hb3,hb4,mq.out.lr.last⟩
/-- The difference that a share tells, as one of numbers. -/
theorem qbo {t:Bool} {a b p q Z:Nat} (h:(Z:Int)=mx (!t) a b p q):if t then a*p≤b*q∧Z=b*q-a*p else b*q≤a*p∧Z=a*p-b*q:=by
 unfold mx at h;cases t
 ·simp only[Bool.not_false,if_true,Bool.false_eq_true,if_false] at h ⊢;rw[← Int.natCast_mul,← Int.natCast_mul] at h;omega
 ·simp only[Bool.not_true,if_true,Bool.false_eq_true,if_false] at h ⊢;rw[← Int.natCast_mul,← Int.natCast_mul] at h;omega
theorem qcr (w:World) (va vb:Value) (a b p q K:Nat) (t:Bool) (Z:Nat) (hK:K≤400000) (hK1:1≤K) (ha:Num w va a) (hb:Num w vb b) (ha2:a<2^(64*K)) (hb2:b<2^(64*K)) (hp:p<2^64) (hq:q<2^64) (hZ:(Z:Int)=mx (!t) a b p q):
  Calls Tryz.prog 227 #[.agg #[.int .u64 (p:Int),.int .u64 (q:Int)],va,vb,.bool t] w (q0e w Z):=by
 have hz:=qbo hZ;have Ex:∀ p:Nat,p<2^64→p<2^(64*K):=fun p hp=>Nat.lt_of_lt_of_le hp (Nat.pow_le_pow_right (by omega) (by omega));have hpr:∀ a p:Nat,a<2^(64*K)→p<2^(64*K)→a*p<2^(64*(2*K)):=by
  intro a p h1 h2;rw[show 64*(2*K)=64*K+64*K from by omega,Nat.pow_add];exact Nat.mul_lt_mul'' h1 h2
 have hap:=hpr a p ha2 (Ex p hp);have hbq:=hpr b q hb2 (Ex q hq);have O6:Hid (∀ w1,_):=fun w1=>q5l w1 p hp;have Gn:Hid (∀ w1,_):=fun w1=>q5l w1 q hq;have O7:Hid (∀ w1 v,G w w1→Num w1 v p→_):=fun w1 v g hv=>q2a w1 va v a p K (by omega) (ha.G g) hv ha2 (Ex p hp);have oJ:Hid (∀ w1 v,G w w1→Num w1 v q→_):=fun w1 v g hv=>q2a w1 vb v b q K (by omega) (hb.G g) hv hb2 (Ex q hq);have uE:Hid (∀ w1 u v,Num w1 u (a*p)→Num w1 v (b*q)→b*q≤a*p→_):=fun w1 u v hu hv hle=>q46 w1 u v (a*p) (b*q) (2*K) (by omega) hu hv hap hle;have qH:Hid (∀ w1 u v,Num w1 u (b*q)→Num w1 v (a*p)→a*p≤b*q→_):=fun w1 u v hu hv hle=>q46 w1 u v (b*q) (a*p) (2*K) (by omega) hu hv hbq hle;generalize a*p=ap at *;generalize b*q=bq at *;clear Ex hpr hap hbq ha hb ha2 hb2 hZ;go_enter Tryz.func227,Tryz.ntmps227;go_wp2_with fail;have hg0:G w (w.alloc (.cells #[.int .u64 (p:Int),.int .u64 (q:Int)] 223)):=(G.refl _).alloc _;have hc0:(w.alloc (.cells #[.int .u64 (p:Int),.int .u64 (q:Int)] 223)).cell? ⟨w.heap.size,0,none⟩=some (.int .u64 (p:Int)):=by simp [go_sem]
 have hc1:(w.alloc (.cells #[.int .u64 (p:Int),.int .u64 (q:Int)] 223)).cell? ⟨w.heap.size,1,none⟩=some (.int .u64 (q:Int)):=by simp [go_sem]
 have hsz:w.heap.size<(w.alloc (.cells #[.int .u64 (p:Int),.int .u64 (q:Int)] 223)).heap.size:=by simp
 generalize w.alloc (.cells #[.int .u64 (p:Int),.int .u64 (q:Int)] 223)=w1 at *;refine q0L 11 (G w1) (by kernel_rfl) (by first|exact(G.refl _).drew|exact G.drew (by assumption)) ?_;intro bn;refine q02 0 (v:= ?_) rfl (by kernel_rfl) (fun _ _ _ h=>h) rfl ?_ ‹_› ?_;rotate_left
 ·intro wq hwq;have hq1:=G.cell (p:=⟨w.heap.size,0,none⟩) (v:= .int .u64 (p:Int)) hwq (by first|assumption|(simp;done)|(simp;omega)|omega) (by assumption);have hq2:=G.cell (p:=⟨w.heap.size,1,none⟩) (v:= .int .u64 (q:Int)) hwq (by first|assumption|(simp;done)|(simp;omega)|omega) (by assumption)
  first|(go_simp;done)|(go_simp;with_reducible rfl)
 try simp only[aput,List.set]
 refine q02 1 (v:= ?_) rfl (by kernel_rfl) (fun _ _ _ h=>h) rfl ?_ ‹_› ?_;rotate_left
 ·intro wq hwq;have hq3:=G.cell (p:=⟨w.heap.size,0,none⟩) (v:= .int .u64 (p:Int)) hwq (by first|assumption|(simp;done)|(simp;omega)|omega) (by assumption);have hq4:=G.cell (p:=⟨w.heap.size,1,none⟩) (v:= .int .u64 (q:Int)) hwq (by first|assumption|(simp;done)|(simp;omega)|omega) (by assumption)
  first|(go_simp;done)|(go_simp;with_reducible rfl)
 try simp only[aput,List.set]
 refine q02 2 (v:= ?_) rfl (by kernel_rfl) (fun _ _ _ h=>h) rfl ?_ ‹_› ?_;rotate_left
 ·intro wq hwq;have pQ:=G.cell (p:=⟨w.heap.size,0,none⟩) (v:= .int .u64 (p:Int)) hwq (by first|assumption|(simp;done)|(simp;omega)|omega) (by assumption);have qp:=G.cell (p:=⟨w.heap.size,1,none⟩) (v:= .int .u64 (q:Int)) hwq (by first|assumption|(simp;done)|(simp;omega)|omega) (by assumption)
  first|(go_simp;done)|(go_simp;with_reducible rfl)
 try simp only[aput,List.set]
 refine q02 5 (v:= ?_) rfl (by kernel_rfl) (fun _ _ _ h=>h) rfl ?_ ‹_› ?_;rotate_left
 ·intro wq hwq;have qw:=G.cell (p:=⟨w.heap.size,0,none⟩) (v:= .int .u64 (p:Int)) hwq (by first|assumption|(simp;done)|(simp;omega)|omega) (by assumption);have hq8:=G.cell (p:=⟨w.heap.size,1,none⟩) (v:= .int .u64 (q:Int)) hwq (by first|assumption|(simp;done)|(simp;omega)|omega) (by assumption)
  first|(go_simp;done)|(go_simp;with_reducible rfl)
 try simp only[aput,List.set]
 refine q02 6 (v:= ?_) rfl (by kernel_rfl) (fun _ _ _ h=>h) rfl ?_ ‹_› ?_;rotate_left
 ·intro wq hwq;have wy:=G.cell (p:=⟨w.heap.size,0,none⟩) (v:= .int .u64 (p:Int)) hwq (by first|assumption|(simp;done)|(simp;omega)|omega) (by assumption);have mE:=G.cell (p:=⟨w.heap.size,1,none⟩) (v:= .int .u64 (q:Int)) hwq (by first|assumption|(simp;done)|(simp;omega)|omega) (by assumption)
  first|(go_simp;done)|(go_simp;with_reducible rfl)
 try simp only[aput,List.set]
 refine q02 7 (v:= ?_) rfl (by kernel_rfl) (fun _ _ _ h=>h) rfl ?_ ‹_› ?_;rotate_left
 ·intro wq hwq;have hq11:=G.cell (p:=⟨w.heap.size,0,none⟩) (v:= .int .u64 (p:Int)) hwq (by first|assumption|(simp;done)|(simp;omega)|omega) (by assumption);have hq12:=G.cell (p:=⟨w.heap.size,1,none⟩) (v:= .int .u64 (q:Int)) hwq (by first|assumption|(simp;done)|(simp;omega)|omega) (by assumption)
  first|(go_simp;done)|(go_simp;with_reducible rfl)
 try simp only[aput,List.set]
 clear hc0 hc1 hsz;have HW1:Hid _:=O6.out w1.drew;refine q04 (i:=3) (by kernel_rfl) rfl ?_;intro K hK;go_simp;go_wp2_with (go_at_call 170;refine q00 HW1.out ?_;intro e w2 hs;obtain⟨v1,rfl,g2,hn1⟩:=hs);have g12:=G.trans bn g2;refine hK.out _ _ (Or.inr g12) ?_;clear hK K;have HT1:Hid _:=O7.out w2 v1 (G.trans hg0 g12) hn1;clear hn1 O7 O6 HW1 bn g2;refine q04 (i:=4) (by kernel_rfl) rfl ?_;intro K hK;go_simp;go_wp2_with (go_at_call 58;refine q00 HT1.out ?_;intro e w3 hs;obtain⟨x,rfl,g3,hnx⟩:=hs);have g13:=G.trans g12 g3;refine hK.out _ _ (Or.inr g13) ?_;clear hK K HT1 g12 g3;have oW:Hid (Num w3 x ap):=hnx;have HW3:Hid _:=Gn.out w3;clear hnx Gn;refine q04 (i:=8) (by kernel_rfl) rfl ?_;intro K hK;go_simp;go_wp2_with (go_at_call 170;refine q00 HW3.out ?_;intro e w4 hs;obtain⟨v2,rfl,g4,hn2⟩:=hs);have g14:=G.trans g13 g4;refine hK.out _ _ (Or.inr g14) ?_;clear hK K HW3 g13;have Ey:Hid (Num w4 x ap):=oW.out.G g4;have HT2:Hid _:=oJ.out w4 v2 (G.trans hg0 g14) hn2;clear hn2 oJ oW g4;refine q04 (i:=9) (by kernel_rfl) rfl ?_;intro K hK;go_simp;go_wp2_with (go_at_call 58;refine q00 HT2.out ?_;intro e w5 hs;obtain⟨y,rfl,g5,hny⟩:=hs);have g15:=G.trans g14 g5;refine hK.out _ _ (Or.inr g15) ?_;clear hK K HT2 g14;have Ez:Hid (Num w5 x ap):=Ey.out.G g5;have EA:Hid (Num w5 y bq):=hny;clear hny Ey g5;refine q04 (i:=10) (by kernel_rfl) rfl ?_;intro K hK;go_simp;refine hK.out _ _ (Or.inr g15) ?_;clear hK K;refine q04 (i:=11) (by kernel_rfl) rfl ?_;intro K hK;go_simp
 refine hK.out _ _ (Or.inl (by decide)) ?_;clear hK K;refine q0m (by kernel_rfl) ?_ _;have O8:=G.trans hg0 g15;cases t
 ·simp only[Bool.false_eq_true,if_false] at hz;obtain⟨hz1,rfl⟩:=hz;have Cu:Hid _:=uE.out w5 x y Ez.out EA.out hz1;clear uE qH hg0 g15 hz1;go_wp2_with fail;refine q00 Cu.out ?_;intro e w6 hs;obtain⟨v,rfl,g6,hn⟩:=hs;go_wp2_with fail;go_ret;exact⟨v,rfl,G.trans O8 g6,hn⟩
 ·simp only[if_true] at hz;obtain⟨hz1,rfl⟩:=hz;have Cu:Hid _:=qH.out w5 y x EA.out Ez.out hz1;clear uE qH hg0 g15 hz1;go_wp2_with fail;refine q00 Cu.out ?_;intro e w6 hs;obtain⟨v,rfl,g6,hn⟩:=hs;go_wp2_with fail;go_ret;exact⟨v,rfl,G.trans O8 g6,hn⟩
/-- Two numbers that are nearer, with the same divisors. -/
def q7H (a b:Nat) (w:World) (e:Ending) (w':World):Prop:=∃ (X Y:Nat) (x y:Value),e= .returned (.tuple #[x,y])∧G w w'∧Num w' x X∧Num w' y Y∧Y<X∧X≤b∧Nat.gcd X Y=Nat.gcd a b
set_option maxHeartbeats 4000000 in
theorem q6v (w:World) (va vb:Value) (a b K:Nat) (hK:K≤400000) (hK1:1≤K) (ha:Num w va a) (hb:Num w vb b) (ha2:a<2^(64*K)) (gX:b≤a) (kG:2^64≤b):
  Calls Tryz.prog 187 #[va,vb] w (q7H a b w):=by
 have HS:Hid _:=q9h w va vb a b K hK ha hb ha2 gX (Nat.le_trans kG gX);have HD:Hid (∀ w1,G w w1→_):=fun w1 g=>q2y w1 va vb a b K hK hK1 (ha.G g) (hb.G g) ha2 (Nat.lt_of_le_of_lt gX ha2) (by omega);have HM:Hid (∀ w1,G w w1→∀ (p q:Nat) (t:Bool) (Z:Nat),p<2^64→q<2^64→(Z:Int)=mx (!t) a b p q→_):=fun w1 g p q t Z hp hq hZ=>qcr w1 va vb a b p q K t Z hK hK1 (ha.G g) (hb.G g) ha2 (Nat.lt_of_le_of_lt gX ha2) hp hq hZ;have HB:Hid (Num w vb b):=hb;have HB0:Hid (0<b):=by show 0<b;omega
 clear ha hb ha2 gX kG;go_enter Tryz.func187,Tryz.ntmps187;go_wp2_with fail;refine q00 HS.out ?_;intro e w1 hs;obtain⟨la,lb,sa,sb,tn,rfl,g1,h1,h2,h3,h4,hend⟩:=hs;clear HS;have HL:Hid (LEnd a b la lb sa sb tn):=hend;clear hend;by_cases hl0:lb=0
 ·subst hl0;go_wp2_with fail;have g2:G w ((w1.alloc (.cells #[.int .u64 (la:Int),.int .u64 0] 223)).alloc (.cells #[.int .u64 (sa:Int),.int .u64 (sb:Int)] 223)):=(g1.alloc _).alloc _;have HD1:Hid _:=HD.out _ g2;generalize (w1.alloc (.cells #[.int .u64 (la:Int),.int .u64 0] 223)).alloc (.cells #[.int .u64 (sa:Int),.int .u64 (sb:Int)] 223)=w2 at *;clear HD HM;refine q00 HD1.out ?_;intro e w3 hs;obtain⟨v1,v2,rfl,g3,-,hn2⟩:=hs;have HN:Hid (Num w3 v2 (a%b)):=hn2;have g4:=G.trans g2 g3;clear hn2 HD1 g3 g2;go_wp2_with fail
  go_ret2
  exact⟨b,a%b,vb,v2,rfl,g4,HB.out.G g4,HN.out,Nat.mod_lt _ HB0.out,Nat.le_refl _,by rw[Nat.gcd_comm b (a%b),← Nat.gcd_rec,Nat.gcd_comm]⟩
 ·have hl1:((lb:Int)==0)=false:=by simp;exact hl0
  obtain⟨hd,hy0,hyx,hxb⟩:=HL.out.resolve_left hl0;obtain⟨X,hX⟩:∃ X:Nat,(X:Int)=mx (!tn) a b la lb:=⟨(mx (!tn) a b la lb).toNat,by omega⟩;obtain⟨Y,hY⟩:∃ Y:Nat,(Y:Int)=mx tn a b sa sb:=⟨(mx tn a b sa sb).toNat,by omega⟩;have hg:=qa5 hd hX hY;have HG:Hid (Y<X∧X≤b∧Nat.gcd X Y=Nat.gcd a b):=⟨by omega,by omega,hg⟩;have uE:Hid (∀ w1,G w w1→_):=fun w1 g=>HM.out w1 g la lb tn X h1 h2 hX;have qH:Hid (∀ w1,G w w1→_):=fun w1 g=>HM.out w1 g sa sb (!tn) Y h3 h4 (by rw[Bool.not_not];exact hY);clear hl0 hd hy0 hyx hxb hX hY hg HM HL HD h1 h2 h3 h4;go_wp2_with fail;have gB:G w ((w1.alloc (.cells #[.int .u64 (la:Int),.int .u64 (lb:Int)] 223)).alloc (.cells #[.int .u64 (sa:Int),.int .u64 (sb:Int)] 223)):=(g1.alloc _).alloc _;have c0:((w1.alloc (.cells #[.int .u64 (la:Int),.int .u64 (lb:Int)] 223)).alloc (.cells #[.int .u64 (sa:Int),.int .u64 (sb:Int)] 223)).cell? ⟨w1.heap.size,0,none⟩=some (.int .u64 (la:Int)):=by simp [go_sem]
  have c1:((w1.alloc (.cells #[.int .u64 (la:Int),.int .u64 (lb:Int)] 223)).alloc (.cells #[.int .u64 (sa:Int),.int .u64 (sb:Int)] 223)).cell? ⟨w1.heap.size,1,none⟩=some (.int .u64 (lb:Int)):=by simp [go_sem]
  have c2:((w1.alloc (.cells #[.int .u64 (la:Int),.int .u64 (lb:Int)] 223)).alloc (.cells #[.int .u64 (sa:Int),.int .u64 (sb:Int)] 223)).cell? ⟨w1.heap.size+1,0,none⟩=some (.int .u64 (sa:Int)):=by simp [go_sem]
  have c3:((w1.alloc (.cells #[.int .u64 (la:Int),.int .u64 (lb:Int)] 223)).alloc (.cells #[.int .u64 (sa:Int),.int .u64 (sb:Int)] 223)).cell? ⟨w1.heap.size+1,1,none⟩=some (.int .u64 (sb:Int)):=by simp [go_sem]
  have hz:((w1.alloc (.cells #[.int .u64 (la:Int),.int .u64 (lb:Int)] 223)).alloc (.cells #[.int .u64 (sa:Int),.int .u64 (sb:Int)] 223)).heap.size=w1.heap.size+1+1:=by simp
  generalize (w1.alloc (.cells #[.int .u64 (la:Int),.int .u64 (lb:Int)] 223)).alloc (.cells #[.int .u64 (sa:Int),.int .u64 (sb:Int)] 223)=w2 at *;refine q09 13 0 #[true,true,true,true,true,true,true,true,true,true,true,true,true] [.is (.agg #[.int .u64 (la:Int),.int .u64 (lb:Int)]),.is (va),.is (vb),.is (.bool tn),.any (fun v w'=>Num w' v (X)),.is (.agg #[.int .u64 (sa:Int),.int .u64 (sb:Int)]),.is (va),.is (vb),.is (.bool tn),.is (.bool (!tn)),.any (fun v w'=>Num w' v (Y)),.any (fun v w'=>Num w' v (X)),.any (fun v w'=>Num w' v (Y))] [some 29,some 30,some 31,some 32,some 33,some 34,some 35,some 36,some 37,some 38,some 39,some 4,some 5] (by kernel_rfl) (by kernel_rfl) rfl (by kernel_rfl) (by repeat (first|exact trivial|refine⟨fun _ _ _ g h=>by first|exact h.G g|exact fun w3 g3=>h w3 (G.trans g g3),?_⟩)) (by kernel_rfl) (by kernel_rfl) ?_;refine Letters.is ?_;refine Letters.is ?_;refine Letters.is ?_;refine Letters.is ?_;refine Letters.any fun v4=> ?_;refine Letters.is ?_;refine Letters.is ?_;refine Letters.is ?_;refine Letters.is ?_;refine Letters.is ?_;refine Letters.any fun v10=> ?_;refine Letters.any fun v11=> ?_;refine Letters.any fun v12=> ?_;refine Letters.nil ?_;intro A hA;simp only[q0W,Act.put,List.setIfInBounds_toArray,List.set_cons_zero,List.set_cons_succ] at hA;subst hA;refine⟨?_,?_⟩
  ·skip
   refine Eaches.cons rfl ?gy (Eaches.cons rfl ?gQ (Eaches.cons rfl ?gz (Eaches.cons rfl ?gT (Eaches.cons rfl ?jh (Eaches.cons rfl ?ji (Eaches.cons rfl ?jE (Eaches.cons rfl ?kC (Eaches.cons rfl ?jF (Eaches.cons rfl ?mI (Eaches.cons rfl ?kQ (Eaches.cons rfl ?mJ (Eaches.cons rfl ?mK (Eaches.nil)))))))))))))
   case gQ|gz|gT|jE|kC|jF|mI=>
    intro W hW hD K hK;clear hD;go_simp;exact hK.out _ _ ⟨_,rfl,G.refl _,rfl⟩
   case gy|ji=>
    intro W hW hD K hK;clear hD;have hq2:=G.cell (p:=⟨w1.heap.size,0,none⟩) (v:= .int .u64 (la:Int)) hW (by first|assumption|(simp;done)|(simp;omega)|omega) (by assumption);have hq3:=G.cell (p:=⟨w1.heap.size,1,none⟩) (v:= .int .u64 (lb:Int)) hW (by first|assumption|(simp;done)|(simp;omega)|omega) (by assumption);have hq4:=G.cell (p:=⟨w1.heap.size+1,0,none⟩) (v:= .int .u64 (sa:Int)) hW (by first|assumption|(simp;done)|(simp;omega)|omega) (by assumption);have pQ:=G.cell (p:=⟨w1.heap.size+1,1,none⟩) (v:= .int .u64 (sb:Int)) hW (by first|assumption|(simp;done)|(simp;omega)|omega) (by assumption);go_simp;exact hK.out _ _ ⟨_,rfl,G.refl _,rfl⟩
   ·intro W hW hD K hK;clear hD;go_simp;go_wp2_with (go_at_call 227;refine q00 (uE.out W (G.trans gB hW)) ?_;intro e w9 hs;obtain⟨u9,rfl,g9,aL⟩:=hs);exact hK.out _ _ ⟨_,rfl,g9,aL⟩
   ·intro W hW hD K hK;clear hD;go_simp;go_wp2_with (go_at_call 227;refine q00 (qH.out W (G.trans gB hW)) ?_;intro e w9 hs;obtain⟨u9,rfl,g9,aL⟩:=hs);exact hK.out _ _ ⟨_,rfl,g9,aL⟩
   ·intro W hW hD K hK;have h4:=Deps.get (v:=v4) 4 hD rfl rfl (by kernel_rfl);clear hD;go_simp;exact hK.out _ _ ⟨_,rfl,G.refl _,h4⟩
   ·intro W hW hD K hK;have h10:=Deps.get (v:=v10) 10 hD rfl rfl (by kernel_rfl);clear hD;go_simp;exact hK.out _ _ ⟨_,rfl,G.refl _,h10⟩
  intro w3 g3 hH;have h11:=Helds.get (v:=v11) 11 hH rfl rfl;have h12:=Helds.get (v:=v12) 12 hH rfl rfl;clear hH;refine wpAny_done (by kernel_rfl) ?_ _;go_wp2_with fail
  go_ret2
  exact⟨X,Y,v11,v12,rfl,G.trans gB g3,h11,h12,HG.out⟩
theorem q1J {w:World} {d:Nat} {e:TypeId} (h0:d<2^64) (hd:d≠0):Num (w.alloc (.cells #[.int .u64 (d:Int)] e)) (.slice (some ⟨w.heap.size,0,none⟩) 1 1) d:=
 ⟨[d],q3V w d e h0,⟨(q3V w d e h0).1,fun _=>by simpa using hd⟩,by simp [val]⟩
/-- What a canonical slice of a number looks like: nothing, one word, more. -/
theorem q0S {w:World} {v:Value} {n:Nat} (h:Num w v n):(n=0∧∃ a c,v= .slice a 0 c)∨(0<n∧n<2^64∧∃ b o c,v= .slice (some ⟨b,o,none⟩) 1 c∧1≤c∧b<w.heap.size∧w.cell? ⟨b,o,none⟩=some (.int .u64 (n:Int)))∨(2^64≤n∧∃ b o k c,v= .slice (some ⟨b,o,none⟩) (k+2) c∧b<w.heap.size∧n<2^(64*(k+2))∧2^(64*(k+1))≤n):=by
 obtain⟨l,hl,hcl,rfl⟩:=h;rcases Sl.cases hl with ⟨rfl,a,c,rfl⟩|⟨hne,b,o,c,rfl,hc,hb,hr⟩
 ·exact Or.inl ⟨rfl,a,c,rfl⟩
 ·right;have h1:=q14 hcl hne;have h2:=q0v hcl.1;rcases l with _|⟨d,_|⟨d2,l⟩⟩
  ·exact absurd rfl hne
  ·left;have hd:d≠0:=hcl.2 hne;have hd2:d<2^64:=hcl.1 d (by simp);have h3:=hr 0 (by simp);simp only[List.getD_cons_zero] at h3;rw[q1h];exact⟨by omega,hd2,b,o,c,rfl,hc,hb,h3⟩
  ·right;have e:(d::d2::l).length=l.length+2:=rfl;rw[e] at h1 h2 hc;rw[show l.length+2-1=l.length+1 from by omega] at h1;have h4:2^64≤2^(64*(l.length+1)):=Nat.pow_le_pow_right (by omega) (by omega);exact⟨by omega,b,o,l.length,c,rfl,hb,h2,h1⟩
set_option maxHeartbeats 4000000 in
theorem q9l (w:World) (va vb:Value) (a b K:Nat) (hK:K≤400000) (hK1:1≤K) (ha:Num w va a) (hb:Num w vb b) (ha2:a<2^(64*K)) (hb2:b<2^(64*K)) (ha0:0<a) (hb0:0<b):
  Calls Tryz.prog 128 #[va,vb] w (q0e w (Nat.gcd a b)):=by
 have HC:Hid _:=q2H w va vb a b K (by omega) ha hb ha2 hb2;have HA1:Hid (Num w va a):=ha;have HB1:Hid (Num w vb b):=hb;clear ha hb;by_cases hlt:a<b
 ·rw[show cmpV a b= -1 from by unfold cmpV;rw[if_pos hlt]] at HC;have nX:Hid (a≤b):=Nat.le_of_lt hlt;have lK:Hid (0<b):=hb0;have HA2:Hid (b<2^(64*K)):=hb2;have jl:Hid (Nat.gcd b a=Nat.gcd a b):=Nat.gcd_comm _ _;clear hlt ha0 hb0 ha2 hb2;go_enter Tryz.func128,Tryz.ntmps128;go_wp2_with fail;refine q00 HC.out ?_;rintro e w1 ⟨rfl,hG0⟩;have HA:Hid (Num w1 vb b):=HB1.out.G hG0;have HB:Hid (Num w1 va a):=HA1.out.G hG0;clear HA1 HB1 HC;go_wp2_with fail;obtain⟨A0,fH⟩:∃ A0,A0=b:=⟨_,rfl⟩;obtain⟨B0,hB0⟩:∃ B0,B0=a:=⟨_,rfl⟩;rw[← fH] at HA nX lK HA2;rw[← hB0] at HB nX;have jl:Hid (Nat.gcd A0 B0=Nat.gcd a b):=by show Nat.gcd A0 B0=Nat.gcd a b;rw[fH,hB0];exact jl.out
  clear fH hB0
  go_loopw [0,1] (fun x y wr=>∃ A B:Nat,Num wr x A∧Num wr y B∧B≤A∧0<A∧A<2^(64*K)∧Nat.gcd A B=Nat.gcd a b∧G w wr) (fun _ y wr=>numV wr y)
  case atStart=>exact⟨A0,B0,HA.out,HB.out,nX.out,lK.out,HA2.out,jl.out,hG0⟩
  case round=>
   clear HA HB nX lK HA2 jl hG0;obtain⟨A,B,hA,hB,hle,hpos,hA2,hgc,hG⟩:=hrel;have HA:Hid (Num wr u0 A):=hA;have jl:Hid (Nat.gcd A B=Nat.gcd a b):=hgc;rcases q0S hB with ⟨rfl,pa,pc,rfl⟩|⟨hb1,hb2,bb,oo,cc,rfl,hcc,hbb,hcell⟩|⟨kG,bb,oo,k,cc,rfl,hbb,hbk,hbk2⟩
   ·have HE:Hid (A=Nat.gcd a b):=by show A=Nat.gcd a b;rw[← hgc,Nat.gcd_zero_right]
    clear hA hB hle hpos hA2 hgc jl;go_wp2_with fail;go_ret;exact⟨_,rfl,hG,by rw[← HE.out];exact HA.out⟩
   ·have HD:Hid _:=q1E wr u0 A B K (by omega) hA hA2 hb1 hb2;have Du:Hid (0<B):=hb1;have HXB:Hid (B<18446744073709551616):=hb2;have qA:Hid (A%B<18446744073709551616):=Nat.lt_trans (Nat.mod_lt _ hb1) hb2;have HG2:Hid (Nat.gcd B (A%B)=Nat.gcd a b):=by show Nat.gcd B (A%B)=Nat.gcd a b;rw[Nat.gcd_comm B (A%B),← Nat.gcd_rec,Nat.gcd_comm];exact hgc
    clear hB hle hpos hA2 hgc jl hb1 hb2 hA HA;go_wp2_with fail;refine q00 HD.out ?_;intro e w2 hs;obtain⟨v2,rfl,g2,-⟩:=hs;have hG1:=G.trans hG g2;obtain⟨X0,hX0⟩:∃ X0,X0=B:=⟨_,rfl⟩;obtain⟨Y0,hY0⟩:∃ Y0,Y0=A%B:=⟨_,rfl⟩;rw[← hY0] at qA HG2 ⊢;rw[← hX0] at Du HXB HG2;have jl:Hid (Nat.gcd X0 Y0=Nat.gcd a b):=HG2.out;clear HD hG g2 hY0 HG2;go_wp2_with fail;rw[← hX0];clear hcell hX0
    go_loopw [5,7] (fun vx vy wr=>∃ X Y:Nat,vx= .int .u64 X∧vy= .int .u64 Y∧0<X∧X<18446744073709551616∧Y<18446744073709551616∧Nat.gcd X Y=Nat.gcd a b∧G w wr) (fun _ vy _=>(intOf vy).toNat)
    case atStart=>exact⟨X0,Y0,rfl,rfl,Du.out,HXB.out,qA.out,jl.out,hG1⟩
    case round=>
     obtain⟨X,Y,rfl,rfl,JB,hX,hY,hgc,hG2⟩:=hrel;have jB:Hid (Nat.gcd X Y=Nat.gcd a b):=hgc;have Iw:(X:Int)≤18446744073709551615:=by omega
     have Iy:(Y:Int)≤18446744073709551615:=by omega
     clear hgc hG1;by_cases hY0:0<Y
     ·have wz:(1:Int)≤Y:=by omega
      have yH:Y≠0:=by omega
      have Iz:decide (0<Y)=true:=by simpa using hY0
      have hyn:((Y:Int)==0)=false:=by simp;omega
      obtain⟨Z,hZ,hZ1,hZ2⟩:∃ Z:Nat,Z=X%Y∧(X:Int)%Y=Z∧Z<Y:=⟨X%Y,rfl,by rw[← Int.natCast_emod],Nat.mod_lt _ hY0⟩;have yI:(X:Int).tmod Y=Z:=by rw[Int.tmod_eq_emod_of_nonneg (by omega)];exact hZ1
      have uA:Hid (Nat.gcd Y Z=Nat.gcd a b):=by show Nat.gcd Y Z=Nat.gcd a b;rw[hZ,Nat.gcd_comm Y (X%Y),← Nat.gcd_rec,Nat.gcd_comm];exact jB.out
      have HZ2:Hid (Z<Y):=hZ2;have yJ:Hid (Y<18446744073709551616):=hY;have JC:Hid (0<Y):=hY0;have yK:Z<18446744073709551616:=by omega
      clear hZ hX hY hZ2;go_wp2_with fail;refine q0f (by kernel_rfl) (by kernel_rfl) ?_;intro W hW;clear hW
      repeat (go_big_quiet_step (fail))
      refine wpQuiet_nil ?_;intro w5 mG;have hG3:=G.trans hG2 mG;clear mG;go_wp2_with fail
      try simp only[hZ1]
      go_roundw
      case rel=>exact⟨Y,Z,rfl,by first|rfl|(rw[hZ1])|(rw[yI]),JC.out,yJ.out,yK,uA.out,hG3⟩
      case measure=>have:=HZ2.out;simp only[intOf];omega
     ·obtain rfl:Y=0:=by omega
      have hgx:X=Nat.gcd a b:=by rw[← jB.out,Nat.gcd_zero_right]
      have ry:Hid (X=Nat.gcd a b):=hgx;have HN:Hid (∀ w1:World,Num (w1.alloc (.cells #[.int .u64 (X:Int)] 85)) (.slice (some ⟨w1.heap.size,0,none⟩) 1 1) X):=fun w1=>q1J hX (by omega);clear hX hY hgx JB;go_wp2_with fail;go_ret;exact⟨_,rfl,G.alloc hG2 _,by rw[← ry.out];exact HN.out _⟩
   ·have HN:Hid _:=q6v wr u0 _ A B K hK hK1 hA hB hA2 hle kG;have hk2:decide ((1:Int)<(k:Int)+2)=true:=by simp;omega
    have hmu:numV wr (.slice (some ⟨bb,oo,none⟩) (k+2) cc)=B:=q1O hB;have yF:Hid _:=hmu;have nX:Hid (B≤A∧A<2^(64*K)):=⟨hle,hA2⟩;clear hA hB hle hpos hA2 hgc kG hbk hbk2 hmu;go_wp2_with fail;refine q00 HN.out ?_;intro e w2 hs;obtain⟨X,Y,x,y,rfl,g2,hx,hy,Dv,Dw,hg2⟩:=hs;have HX:Hid (Num w2 x X):=hx;have HY:Hid (Num w2 y Y):=hy;have HR:Hid (Y<X∧X≤B∧Nat.gcd X Y=Nat.gcd A B):=⟨Dv,Dw,hg2⟩;have hG2:=G.trans hG g2;clear hx hy Dv Dw hg2 HN g2 hG;go_wp2_with fail
    go_roundw
    case rel=>
     obtain⟨r1,r2,r3⟩:=HR.out;obtain⟨l1,l2⟩:=nX.out;exact⟨X,Y,HX.out,HY.out,by omega,by omega,by omega,r3.trans jl.out,hG2⟩
    case measure=>
     obtain⟨r1,r2,r3⟩:=HR.out;have h1:=q1O HY.out;have h2:=yF.out;show numV w2 y<numV wr _;rw[h1,h2];omega
 ·have hcv:cmpV a b=0∨cmpV a b=1:=by unfold cmpV;rw[if_neg hlt];split;exact Or.inl rfl;exact Or.inr rfl
  have hct:decide (cmpV a b<0)=false:=by rcases hcv with h|h<;>rw[h]<;>rfl
  have nX:Hid (b≤a):=Nat.le_of_not_lt hlt;have lK:Hid (0<a):=ha0;have HA2:Hid (a<2^(64*K)):=ha2;have jl:Hid (Nat.gcd a b=Nat.gcd a b):=rfl;generalize cmpV a b=cv at *;clear hlt ha0 hb0 ha2 hb2 hcv;go_enter Tryz.func128,Tryz.ntmps128;go_wp2_with fail;refine q00 HC.out ?_;rintro e w1 ⟨rfl,hG0⟩;have HA:Hid (Num w1 va a):=HA1.out.G hG0;have HB:Hid (Num w1 vb b):=HB1.out.G hG0;clear HA1 HB1 HC;go_wp2_with fail;obtain⟨A0,fH⟩:∃ A0,A0=a:=⟨_,rfl⟩;obtain⟨B0,hB0⟩:∃ B0,B0=b:=⟨_,rfl⟩;rw[← fH] at HA nX lK HA2;rw[← hB0] at HB nX;have jl:Hid (Nat.gcd A0 B0=Nat.gcd a b):=by show Nat.gcd A0 B0=Nat.gcd a b;rw[fH,hB0]
  clear fH hB0
  go_loopw [0,1] (fun x y wr=>∃ A B:Nat,Num wr x A∧Num wr y B∧B≤A∧0<A∧A<2^(64*K)∧Nat.gcd A B=Nat.gcd a b∧G w wr) (fun _ y wr=>numV wr y)
  case atStart=>exact⟨A0,B0,HA.out,HB.out,nX.out,lK.out,HA2.out,jl.out,hG0⟩
  case round=>
   clear HA HB nX lK HA2 jl hG0;obtain⟨A,B,hA,hB,hle,hpos,hA2,hgc,hG⟩:=hrel;have HA:Hid (Num wr u0 A):=hA;have jl:Hid (Nat.gcd A B=Nat.gcd a b):=hgc;rcases q0S hB with ⟨rfl,pa,pc,rfl⟩|⟨hb1,hb2,bb,oo,cc,rfl,hcc,hbb,hcell⟩|⟨kG,bb,oo,k,cc,rfl,hbb,hbk,hbk2⟩
   ·have HE:Hid (A=Nat.gcd a b):=by show A=Nat.gcd a b;rw[← hgc,Nat.gcd_zero_right]
    clear hA hB hle hpos hA2 hgc jl;go_wp2_with fail;go_ret;exact⟨_,rfl,hG,by rw[← HE.out];exact HA.out⟩
   ·have HD:Hid _:=q1E wr u0 A B K (by omega) hA hA2 hb1 hb2;have Du:Hid (0<B):=hb1;have HXB:Hid (B<18446744073709551616):=hb2;have qA:Hid (A%B<18446744073709551616):=Nat.lt_trans (Nat.mod_lt _ hb1) hb2;have HG2:Hid (Nat.gcd B (A%B)=Nat.gcd a b):=by show Nat.gcd B (A%B)=Nat.gcd a b;rw[Nat.gcd_comm B (A%B),← Nat.gcd_rec,Nat.gcd_comm];exact hgc
    clear hB hle hpos hA2 hgc jl hb1 hb2 hA HA;go_wp2_with fail;refine q00 HD.out ?_;intro e w2 hs;obtain⟨v2,rfl,g2,-⟩:=hs;have hG1:=G.trans hG g2;obtain⟨X0,hX0⟩:∃ X0,X0=B:=⟨_,rfl⟩;obtain⟨Y0,hY0⟩:∃ Y0,Y0=A%B:=⟨_,rfl⟩;rw[← hY0] at qA HG2 ⊢;rw[← hX0] at Du HXB HG2;have jl:Hid (Nat.gcd X0 Y0=Nat.gcd a b):=HG2.out;clear HD hG g2 hY0 HG2;go_wp2_with fail;rw[← hX0];clear hcell hX0
    go_loopw [5,7] (fun vx vy wr=>∃ X Y:Nat,vx= .int .u64 X∧vy= .int .u64 Y∧0<X∧X<18446744073709551616∧Y<18446744073709551616∧Nat.gcd X Y=Nat.gcd a b∧G w wr) (fun _ vy _=>(intOf vy).toNat)
    case atStart=>exact⟨X0,Y0,rfl,rfl,Du.out,HXB.out,qA.out,jl.out,hG1⟩
    case round=>
     obtain⟨X,Y,rfl,rfl,JB,hX,hY,hgc,hG2⟩:=hrel;have jB:Hid (Nat.gcd X Y=Nat.gcd a b):=hgc;have Iw:(X:Int)≤18446744073709551615:=by omega
     have Iy:(Y:Int)≤18446744073709551615:=by omega
     clear hgc hG1;by_cases hY0:0<Y
     ·have wz:(1:Int)≤Y:=by omega
      have yH:Y≠0:=by omega
      have Iz:decide (0<Y)=true:=by simpa using hY0
      have hyn:((Y:Int)==0)=false:=by simp;omega
      obtain⟨Z,hZ,hZ1,hZ2⟩:∃ Z:Nat,Z=X%Y∧(X:Int)%Y=Z∧Z<Y:=⟨X%Y,rfl,by rw[← Int.natCast_emod],Nat.mod_lt _ hY0⟩;have yI:(X:Int).tmod Y=Z:=by rw[Int.tmod_eq_emod_of_nonneg (by omega)];exact hZ1
      have uA:Hid (Nat.gcd Y Z=Nat.gcd a b):=by show Nat.gcd Y Z=Nat.gcd a b;rw[hZ,Nat.gcd_comm Y (X%Y),← Nat.gcd_rec,Nat.gcd_comm];exact jB.out
      have HZ2:Hid (Z<Y):=hZ2;have yJ:Hid (Y<18446744073709551616):=hY;have JC:Hid (0<Y):=hY0;have yK:Z<18446744073709551616:=by omega
      clear hZ hX hY hZ2;go_wp2_with fail;refine q0f (by kernel_rfl) (by kernel_rfl) ?_;intro W hW;clear hW
      repeat (go_big_quiet_step (fail))
      refine wpQuiet_nil ?_;intro w5 mG;have hG3:=G.trans hG2 mG;clear mG;go_wp2_with fail
      try simp only[hZ1]
      go_roundw
      case rel=>exact⟨Y,Z,rfl,by first|rfl|(rw[hZ1])|(rw[yI]),JC.out,yJ.out,yK,uA.out,hG3⟩
      case measure=>have:=HZ2.out;simp only[intOf];omega
     ·obtain rfl:Y=0:=by omega
      have hgx:X=Nat.gcd a b:=by rw[← jB.out,Nat.gcd_zero_right]
      have ry:Hid (X=Nat.gcd a b):=hgx;have HN:Hid (∀ w1:World,Num (w1.alloc (.cells #[.int .u64 (X:Int)] 85)) (.slice (some ⟨w1.heap.size,0,none⟩) 1 1) X):=fun w1=>q1J hX (by omega);clear hX hY hgx JB;go_wp2_with fail;go_ret;exact⟨_,rfl,G.alloc hG2 _,by rw[← ry.out];exact HN.out _⟩
   ·have HN:Hid _:=q6v wr u0 _ A B K hK hK1 hA hB hA2 hle kG;have hk2:decide ((1:Int)<(k:Int)+2)=true:=by simp;omega
    have hmu:numV wr (.slice (some ⟨bb,oo,none⟩) (k+2) cc)=B:=q1O hB;have yF:Hid _:=hmu;have nX:Hid (B≤A∧A<2^(64*K)):=⟨hle,hA2⟩;clear hA hB hle hpos hA2 hgc kG hbk hbk2 hmu;go_wp2_with fail;refine q00 HN.out ?_;intro e w2 hs;obtain⟨X,Y,x,y,rfl,g2,hx,hy,Dv,Dw,hg2⟩:=hs;have HX:Hid (Num w2 x X):=hx;have HY:Hid (Num w2 y Y):=hy;have HR:Hid (Y<X∧X≤B∧Nat.gcd X Y=Nat.gcd A B):=⟨Dv,Dw,hg2⟩;have hG2:=G.trans hG g2;clear hx hy Dv Dw hg2 HN g2 hG;go_wp2_with fail
    go_roundw
    case rel=>
     obtain⟨r1,r2,r3⟩:=HR.out;obtain⟨l1,l2⟩:=nX.out;exact⟨X,Y,HX.out,HY.out,by omega,by omega,by omega,r3.trans jl.out,hG2⟩
    case measure=>
     obtain⟨r1,r2,r3⟩:=HR.out;have h1:=q1O HY.out;have h2:=yF.out;show numV w2 y<numV wr _;rw[h1,h2];omega
theorem q87 (j k:Nat):Nat.Coprime (2*j+1) (2^k):=by
 refine Nat.Coprime.pow_right k ?_;show Nat.gcd (2*j+1) 2=1;rw[Nat.gcd_comm,Nat.gcd_rec,show (2*j+1)%2=1 from by omega];rfl
theorem q3b (p q i d:Nat):Nat.gcd ((2*p+1)*2^i) ((2*q+1)*2^(i+d))=Nat.gcd (2*p+1) (2*q+1)*2^i:=by
 rw[Nat.pow_add,show (2*q+1)*(2^i*2^d)=(2*q+1)*2^d*2^i from by ac_rfl,Nat.gcd_mul_right]
 congr 1
 exact Nat.Coprime.gcd_mul_right_cancel_right _ (q87 p d).symm
theorem q8E (p q i j:Nat):Nat.gcd ((2*p+1)*2^i) ((2*q+1)*2^j)=Nat.gcd (2*p+1) (2*q+1)*2^min i j:=by
 rcases Nat.le_total i j with h|h
 ·obtain⟨d,rfl⟩:∃ d,j=i+d:=⟨j-i,by omega⟩;rw[Nat.min_eq_left h];exact q3b p q i d
 ·obtain⟨d,rfl⟩:∃ d,i=j+d:=⟨i-j,by omega⟩;rw[Nat.min_eq_right h,Nat.gcd_comm,q3b q p j d,Nat.gcd_comm]
theorem q6u {w:World} {b:Nat} {e:TypeId} (hb:b=w.heap.size):Num (w.alloc (.cells #[.int .u64 1] e)) (.slice (some ⟨b,0,none⟩) 1 1) 1:=by
 subst hb;exact q1J (d:=1) (by decide) (by decide)
set_option maxRecDepth 10000 in
theorem q1U (w:World) (va vb:Value) (a b K:Nat) (hK:K≤150000) (hK1:1≤K) (ht:Tab w) (ha:Num w va a) (hb:Num w vb b) (ha2:a<2^(64*K)) (hb2:b<2^(64*K)):
  Calls Tryz.prog 56 #[va,vb] w (q0e w (Nat.gcd a b)):=by
 have HA:Hid (Num w va a):=ha;have HB:Hid (Num w vb b):=hb;rcases Nat.eq_zero_or_pos a with ha0|ha0
 ·subst ha0;rcases q0S ha with ⟨-,pa,pc,rfl⟩|⟨h,-⟩|⟨h,-⟩
  ·rw[Nat.gcd_zero_left];clear ha hb ha2 hb2 ht;go_enter Tryz.func56,Tryz.ntmps56;go_wp2_with fail;go_ret;exact⟨_,rfl,G.refl _,HB.out⟩
  ·omega
  ·omega
 ·have hla:∃ pa na ca,va= .slice pa na ca∧(((na:Nat):Int)==0)=false∧0<na:=by
   rcases q0S ha with ⟨h,-⟩|⟨-,-,b,o,c,rfl,-⟩|⟨-,b,o,k,c,rfl,-⟩
   ·omega
   ·exact⟨_,1,c,rfl,rfl,by omega⟩
   ·exact⟨_,k+2,c,rfl,by simp;omega,by omega⟩
  rcases Nat.eq_zero_or_pos b with hb0|hb0
  ·subst hb0;rcases q0S hb with ⟨-,pb,pc,rfl⟩|⟨h,-⟩|⟨h,-⟩
   ·rw[Nat.gcd_zero_right];obtain⟨pa,na,ca,rfl,hna,-⟩:=hla;clear ha hb ha2 hb2 ht ha0;go_enter Tryz.func56,Tryz.ntmps56;go_wp2_with fail;go_ret;exact⟨_,rfl,G.refl _,HA.out⟩
   ·omega
   ·omega
  ·have hlb:∃ pa na ca,vb= .slice pa na ca∧(((na:Nat):Int)==0)=false∧0<na:=by
    rcases q0S hb with ⟨h,-⟩|⟨-,-,b,o,c,rfl,-⟩|⟨-,b,o,k,c,rfl,-⟩
    ·omega
    ·exact⟨_,1,c,rfl,rfl,by omega⟩
    ·exact⟨_,k+2,c,rfl,by simp;omega,by omega⟩
   obtain⟨p,i,hp⟩:=q38 a ha0;obtain⟨q,j,hq⟩:=q38 b hb0;have hi:i<64*K:=by
    have:2^i≤a:=by rw[hp];exact Nat.le_mul_of_pos_left _ (by omega)
    exact(Nat.pow_lt_pow_iff_right (by omega:1<2)).1 (Nat.lt_of_le_of_lt this ha2)
   have hj:j<64*K:=by
    have:2^j≤b:=by rw[hq];exact Nat.le_mul_of_pos_left _ (by omega)
    exact(Nat.pow_lt_pow_iff_right (by omega:1<2)).1 (Nat.lt_of_le_of_lt this hb2)
   have HT1:Hid _:=q35 w va a p i K (by omega) ht ha ha2 hp;have HT2:Hid (∀ w1,G w w1→_):=fun w1 g=>q35 w1 vb b q j K (by omega) (ht.G g) (hb.G g) hb2 hq;have iZ:Hid (∀ w1,G w w1→Calls Tryz.prog 127 #[va] w1 fun e w'=>e= .returned (.int .i64 (blen a))∧G w1 w'):=fun w1 g=>q2C w1 va a K (by omega) (ha.G g) ha2;have HS2:Hid (∀ w1,G w w1→Calls Tryz.prog 127 #[vb] w1 fun e w'=>e= .returned (.int .i64 (blen b))∧G w1 w'):=fun w1 g=>q2C w1 vb b K (by omega) (hb.G g) hb2;have hae:=q4s (p:=p) (n:=i);have hbe:=q4s (p:=q) (n:=j);rw[← hp] at hae;rw[← hq] at hbe;have Dt:a/2^i=2*p+1:=by rw[hp,Nat.mul_div_cancel _ (Nat.two_pow_pos i)]
   have hb3:b/2^j=2*q+1:=by rw[hq,Nat.mul_div_cancel _ (Nat.two_pow_pos j)]
   have hap:2*p+1≤a:=by rw[← Dt];exact Nat.div_le_self _ _
   have hbq:2*q+1≤b:=by rw[← hb3];exact Nat.div_le_self _ _
   obtain⟨m,hm⟩:∃ m,m=min i j:=⟨_,rfl⟩;have hge:Nat.gcd (2*p+1) (2*q+1)<2^(64*K):=by
    have:=Nat.gcd_le_left (2*q+1) (show 0<2*p+1 by omega);omega
   have HL:Hid (∀ w1 x,Num w1 x (Nat.gcd (2*p+1) (2*q+1))→Calls Tryz.prog 112 #[x,.int .i64 (m:Int)] w1 (q0e w1 (Nat.gcd a b))):=fun w1 x hx=>by
    have h:=q21 w1 x _ m K (by omega) (by omega) hx hge;rw[hm,← q8E,← hp,← hq] at h;rw[hm];exact h
   have JA:Hid (min (i:Int) j=(m:Int)):=by show min (i:Int) j=(m:Int);omega
   obtain⟨pa,na,ca,rfl,hna,-⟩:=hla;obtain⟨pb,nb,cb,rfl,hnb,-⟩:=hlb;have hi2:(i:Int)<9600000:=by omega
   have hj2:(j:Int)<9600000:=by omega
   by_cases hp0:p=0
   ·have t1:(((i:Int)+1)==(blen a:Int))=true:=by have:=hae.2 hp0;simp;omega
    rw[hp0,Nat.mul_zero,Nat.zero_add,Nat.gcd_one_left] at HL;generalize blen a=s at *;clear ha hb ha2 hb2 ht ha0 hb0 hp hq hi hj Dt hb3 hap hbq hge HA HB hae hbe HS2 hp0;go_enter Tryz.func56,Tryz.ntmps56;go_wp2_with fail;refine q00 HT1.out ?_;rintro e w1 ⟨rfl,g1⟩;have HT:Hid _:=HT2.out w1 g1;clear HT1 HT2;go_wp2_with fail;refine q00 HT.out ?_;rintro e w2 ⟨rfl,g2⟩;have g12:=G.trans g1 g2;have HS:Hid _:=iZ.out w2 g12;clear HT iZ g1 g2;go_wp2_with fail;refine q00 HS.out ?_;rintro e w3 ⟨rfl,g3⟩;have g13:=G.trans g12 g3;clear HS g12 g3;go_wp2_with fail;have wR:Hid _:=HL.out _ _ (q6u (w:=w3) (e:=85) rfl);have g15:=G.alloc g13 (.cells #[.int .u64 1] 85);clear HL g13;rw[JA.out];refine q00 wR.out ?_;intro e w8 hs;obtain⟨r,rfl,g6,hr⟩:=hs;have HN:Hid (Num w8 r (Nat.gcd a b)):=hr;clear wR hr;go_wp2_with fail;go_ret;exact⟨_,rfl,G.trans g15 g6,HN.out⟩
   by_cases hq0:q=0
   ·have t1:(((i:Int)+1)==(blen a:Int))=false:=by have:=fun h=>hp0 (hae.1 h);simp;omega
    have t2:(((j:Int)+1)==(blen b:Int))=true:=by have:=hbe.2 hq0;simp;omega
    rw[hq0,Nat.mul_zero,Nat.zero_add,Nat.gcd_one_right] at HL;generalize blen a=s at *;generalize blen b=s2 at *;clear ha hb ha2 hb2 ht ha0 hb0 hp hq hi hj Dt hb3 hap hbq hge HA HB hae hbe hp0 hq0;go_enter Tryz.func56,Tryz.ntmps56;go_wp2_with fail;refine q00 HT1.out ?_;rintro e w1 ⟨rfl,g1⟩;have HT:Hid _:=HT2.out w1 g1;clear HT1 HT2;go_wp2_with fail;refine q00 HT.out ?_;rintro e w2 ⟨rfl,g2⟩;have g12:=G.trans g1 g2;have HS:Hid _:=iZ.out w2 g12;clear HT iZ g1 g2;go_wp2_with fail;refine q00 HS.out ?_;rintro e w3 ⟨rfl,g3⟩;have g13:=G.trans g12 g3;clear HS g12 g3;go_wp2_with fail;refine q00 (HS2.out w3 g13) ?_;rintro e w4 ⟨rfl,g4⟩;have g12:=G.trans g13 g4;clear HS2 g13 g4;go_wp2_with fail;have wR:Hid _:=HL.out _ _ (q6u (w:=w4) (e:=85) rfl);have g15:=G.alloc g12 (.cells #[.int .u64 1] 85);clear HL g12;rw[JA.out];refine q00 wR.out ?_;intro e w8 hs;obtain⟨r,rfl,g6,hr⟩:=hs;have HN:Hid (Num w8 r (Nat.gcd a b)):=hr;clear wR hr;go_wp2_with fail;go_ret;exact⟨_,rfl,G.trans g15 g6,HN.out⟩
   have t1:(((i:Int)+1)==(blen a:Int))=false:=by have:=fun h=>hp0 (hae.1 h);simp;omega
   have t2:(((j:Int)+1)==(blen b:Int))=false:=by have:=fun h=>hq0 (hbe.1 h);simp;omega
   have HR1:Hid (∀ w1,G w w1→Calls Tryz.prog 129 #[.slice pa na ca,.int .i64 (i:Int)] w1 (q0e w1 (2*p+1))):=fun w1 g=>by
    have h:=q1b w1 _ a i K (by omega) (by omega) (ha.G g) ha2;rw[Dt] at h;exact h
   have HR2:Hid (∀ w1,G w w1→Calls Tryz.prog 129 #[.slice pb nb cb,.int .i64 (j:Int)] w1 (q0e w1 (2*q+1))):=fun w1 g=>by
    have h:=q1b w1 _ b j K (by omega) (by omega) (hb.G g) hb2;rw[hb3] at h;exact h
   have HE:Hid (∀ w1 x y,Num w1 x (2*p+1)→Num w1 y (2*q+1)→_):=fun w1 x y hx hy=>q9l w1 x y (2*p+1) (2*q+1) K (by omega) hK1 hx hy (by omega) (by omega) (by omega) (by omega);generalize blen a=s at *;generalize blen b=s2 at *;clear ha hb ha2 hb2 ht ha0 hb0 hp hq hi hj Dt hb3 hap hbq hge HA HB hae hbe hp0 hq0;generalize Nat.gcd (2*p+1) (2*q+1)=gg at *;generalize 2*p+1=P at *;generalize 2*q+1=Q at *;go_enter Tryz.func56,Tryz.ntmps56;go_wp2_with fail;refine q00 HT1.out ?_;rintro e w1 ⟨rfl,g1⟩;have HT:Hid _:=HT2.out w1 g1;clear HT1 HT2;go_wp2_with fail;refine q00 HT.out ?_;rintro e w2 ⟨rfl,g2⟩;have g12:=G.trans g1 g2;have HS:Hid _:=iZ.out w2 g12;clear HT iZ g1 g2;go_wp2_with fail;refine q00 HS.out ?_;rintro e w3 ⟨rfl,g3⟩;have g13:=G.trans g12 g3;clear HS g12 g3;go_wp2_with fail;refine q00 (HS2.out w3 g13) ?_;rintro e w4 ⟨rfl,g4⟩;have g12:=G.trans g13 g4;clear HS2 g13 g4;go_wp2_with fail;have HR:Hid _:=HR1.out w4 g12;clear HR1;refine q00 HR.out ?_;intro e w5 hs;obtain⟨x,rfl,g3,hx⟩:=hs;have g13:=G.trans g12 g3;have HX:Hid (Num w5 x P):=hx;have Nz:Hid _:=HR2.out w5 g13;clear HR HR2 g12 g3 hx;go_wp2_with fail;refine q00 Nz.out ?_;intro e w6 hs;obtain⟨y,rfl,g4,hy⟩:=hs;have NA:Hid _:=HE.out w6 x y (HX.out.G g4) hy;have g14:=G.trans g13 g4;clear Nz HE HX hy g13 g4;go_wp2_with fail;refine q00 NA.out ?_;intro e w7 hs;obtain⟨z,rfl,g5,hz⟩:=hs;have wR:Hid _:=HL.out w7 z hz;have g15:=G.trans g14 g5;clear NA HL hz g14 g5;go_wp2_with fail;rw[JA.out];refine q00 wR.out ?_;intro e w8 hs
   obtain⟨r,rfl,g6,hr⟩:=hs;have HN:Hid (Num w8 r (Nat.gcd a b)):=hr;clear wR hr;go_wp2_with fail;go_ret;exact⟨_,rfl,G.trans g15 g6,HN.out⟩
def sgn (s:Bool) (n:Nat):Int:=if s then -(n:Int) else n
/-- A sign and a size; of 0 any sign. -/
def WholeS (w:World) (v:Value) (s:Bool) (n:Nat):Prop:=∃ a k c,v= .agg #[.bool s,.slice a k c]∧Num w (.slice a k c) n
/-- v is the whole number z. -/
def WholeIs (w:World) (v:Value) (z:Int):Prop:=WholeS w v (decide (z<0)) z.natAbs
theorem WholeS.G {w w':World} {v:Value} {s:Bool} {n:Nat} (h:WholeS w v s n) (g:G w w'):WholeS w' v s n:=by
 obtain⟨a,k,c,e,hm⟩:=h;exact⟨a,k,c,e,hm.G g⟩
theorem WholeIs.G {w w':World} {v:Value} {z:Int} (h:WholeIs w v z) (g:G w w'):WholeIs w' v z:=WholeS.G h g
/-- A block without words isn't one that a number lies in. -/
def q2E:Value→Prop
 | .int _ _=>False
 |_=>True
theorem q3c {w:World} {v:Value} {n b:Nat} {l:List Value} (h:Num w v n) (r:Rec w b l) (hl:∀ x∈l,q2E x):∀ w':World,(∀ i k,i≠b→w'.cell? ⟨i,k,none⟩=w.cell? ⟨i,k,none⟩)→w.heap.size≤w'.heap.size→Num w' v n:=by
 intro w' hc hs;obtain⟨m,hm,hcm,hv⟩:=h;refine⟨m,?_,hcm,hv⟩;rcases Sl.cases hm with ⟨rfl,a,c,rfl⟩|⟨hne,b2,o,c,rfl,hcc,hb,hr⟩
 ·exact⟨hm.1,Or.inl ⟨rfl,a,c,rfl⟩⟩
 ·have hbb:b2≠b:=by
   intro e;subst e;have h0:=hr 0 (List.length_pos_iff.2 hne);rw[r.cell] at h0;have h1:=hl _ (List.mem_of_getElem? h0);exact h1
  exact⟨hm.1,Or.inr ⟨b2,o,c,rfl,hcc,by omega,fun i hi=>by rw[hc _ _ hbb];exact hr i hi⟩⟩
theorem q1P {w:World} {v:Value} {n b:Nat} {x y u1 u2:Value} (h:Num w v n) (r:Rec w b [x,y]) (hx:q2E x) (hy:q2E y):Num ((w.setCell ⟨b,0,none⟩ u1).setCell ⟨b,1,none⟩ u2) v n:=
 q3c h r (by intro z hz;simp at hz;rcases hz with rfl|rfl<;>assumption) _ (fun i k hi=>by
  rw[World.cell?_setCell_other _ _ _ _ (by intro e;injection e with e1;exact hi e1.symm),World.cell?_setCell_other _ _ _ _ (by intro e;injection e with e1;exact hi e1.symm)]) (by simp [World.setCell])
theorem q0p {w:World} {v:Value} {n b:Nat} {x y z u1 u2 u3:Value} (h:Num w v n) (r:Rec w b [x,y,z]) (hx:q2E x) (hy:q2E y) (hz:q2E z):Num (((w.setCell ⟨b,0,none⟩ u1).setCell ⟨b,1,none⟩ u2).setCell ⟨b,2,none⟩ u3) v n:=
 q3c h r (by intro z hz;simp at hz;rcases hz with rfl|rfl|rfl<;>assumption) _ (fun i k hi=>by
  rw[World.cell?_setCell_other _ _ _ _ (by intro e;injection e with e1;exact hi e1.symm),World.cell?_setCell_other _ _ _ _ (by intro e;injection e with e1;exact hi e1.symm),World.cell?_setCell_other _ _ _ _ (by intro e;injection e with e1;exact hi e1.symm)]) (by simp [World.setCell])
theorem q25 (z:Int):sgn (decide (z<0)) z.natAbs=z:=by
 unfold sgn;by_cases h:z<0<;>simp [h]<;>omega
theorem q2s (s:Bool) (n:Nat):(sgn s n).natAbs=n:=by unfold sgn;cases s<;>simp
theorem q8b (s:Bool) (n:Nat):decide (sgn s n<0)=(s&&decide (0<n)):=by
 unfold sgn;cases s<;>simp
/-- A call hands back the whole number z. -/
def q0N (w:World) (z:Int) (e:Ending) (w':World):Prop:=∃ v,e= .returned v∧G w w'∧WholeIs w' v z
/-- The length of a slice tells whether its number is 0. -/
theorem q1F {w:World} {v:Value} {n:Nat} (h:Num w v n):∃ a k c,v= .slice a k c∧(k=0↔n=0)∧decide (0<k)=decide (0<n)∧(((k:Nat):Int)==0)=decide (n=0):=by
 rcases q0S h with ⟨rfl,a,c,rfl⟩|⟨h1,-,b,o,c,rfl,-⟩|⟨h1,b,o,k,c,rfl,-⟩
 ·exact⟨a,0,c,rfl,by omega,rfl,rfl⟩
 ·exact⟨_,1,c,rfl,by omega,by rw[decide_eq_true h1];rfl,by rw[decide_eq_false (by omega:¬ n=0)];rfl⟩
 ·exact⟨_,k+2,c,rfl,by omega,by rw[decide_eq_true (by omega:0<n)];simp,by rw[decide_eq_false (by omega:¬ n=0)];simp;omega⟩
theorem q1a (w:World) (m:Value) (s:Bool) (n:Nat) (hm:Num w m n):
  Calls Tryz.prog 47 #[.bool s,m] w (q0N w (sgn s n)):=by
 obtain⟨a,k,c,rfl,-,hk,-⟩:=q1F hm;have HN:Hid (Num w (.slice a k c) (sgn s n).natAbs):=by show Num w _ _;rw[q2s];exact hm
 have HS:Hid (decide (sgn s n<0)=(s&&decide (0<n))):=q8b s n;generalize sgn s n=z at *;generalize decide (0<n)=p at *;clear hm;cases s
 ·go_enter Tryz.func47,Tryz.ntmps47;go_wp2_with fail;refine bodyPost_ret (v:= .agg #[.bool false,.slice a k c]) (by simp [results,Tryz.results47,go_sem, *]) rfl ?_;exact⟨_,rfl,(G.refl _).alloc _,a,k,c,by rw[HS.out];rfl,HN.out.G ((G.refl _).alloc _)⟩
 ·go_enter Tryz.func47,Tryz.ntmps47;go_wp2_with fail;refine bodyPost_ret (v:= .agg #[.bool (decide (0<k)),.slice a k c]) (by simp [results,Tryz.results47,go_sem, *]) rfl ?_;exact⟨_,rfl,(G.refl _).alloc _,a,k,c,by rw[HS.out,hk];rfl,HN.out.G ((G.refl _).alloc _)⟩
theorem q8n (w:World) (v:Value) (z:Int) (h:WholeIs w v z):
  Calls Tryz.prog 113 #[v] w fun e w'=>e= .returned (.int .i64 z.sign)∧G w w':=by
 obtain⟨a,k,c,rfl,hm⟩:=h;obtain⟨a2,k2,c2,e,hk1,-,hk⟩:=q1F hm;injection e with e1 e2 e3;subst e1;subst e2;subst e3;clear hm;by_cases h0:z=0
 ·subst h0;have hk0:k=0:=hk1.2 rfl;subst hk0;go_enter Tryz.func113,Tryz.ntmps113;go_wp2_with fail;go_ret;exact⟨rfl,(G.refl _).alloc _⟩
 ·have hk2:((k:Int)==0)=false:=by rw[hk];simp;omega
  by_cases hz:z<0
  ·have hd:decide (z<0)=true:=decide_eq_true hz;have hs:z.sign= -1:=Int.sign_eq_neg_one_of_neg hz;rw[hs,hd];clear hk hk1 h0 hz hd hs;go_enter Tryz.func113,Tryz.ntmps113;go_wp2_with fail;go_ret;exact⟨rfl,(G.refl _).alloc _⟩
  ·have hd:decide (z<0)=false:=decide_eq_false hz;have hs:z.sign=1:=Int.sign_eq_one_of_pos (by omega);rw[hs,hd];clear hk hk1 h0 hz hd hs;go_enter Tryz.func113,Tryz.ntmps113;go_wp2_with fail;go_ret;exact⟨rfl,(G.refl _).alloc _⟩
end Go.Proofs.YtbfjihniphldaaaGreatDoor.EN
