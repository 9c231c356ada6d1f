/- What is proved here: contracts of package exact: products of fractions, over this seat's translation.
What is proved here: contracts of package exact: sign, opposite, quotient of fractions, over this seat's translation.
What is proved here: contracts of package exact: comparison, powers of two, sums of fractions, over this seat's translation.
What is proved here: contracts of package exact: a fraction's front, over this seat's translation.
What is proved here: contracts of package exact: texts of small numbers, over this seat's translation.
What is proved here: contracts of package exact: powers of ten, over this seat's translation.
What is proved here: contracts of package exact: the greatest whole number that isn't above a fraction, over this seat's translation. -/
import Derived.Test.YtfnkkkcojnffdaaGreatDoorC23
import Derived.Test.YtfnkkkcojnffdaaGreatDoorC1
import Derived.Test.YtfnkkkcojnffdaaGreatDoorC8
import Derived.Test.YtfnkkkcojnffdaaGreatDoorC3
import Derived.Test.YtfnkkkcojnffdaaGreatDoorC22
import Derived.Test.YtfnkkkcojnffdaaGreatDoorC31
import Derived.Test.YtfnkkkcojnffdaaGreatDoorC17
import Derived.Test.YtfnkkkcojnffdaaGreatDoorC19
import Derived.Handy
import Derived.Test.YtfnkkkcojnffdaaGreatDoorC30
import Derived.Test.YtfnkkkcojnffdaaGreatDoorC2
namespace Go.Proofs.YtfnkkkcojnffdaaGreatDoor.EN
open Go.ChangeShapes Go.WideShapes Go.ChangeAt Go.RowKit
/-- How great a fraction's parts are. -/
def QB (q:Rat) (K:Nat):Prop:=q.num.natAbs<2^(64*K)∧q.den<2^(64*K)
theorem QB.mono {q:Rat} {K L:Nat} (h:QB q K) (A:K≤L):QB q L:=
 ⟨ad h.1 (ak dT dT),ad h.2 (ak dT dT)⟩
theorem gS {a b K L:Nat} (A:a<2^(64*K)) (hb:b<2^(64*L)):a*b<2^(64*(K+L)):=by
 rw[show 64*(K+L)=64*K+64*L from by omega,ah];exact dj A hb
theorem nm {a b:Nat} (h:0<b):Nat.gcd (a/Nat.gcd a b) (b/Nat.gcd a b)=1:=Nat.gcd_div_gcd_div_gcd_of_pos_right h
theorem nq {a b c d:Nat} (h:Nat.gcd a b=1) (A:c∣a) (B:d∣b):Nat.gcd c d=1:=
 Nat.eq_one_of_dvd_one (h▸Nat.dvd_gcd (Nat.dvd_trans (cC c d) A) (Nat.dvd_trans (bQ c d) B))
theorem py {a c e b:Nat} (h1:Nat.gcd a e=1) (h2:Nat.gcd a b=1) (h3:Nat.gcd c e=1) (A:Nat.gcd c b=1):Nat.gcd (a*c) (e*b)=1:=
 Nat.Coprime.mul_left (Nat.Coprime.mul_right h1 h2) (Nat.Coprime.mul_right h3 A)
/-- What a product comes to, in lowest terms. -/
theorem q0G (x y:Rat):Nat.gcd (x.num.natAbs/Nat.gcd x.num.natAbs y.den*(y.num.natAbs/Nat.gcd y.num.natAbs x.den)) (x.den/Nat.gcd y.num.natAbs x.den*(y.den/Nat.gcd x.num.natAbs y.den))=1:=by
 have C:=x.reduced;have D:=y.reduced;have A:=x.den_pos;have B:=y.den_pos;refine py ?_ (nm B) (nm A) ?_
 ·exact nq C (Nat.div_dvd_of_dvd (cC _ _)) (Nat.div_dvd_of_dvd (bQ _ _))
 ·exact nq D (Nat.div_dvd_of_dvd (cC _ _)) (Nat.div_dvd_of_dvd (bQ _ _))
theorem q0P (s t:Bool) (n m:Nat):sgn (s != t) (n*m)=sgn s n*sgn t m:=by
 unfold sgn;cases s<;>cases t<;>simp [Int.neg_mul,Int.mul_neg]
theorem q0I (x y:Rat):x*y=mkRat (sgn (decide (x.num<0) != decide (y.num<0)) (x.num.natAbs/Nat.gcd x.num.natAbs y.den*(y.num.natAbs/Nat.gcd y.num.natAbs x.den))) (x.den/Nat.gcd y.num.natAbs x.den*(y.den/Nat.gcd x.num.natAbs y.den)):=by
 have C:=x.den_pos;have D:=y.den_pos;rw[Rat.mul_def'];obtain⟨a,E⟩:=cC x.num.natAbs y.den;obtain⟨b,hb⟩:=bQ x.num.natAbs y.den;obtain⟨c,F⟩:=cC y.num.natAbs x.den;obtain⟨e,I⟩:=bQ y.num.natAbs x.den;have J:0<Nat.gcd x.num.natAbs y.den:=cO _ D;have K:0<Nat.gcd y.num.natAbs x.den:=cO _ C;generalize Nat.gcd x.num.natAbs y.den=g at *;generalize Nat.gcd y.num.natAbs x.den=h at *;have M:x.num.natAbs/g=a:=by rw[E];exact dt _ J
 have N:y.den/g=b:=by rw[hb];exact dt _ J
 have O:y.num.natAbs/h=c:=by rw[F];exact dt _ K
 have R:x.den/h=e:=by rw[I];exact dt _ K
 rw[M,N,O,R];have A:b≠0:=by rintro rfl;omega
 have B:e≠0:=by rintro rfl;omega
 rw[Rat.mkRat_eq_iff (ct dT dT) (ct B A)];have S:x.num=sgn (decide (x.num<0)) (g*a):=by rw[← E];exact(nL _).symm
 have U:y.num=sgn (decide (y.num<0)) (h*c):=by rw[← F];exact(nL _).symm
 generalize decide (x.num<0)=s at *;generalize decide (y.num<0)=t at *;rw[S,U,hb,I,← q0P];clear E hb F I J K M N O R S U A B C D;have W:∀ (r:Bool) (p q k l:Nat),p*k=q*l→sgn r p*(k:Int)=sgn r q*(l:Int):=by
  intro r p q k l L;have h1:(p:Int)*k=(q:Int)*l:=by rw[← aV,L,aV]
  unfold sgn;cases r
  ·exact h1
  ·simp only[if_true,Int.neg_mul,h1]
 exact W _ _ _ _ _ (by ac_rfl)
theorem ni (w:World) (v:Value) (q:Rat) (h:QIs w v q):
  Calls Tryz.prog 59 #[v] w (ef w q.den):=by
 obtain⟨a,k,c,K,E,c',rfl,h1,h2⟩:=h;obtain⟨a2,U,S,e,A,-,C⟩:=fp h2;injection e with L M N;subst L;subst M;subst N;have O:=q.den_pos;obtain⟨t,I⟩:∃ t,t=decide (q.num<0):=⟨_,rfl⟩;rw[← I];clear I;by_cases B:q.den=1
 ·have D:E=0:=A.2 (by unfold fQ;rw[if_pos B]);subst D;rw[B];go_enter Tryz.func59,Tryz.ntmps59;go_wp2_with fail;go_ret;exact⟨_,rfl,((af _).alloc _).alloc _,kz eO⟩
 ·have F:fQ q.den=q.den:=by unfold fQ;rw[if_neg B]
  rw[F] at h2 C;have R:((E:Int)==0)=false:=by rw[C];simp;omega
  have J:Hid (Num w (.slice K E c') q.den):=h2;clear C A B F h1 O h2;go_enter Tryz.func59,Tryz.ntmps59;go_wp2_with fail;go_ret;exact⟨_,rfl,(af _).alloc _,J.out.G ((af _).alloc _)⟩
set_option maxHeartbeats 1000000 in
theorem q1J (w:World) (v u:Value) (x y:Rat) (K:Nat) (hK:K≤100000) (S:1≤K) (m:Tab w) (hx:QIs w v x) (hy:QIs w u y) (bx:QB x K) (ia:QB y K):
  Calls Tryz.prog 17 #[v,u] w (RetQ w (x*y)):=by
 have X:Hid (∀ E,G w E→_):=fun E g=>ni E v x (hx.G g);have Y:Hid (∀ E,G w E→_):=fun E g=>ni E u y (hy.G g);have i:=q0G x y;have O:=q0I x y;obtain⟨a,k,c,a',k',c',rfl,em,lk⟩:=hx;obtain⟨b,j,e,b',j',e',rfl,ep,ll⟩:=hy;obtain⟨o,Z⟩:=bx;obtain⟨al,d⟩:=ia;have ci:=x.den_pos;have cl:=y.den_pos;obtain⟨g,hg⟩:∃ g,g=Nat.gcd x.num.natAbs y.den:=⟨_,rfl⟩;obtain⟨h,hh⟩:∃ h,h=Nat.gcd y.num.natAbs x.den:=⟨_,rfl⟩;have cd:0<g:=by rw[hg];exact cO _ cl
 have ce:0<h:=by rw[hh];exact cO _ ci
 have eb:g<2^(64*K):=aG (by rw[hg];exact Nat.gcd_le_right _ cl) d;have ec:h<2^(64*K):=aG (by rw[hh];exact Nat.gcd_le_right _ ci) Z;have dl:Hid (∀ E F,G w E→Num E F y.den→Calls Tryz.prog 58 #[.slice a k c,F] E (ef E g)):=fun E F g1 h1=>by
  rw[hg];exact im E _ F _ _ K dT S (m.G g1) (em.G g1) h1 o d
 have dq:Hid (∀ E F,G w E→Num E F x.den→Calls Tryz.prog 58 #[.slice b j e,F] E (ef E h)):=fun E F g1 h1=>by
  rw[hh];exact im E _ F _ _ K dT S (m.G g1) (ep.G g1) h1 al Z
 rw[← hg,← hh] at i O;have gm:Hid (∀ E F,G w E→Num E F g→_):=fun E F g1 h1=>kA E (.slice a k c) F _ g K dT S (m.G g1) (em.G g1) h1 o eb cd;have ha:Hid (∀ E F,G w E→Num E F h→_):=fun E F g1 h1=>kA E (.slice b j e) F _ h K dT S (m.G g1) (ep.G g1) h1 al ec ce;have dr:Hid (∀ E F v2,G w E→Num E F x.den→Num E v2 h→_):=fun E F v2 g1 h1 h2=>kA E F v2 _ h K dT S (m.G g1) h1 h2 Z ec ce;have ds:Hid (∀ E F v2,G w E→Num E F y.den→Num E v2 g→_):=fun E F v2 g1 h1 h2=>kA E F v2 _ g K dT S (m.G g1) h1 h2 d eb cd;have q1:x.num.natAbs/g<2^(64*K):=aG (bh _ _) o;have q2:y.num.natAbs/h<2^(64*K):=aG (bh _ _) al;have q3:x.den/h<2^(64*K):=aG (bh _ _) Z;have q4:y.den/g<2^(64*K):=aG (bh _ _) d;have q5:0<x.den/h:=Nat.div_pos (by rw[hh];exact Nat.gcd_le_right _ ci) ce;have q6:0<y.den/g:=Nat.div_pos (by rw[hg];exact Nat.gcd_le_right _ cl) cd;clear hg hh cd ce eb ec o Z al d ci cl lk ll em ep m;obtain⟨s,hs⟩:∃ s,s=decide (x.num<0):=⟨_,rfl⟩;obtain⟨t,ht⟩:∃ t,t=decide (y.num<0):=⟨_,rfl⟩;rw[← hs,← ht] at O;rw[← hs] at X;rw[← ht] at Y;rw[← hs,← ht];clear hs ht;generalize x.num.natAbs/g=A at *;generalize y.num.natAbs/h=B at *;generalize x.den/h=C at *;generalize y.den/g=D at *;have he:Hid (∀ E F v2,Num E F A→Num E v2 B→_):=fun E F v2 h1 h2=>iz E F v2 A B K dT h1 h2 q1 q2;have hf:Hid (∀ E F v2,Num E F C→Num E v2 D→_):=fun E F v2 h1 h2=>iz E F v2 C D K dT h1 h2 q3 q4;have HS:Hid (∀ E F,Num E F (A*B)→_):=fun E F h1=>fF E F (s != t) (A*B) h1
 have HF:Hid (∀ E F v2,WholeIs E F (sgn (s != t) (A*B))→Num E v2 (C*D)→Calls Tryz.prog 48 #[F,v2] E (RetQ E (x*y))):=fun E F v2 h1 h2=>
  gl E F v2 _ (C*D) (K+K) (x*y) h1 h2 (bT q5 q6) (gS q3 q4) (fun _=>by rw[fU];exact i) O
 clear q1 q2 q3 q4 q5 q6 i O;generalize A*B=N at *;generalize C*D=M at *;generalize sgn (s != t) N=z at *;obtain⟨p,hp⟩:∃ p,p=x.den:=⟨_,rfl⟩;obtain⟨r,hr⟩:∃ r,r=y.den:=⟨_,rfl⟩;rw[← hp] at X dq dr;rw[← hr] at Y dl ds;clear hp hr;generalize x*y=q at *;go_enter Tryz.func17,Tryz.ntmps17;go_wp2_with fail;obtain⟨w0,ho,g0,nl,R0,R1,R2⟩:=mg w [.bool s,.slice a k c,.slice a' k' c'] [.bool t,.slice b j e,.slice b' j' e'] [.bool false,.slice none 0 0,.slice none 0 0] 29 29 29;rw[ho];clear ho;refine oW 14 0 [.is (.pointer (some ⟨w.heap.size,0,none⟩)),.is (.pointer (some ⟨w.heap.size,1,none⟩)),.is (.slice a k c),.is (.agg #[.bool t,.slice b j e,.slice b' j' e']),.any (fun v J=>Num J v (r)),.any (fun v J=>Num J v (g)),.is (.pointer (some ⟨w.heap.size+1,0,none⟩)),.is (.pointer (some ⟨w.heap.size+1,1,none⟩)),.is (.slice b j e),.is (.agg #[.bool s,.slice a k c,.slice a' k' c']),.any (fun v J=>Num J v (p)),.any (fun v J=>Num J v (h)),.any (fun v J=>Num J v (g)),.any (fun v J=>Num J v (h))] [some 9,some 10,some 11,some 12,some 13,some 14,some 15,some 16,some 17,some 18,some 19,some 20,some 5,some 6] ?_;intro v4 v5 cn U v12 L A hA;simp only[eY,Act.put,aA,aI,aJ] at hA;subst hA;refine⟨?_,?_⟩
 ·skip
  refine ai rfl ?a1 (ai rfl ?a6 (ai rfl ?a7 (ai rfl ?b0 (ai rfl ?e1 (ai rfl ?e2 (ai rfl ?b1 (ai rfl ?o1_7 (ai rfl ?b2 (ai rfl ?o1_9 (ai rfl ?c2 (ai rfl ?c3 (ai rfl ?c4 (ai rfl ?c5 (Eaches.nil))))))))))))))
  case a1|a6|b1|o1_7=>
   exact oV
  case a7|b0|b2|o1_9=>
   intro W I hD K hK;clear hD;have ⟨ii,io,it⟩:=rc39 R0 I;have ⟨jj,jp,jx⟩:=rc39 R1 I;go_simp;exact hK.out _ _ ⟨_,rfl,af _,rfl⟩
  ·intro W I hD K hK;have hc:=hi9 (Y.out W (aa g0 I));exact kP
  ·intro W I hD K hK;have h4:=kZ v4 4 hD;have hc:=hi9 (dl.out W v4 (aa g0 I) h4);exact kP
  ·intro W I hD K hK;have hc:=hi9 (X.out W (aa g0 I));exact kP
  ·intro W I hD K hK;have ea:=kZ cn 10 hD;have hc:=hi9 (dq.out W cn (aa g0 I) ea);exact kP
  ·intro W I hD K hK;have h5:=kZ v5 5 hD;clear hD;go_simp;exact hK.out _ _ ⟨_,rfl,af _,h5⟩
  ·intro W I hD K hK;have an:=kZ U 11 hD;clear hD;go_simp;exact hK.out _ _ ⟨_,rfl,af _,an⟩
 intro E g1 hH;have hj:=nA v12 12 hH;have hk:=nA L 13 hH;clear hH;refine wpAny_done dV ?_ _;have cz:Hid (Num E v12 g):=hj;have dk:Hid (Num E L h):=hk;clear hj hk dl dq;have am:=aa g0 g1;have S0:=hi9 (bs R0.out g1);have S1:=hi9 (bs R1.out g1);have S2:=hi9 (bs R2.out g1);clear R0 R1 R2 g0 g1;go_wp2_with fail;refine oW 12 0 [.is (.pointer (some ⟨w.heap.size,0,none⟩)),.is (.pointer (some ⟨w.heap.size,1,none⟩)),.is (.slice a k c),.is (v12),.any (fun v J=>Num J v (A)),.is (.pointer (some ⟨w.heap.size+1,0,none⟩)),.is (.pointer (some ⟨w.heap.size+1,1,none⟩)),.is (.slice b j e),.is (L),.any (fun v J=>Num J v (B)),.any (fun v J=>Num J v (N)),.any (fun v J=>Num J v (N))] [some 21,some 22,some 23,some 24,some 25,some 26,some 27,some 28,some 29,some 30,some 31,some 7] ?_;intro v4 v9 cn U A hA;simp only[eY,Act.put,aA,aI,aJ] at hA;subst hA;refine⟨?_,?_⟩
 ·skip
  refine ai rfl ?b3 (ai rfl ?b4 (ai rfl ?b5 (ai rfl ?b7 (ai rfl ?e3 (ai rfl ?b8 (ai rfl ?bA (ai rfl ?o2_7 (ai rfl ?o2_8 (ai rfl ?e5 (ai rfl ?c6 (ai rfl ?c7 (Eaches.nil))))))))))))
  case b3|b4|b7|b8|bA|o2_8=>
   exact oV
  case b5|o2_7=>
   intro W I hD K hK;clear hD;have ⟨kb,kk,kq⟩:=rc39 S0 I;have ⟨kr,ks,kv⟩:=rc39 S1 I;go_simp;exact hK.out _ _ ⟨_,rfl,af _,rfl⟩
  ·intro W I hD K hK;have hc:=hi9 (gm.out W v12 (aa am I) (Num.G cz.out I));exact kP
  ·intro W I hD K hK;have hc:=hi9 (ha.out W L (aa am I) (Num.G dk.out I));exact kP
  ·intro W I hD K hK;have h4:=kZ v4 4 hD;have h9:=kZ v9 9 hD;have hc:=hi9 (he.out W v4 v9 h4 h9);exact kP
  ·intro W I hD K hK;have ea:=kZ cn 10 hD;clear hD;go_simp;exact hK.out _ _ ⟨_,rfl,af _,ea⟩
 intro w2 g2 hH;have an:=nA U 11 hH;clear hH;refine wpAny_done dV ?_ _;have fs:Hid (Num w2 U N):=an;have cs:Hid (Num w2 v12 g):=cz.out.G g2;have cx:Hid (Num w2 L h):=dk.out.G g2;have R:=aa am g2;have T0:=hi9 (bs S0.out g2);have T1:=hi9 (bs S1.out g2);have T2:=hi9 (bs S2.out g2);clear an cz dk gm ha he S0 S1 S2 am g2;go_wp2_with fail;refine oW 10 0 [.is (.agg #[.bool s,.slice a k c,.slice a' k' c']),.any (fun v J=>Num J v (p)),.is (L),.any (fun v J=>Num J v (C)),.is (.agg #[.bool t,.slice b j e,.slice b' j' e']),.any (fun v J=>Num J v (r)),.is (v12),.any (fun v J=>Num J v (D)),.any (fun v J=>Num J v (M)),.any (fun v J=>Num J v (M))] [some 32,some 33,some 34,some 35,some 36,some 37,some 38,some 39,some 40,some 8] ?_;intro F v3 v5 v7 v8 v9 A hA;simp only[eY,Act.put,aA,aI,aJ] at hA;subst hA;refine⟨?_,?_⟩
 ·skip
  refine ai rfl ?bB (ai rfl ?e6 (ai rfl ?c0 (ai rfl ?e7 (ai rfl ?o3_4 (ai rfl ?e8 (ai rfl ?o3_6 (ai rfl ?e9 (ai rfl ?eP (ai rfl ?gA (Eaches.nil))))))))))
  case c0|o3_6=>
   exact oV
  case bB|o3_4=>
   intro W I hD K hK;clear hD;have ⟨kw,la,lb⟩:=rc39 T0 I;have ⟨lc,lg,li⟩:=rc39 T1 I;go_simp;exact hK.out _ _ ⟨_,rfl,af _,rfl⟩
  ·intro W I hD K hK;have hc:=hi9 (X.out W (aa R I));exact kP
  ·intro W I hD K hK;have h1:=kZ F 1 hD;have hc:=hi9 (dr.out W F L (aa R I) h1 (Num.G cx.out I));exact kP
  ·intro W I hD K hK;have hc:=hi9 (Y.out W (aa R I));exact kP
  ·intro W I hD K hK;have h5:=kZ v5 5 hD;have hc:=hi9 (ds.out W v5 v12 (aa R I) h5 (Num.G cs.out I));exact kP
  ·intro W I hD K hK;have h3:=kZ v3 3 hD;have h7:=kZ v7 7 hD;have hc:=hi9 (hf.out W v3 v7 h3 h7);exact kP
  ·intro W I hD K hK;have h8:=kZ v8 8 hD;clear hD;go_simp;exact hK.out _ _ ⟨_,rfl,af _,h8⟩
 intro w3 g3 hH;have h9:=nA v9 9 hH;clear hH;refine wpAny_done dV ?_ _;have H9:Hid (Num w3 v9 M):=h9;have cr:Hid (Num w3 U N):=fs.out.G g3;have ib:=aa R g3;have U0:=hi9 (bs T0.out g3);have U1:=hi9 (bs T1.out g3);have U2:=hi9 (bs T2.out g3);clear h9 fs cs cx dr ds hf T0 T1 T2 R g3 X Y;have hd:=hi9 (HS.out w3 U cr.out);obtain⟨ao,ap,bi,bl,bn,bq⟩:=ev U0 (af _);obtain⟨bu,bv,bz,ca,cb,cc⟩:=ev U1 (af _);go_wp2_with fail;refine dS hd.out ?_;intro e4 w4 hs;obtain⟨v20,rfl,g4,hl⟩:=hs;have fv:=hi9 (HF.out w4 v20 v9 hl (H9.out.G g4));clear HS hd HF hl H9 cr;go_wp2_with fail;refine dS fv.out ?_;intro e4 w5 hs;obtain⟨v21,rfl,g5,ih⟩:=hs;clear fv;clear ao ap bi bl bn bq bu bv bz ca cb cc;obtain⟨a8,k8,c8,a9,k9,c9,rfl,hm,hn⟩:=ih;have hq:Hid (Num w5 (.slice a8 k8 c8) (q).num.natAbs):=hm;have hw:Hid (Num w5 (.slice a9 k9 c9) (fQ (q).den)):=hn;obtain⟨t9,ek⟩:∃ t,t=decide ((q).num<0):=⟨_,rfl⟩;rw[← ek];have hz:Hid (t9=decide ((q).num<0)):=ek;clear hm hn ek;obtain⟨mp,ms,mv,nc,nd,ng⟩:=ev U2 (((aa g4 g5)));have ga:Num _ _ _:=eF (u1:= .bool t9) (u2:= .slice a8 k8 c8) (u3:= .slice a9 k9 c9) hq.out (bs U2.out (aa g4 g5)) trivial trivial trivial;have gg:Num _ _ _:=eF (u1:= .bool t9) (u2:= .slice a8 k8 c8) (u3:= .slice a9 k9 c9) hw.out (bs U2.out (aa g4 g5)) trivial trivial trivial;go_wp2_with fail;have m:Hid (Rec _ (w.heap.size+2) [.bool t9,.slice a8 k8 c8,.slice a9 k9 c9]):=Rec.set3 (bs U2.out (aa g4 g5));have g9:=Rec.h3 m.out (aa ib (aa g4 g5)) dT
 generalize (World.setCell (World.setCell (World.setCell w5 ⟨w.heap.size+2,0,none⟩ (.bool t9)) ⟨w.heap.size+2,1,none⟩ (.slice a8 k8 c8)) ⟨w.heap.size+2,2,none⟩ (.slice a9 k9 c9))=w9 at *;obtain⟨lm,ls,lw,lx,ly,mm⟩:=ev m (((af _)));refine bodyPost_ret (v:= .agg #[.bool t9,.slice a8 k8 c8,.slice a9 k9 c9]) (by simp [results,Tryz.results17,go_sem, *]) rfl ?_;exact⟨_,rfl,g9,a8,k8,c8,a9,k9,c9,by rw[← hz.out],ga,gg⟩
/-- A call hands back a fraction and no error, or an error. -/
def kQ (w:World) (q:Rat) (c:Int) (e:Ending) (A:World):Prop:=∃ v,e= .returned (.tuple #[v,.int .i64 c])∧G w A∧QIs A v q
theorem QIs.set3 {w:World} {v:Value} {q:Rat} {b:Nat} {x y z u1 u2 u3:Value} (h:QIs w v q) (r:Rec w b [x,y,z]) (A:fk x) (B:fk y) (C:fk z):QIs (((w.setCell ⟨b,0,none⟩ u1).setCell ⟨b,1,none⟩ u2).setCell ⟨b,2,none⟩ u3) v q:=by
 obtain⟨a,k,c,D,E,c',e,h1,h2⟩:=h;exact⟨a,k,c,D,E,c',e,eF h1 r A B C,eF h2 r A B C⟩
theorem QIs.top {w:World} {a:Option Addr} {k c:Nat} {q:Rat} {t:Bool} (h:Num w (.slice a k c) q.num.natAbs) (A:t=decide (q.num<0)):WholeIs w (.agg #[.bool t,.slice a k c]) q.num:=⟨a,k,c,by rw[A],h⟩
theorem nJ (w:World) (v:Value) (q:Rat) (h:QIs w v q):
  Calls Tryz.prog 21 #[v] w fun e J=>e= .returned (.int .i64 q.num.sign)∧G w J:=by
 obtain⟨a,k,c,E,I,c',rfl,h1,h2⟩:=h;obtain⟨t,C⟩:∃ t,t=decide (q.num<0):=⟨_,rfl⟩;have D:Hid (∀ B,G w B→_):=fun B g=>nU B (.agg #[.bool t,.slice a k c]) q.num (QIs.top (h1.G g) C);rw[← C];generalize q.num.sign=z at *;clear C h1 h2;go_enter Tryz.func21,Tryz.ntmps21;go_wp2_with fail;obtain⟨w0,A,g0,F,K⟩:=eD w [.bool t,.slice a k c,.slice E I c'] 29;rw[A];clear A;refine dS (D.out w0 g0) ?_;rintro e B ⟨rfl,g1⟩;go_wp2_with fail;go_ret;exact⟨rfl,aa g0 g1⟩
theorem mkRat_one (z:Int):((z:Int):Rat)=mkRat z 1:=(Rat.mk_eq_mkRat z 1 ey eO).symm▸rfl
theorem q1a (w:World) (z:Int) (h1: -9223372036854775808≤z) (h2:z<9223372036854775808):
  Calls Tryz.prog 11 #[.int .i64 z] w (RetQ w (z:Rat)):=by
 have o:Hid (∀ A,_):=fun A=>oU A z h1 h2;have m:Hid (∀ A L v2,WholeIs A L z→Num A v2 1→_):=fun A L v2 B i=>gl A L v2 z 1 1 (z:Rat) B i dT dT (fun _=>du _) (mkRat_one z);generalize (z:Rat)=q at *;clear h1 h2;go_enter Tryz.func11,Tryz.ntmps11;go_wp2_with fail;obtain⟨w0,W,g0,bv,X⟩:=eD w [.bool false,.slice none 0 0,.slice none 0 0] 29;rw[W];clear W;refine dS (o.out w0) ?_;intro e A d;obtain⟨L,rfl,g1,B⟩:=d;have R:Hid (WholeIs A L z):=B;clear B o;go_wp2_with fail;have K:=(af A).alloc (.cells #[.int .u64 1] 78);have M:=hi9 (m.out _ L (.slice (some ⟨A.heap.size,0,none⟩) 1 1) (R.out.G K) (kz rfl));generalize A.alloc (.cells #[.int .u64 1] 78)=w2 at *;clear m R;refine dS M.out ?_;intro e k d;obtain⟨v3,rfl,g3,j⟩:=d;clear M;obtain⟨C,I,D,a9,J,E,rfl,S,U⟩:=j;have Y:Hid (Num k (.slice C I D) (q).num.natAbs):=S;have Z:Hid (Num k (.slice a9 J E) (fQ (q).den)):=U;obtain⟨t9,F⟩:∃ t,t=decide ((q).num<0):=⟨_,rfl⟩;rw[← F];have c:Hid (t9=decide ((q).num<0)):=F;clear S U F;obtain⟨ap,bi,bl,bn,bq,bu⟩:=ev X (((aa g1 (aa K g3))));have N:Num _ _ _:=eF (u1:= .bool t9) (u2:= .slice C I D) (u3:= .slice a9 J E) Y.out (bs X.out (aa g1 (aa K g3))) trivial trivial trivial;have O:Num _ _ _:=eF (u1:= .bool t9) (u2:= .slice C I D) (u3:= .slice a9 J E) Z.out (bs X.out (aa g1 (aa K g3))) trivial trivial trivial;go_wp2_with fail;have hT:Hid (Rec _ (w.heap.size) [.bool t9,.slice C I D,.slice a9 J E]):=Rec.set3 (bs X.out (aa g1 (aa K g3)));have g9:=Rec.h3 hT.out (aa g0 (aa g1 (aa K g3))) dT
 generalize (World.setCell (World.setCell (World.setCell k ⟨w.heap.size,0,none⟩ (.bool t9)) ⟨w.heap.size,1,none⟩ (.slice C I D)) ⟨w.heap.size,2,none⟩ (.slice a9 J E))=w9 at *;obtain⟨s,y,al,am,an,ao⟩:=ev hT (((af _)));refine bodyPost_ret (v:= .agg #[.bool t9,.slice C I D,.slice a9 J E]) (by simp [results,Tryz.results11,go_sem, *]) rfl ?_;exact⟨_,rfl,g9,C,I,D,a9,J,E,by rw[← c.out],N,O⟩
/-- What is 1 over a fraction. -/
theorem iI {y:Rat} (h:y≠0):y⁻¹ =mkRat (sgn (decide (y.num<0)) y.den) y.num.natAbs∧Nat.gcd y.den y.num.natAbs=1∧0<y.num.natAbs:=by
 have B:y.num≠0:=fun e=>h (Rat.num_eq_zero.1 e);refine⟨?_,by rw[bG];exact y.reduced,by omega⟩;rw[Rat.inv_def];rw[← Rat.divInt_ofNat,Rat.divInt_eq_divInt_iff B dT];unfold sgn;by_cases A:y.num<0
 ·simp only[A,decide_true,if_true];rw[show ((y.num.natAbs:Nat):Int)= -y.num from by omega,Int.mul_neg,Int.neg_mul]
 ·simp only[A,decide_false,aE,if_false];rw[show ((y.num.natAbs:Nat):Int)=y.num from by omega]
theorem oF {y:Rat} {K:Nat} (h:y≠0) (hb:QB y K):QB y⁻¹ K:=by
 obtain⟨h1,h2,h3⟩:=iI h;have C:=mk_cross h3 h1;obtain⟨A,B⟩:=rat_low h3 (by rw[fU];exact h2) C;unfold QB;rw[A,B,fU];exact⟨hb.2,hb.1⟩
theorem fY {q:Rat}:(q.num.sign==0)=decide (q=0):=by
 rw[Bool.eq_iff_iff];simp [Int.sign_eq_zero_iff_zero,Rat.num_eq_zero]
set_option maxHeartbeats 1000000 in
theorem qv (w:World) (v u:Value) (x y:Rat) (K:Nat) (hK:K≤100000) (fv:1≤K) (hT:Tab w) (hx:QIs w v x) (hy:QIs w u y) (bx:QB x K) (o:QB y K):
  Calls Tryz.prog 30 #[v,u] w (kQ w (if y=0 then 0 else x/y) (if y=0 then 5 else 0)):=by
 have L:Hid (∀ B,G w B→_):=fun B g=>nJ B u y (hy.G g);have HB:Hid (∀ B,G w B→_):=fun B g=>ni B u y (hy.G g);have HX:Hid (QIs w v x):=hx;obtain⟨a,k,c,a',k',c',rfl,dr,ds⟩:=hx;obtain⟨b,j,e,b',j',e',rfl,cc,ea⟩:=hy;by_cases m:y=0
 ·rw[if_pos m,if_pos m];have hz:(y.num.sign==0)=true:=by rw[fY,m];rfl
  generalize y.num.sign=z at *;obtain⟨s,hs⟩:∃ s,s=decide (x.num<0):=⟨_,rfl⟩;obtain⟨t,ht⟩:∃ t,t=decide (y.num<0):=⟨_,rfl⟩;rw[← ht] at L;rw[← hs,← ht];clear hs ht dr ds cc ea bx o m HB HX hT;go_enter Tryz.func30,Tryz.ntmps30;go_wp2_with fail;obtain⟨w0,i,g0,ha,R0,R1,R2⟩:=mg w [.bool s,.slice a k c,.slice a' k' c'] [.bool t,.slice b j e,.slice b' j' e'] [.bool false,.slice none 0 0,.slice none 0 0] 29 29 29;rw[i];clear i;refine dS (L.out w0 g0) ?_;rintro e B ⟨rfl,g1⟩;clear L;obtain⟨N,O,R,S,U,X⟩:=ev R2 (((g1)));go_wp2_with fail;have hT:Hid (Rec _ (w.heap.size+2) [.bool false,.slice none 0 0,.slice none 0 0]):=Rec.set3 (bs R2.out (g1));have g9:=Rec.h3 hT.out (aa g0 g1) dT;generalize (World.setCell (World.setCell (World.setCell B ⟨w.heap.size+2,0,none⟩ (.bool false)) ⟨w.heap.size+2,1,none⟩ (.slice none 0 0)) ⟨w.heap.size+2,2,none⟩ (.slice none 0 0))=w9 at *;obtain⟨cn,cr,cs,cx,cz,dk⟩:=ev hT (((af _)));refine bodyPost_ret (v:= .tuple #[.agg #[.bool false,.slice none 0 0,.slice none 0 0],.int .i64 5]) (by simp [results,Tryz.results30,go_sem, *]) rfl ?_;exact⟨_,rfl,g9,gp w9⟩
 ·rw[if_neg m,if_neg m];obtain⟨i1,i2,i3⟩:=iI m;have ib:=oF m o;have hz:(y.num.sign==0)=false:=by rw[fY,decide_eq_false m]
  have dl:=o.1;obtain⟨s,hs⟩:∃ s,s=decide (x.num<0):=⟨_,rfl⟩;obtain⟨t,ht⟩:∃ t,t=decide (y.num<0):=⟨_,rfl⟩;have HS:Hid (∀ B M,Num B M y.den→_):=fun B M h1=>fF B M t y.den h1;have HF:Hid (∀ B M,G w B→WholeIs B M (sgn t y.den)→_):=fun B M g h1=>gl B M (.slice b j e) _ y.num.natAbs K y⁻¹ h1 (cc.G g) i3 dl (fun _=>by rw[fU];exact i2) (by rw[ht];exact i1);have HM:Hid (∀ B M,G w B→QIs B M y⁻¹ →Calls Tryz.prog 17 #[.agg #[.bool s,.slice a k c,.slice a' k' c'],M] B (RetQ B (x/y))):=fun B M g h1=>by
   rw[Rat.div_def];have hX:=HX.out;rw[← hs] at hX;exact q1J B _ M x y⁻¹ K hK fv (hT.G g) (hX.G g) h1 bx ib
  rw[← ht] at L HB;rw[← hs,← ht];generalize y.num.sign=z at *;obtain⟨d,hd⟩:∃ d,d=y.den:=⟨_,rfl⟩;rw[← hd] at HB HS HF;generalize sgn t d=yt at *;generalize y.num.natAbs=yn at *;obtain⟨yi,eb⟩:∃ yi,yi=y⁻¹ :=⟨_,rfl⟩;rw[← eb] at HF HM;generalize x/y=q at *;clear hd hs ht eb i1 i2 i3 ib dl dr ds cc ea bx o m HX hT;go_enter Tryz.func30,Tryz.ntmps30;go_wp2_with fail;obtain⟨w0,i,g0,ha,R0,R1,R2⟩:=mg w [.bool s,.slice a k c,.slice a' k' c'] [.bool t,.slice b j e,.slice b' j' e'] [.bool false,.slice none 0 0,.slice none 0 0] 29 29 29;rw[i];clear i;refine dS (L.out w0 g0) ?_;rintro e B ⟨rfl,g1⟩;clear L;have al:=aa g0 g1;have S0:Hid (Rec _ _ _):=bs R0.out (g1);have S1:Hid (Rec _ _ _):=bs R1.out (g1);have S2:Hid (Rec _ _ _):=bs R2.out (g1);clear R0 R1 R2 g0 g1;go_wp2_with fail;refine oW 11 1 [.is (.pointer (some ⟨w.heap.size+1,0,none⟩)),.is (.pointer (some ⟨w.heap.size+1,0,none⟩)),.is (.bool t),.is (.agg #[.bool t,.slice b j e,.slice b' j' e']),.any (fun v w'=>Num w' v (d)),.any (fun v w'=>WholeIs w' v (yt)),.is (.pointer (some ⟨w.heap.size+1,0,none⟩)),.is (.pointer (some ⟨w.heap.size+1,1,none⟩)),.is (.slice b j e),.any (fun v w'=>QIs w' v (yi)),.any (fun v w'=>NewRec B w' v ([.bool false,.slice none 0 0,.slice none 0 0]))] [some 11,some 12,some 13,some 14,some 15,some 16,some 17,some 18,some 19,some 20,some 6] ?_;intro v4 v5 v9 he A hA;simp only[eY,Act.put,aA,aI,aJ] at hA;subst hA;refine⟨?_,?_⟩
  ·skip
   refine ai rfl ?a1 (ai rfl ?a6 (ai rfl ?a7 (ai rfl ?b0 (ai rfl ?b3 (ai rfl ?b4 (ai rfl ?b1 (ai rfl ?o2_7 (ai rfl ?o2_8 (ai rfl ?b5 (ai rfl ?b2 (Eaches.nil)))))))))))
   case a1|a6|b1|o2_7=>
    exact oV
   case a7|b0|o2_8=>
    intro W hW hD K hK;clear hD;have ⟨ga,gg,gm⟩:=rc39 S1 hW;go_simp;exact hK.out _ _ ⟨_,rfl,af _,rfl⟩
   ·intro W hW hD K hK;have hc:=hi9 (HB.out W (aa al hW));exact kP
   ·intro W hW hD K hK;have h4:=kZ v4 4 hD;have hc:=hi9 (HS.out W v4 h4);exact kP
   ·intro W hW hD K hK;have h5:=kZ v5 5 hD;have hc:=hi9 (HF.out W v5 (aa al hW) h5);exact kP
   ·intro W hW hD K hK;clear hD;go_simp;exact hK.out _ _ ⟨_,rfl,(af _).alloc _,_,rfl,hW.size,Rec.new3 _ _ _ _ _⟩
  intro w2 g2 hH;have h9:=nA v9 9 hH;have ep:=nA he 10 hH;clear hH;clear HS HF HB;obtain⟨nb,rfl,dq,cb⟩:=ep;have N0:Hid (Rec w2 nb [.bool false,.slice none 0 0,.slice none 0 0]):=cb;obtain⟨D,I,E,a9,J,F,rfl,Y,Z⟩:=h9;obtain⟨t9,C⟩:∃ t,t=decide (yi.num<0):=⟨_,rfl⟩;have hQ:QIs w2 (.agg #[.bool t9,.slice D I E,.slice a9 J F]) yi:=⟨D,I,E,a9,J,F,by rw[C],Y,Z⟩;have HQ:=hi9 (hQ.set3 (u1:= .bool t9) (u2:= .slice D I E) (u3:= .slice a9 J F) N0.out trivial trivial trivial);rw[← C];clear Y Z C cb hQ;obtain⟨N,O,R,S,U,X⟩:=ev N0 (((af _)));refine wpAny_ready (rs:=[11]) dV eO ?_;refine AllReady.cons rfl (fun K hK=> ?_) AllReady.nil;go_simp;refine hK _ _ ?_;clear hK K N O R S U X;refine wpAny_done dV ?_ _;have N1:Hid (Rec _ nb [.bool t9,.slice D I E,.slice a9 J F]):=Rec.set3 N0.out;have g3:=Rec.g3 (b:=nb) (u:= .bool t9) (v:= .slice D I E) (x:= .slice a9 J F) g2 dq;generalize (((w2.setCell ⟨nb,0,none⟩ (.bool t9)).setCell ⟨nb,1,none⟩ (.slice D I E)).setCell ⟨nb,2,none⟩ (.slice a9 J F))=w3 at *;have cl:=aa al g3;have T0:Hid (Rec _ _ _):=bs S0.out (g3);have T2:Hid (Rec _ _ _):=bs S2.out (g3);have cd:=hi9 (HM.out w3 _ cl HQ.out);clear HM HQ S0 S1 S2 N0 g2 dq al g3;obtain⟨bn,bq,bu,bv,bz,ca⟩:=ev T0 (af _);obtain⟨am,an,ao,ap,bi,bl⟩:=ev N1 (af _);go_wp2_with fail;refine dS cd.out ?_;intro e4 w4 hs;obtain⟨v21,rfl,g4,fs⟩:=hs;clear cd bn bq bu bv bz ca am an ao ap bi bl;obtain⟨D,I,E,a9,J,F,rfl,Y,Z⟩:=fs;have ec:Hid (Num w4 (.slice D I E) (q).num.natAbs):=Y;have ek:Hid (Num w4 (.slice a9 J F) (fQ (q).den)):=Z
  obtain⟨t9,C⟩:∃ t,t=decide ((q).num<0):=⟨_,rfl⟩;rw[← C];have em:Hid (t9=decide ((q).num<0)):=C;clear Y Z C;obtain⟨N,O,R,S,U,X⟩:=ev T2 (((g4)));have ce:Num _ _ _:=eF (u1:= .bool t9) (u2:= .slice D I E) (u3:= .slice a9 J F) ec.out (bs T2.out (g4)) trivial trivial trivial;have ci:Num _ _ _:=eF (u1:= .bool t9) (u2:= .slice D I E) (u3:= .slice a9 J F) ek.out (bs T2.out (g4)) trivial trivial trivial;go_wp2_with fail;have hT:Hid (Rec _ (w.heap.size+2) [.bool t9,.slice D I E,.slice a9 J F]):=Rec.set3 (bs T2.out (g4));have g9:=Rec.h3 hT.out (aa cl g4) dT;generalize (World.setCell (World.setCell (World.setCell w4 ⟨w.heap.size+2,0,none⟩ (.bool t9)) ⟨w.heap.size+2,1,none⟩ (.slice D I E)) ⟨w.heap.size+2,2,none⟩ (.slice a9 J F))=w9 at *;obtain⟨cn,cr,cs,cx,cz,dk⟩:=ev hT (((af _)));refine bodyPost_ret (v:= .tuple #[.agg #[.bool t9,.slice D I E,.slice a9 J F],.int .i64 0]) (by simp [results,Tryz.results30,go_sem, *]) rfl ?_;exact⟨_,rfl,g9,D,I,E,a9,J,F,by rw[← em.out],ce,ci⟩
theorem qu {z:Int} (h1: -9223372036854775808≤z) (h2:z<9223372036854775808):QB (z:Rat) 1:=⟨by show z.natAbs<_;omega,by show 1<_;omega⟩
theorem mK (w:World) (a b:Int) (O:Tab w) (h1: -9223372036854775808≤a) (h2:a<9223372036854775808) (h3: -9223372036854775808≤b) (j:b<9223372036854775808):
  Calls Tryz.prog 6 #[.int .i64 a,.int .i64 b] w (kQ w (if b=0 then 0 else (a:Rat)/b) (if b=0 then 5 else 0)):=by
 have m:Hid (∀ A,_):=fun A=>q1a A a h1 h2;have o:Hid (∀ A,_):=fun A=>q1a A b h3 j;have s:Hid (∀ A J v2,G w A→QIs A J (a:Rat)→QIs A v2 (b:Rat)→Calls Tryz.prog 30 #[J,v2] A (kQ A (if b=0 then 0 else (a:Rat)/b) (if b=0 then 5 else 0))):=fun A J v2 g Y Z=>by
  have h:=qv A J v2 a b 1 dT dT (O.G g) Y Z (qu h1 h2) (qu h3 j);have e:((b:Rat)=0)=(b=0):=by
   apply propext;constructor
   ·intro h;have:=congrArg Rat.num h;exact this
   ·intro h;rw[h];rfl
  simpa only[e] using h
 generalize (if b=0 then (5:Int) else 0)=cd at *;generalize (if b=0 then 0 else (a:Rat)/b)=q at *;clear h1 h2 h3 j O;go_enter Tryz.func6,Tryz.ntmps6;go_wp2_with fail;obtain⟨w0,W,g0,ca,X⟩:=eD w [.bool false,.slice none 0 0,.slice none 0 0] 29;rw[W];clear W;refine Calls.mono (P:=Tryz.prog) (m.out w0) ?_;intro e A U;obtain⟨J,rfl,g1,Y⟩:=U;have y:Hid (QIs A J (a:Rat)):=Y;clear Y;go_wp2_with fail;refine Calls.mono (P:=Tryz.prog) (o.out A) ?_;intro e w2 U;obtain⟨v2,rfl,g2,Z⟩:=U;have N:=aa g0 (aa g1 g2);have M:=hi9 (s.out w2 J v2 N (y.out.G g2) Z);clear Z y m o s;go_wp2_with fail;refine Calls.mono (P:=Tryz.prog) M.out ?_;intro e k U;obtain⟨v3,rfl,g3,k3⟩:=U;clear M;obtain⟨B,F,C,a9,I,D,rfl,R,S⟩:=k3;have c:Hid (Num k (.slice B F C) (q).num.natAbs):=R;have d:Hid (Num k (.slice a9 I D) (fQ (q).den)):=S;obtain⟨t9,E⟩:∃ t,t=decide ((q).num<0):=⟨_,rfl⟩;rw[← E];have i:Hid (t9=decide ((q).num<0)):=E;clear R S E;obtain⟨bl,bn,bq,bu,bv,bz⟩:=ev X (((aa g1 (aa g2 g3))));have K:Num _ _ _:=eF (u1:= .bool t9) (u2:= .slice B F C) (u3:= .slice a9 I D) c.out (bs X.out (aa g1 (aa g2 g3))) trivial trivial trivial;have L:Num _ _ _:=eF (u1:= .bool t9) (u2:= .slice B F C) (u3:= .slice a9 I D) d.out (bs X.out (aa g1 (aa g2 g3))) trivial trivial trivial;go_wp2_with fail;have O:Hid (Rec _ (w.heap.size) [.bool t9,.slice B F C,.slice a9 I D]):=Rec.set3 (bs X.out (aa g1 (aa g2 g3)));have g9:=Rec.h3 O.out (aa N g3) dT
 generalize (World.setCell (World.setCell (World.setCell k ⟨w.heap.size,0,none⟩ (.bool t9)) ⟨w.heap.size,1,none⟩ (.slice B F C)) ⟨w.heap.size,2,none⟩ (.slice a9 I D))=w9 at *;obtain⟨al,am,an,ao,ap,bi⟩:=ev O (((af _)));refine bodyPost_ret (v:= .tuple #[.agg #[.bool t9,.slice B F C,.slice a9 I D],.int .i64 cd]) (by simp [results,Tryz.results6,go_sem, *]) rfl ?_;exact⟨_,rfl,g9,B,F,C,a9,I,D,by rw[← i.out],K,L⟩
theorem jC (w:World) (va:Value) (a K:Nat) (n:Int) (E:K≤500000) (F: -1000000≤n) (I:n≤1000000) (B:Num w va a) (A:a<2^(64*K)):
  Calls Tryz.prog 155 #[va,.int .i64 n] w (ef w (a*2^n.toNat)):=by
 have C:=hi9 (gR w va a n.toNat K E dT B A);have D:Hid (max n 0=((n.toNat:Nat):Int)):=by show max n 0=_;omega
 generalize n.toNat=k at *;generalize a*2^k=z at *;clear B A;go_enter Tryz.func155,Tryz.ntmps155;go_wp2_with fail;rw[D.out];refine dS C.out ?_;intro e L J;obtain⟨v,rfl,g1,hv⟩:=J;go_wp2_with fail;go_ret;exact⟨_,rfl,g1,hv⟩
theorem ot (w:World) (Q:Nat) (e P:Int) (C:Bool) (B:Q≠0) (X:Q<2^63) (j: -10000000≤e) (k:e≤10000000) (U:P=max (e+blen Q-53) (-1074)) (Z:971<P):
  Calls Tryz.prog 153 #[.agg #[.int .u64 (Q:Int),.int .i64 e,.bool C]] w fun r w'=>r= .returned (.tuple #[.int .u64 9007199254740991,.int .i64 971,.int .i64 3])∧G w w':=by
 have E:Hid (∀ O,_):=fun O=>jb Q O dT;have S:Lib.bitLen Q=blen Q:=by rw[eW B dT];unfold blen;rw[if_neg B]
 have d:blen Q≤63:=by
  have:=(cA B).2 X;unfold blen;rw[if_neg B];omega
 rw[S] at E;generalize blen Q=L at *;have m:max (e+(L:Int)-53) (-1074)=P:=U.symm;have o:IntKind.i64.wrap (e+(L:Int))=e+(L:Int):=by rw[IntKind.wrap_i64];omega
 have s:IntKind.i64.wrap (e+(L:Int)-53)=e+(L:Int)-53:=by rw[IntKind.wrap_i64];omega
 have hd:decide (971<P)=true:=decide_eq_true Z;have i:(Q:Int)<18446744073709551616:=by omega
 clear B X S U Z;go_enter Tryz.func153,Tryz.ntmps153;go_wp2_with fail;obtain⟨w0,D,g0,y,F⟩:=eD w [.int .u64 (Q:Int),.int .i64 e,.bool C] 177;rw[D];clear D;refine oW 9 0 [.is (.pointer (some ⟨w.heap.size,1,none⟩)),.is (.int .i64 e),.is (.pointer (some ⟨w.heap.size,0,none⟩)),.is (.int .u64 Q),.is (.int .i64 L),.is (.int .i64 (e+L)),.is (.int .i64 (e+L-53)),.is (.int .i64 P),.is (.int .i64 P)] [some 8,some 9,some 10,some 11,some 12,some 13,some 14,some 15,some 3] ?_;intro A R;simp only[eY,Act.put,aA,aI,aJ] at R;subst R;refine⟨?_,?_⟩
 ·skip
  refine ai rfl ?a1 (ai rfl ?a6 (ai rfl ?a7 (ai rfl ?o1_3 (ai rfl ?b2 (ai rfl ?a8 (ai rfl ?b0 (ai rfl ?b1 (ai rfl ?o1_8 (Eaches.nil)))))))))
  case a1|a7|a8|b0|b1|o1_8=>
   exact oV
  case a6|o1_3=>
   intro W Y hD K hK;clear hD;have ⟨J,M,N⟩:=rc39 F Y;go_simp;exact hK.out _ _ ⟨_,rfl,af _,rfl⟩
  ·intro W Y hD K hK;have hc:=hi9 (E.out W);exact ed9
 intro O g1 c;clear c;refine wpAny_done dV ?_ _;have I:=aa g0 g1;have S0:Hid (Rec _ _ _):=bs F.out (g1);clear F g0 g1 E;go_wp2_with fail
 go_ret3
 exact⟨rfl,I⟩
theorem ou (w:World) (Q:Nat) (e P:Int) (C:Bool) (B:Q≠0) (j:Q<2^63) (ao: -10000000≤e) (ap:e≤10000000) (i:P=max (e+blen Q-53) (-1074)) (hf:P≤971) (m:63<P-e):
  Calls Tryz.prog 153 #[.agg #[.int .u64 (Q:Int),.int .i64 e,.bool C]] w fun r w'=>r= .returned (.tuple #[.int .u64 0,.int .i64 P,.int .i64 1])∧G w w':=by
 have O:Hid (∀ Z,_):=fun Z=>jb Q Z dT;have d:Lib.bitLen Q=blen Q:=by rw[eW B dT];unfold blen;rw[if_neg B]
 have y:blen Q≤63:=by
  have:=(cA B).2 j;unfold blen;rw[if_neg B];omega
 rw[d] at O;generalize blen Q=L at *;have bi:max (e+(L:Int)-53) (-1074)=P:=i.symm;have bl:IntKind.i64.wrap (e+(L:Int))=e+(L:Int):=by rw[IntKind.wrap_i64];omega
 have bn:IntKind.i64.wrap (e+(L:Int)-53)=e+(L:Int)-53:=by rw[IntKind.wrap_i64];omega
 have hd:decide (971<P)=false:=decide_eq_false dT;have an:decide (63<P-e)=true:=decide_eq_true m;have al: -1074≤P:=by omega
 have am:(Q:Int)<18446744073709551616:=by omega
 clear B j d i m;go_enter Tryz.func153,Tryz.ntmps153;go_wp2_with fail;obtain⟨w0,D,g0,bq,R⟩:=eD w [.int .u64 (Q:Int),.int .i64 e,.bool C] 177;rw[D];clear D;refine oW 9 0 [.is (.pointer (some ⟨w.heap.size,1,none⟩)),.is (.int .i64 e),.is (.pointer (some ⟨w.heap.size,0,none⟩)),.is (.int .u64 Q),.is (.int .i64 L),.is (.int .i64 (e+L)),.is (.int .i64 (e+L-53)),.is (.int .i64 P),.is (.int .i64 P)] [some 8,some 9,some 10,some 11,some 12,some 13,some 14,some 15,some 3] ?_;intro A c;simp only[eY,Act.put,aA,aI,aJ] at c;subst c;refine⟨?_,?_⟩
 ·skip
  refine ai rfl ?a1 (ai rfl ?a6 (ai rfl ?a7 (ai rfl ?o2_3 (ai rfl ?b2 (ai rfl ?a8 (ai rfl ?b0 (ai rfl ?b1 (ai rfl ?o2_8 (Eaches.nil)))))))))
  case a1|a7|a8|b0|b1|o2_8=>
   exact oV
  case a6|o2_3=>
   intro W k hD K hK;clear hD;have ⟨U,X,Y⟩:=rc39 R k;go_simp;exact hK.out _ _ ⟨_,rfl,af _,rfl⟩
  ·intro W k hD K hK;have hc:=hi9 (O.out W);exact ed9
 intro Z g1 s;clear s;refine wpAny_done dV ?_ _;have S:=aa g0 g1;have o:Hid (Rec _ _ _):=bs R.out (g1);clear R g0 g1 O;obtain⟨E,F,I,J,M,N⟩:=ev o (af _);go_wp2_with fail
 go_ret3
 exact⟨rfl,S⟩
/-- What is left: b of 2 m steps, and whether there are tails. -/
def lv (b m:Nat) (A:Bool):Nat:=if b=0∧A=false then 0 else if b<m then 1 else if b=m∧A=false then 2 else 3
set_option maxRecDepth 100000 in
set_option maxHeartbeats 1000000 in
theorem mj (w:World) (Q k:Nat) (e P:Int) (J:Bool) (R:Q≠0) (hQ:Q<2^63) (ec: -10000000≤e) (ek:e≤10000000) (hP:P=max (e+blen Q-53) (-1074)) (hf:P≤971) (hn:P-e=(k:Int)+1) (hk:k≤62):
  Calls Tryz.prog 153 #[.agg #[.int .u64 (Q:Int),.int .i64 e,.bool J]] w fun r w'=>r= .returned (.tuple #[.int .u64 (Q/2^(k+1):Nat),.int .i64 P,.int .i64 ((lv (Q%2^(k+1)) (2^k) J:Nat):Int)])∧G w w':=by
 have HB:Hid (∀ w1,_):=fun w1=>jb Q w1 dT;have hL:Lib.bitLen Q=blen Q:=by rw[eW R dT];unfold blen;rw[if_neg R]
 have dq:blen Q≤63:=by
  have:=(cA R).2 hQ;unfold blen;rw[if_neg R];omega
 rw[hL] at HB;generalize blen Q=L at *;have cd:max (e+(L:Int)-53) (-1074)=P:=hP.symm;have cn:IntKind.i64.wrap (e+(L:Int))=e+(L:Int):=by rw[IntKind.wrap_i64];omega
 have cr:IntKind.i64.wrap (e+(L:Int)-53)=e+(L:Int)-53:=by rw[IntKind.wrap_i64];omega
 have hd:decide (971<P)=false:=decide_eq_false dT;have eb:decide ((63:Int)<(k:Int)+1)=false:=decide_eq_false dT;have dr: -1074≤P:=by omega
 have ds:(Q:Int)<18446744073709551616:=by omega
 have cs:IntKind.i64.wrap (P-e)=(k:Int)+1:=by rw[IntKind.wrap_i64];omega
 have ep:IntKind.i64.wrap ((k:Int)+1)=(k:Int)+1:=by rw[IntKind.wrap_i64];omega
 have fs:IntKind.i64.wrap (k:Int)=k:=by rw[IntKind.wrap_i64];omega
 obtain⟨p,Z⟩:∃ p,p=2^(k+1):=⟨_,rfl⟩;obtain⟨m,Y⟩:∃ m,m=2^k:=⟨_,rfl⟩;obtain⟨b,hb⟩:∃ b,b=Q%p:=⟨_,rfl⟩;have cl:p=2*m:=by rw[Z,Y,bF];omega
 have i:1≤m:=by rw[Y];exact ae k
 have bz:m≤2^62:=by rw[Y];exact eM hk
 have X:bits BinOp.and IntKind.u64 (Q:Int) ((p:Int)-1)=(b:Int):=by
  rw[show ((p:Int)-1)=((p-1:Nat):Int) from by omega,u64_and_nat Q (p-1) dT dT,Z,Nat.and_two_pow_sub_one_eq_mod,hb,Z]
 have em:(2:Int)^(k+1)=(p:Int):=by rw[Z];push_cast;rfl
 have cc:(2:Int)^k=(m:Int):=by rw[Y];push_cast;rfl
 have ce:(p:Int)≤9223372036854775808:=by omega
 have ca:(m:Int)≤9223372036854775808:=by omega
 have ci:(2:Int)≤p:=by omega
 have cb:(1:Int)≤m:=by omega
 have cx:IntKind.u64.wrap (p:Int)=p:=by rw[IntKind.wrap_u64];omega
 have cz:IntKind.u64.wrap ((p:Int)-1)=(p:Int)-1:=by rw[IntKind.wrap_u64];omega
 have dk:IntKind.u64.wrap (m:Int)=m:=by rw[IntKind.wrap_u64];omega
 rw[← Z,← Y,← hb];obtain⟨q,hq⟩:∃ q,q=Q/p:=⟨_,rfl⟩;rw[← hq];have ea:(Q:Int)/(p:Int)=(q:Int):=by rw[hq];push_cast;rfl
 have dl:(q:Int)≤(Q:Int):=by have:=bh Q p;omega
 have ap:Hid (1≤m):=i;clear R hQ hL hP Z Y hb cl i bz hq;go_enter Tryz.func153,Tryz.ntmps153;go_wp2_with fail;obtain⟨w0,j,g0,fv,R0⟩:=eD w [.int .u64 (Q:Int),.int .i64 e,.bool J] 177;rw[j];clear j;refine oW 9 0 [.is (.pointer (some ⟨w.heap.size,1,none⟩)),.is (.int .i64 e),.is (.pointer (some ⟨w.heap.size,0,none⟩)),.is (.int .u64 Q),.is (.int .i64 L),.is (.int .i64 (e+L)),.is (.int .i64 (e+L-53)),.is (.int .i64 P),.is (.int .i64 P)] [some 8,some 9,some 10,some 11,some 12,some 13,some 14,some 15,some 3] ?_;intro A d;simp only[eY,Act.put,aA,aI,aJ] at d;subst d;refine⟨?_,?_⟩
 ·skip
  refine ai rfl ?a1 (ai rfl ?a6 (ai rfl ?a7 (ai rfl ?o3_3 (ai rfl ?c5 (ai rfl ?a8 (ai rfl ?b0 (ai rfl ?b1 (ai rfl ?o3_8 (Eaches.nil)))))))))
  case a1|a7|a8|b0|b1|o3_8=>
   exact oV
  case a6|o3_3=>
   intro W hW hD K hK;clear hD;have ⟨bi,bl,bn⟩:=rc39 R0 hW;go_simp;exact hK.out _ _ ⟨_,rfl,af _,rfl⟩
  ·intro W hW hD K hK;have hc:=hi9 (HB.out W);exact ed9
 intro w1 g1 hH;clear hH;refine wpAny_done dV ?_ _;have c:=aa g0 g1;have o:Hid (Rec _ _ _):=bs R0.out (g1);clear R0 g0 g1 HB;obtain⟨s,y,al,am,an,ao⟩:=ev o (af _);go_wp2_with fail;refine oW 11 0 [.is (.pointer (some ⟨w.heap.size,0,none⟩)),.is (.int .u64 Q),.is (.int .i64 (k+1)),.is (.int .u64 p),.is (.int .u64 (p-1)),.is (.int .u64 b),.is (.int .i64 (k+1)),.is (.int .i64 k),.is (.int .u64 m),.is (.int .u64 b),.is (.int .u64 m)] [some 25,some 26,some 27,some 28,some 29,some 30,some 31,some 32,some 33,some 6,some 7] ?_;intro A d;simp only[eY,Act.put,aA,aI,aJ] at d;subst d;refine⟨?_,?_⟩
 ·skip
  refine ai rfl ?b2 (ai rfl ?b3 (ai rfl ?b4 (ai rfl ?b5 (ai rfl ?b7 (ai rfl ?b8 (ai rfl ?bA (ai rfl ?bB (ai rfl ?c3 (ai rfl ?c4 (ai rfl ?o4_10 (Eaches.nil)))))))))))
  case b2|b4|b5|b7|b8|bA|bB|c3|c4|o4_10=>
   exact oV
  case b3=>
   intro W hW hD K hK;clear hD;have ⟨bq,bu,bv⟩:=rc39 o hW;go_simp;exact hK.out _ _ ⟨_,rfl,af _,rfl⟩
 intro w2 g2 hH;clear hH;refine wpAny_done dV ?_ _;have M:=aa c g2;have U:Hid (Rec _ _ _):=bs o.out (g2);clear o X cn cr cs cx cz dk cd cc ce ca ci cb c g2;cases J
 ·by_cases N:b=0
  ·have t0:((b:Int)==0)=true:=by rw[N];rfl
   have O:Hid (lv b m false=0):=by show lv b m false=0;unfold lv;simp [N]
   clear N;obtain⟨B,C,D,E,F,I⟩:=ev U (af _)
   repeat (first|go_values|go_skip|go_guarded|go_step|go_upon)
   go_ret3
   exact⟨by rw[O.out];rfl,M⟩
  ·have t0:((b:Int)==0)=false:=by simp;exact N
   by_cases c1:b<m
   ·have t1:decide (b<m)=true:=decide_eq_true c1;have O:Hid (lv b m false=1):=by show lv b m false=1;unfold lv;simp [N,c1]
    clear N c1;obtain⟨B,C,D,E,F,I⟩:=ev U (af _)
    repeat (first|go_values|go_skip|go_guarded|go_step|go_upon)
    go_ret3
    exact⟨by rw[O.out];rfl,M⟩
   ·have t1:decide (b<m)=false:=decide_eq_false c1;by_cases S:b=m
    ·have t2:((b:Int)==(m:Int))=true:=by rw[S];simp
     have O:Hid (lv b m false=2):=by show lv b m false=2;unfold lv;rw[if_neg (by rintro⟨h,-⟩;exact N h),if_neg c1,if_pos ⟨S,rfl⟩]
     clear N c1 S;obtain⟨B,C,D,E,F,I⟩:=ev U (af _)
     repeat (first|go_values|go_skip|go_guarded|go_step|go_upon)
     go_ret3
     exact⟨by rw[O.out];rfl,M⟩
    ·have t2:((b:Int)==(m:Int))=false:=by simp;omega
     have O:Hid (lv b m false=3):=by show lv b m false=3;unfold lv;simp [N,c1,S]
     clear N c1 S;obtain⟨B,C,D,E,F,I⟩:=ev U (af _)
     repeat (first|go_values|go_skip|go_guarded|go_step|go_upon)
     go_ret3
     exact⟨by rw[O.out];rfl,M⟩
 ·by_cases c1:b<m
  ·have t1:decide (b<m)=true:=decide_eq_true c1;have O:Hid (lv b m true=1):=by show lv b m true=1;unfold lv;simp [c1]
   by_cases N:b=0
   ·have t0:((b:Int)==0)=true:=by rw[N];rfl
    clear N c1;obtain⟨B,C,D,E,F,I⟩:=ev U (af _)
    repeat (first|go_values|go_skip|go_guarded|go_step|go_upon)
    go_ret3
    exact⟨by rw[O.out];rfl,M⟩
   ·have t0:((b:Int)==0)=false:=by simp;exact N
    clear N c1;obtain⟨B,C,D,E,F,I⟩:=ev U (af _)
    repeat (first|go_values|go_skip|go_guarded|go_step|go_upon)
    go_ret3
    exact⟨by rw[O.out];rfl,M⟩
  ·have t1:decide (b<m)=false:=decide_eq_false c1;have O:Hid (lv b m true=3):=by show lv b m true=3;unfold lv;simp [c1]
   have t0:((b:Int)==0)=false:=by have:=ap.out;simp;omega
   by_cases S:b=m
   ·have t2:((b:Int)==(m:Int))=true:=by rw[S];simp
    clear c1 S;obtain⟨B,C,D,E,F,I⟩:=ev U (af _)
    repeat (first|go_values|go_skip|go_guarded|go_step|go_upon)
    go_ret3
    exact⟨by rw[O.out];rfl,M⟩
   ·have t2:((b:Int)==(m:Int))=false:=by simp;omega
    clear c1 S;obtain⟨B,C,D,E,F,I⟩:=ev U (af _)
    repeat (first|go_values|go_skip|go_guarded|go_step|go_upon)
    go_ret3
    exact⟨by rw[O.out];rfl,M⟩
theorem q19 (w:World) (n:Nat) (D:n<100):Calls Tryz.prog 105 #[.int .u64 (n:Int),.int .i64 10] w fun e B=>e= .returned (.string ⟨(Lib.decDigits n).toArray⟩)∧G w B:=by
 have I:Hid (∀ A,Calls Tryz.prog 167 #[.int .i64 (n:Int)] A fun e B=>e= .returned (.string ⟨(Lib.decDigits n).toArray⟩)∧B=A):=fun A=>Tryz.internal_strconv_small n D A;have J:decide ((n:Int)<100)=true:=decide_eq_true dT;have C:decide (n<100)=true:=decide_eq_true D;have E:(n:Int)<100:=by omega
 have F:Hid (∀ A,Calls Tryz.prog 161 #[.int .u64 (n:Int),.int .i64 10] A fun e B=>e= .returned (.string ⟨(Lib.decDigits n).toArray⟩)∧G A B):=by
  intro A;go_enter Tryz.func161,Tryz.ntmps161;go_wp2_with fail;refine dS (I.out _) ?_;rintro e K ⟨rfl,rfl⟩;go_wp2_with fail;go_ret;exact⟨rfl,af _⟩
 clear J C D E;go_enter Tryz.func105,Tryz.ntmps105;go_wp2_with fail;refine dS (F.out _) ?_;rintro e K ⟨rfl,g⟩;go_wp2_with fail;go_ret;exact⟨rfl,g⟩
theorem q00 (w:World) (va:Value) (n:Nat) (Y:0<n) (k:n<100) (W:Num w va n):
  Calls Tryz.prog 47 #[va] w fun e s=>e= .returned (.string ⟨(Lib.decDigits n).toArray⟩)∧G w s:=by
 have O:=hi9 (fj w va n 10000000000000000000 1 dT W dT dT dT);rw[aN dT,aM dT] at O;have j:Hid (∀ d,_):=fun d=>q19 d n k;have M:(⟨(Lib.decDigits n).toArray⟩:ByteArray).size≤1000:=by
  show (Lib.decDigits n).toArray.size≤1000;rw[List.size_toArray,Lib.decDigits];split
  ·simp
  ·rw[Lib.decDigits,dif_pos dT];simp
 rcases eR W with ⟨h,-⟩|⟨-,-,nb,no,nc,rfl,-,-,-⟩|⟨h,-⟩
 ·omega
 ·clear W Y k;go_enter Tryz.func47,Tryz.ntmps47;go_wp2_with fail;refine wp_loop_rounds 2 ?_;rw[rounds_succ];go_wp2_with fail;refine dS O.out ?_;intro e d Z;obtain⟨v,rfl,g1,hv⟩:=Z;rcases eR hv with ⟨-,pa,pc,rfl⟩|⟨h,-⟩|⟨h,-⟩
  ·go_wp2_with fail;refine dS (j.out _) ?_;rintro e B ⟨rfl,g2⟩;go_wp2_with fail;generalize m:Value.string ⟨(Lib.decDigits n).toArray⟩=S at *;generalize (Question.appendCap 1 0 9).cut (B.tape B.drawn (Question.appendCap 1 0 9))=cap at *;generalize Builtin.zeroCells #[Value.string ⟨#[]⟩] (cap-1)=N at *;have K:(#[S]++N)[0]? =some S:=by rw[Array.getElem?_append_left eO];rfl
   have hc:((B.alloc (.cells #[S] 9)).alloc (.cells (#[S]++N) 9)).drew.cell? ⟨B.heap.size+1,0,none⟩=some S:=by simp [go_sem,K]
   have g3:G w ((B.alloc (.cells #[S] 9)).alloc (.cells (#[S]++N) 9)).drew:=((((aa g1 g2)).alloc _).alloc _).drew;have o:B.heap.size+1<((B.alloc (.cells #[S] 9)).alloc (.cells (#[S]++N) 9)).drew.heap.size:=by simp
   generalize ((B.alloc (.cells #[S] 9)).alloc (.cells (#[S]++N) 9)).drew=A at *;generalize B.heap.size+1=pb at *;have c:(Value.slice (some ⟨B.heap.size,0,none⟩) 1 1)=Value.slice (some ⟨B.heap.size,0,none⟩) 1 1:=rfl;clear c j O hv g1 g2 K;have J:(A.alloc (.cells #[.pointer none,.slice none 0 0] 130)).heap[A.heap.size]? =some (.cells #[.pointer none,.slice none 0 0] 130 (0,0)):=by simp only[World.alloc];exact cQ
   have F:=hi9 (q14 (A.alloc (.cells #[.pointer none,.slice none 0 0] 130)) A.heap.size ⟨(Lib.decDigits n).toArray⟩ J M);have D:Hid (G A (A.alloc (.cells #[.pointer none,.slice none 0 0] 130))):=(af A).alloc _;clear J M;subst m;rw[rounds_succ];go_wp2_with fail;refine dS F.out ?_;intro e i Z;obtain⟨⟨v4,rfl⟩,L,C⟩:=Z;have E:Hid (Lib.IsBuilderF 130 5 A.heap.size A.heap.size (Lib.byteCells (Lib.decDigits n)) i):=L;have I:G A i:=Below.trans D.out C;have R:=hi9 (q08 i A.heap.size (Lib.decDigits n) E.out I.size);clear F D L C E;go_wp2_with fail;refine wp_loop_rounds 1 ?_;rw[rounds_succ];go_wp2_with fail;refine dS R.out ?_;rintro e y ⟨rfl,X⟩;have U:G A y:=Below.trans I X;go_wp2_with fail;go_ret;exact⟨rfl,aa g3 U⟩
  ·omega
  ·omega
 ·omega
/-- Ten to the power of e. -/
def ten (e:Int):Rat:=mkRat ((10^e.toNat:Nat):Int) (10^(-e).toNat)
/-- A quotient and a rest. -/
def DMs (w:World) (v:Value) (Q R:Nat):Prop:=∃ A B,v= .tuple #[A,B]∧Num w A Q∧Num w B R
theorem DMs.G {w A:World} {v:Value} {Q R:Nat} (h:DMs w v Q R) (g:Go.Proofs.YtfnkkkcojnffdaaGreatDoor.G w A):DMs A v Q R:=by
 obtain⟨B,C,e,h1,h2⟩:=h;exact⟨B,C,e,h1.G g,h2.G g⟩
end Go.Proofs.YtfnkkkcojnffdaaGreatDoor.EN
