/- What is proved here: contracts of package exact: the greatest whole number that isn't above a fraction, over this seat's translation.
What is proved here: contracts of package exact: the fraction whose square a fraction is, over this seat's translation. -/
import Derived.Test.YtfnkkkcojnffdaaGreatDoorQ20
import Derived.Test.YtfnkkkcojnffdaaGreatDoorQ1
import Derived.Test.YtfnkkkcojnffdaaGreatDoorQ8
import Derived.Test.YtfnkkkcojnffdaaGreatDoorQ3
import Derived.Test.YtfnkkkcojnffdaaGreatDoorQ18
import Derived.Test.YtfnkkkcojnffdaaGreatDoorQ31
import Derived.Test.YtfnkkkcojnffdaaGreatDoorQ30
import Derived.Test.YtfnkkkcojnffdaaGreatDoorQ6
namespace Go.Proofs.YtfnkkkcojnffdaaGreatDoor.EN
open Go.ChangeShapes Go.WideShapes Go.ChangeAt Go.RowKit
/-- A quotient and a rest. -/
def DMs (w:World) (v:Value) (Q R:Nat):Prop:=∃ A B,v= .tuple #[A,B]∧Num w A Q∧Num w B R
theorem DMs.G {w A:World} {v:Value} {Q R:Nat} (h:DMs w v Q R) (g:Go.Proofs.YtfnkkkcojnffdaaGreatDoor.G w A):DMs A v Q R:=by
 obtain⟨B,C,e,h1,h2⟩:=h;exact⟨B,C,e,h1.G g,h2.G g⟩
theorem qL {n:Int} {d:Nat} (B:0<d) (E:n<0):n/(d:Int)=sgn true (n.natAbs/d+if 0<n.natAbs%d then 1 else 0):=by
 obtain⟨m,rfl⟩:∃ m:Nat,n= -(m:Int):=⟨n.natAbs,by omega⟩;rw[et,ar];unfold sgn;rw[if_pos rfl];have h1:=cu m d;have h2:=aX m B;have C:(0:Int)<d:=by omega
 generalize F:m/d=Q at *;generalize I:m%d=R at *;have h3:(m:Int)=(d:Int)*Q+R:=by rw[← h1];simp
 have D:(R:Int)<d:=by omega
 by_cases A:0<R
 ·rw[if_pos A];have e:(-(m:Int))=(d-R:Int)+d*(-((Q+1:Nat):Int)):=by
   rw[h3,Int.mul_neg,Int.natCast_add,eC];omega
  rw[e,Int.add_mul_ediv_left _ _ eK,Int.ediv_eq_zero_of_lt eK eK,Int.zero_add]
 ·rw[if_neg A];have e:(-(m:Int))=0+d*(-((Q+0:Nat):Int)):=by
   rw[h3,Int.mul_neg,Int.natCast_add];simp;omega
  rw[e,Int.add_mul_ediv_left _ _ eK,Int.zero_ediv,Int.zero_add]
theorem qM {n:Int} {d:Nat} (A:¬ n<0):n/(d:Int)=sgn false (n.natAbs/d):=by
 obtain⟨m,rfl⟩:∃ m:Nat,n=(m:Int):=⟨n.natAbs,by omega⟩;rw[ar];unfold sgn;simp
set_option maxRecDepth 10000 in
theorem q1y (w:World) (v:Value) (q:Rat) (K:Nat) (hK:K≤100000) (fp:1≤K) (h:QIs w v q) (hb:QB q K):
  Calls Tryz.prog 25 #[v] w (RetQ w ((q.num/(q.den:Int):Int):Rat)):=by
 have HB:Hid (∀ B,G w B→_):=fun B g=>iZ B v q (h.G g);obtain⟨a,k,c,a',k',c',rfl,h1,h2⟩:=h;obtain⟨t,ht⟩:∃ t,t=decide (q.num<0):=⟨_,rfl⟩;have HD:Hid (∀ B N,G w B→Num B N q.den→Calls Tryz.prog 71 #[.slice a k c,N] B fun e S=>∃ v,e= .returned v∧G B S∧DMs S v (q.num.natAbs/q.den) (q.num.natAbs%q.den)):=fun B N g hv=>by
  refine(j9 B _ N _ _ K eK fp (h1.G g) hv hb.1 hb.2 q.den_pos).mono ?_;rintro e S ⟨x1,x2,rfl,g',k1,k2⟩;exact⟨_,rfl,g',x1,x2,rfl,k1,k2⟩
 have eb:q.num.natAbs/q.den<2^(64*K):=aq (aN _ _) hb.1;have HP:Hid (∀ B N v2,Num B N (q.num.natAbs/q.den)→Num B v2 1→_):=fun B N v2 k1 k2=>p7 B N v2 _ 1 K eK k1 k2 eb (by have:2^1≤2^(64*K):=ai eK eK;omega);have HS:Hid (∀ B N m,Num B N m→_):=fun B N m k1=>fO B N t m k1;have HF:Hid (∀ (z:Int) B N v2,WholeIs B N z→Num B v2 1→_):=fun z B N v2 k1 k2=>fK B N v2 z 1 1 (z:Rat) k1 k2 eK eK (fun _=>cS _) (ir z);have HZ:Hid (∀ m,m=q.num.natAbs/q.den+(if t=true∧0<q.num.natAbs%q.den then 1 else 0)→sgn t m=q.num/(q.den:Int)):=by
  rintro m rfl;rw[ht];by_cases hn:q.num<0
  ·rw[qL q.den_pos hn,decide_eq_true hn];simp
  ·rw[qM hn,decide_eq_false hn];simp
 rw[← ht] at HB ⊢;generalize q.num/(q.den:Int)=z at *;generalize q.num.natAbs/q.den=Q at *;generalize q.num.natAbs%q.den=R at *;generalize q.den=d at *;clear ht h1 h2 hb eb;go_enter Tryz.func25,Tryz.ntmps25;go_wp2_with fail;obtain⟨w0,ed,g0,ga,R0,R1⟩:=iy w [.bool t,.slice a k c,.slice a' k' c'] [.bool false,.slice none 0 0,.slice none 0 0] 29 29;rw[ed];clear ed;refine jy 11 0 [.is (.pointer (some ⟨w.heap.size,0,none⟩)),.is (.pointer (some ⟨w.heap.size,1,none⟩)),.is (.slice a k c),.is (.agg #[.bool t,.slice a k c,.slice a' k' c']),.any (fun v S=>Num S v (d)),.any (fun v S=>DMs S v Q R),.any (fun v S=>DMs S v Q R),.any (fun v S=>Num S v (Q)),.any (fun v S=>Num S v (R)),.any (fun v S=>Num S v (Q)),.any (fun v S=>Num S v (R))] [some 6,some 7,some 8,some 9,some 10,some 11,some 5,some 12,some 13,some 3,some 4] ?_;intro v4 v5 v6 v7 v8 v9 en A hA;simp only[fg,Act.put,aj,au,av] at hA;subst hA;refine⟨?_,?_⟩
 ·skip
  refine ab rfl ?a1 (ab rfl ?o1_1 (ab rfl ?a6 (ab rfl ?o1_3 (ab rfl ?b0 (ab rfl ?b1 (ab rfl ?b2 (ab rfl ?b3 (ab rfl ?b4 (ab rfl ?b5 (ab rfl ?a7 (bQ)))))))))))
  case a1|o1_1=>
   exact iX
  case a6|o1_3=>
   intro W y hD K hK;clear hD;have ⟨bi,bl,bn⟩:=rc39 R0 y;go_simp;exact hK.out _ _ ⟨_,rfl,ag _,rfl⟩
  ·intro W y hD K hK;have hc:=hi9 (HB.out W (aa g0 y));exact gH
  ·intro W y hD K hK;have h4:=gL v4 4 hD;have hc:=hi9 (HD.out W v4 (aa g0 y) h4);exact gH
  ·intro W y hD K hK;have h5:=gL v5 5 hD;clear hD;go_simp;exact hK.out _ _ ⟨_,rfl,ag _,h5⟩
  ·intro W y hD K hK;have h6:=gL v6 6 hD;clear hD;have ⟨bi,bl,bn⟩:=rc39 R0 y;obtain⟨x1,x2,rfl,k1,k2⟩:=h6;go_simp;exact hK.out _ _ ⟨_,rfl,ag _,k1⟩
  ·intro W y hD K hK;have h6:=gL v6 6 hD;clear hD;have ⟨bi,bl,bn⟩:=rc39 R0 y;obtain⟨x1,x2,rfl,k1,k2⟩:=h6;go_simp;exact hK.out _ _ ⟨_,rfl,ag _,k2⟩
  ·intro W y hD K hK;have h7:=gL v7 7 hD;clear hD;go_simp;exact hK.out _ _ ⟨_,rfl,ag _,h7⟩
  ·intro W y hD K hK;have h8:=gL v8 8 hD;clear hD;go_simp;exact hK.out _ _ ⟨_,rfl,ag _,h8⟩
 intro B g1 hH;have h9:=iW v9 9 hH;have cd:=iW en 10 hH;clear hH;refine wpAny_done eM ?_ _;clear HB HD;have fv:=aa g0 g1;have cl:Hid (Num B en R):=cd;have bv:Hid (Num B v9 Q):=h9;obtain⟨gd,ee,c10,rfl,-,s,-⟩:=gv cd;obtain⟨C,D,E,F,I,J⟩:=eX R0 (g1);clear h9 cd;have bz:Hid (∀ w5 o N M,sgn t M=z→WholeIs w5 N (sgn t M)→G w5 o→WholeIs o N z):=fun w5 o N M e h g=>by rw[← e];exact h.G g
 have fr:(t=true∧0<R)∨¬ (t=true∧0<R):=Classical.em _;rcases fr with hc|hc
 ·obtain⟨rfl,hR⟩:=hc;have hM:sgn true (Q+1)=z:=HZ.out (Q+1) (by rw[if_pos ⟨rfl,hR⟩]);have am:=hi9 hM;have ce:decide (0<ee)=true:=by rw[s];exact decide_eq_true hR
  have gA:=(ag B).alloc (.cells #[.int .u64 1] 78);have ci:=hi9 (HP.out _ v9 (.slice (some ⟨B.heap.size,0,none⟩) 1 1) (bv.out.G gA) (jd rfl));have ep:=aa g1 gA;clear HP HZ cl bv hR hM s;go_wp2_with fail;generalize B.alloc (.cells #[.int .u64 1] 78)=w2 at *;refine eJ ci.out ?_;intro e w5 hs;obtain⟨vq,rfl,g5,ec⟩:=hs;have ap:=hi9 (HS.out w5 vq (Q+1) ec);have cm:=aa ep g5;clear ci ec HS C D E F I J;obtain⟨C,D,E,F,I,J⟩:=eX R0 (cm);go_wp2_with fail;refine eJ ap.out ?_;intro e o hs;obtain⟨vw,rfl,g6,bu⟩:=hs;have O:=bz.out o o vw (Q+1) am.out bu (ag _);have gB:=(ag o).alloc (.cells #[.int .u64 1] 78);have al:=hi9 (HF.out z _ vw (.slice (some ⟨o.heap.size,0,none⟩) 1 1) (O.G gB) (jd rfl));clear ap HF bz am bu O;have L:=aa cm (aa g6 gB);go_wp2_with fail;generalize o.alloc (.cells #[.int .u64 1] 78)=w7 at *;refine eJ al.out ?_;intro e w8 hs;obtain⟨v8,rfl,g8,h8⟩:=hs;clear al C D E F I J;obtain⟨U,i,X,a9,j,Y,rfl,bq,bs⟩:=h8;have ca:Hid (Num w8 (.slice U i X) ((z:Rat)).num.natAbs):=bq;have cb:Hid (Num w8 (.slice a9 j Y) (fT ((z:Rat)).den)):=bs;obtain⟨t9,Z⟩:∃ t,t=decide (((z:Rat)).num<0):=⟨_,rfl⟩;rw[← Z];have cc:Hid (t9=decide (((z:Rat)).num<0)):=Z;clear bq bs Z;obtain⟨dk,dl,dq,dr,ds,ea⟩:=eX R1 (((aa L g8)));have an:Num _ _ _:=eT (u1:= .bool t9) (u2:= .slice U i X) (u3:= .slice a9 j Y) ca.out (aM R1.out (aa L g8)) trivial trivial trivial;have ao:Num _ _ _:=eT (u1:= .bool t9) (u2:= .slice U i X) (u3:= .slice a9 j Y) cb.out (aM R1.out (aa L g8)) trivial trivial trivial;go_wp2_with fail
  have hT:Hid (Rec _ (w.heap.size+1) [.bool t9,.slice U i X,.slice a9 j Y]):=du (aM R1.out (aa L g8));have g9:=Rec.h3 hT.out (aa g0 (aa L g8)) eK;generalize (World.setCell (World.setCell (World.setCell w8 ⟨w.heap.size+1,0,none⟩ (.bool t9)) ⟨w.heap.size+1,1,none⟩ (.slice U i X)) ⟨w.heap.size+1,2,none⟩ (.slice a9 j Y))=w9 at *;obtain⟨cn,cr,cs,cx,cy,cz⟩:=eX hT (((ag _)));refine bodyPost_ret (v:= .agg #[.bool t9,.slice U i X,.slice a9 j Y]) (by simp [results,Tryz.results25,go_sem, *]) rfl ?_;exact⟨_,rfl,g9,U,i,X,a9,j,Y,by rw[← cc.out],an,ao⟩
 ·have hM:sgn t Q=z:=HZ.out Q (by rw[if_neg hc,aS]);have am:=hi9 hM;have ce:t=true→decide (0<ee)=false:=fun e=>by rw[s];exact decide_eq_false (fun h=>hc ⟨e,h⟩)
  have ap:=hi9 (HS.out B v9 Q bv.out);clear HP HZ cl bv hc hM s HS;cases t
  case' true=>
   have fs:=ce rfl
  all_goals
   clear ce;go_wp2_with fail;refine eJ ap.out ?_;intro e o hs;obtain⟨vw,rfl,g6,bu⟩:=hs;have O:=bz.out o o vw Q am.out bu (ag _);have gB:=(ag o).alloc (.cells #[.int .u64 1] 78);have al:=hi9 (HF.out z _ vw (.slice (some ⟨o.heap.size,0,none⟩) 1 1) (O.G gB) (jd rfl));clear ap HF bz am bu O;have L:=aa g1 (aa g6 gB);go_wp2_with fail;generalize o.alloc (.cells #[.int .u64 1] 78)=w7 at *;refine eJ al.out ?_;intro e w8 hs;obtain⟨v8,rfl,g8,h8⟩:=hs;clear al C D E F I J;obtain⟨U,i,X,a9,j,Y,rfl,bq,bs⟩:=h8;have ca:Hid (Num w8 (.slice U i X) ((z:Rat)).num.natAbs):=bq;have cb:Hid (Num w8 (.slice a9 j Y) (fT ((z:Rat)).den)):=bs;obtain⟨t9,Z⟩:∃ t,t=decide (((z:Rat)).num<0):=⟨_,rfl⟩;rw[← Z];have cc:Hid (t9=decide (((z:Rat)).num<0)):=Z;clear bq bs Z;obtain⟨dk,dl,dq,dr,ds,ea⟩:=eX R1 (((aa L g8)));have an:Num _ _ _:=eT (u1:= .bool t9) (u2:= .slice U i X) (u3:= .slice a9 j Y) ca.out (aM R1.out (aa L g8)) trivial trivial trivial;have ao:Num _ _ _:=eT (u1:= .bool t9) (u2:= .slice U i X) (u3:= .slice a9 j Y) cb.out (aM R1.out (aa L g8)) trivial trivial trivial;go_wp2_with fail;have hT:Hid (Rec _ (w.heap.size+1) [.bool t9,.slice U i X,.slice a9 j Y]):=du (aM R1.out (aa L g8));have g9:=Rec.h3 hT.out (aa g0 (aa L g8)) eK;generalize (World.setCell (World.setCell (World.setCell w8 ⟨w.heap.size+1,0,none⟩ (.bool t9)) ⟨w.heap.size+1,1,none⟩ (.slice U i X)) ⟨w.heap.size+1,2,none⟩ (.slice a9 j Y))=w9 at *;obtain⟨cn,cr,cs,cx,cy,cz⟩:=eX hT (((ag _)))
   refine bodyPost_ret (v:= .agg #[.bool t9,.slice U i X,.slice a9 j Y]) (by simp [results,Tryz.results25,go_sem, *]) rfl ?_;exact⟨_,rfl,g9,U,i,X,a9,j,Y,by rw[← cc.out],an,ao⟩
/-- The whole root, rounded down. -/
theorem qf (a:Nat):∃ r,r*r≤a∧a<(r+1)*(r+1):=by
 induction a with
 |zero=>exact⟨0,by omega,by omega⟩
 |succ a A=>
  obtain⟨r,h1,h2⟩:=A;by_cases h:a+1<(r+1)*(r+1)
  ·exact⟨r,by omega,h⟩
  ·refine⟨r+1,by omega,?_⟩;have:(r+1+1)*(r+1+1)=(r+1)*(r+1)+(2*r+3):=by
    simp only[aw,aJ];omega
   omega
theorem nV {a r s:Nat} (h1:r*r≤a) (h2:a<(r+1)*(r+1)) (e:s*s=a):r*r=a:=by
 rcases Nat.lt_trichotomy r s with h|h|h
 ·have A:r+1≤s:=h;have h3:=bN A A;rw[e] at h3;exact absurd h2 (Nat.not_lt.2 h3)
 ·subst h;exact e
 ·have A:s+1≤r:=h;have h3:=bN A A;have B:s*s<(s+1)*(s+1):=by simp only[aw,aJ];omega
  rw[e] at B;exact absurd (ae B (bk h3 h1)) (Nat.lt_irrefl _)
/-- A fraction whose square another one is. -/
theorem mA {q:Rat} {r s:Nat} (A:r*r=q.num.natAbs) (B:s*s=q.den):Nat.gcd r s=1∧0<s:=by
 have C:=q.den_pos;refine⟨?_,by
  rcases bo s with h|h
  ·subst h;omega
  ·exact h⟩
 have h1:Nat.gcd r s∣1:=by
  rw[← q.reduced,← A,← B];exact Nat.dvd_gcd (eD (bI r s) (Nat.dvd_mul_right r r)) (eD (bD r s) (Nat.dvd_mul_right s s))
 exact Nat.dvd_one.1 h1
set_option maxRecDepth 10000 in
theorem q14 (w:World) (v:Value) (q:Rat) (r s K:Nat) (hK:K≤20000) (fs:1≤K) (h:QIs w v q) (hb:QB q K) (bu:r*r≤q.num.natAbs) (dl:q.num.natAbs<(r+1)*(r+1)) (bv:s*s≤q.den) (dr:q.den<(s+1)*(s+1)):
  Calls Tryz.prog 32 #[v] w (gM w (if q.num<0 then 0 else if r*r=q.num.natAbs∧s*s=q.den then mkRat r s else 0) (if q.num<0 then 3 else if r*r=q.num.natAbs∧s*s=q.den then 0 else 9)):=by
 have O:Hid (∀ B,G w B→_):=fun B g=>kX B v q (h.G g);have HB:Hid (∀ B,G w B→_):=fun B g=>iZ B v q (h.G g);obtain⟨a,k,c,a',k',c',rfl,h1,h2⟩:=h;obtain⟨t,ht⟩:∃ t,t=decide (q.num<0):=⟨_,rfl⟩;by_cases F:q.num<0
 ·rw[if_pos F,if_pos F];have ds:q.num.sign= -1:=dI F;rw[ds,← ht] at O;rw[← ht];clear ht h1 h2 hb bu dl bv dr F ds HB;go_enter Tryz.func32,Tryz.ntmps32;go_wp2_with fail;obtain⟨w0,bz,g0,hg,R0,R1⟩:=iy w [.bool t,.slice a k c,.slice a' k' c'] [.bool false,.slice none 0 0,.slice none 0 0] 29 29;rw[bz];clear bz;refine eJ (O.out w0 g0) ?_;rintro e B ⟨rfl,g1⟩;clear O;obtain⟨am,an,ao,ap,bi,bl⟩:=eX R1 (((g1)));go_wp2_with fail;have hT:Hid (Rec _ (w.heap.size+1) [.bool false,.slice none 0 0,.slice none 0 0]):=du (aM R1.out (g1));have g9:=Rec.h3 hT.out (aa g0 g1) eK;generalize (World.setCell (World.setCell (World.setCell B ⟨w.heap.size+1,0,none⟩ (.bool false)) ⟨w.heap.size+1,1,none⟩ (.slice none 0 0)) ⟨w.heap.size+1,2,none⟩ (.slice none 0 0))=w9 at *;obtain⟨Y,i,j,m,o,al⟩:=eX hT (((ag _)));refine bodyPost_ret (v:= .tuple #[.agg #[.bool false,.slice none 0 0,.slice none 0 0],.int .i64 3]) (by simp [results,Tryz.results32,go_sem, *]) rfl ?_;exact⟨_,rfl,g9,iS w9⟩
 ·rw[if_neg F,if_neg F];have ds:decide (q.num.sign<0)=false:=decide_eq_false (by
   rcases Int.lt_or_eq_of_le (Int.not_lt.1 F) with h|h
   ·rw[dz h];omega
   ·rw[← h];decide)
  have gd:=mA (q:=q) (r:=r) (s:=s);have dq:r<2^(64*K):=aq (bk (dA r) bu) hb.1;have cl:s<2^(64*K):=aq (bk (dA s) bv) hb.2;have hn:=hb.1;have hd:=hb.2;have fr:Hid (∀ B,G w B→_):=fun B g=>q0O B (.slice a k c) q.num.natAbs r K eK fs (h1.G g) hn bu dl;have fp:Hid (∀ B E,Num B E q.den→_):=fun B E hv=>q0O B E q.den s K eK fs hv hd bv dr;have R:Hid (∀ B E,Num B E r→_):=fun B E hv=>gU B E E r r K eK hv hv dq dq;have U:Hid (∀ B E,Num B E s→_):=fun B E hv=>gU B E E s s K eK hv hv cl cl;have L:Hid (∀ B E,G w B→Num B E (r*r)→_):=fun B E g hv=>iz B E (.slice a k c) (r*r) q.num.natAbs K eK hv (h1.G g) (aq bu hn) hn;have N:Hid (∀ B E v2,Num B E (s*s)→Num B v2 q.den→_):=fun B E v2 hv he=>iz B E v2 (s*s) q.den K eK hv he (aq bv hd) hd;have dk:∀ x y:Nat,(cmpV x y != 0)=decide (x≠y):=fun x y=>by
   unfold cmpV;by_cases h:x=y
   ·rw[h];simp
   ·rw[decide_eq_true h];split<;>first|rfl|decide|(split<;>first|rfl|decide|omega)
  have cz:=dk (r*r) q.num.natAbs;have ci:=dk (s*s) q.den;have HS:Hid (∀ B E,Num B E r→_):=fun B E hv=>fO B E false r hv;have HF:Hid (r*r=q.num.natAbs→s*s=q.den→∀ B E v2,WholeIs B E (sgn false r)→Num B v2 s→Calls Tryz.prog 48 #[E,v2] B (RetQ B (mkRat r s))):=fun e1 e2 B E v2 k1 k2=>by
   obtain⟨g1,g2⟩:=gd e1 e2;exact fK B E v2 (sgn false r) s K (mkRat r s) k1 k2 g2 cl (fun _=>by rw[iE];exact g1) rfl
  rw[← ht] at HB O;rw[← ht];generalize hZ:(if r*r=q.num.natAbs∧s*s=q.den then mkRat r s else 0)=Z at *;generalize hC:(if r*r=q.num.natAbs∧s*s=q.den then (0:Int) else 9)=C at *;have HZ:=hi9 hZ;have HC:=hi9 hC;obtain⟨cn,cr⟩:∃ cn,cn=cmpV (r*r) q.num.natAbs:=⟨_,rfl⟩;obtain⟨cd,cm⟩:∃ cd,cd=cmpV (s*s) q.den:=⟨_,rfl⟩;rw[← cr] at L cz;rw[← cm] at N ci;generalize q.num.sign=sg at *;generalize q.num.natAbs=n at *;generalize q.den=d at *;clear F gd bu dl bv dr dq cl hn hd hb h1 h2 ht dk hZ hC cr cm;go_enter Tryz.func32,Tryz.ntmps32;go_wp2_with fail;obtain⟨w0,bz,g0,hg,R0,R1⟩:=iy w [.bool t,.slice a k c,.slice a' k' c'] [.bool false,.slice none 0 0,.slice none 0 0] 29 29;rw[bz];clear bz;refine eJ (O.out w0 g0) ?_;rintro e B ⟨rfl,g1⟩;have ce:=aa g0 g1;have S0:Hid (Rec _ _ _):=aM R0.out (g1);have S1:Hid (Rec _ _ _):=aM R1.out (g1);clear O R0 R1 g0 g1;go_wp2_with fail;refine jy 9 0 [.is (.pointer (some ⟨w.heap.size,0,none⟩)),.is (.pointer (some ⟨w.heap.size,1,none⟩)),.is (.slice a k c),.any (fun v I=>Num I v (r)),.is (.agg #[.bool t,.slice a k c,.slice a' k' c']),.any (fun v I=>Num I v (d)),.any (fun v I=>Num I v (s)),.any (fun v I=>Num I v (r)),.any (fun v I=>Num I v (s))] [some 10,some 11,some 12,some 13,some 14,some 15,some 16,some 4,some 5] ?_;intro v3 v5 v6 S v8 A X;simp only[fg,Act.put,aj,au,av] at X;subst X;refine⟨?_,?_⟩
  ·skip
   refine ab rfl ?b7 (ab rfl ?o1_1 (ab rfl ?b8 (ab rfl ?hM (ab rfl ?o1_4 (ab rfl ?hN (ab rfl ?hO (ab rfl ?hP (ab rfl ?hQ (bQ)))))))))
   case b7|o1_1=>
    exact iX
   case b8|o1_4=>
    intro W D hD K hK;clear hD;have ⟨gn,gz,ha⟩:=rc39 S0 D;go_simp;exact hK.out _ _ ⟨_,rfl,ag _,rfl⟩
   ·intro W D hD K hK;have hc:=hi9 (fr.out W (aa ce D));exact gH
   ·intro W D hD K hK;have hc:=hi9 (HB.out W (aa ce D));exact gH
   ·intro W D hD K hK;have h5:=gL v5 5 hD;have hc:=hi9 (fp.out W v5 h5);exact gH
   ·intro W D hD K hK;have h3:=gL v3 3 hD;clear hD;go_simp;exact hK.out _ _ ⟨_,rfl,ag _,h3⟩
   ·intro W D hD K hK;have h6:=gL v6 6 hD;clear hD;go_simp;exact hK.out _ _ ⟨_,rfl,ag _,h6⟩
  intro w2 g2 hH;have h7:=iW S 7 hH;have h8:=iW v8 8 hH;clear hH;refine wpAny_done eM ?_ _;have H7:Hid (Num w2 S r):=h7;have H8:Hid (Num w2 v8 s):=h8;have J:=aa ce g2;have T0:Hid (Rec _ _ _):=aM S0.out (g2);have T1:Hid (Rec _ _ _):=aM S1.out (g2);clear fr fp S0 S1 ce g2 h7 h8;by_cases en:r*r=n
  case' neg=>
   have M:¬ (r*r=n∧s*s=d):=fun h=>en h.1;rw[decide_eq_true (show r*r≠n from en)] at cz;clear ci en;go_wp2_with fail;refine jy 17 0 [.is (S),.is (S),.any (fun v I=>Num I v (r*r)),.is (.pointer (some ⟨w.heap.size,0,none⟩)),.is (.pointer (some ⟨w.heap.size,1,none⟩)),.is (.slice a k c),.is (.int .i64 cn),.is (.bool true),.is (.bool true),.is (undef),.is (undef),.is (undef),.is (undef),.is (undef),.is (undef),.is (undef),.is (.bool true)] [some 17,some 18,some 19,some 20,some 21,some 22,some 23,some 24,some 25,some 26,some 27,some 28,some 29,some 30,some 31,some 32,some 33] ?_;intro v2 A X;simp only[fg,Act.put,aj,au,av] at X;subst X;refine⟨?_,?_⟩
   ·skip
    refine ab rfl ?bA (ab rfl ?bB (ab rfl ?hR (ab rfl ?bT (ab rfl ?c0 (ab rfl ?c2 (ab rfl ?hS (ab rfl ?c3 (ab rfl ?c4 (ab rfl ?c5 (ab rfl ?a1 (ab rfl ?a6 (ab rfl ?a7 (ab rfl ?b0 (ab rfl ?b1 (ab rfl ?b2 (ab rfl ?o2_16 (bQ)))))))))))))))))
    case bA|bB|bT|c0|c3|c4|c5|a1|a6|a7|b0|b1|b2|o2_16=>
     exact iX
    case c2=>
     intro W D hD K hK;clear hD;have ⟨bn,bq,bs⟩:=rc39 T0 D;go_simp;exact hK.out _ _ ⟨_,rfl,ag _,rfl⟩
    ·intro W D hD K hK;have hc:=hi9 (R.out W S (H7.out.G D));exact gH
    ·intro W D hD K hK;have h2:=gL v2 2 hD;have hc:=hi9 (L.out W v2 (aa J D) h2);exact rX
   intro w3 g3 hH;clear hH;refine wpAny_done eM ?_ _;clear R U L N HB HS HF H7 H8;have e9:C=9∧Z=0:=⟨by rw[← HC.out,if_neg M],by rw[← HZ.out,if_neg M]⟩;obtain⟨rfl,rfl⟩:=e9;clear M HC HZ;obtain⟨am,an,ao,ap,bi,bl⟩:=eX T1 (((g3)));go_wp2_with fail;have hT:Hid (Rec _ (w.heap.size+1) [.bool false,.slice none 0 0,.slice none 0 0]):=du (aM T1.out (g3));have g9:=Rec.h3 hT.out (aa J g3) eK;generalize (World.setCell (World.setCell (World.setCell w3 ⟨w.heap.size+1,0,none⟩ (.bool false)) ⟨w.heap.size+1,1,none⟩ (.slice none 0 0)) ⟨w.heap.size+1,2,none⟩ (.slice none 0 0))=w9 at *;obtain⟨Y,i,j,m,o,al⟩:=eX hT (((ag _)));refine bodyPost_ret (v:= .tuple #[.agg #[.bool false,.slice none 0 0,.slice none 0 0],.int .i64 9]) (by simp [results,Tryz.results32,go_sem, *]) rfl ?_;exact⟨_,rfl,g9,iS w9⟩
  case' pos=>
   rw[decide_eq_false (show ¬ (r*r≠n) from fun h=>h en)] at cz;by_cases ed:s*s=d
  case' neg=>
   have M:¬ (r*r=n∧s*s=d):=fun h=>ed h.2;rw[decide_eq_true (show s*s≠d from ed)] at ci;clear ed en;go_wp2_with fail;refine jy 17 0 [.is (S),.is (S),.any (fun v I=>Num I v (r*r)),.is (.pointer (some ⟨w.heap.size,0,none⟩)),.is (.pointer (some ⟨w.heap.size,1,none⟩)),.is (.slice a k c),.is (.int .i64 cn),.is (.bool false),.is (.bool false),.is (v8),.is (v8),.any (fun v I=>Num I v (s*s)),.is (.agg #[.bool t,.slice a k c,.slice a' k' c']),.any (fun v I=>Num I v (d)),.is (.int .i64 cd),.is (.bool true),.is (.bool true)] [some 17,some 18,some 19,some 20,some 21,some 22,some 23,some 24,some 25,some 26,some 27,some 28,some 29,some 30,some 31,some 32,some 33] ?_;intro v2 cb cc A X;simp only[fg,Act.put,aj,au,av] at X;subst X;refine⟨?_,?_⟩
   ·skip
    refine ab rfl ?c6 (ab rfl ?c7 (ab rfl ?hU (ab rfl ?e3 (ab rfl ?e4 (ab rfl ?e5 (ab rfl ?hV (ab rfl ?e6 (ab rfl ?e7 (ab rfl ?e8 (ab rfl ?b3 (ab rfl ?hE (ab rfl ?o3_12 (ab rfl ?hF (ab rfl ?hG (ab rfl ?b4 (ab rfl ?o3_16 (bQ)))))))))))))))))
    case c6|c7|e3|e4|e6|e7|e8|b3|b4|o3_16=>
     exact iX
    case e5|o3_12=>
     intro W D hD K hK;clear hD;have ⟨bn,bq,bs⟩:=rc39 T0 D;go_simp;exact hK.out _ _ ⟨_,rfl,ag _,rfl⟩
    ·intro W D hD K hK;have hc:=hi9 (R.out W S (H7.out.G D));exact gH
    ·intro W D hD K hK;have h2:=gL v2 2 hD;have hc:=hi9 (L.out W v2 (aa J D) h2);exact rX
    ·intro W D hD K hK;have hc:=hi9 (U.out W v8 (H8.out.G D));exact gH
    ·intro W D hD K hK;have hc:=hi9 (HB.out W (aa J D));exact gH
    ·intro W D hD K hK;have cx:=gL cb 11 hD;have cy:=gL cc 13 hD;have hc:=hi9 (N.out W cb cc cx cy);exact rX
   intro w3 g3 hH;clear hH;refine wpAny_done eM ?_ _;clear R U L N HB HS HF H7 H8;have e9:C=9∧Z=0:=⟨by rw[← HC.out,if_neg M],by rw[← HZ.out,if_neg M]⟩;obtain⟨rfl,rfl⟩:=e9;clear M HC HZ;obtain⟨am,an,ao,ap,bi,bl⟩:=eX T1 (((g3)));go_wp2_with fail;have hT:Hid (Rec _ (w.heap.size+1) [.bool false,.slice none 0 0,.slice none 0 0]):=du (aM T1.out (g3));have g9:=Rec.h3 hT.out (aa J g3) eK;generalize (World.setCell (World.setCell (World.setCell w3 ⟨w.heap.size+1,0,none⟩ (.bool false)) ⟨w.heap.size+1,1,none⟩ (.slice none 0 0)) ⟨w.heap.size+1,2,none⟩ (.slice none 0 0))=w9 at *;obtain⟨Y,i,j,m,o,al⟩:=eX hT (((ag _)));refine bodyPost_ret (v:= .tuple #[.agg #[.bool false,.slice none 0 0,.slice none 0 0],.int .i64 9]) (by simp [results,Tryz.results32,go_sem, *]) rfl ?_;exact⟨_,rfl,g9,iS w9⟩
  case' pos=>
   rw[decide_eq_false (show ¬ (s*s≠d) from fun h=>h ed)] at ci;have ca:r*r=n∧s*s=d:=⟨en,ed⟩;have e0:C=0:=by rw[← HC.out,if_pos ca]
   have eZ:mkRat r s=Z:=by rw[← HZ.out,if_pos ca]
   have cs:=hi9 (HF.out en ed);rw[eZ] at cs;subst e0;clear eZ ca ed en HF HC HZ;go_wp2_with fail;refine jy 17 0 [.is (S),.is (S),.any (fun v I=>Num I v (r*r)),.is (.pointer (some ⟨w.heap.size,0,none⟩)),.is (.pointer (some ⟨w.heap.size,1,none⟩)),.is (.slice a k c),.is (.int .i64 cn),.is (.bool false),.is (.bool false),.is (v8),.is (v8),.any (fun v I=>Num I v (s*s)),.is (.agg #[.bool t,.slice a k c,.slice a' k' c']),.any (fun v I=>Num I v (d)),.is (.int .i64 cd),.is (.bool false),.is (.bool false)] [some 17,some 18,some 19,some 20,some 21,some 22,some 23,some 24,some 25,some 26,some 27,some 28,some 29,some 30,some 31,some 32,some 33] ?_;intro v2 cb cc A X;simp only[fg,Act.put,aj,au,av] at X;subst X;refine⟨?_,?_⟩
   ·skip
    refine ab rfl ?eP (ab rfl ?gA (ab rfl ?hX (ab rfl ?gB (ab rfl ?gC (ab rfl ?h0 (ab rfl ?hY (ab rfl ?h4 (ab rfl ?h9 (ab rfl ?hB (ab rfl ?b5 (ab rfl ?hI (ab rfl ?o4_12 (ab rfl ?hJ (ab rfl ?hL (ab rfl ?b6 (ab rfl ?o4_16 (bQ)))))))))))))))))
    case eP|gA|gB|gC|h4|h9|hB|b5|b6|o4_16=>
     exact iX
    case h0|o4_12=>
     intro W D hD K hK;clear hD;have ⟨bn,bq,bs⟩:=rc39 T0 D;go_simp;exact hK.out _ _ ⟨_,rfl,ag _,rfl⟩
    ·intro W D hD K hK;have hc:=hi9 (R.out W S (H7.out.G D));exact gH
    ·intro W D hD K hK;have h2:=gL v2 2 hD;have hc:=hi9 (L.out W v2 (aa J D) h2);exact rX
    ·intro W D hD K hK;have hc:=hi9 (U.out W v8 (H8.out.G D));exact gH
    ·intro W D hD K hK;have hc:=hi9 (HB.out W (aa J D));exact gH
    ·intro W D hD K hK;have cx:=gL cb 11 hD;have cy:=gL cc 13 hD;have hc:=hi9 (N.out W cb cc cx cy);exact rX
   intro w3 g3 hH;clear hH;refine wpAny_done eM ?_ _;have eb:Hid (Num w3 S r):=H7.out.G g3;have ec:Hid (Num w3 v8 s):=H8.out.G g3;have gm:=aa J g3;have U1:Hid (Rec _ _ _):=aM T1.out (g3);clear R U L N HB H7 H8 T0 T1 J g3;go_wp2_with fail;refine eJ (HS.out w3 S eb.out) ?_;intro e w4 hs;obtain⟨vw,rfl,g4,gf⟩:=hs;have ee:=hi9 (cs.out w4 vw v8 gf (ec.out.G g4));clear HS cs eb ec gf;go_wp2_with fail;refine eJ ee.out ?_;intro e w5 hs;obtain⟨vq,rfl,g5,hf⟩:=hs;clear ee;obtain⟨a8,k8,c8,a9,k9,c9,rfl,fv,ga⟩:=hf;have gg:Hid (Num w5 (.slice a8 k8 c8) (Z).num.natAbs):=fv;have gk:Hid (Num w5 (.slice a9 k9 c9) (fT (Z).den)):=ga;obtain⟨t9,ea⟩:∃ t,t=decide ((Z).num<0):=⟨_,rfl⟩;rw[← ea];have gl:Hid (t9=decide ((Z).num<0)):=ea;clear fv ga ea;obtain⟨am,an,ao,ap,bi,bl⟩:=eX U1 (((aa g4 g5)));have em:Num _ _ _:=eT (u1:= .bool t9) (u2:= .slice a8 k8 c8) (u3:= .slice a9 k9 c9) gg.out (aM U1.out (aa g4 g5)) trivial trivial trivial;have ep:Num _ _ _:=eT (u1:= .bool t9) (u2:= .slice a8 k8 c8) (u3:= .slice a9 k9 c9) gk.out (aM U1.out (aa g4 g5)) trivial trivial trivial;go_wp2_with fail;have hT:Hid (Rec _ (w.heap.size+1) [.bool t9,.slice a8 k8 c8,.slice a9 k9 c9]):=du (aM U1.out (aa g4 g5));have g9:=Rec.h3 hT.out (aa gm (aa g4 g5)) eK;generalize (World.setCell (World.setCell (World.setCell w5 ⟨w.heap.size+1,0,none⟩ (.bool t9)) ⟨w.heap.size+1,1,none⟩ (.slice a8 k8 c8)) ⟨w.heap.size+1,2,none⟩ (.slice a9 k9 c9))=w9 at *;obtain⟨Y,i,j,m,o,al⟩:=eX hT (((ag _)))
   refine bodyPost_ret (v:= .tuple #[.agg #[.bool t9,.slice a8 k8 c8,.slice a9 k9 c9],.int .i64 0]) (by simp [results,Tryz.results32,go_sem, *]) rfl ?_;exact⟨_,rfl,g9,a8,k8,c8,a9,k9,c9,by rw[← gl.out],em,ep⟩
end Go.Proofs.YtfnkkkcojnffdaaGreatDoor.EN
