/- What is proved here: contracts of package exact: sums and products of whole numbers, over this seat's translation.
What is proved here: contracts of package exact: fractions are made, over this seat's translation.
What is proved here: contracts of package exact: products of fractions, over this seat's translation.
What is proved here: contracts of package exact: sign, opposite, quotient of fractions, over this seat's translation.
What is proved here: contracts of package exact: comparison, powers of two, sums of fractions, over this seat's translation.
What is proved here: contracts of package exact: sums of fractions, over this seat's translation.
What is proved here: contracts of package exact: Add, Sub, Floor, Square, over this seat's translation.
What is proved here: contracts of package exact: a fraction's front, over this seat's translation. -/
import Derived.Test.YtohcneeihdkfgaaGreatDoorQ9
import Derived.Test.YtohcneeihdkfgaaGreatDoorQ1
import Derived.Test.YtohcneeihdkfgaaGreatDoorQ10
import Derived.Test.YtohcneeihdkfgaaGreatDoorQ3
import Derived.Test.YtohcneeihdkfgaaGreatDoorQ8
import Derived.Test.YtohcneeihdkfgaaGreatDoorQ27
import Derived.Test.YtohcneeihdkfgaaGreatDoorQ22
namespace Go.Proofs.YtohcneeihdkfgaaGreatDoor.EN
open Go.ChangeShapes Go.WideShapes Go.ChangeAt Go.RowKit
theorem lO (w:World) (v u:Value) (s:Bool) (n m K:Nat) (hK:K≤400000) (h:WholeS w v s n) (hu:Num w u m) (hn:n<2^(64*K)) (hm:m<2^(64*K)):
  Calls Tryz.prog 87 #[v,u] w (fW w (sgn s n*m)):=by
 obtain⟨a,k,c,rfl,hv⟩:=h;have j:Hid (∀ B,G w B→_):=fun B g=>jD B (.slice a k c) u n m K eX (hv.G g) (hu.G g) hn hm;have i:Hid (∀ B v,Num B v (n*m)→Calls Tryz.prog 80 #[.bool s,v] B (fW B (sgn s n*m))):=fun B v hv=>by
  have h:=im B v s _ hv;rw[show sgn s (n*m)=sgn s n*m from by unfold sgn;cases s<;>simp [Int.neg_mul]] at h;exact h
 generalize n*m=q at *;generalize sgn s n*m=y at *;clear hv hu hn hm;go_enter Tryz.func87,Tryz.ntmps87;go_wp2_with fail;obtain⟨w0,O,g0,al,R0,X⟩:=gF w [.bool s,.slice a k c] [.bool false,.slice none 0 0] 27 27;rw[O];clear O;refine jU 7 1 [.is (.pointer (some ⟨w.heap.size,0,none⟩)),.is (.bool s),.is (.pointer (some ⟨w.heap.size,1,none⟩)),.is (.slice a k c),.is (u),.any (fun v d=>Num d v (q)),.any (fun v d=>WholeIs d v (y))] [some 5,some 6,some 7,some 8,some 9,some 10,some 11] ?_;intro v5 v6 A o;simp only[fG,Act.put,aq,ay,az] at o;subst o;refine⟨?_,?_⟩
 ·skip
  refine aa rfl ?a1 (aa rfl ?a6 (aa rfl ?a7 (aa rfl ?o1_3 (aa rfl ?o1_4 (aa rfl ?a8 (aa rfl ?b0 (bN)))))))
  case a1|a7|o1_4=>
   exact jX
  case a6|o1_3=>
   intro W R hD K hK;clear hD;have ⟨Y,Z⟩:=rc29 R0 R;go_simp;exact hK.out _ _ ⟨_,rfl,ad _,rfl⟩
  ·intro W R hD K hK;have hc:=hi9 (j.out W (ab g0 R));exact gY
  ·intro W R hD K hK;have h5:=gZ v5 5 hD;have hc:=hi9 (i.out W v5 h5);exact gY
 intro B g1 hH;have h6:=jG v6 6 hH;clear hH;clear j i;obtain⟨a9,E,D,rfl,N⟩:=h6;have S:Hid (Num B (.slice a9 E D) (y).natAbs):=N;obtain⟨t9,C⟩:∃ t,t=decide ((y)<0):=⟨_,rfl⟩;rw[← C];have U:Hid (t9=decide ((y)<0)):=C;clear N C;obtain⟨I,J,L,M⟩:=fe X (g1);refine wpAny_ready (rs:=[7]) eZ fX ?_;refine AllReady.cons rfl (fun K hK=> ?_) AllReady.nil;go_simp;refine hK _ _ ?_;clear hK K I J L M;refine wpAny_done eZ ?_ _;have F:Num _ _ _:=jb (u1:= .bool t9) (u2:= .slice a9 E D) S.out (aw X.out (g1)) trivial trivial;go_wp2_with fail;have hT:Hid (Rec _ (w.heap.size+1) [.bool t9,.slice a9 E D]):=bE (aw X.out (g1));have g9:=dQ hT.out (ab g0 g1) eX;generalize (World.setCell (World.setCell B ⟨w.heap.size+1,0,none⟩ (.bool t9)) ⟨w.heap.size+1,1,none⟩ (.slice a9 E D))=w9 at *;obtain⟨e,af,ag,ai⟩:=fe hT (((ad _)));refine bodyPost_ret (v:= .agg #[.bool t9,.slice a9 E D]) (by simp [results,Tryz.results87,go_sem, *]) rfl ?_;exact⟨_,rfl,g9,a9,E,D,by rw[← U.out],F⟩
theorem q0Y (w:World) (v u:Value) (s t:Bool) (n m K:Nat) (hK:K≤400000) (h:WholeS w v s n) (hu:WholeS w u t m) (hn:n<2^(64*K)) (hm:m<2^(64*K)):
  Calls Tryz.prog 70 #[v,u] w (fW w (sgn s n+sgn t m)):=by
 obtain⟨a,k,c,rfl,hv⟩:=h;obtain⟨a',k',c',rfl,hu⟩:=hu;by_cases U:s=t
 ·have HT:Hid (∀ B,G w B→_):=fun B g=>q39 B (.slice a k c) (.slice a' k' c') n m K eX (hv.G g) (hu.G g) hn hm;have HS:Hid (∀ B v,Num B v (n+m)→Calls Tryz.prog 80 #[.bool s,v] B (fW B (sgn s n+sgn t m))):=fun B v hv=>by
   have h:=im B v s _ hv;rw[show sgn s (n+m)=sgn s n+sgn t m from by rw[← U];unfold sgn;cases s<;>simp;omega] at h;exact h
  have bw:(s==t)=true:=by rw[U];simp
  generalize n+m=q at *;generalize sgn s n+sgn t m=y at *;clear hv hu hn hm U;go_enter Tryz.func70,Tryz.ntmps70;go_wp2_with fail;obtain⟨w0,X,g0,bn,R0,R1,i⟩:=gf w [.bool s,.slice a k c] [.bool t,.slice a' k' c'] [.bool false,.slice none 0 0] 27 27 27;rw[X];clear X;have C:=Rec.f2 R0.out;have D:=Rec.f2 R1.out;have j:=C.1;have o:=C.2.1;have af:=D.1;have ag:=D.2.1;clear C D;go_wp2_with fail;clear j o af ag;refine jU 8 1 [.is (.pointer (some ⟨w.heap.size,0,none⟩)),.is (.bool s),.is (.pointer (some ⟨w.heap.size,1,none⟩)),.is (.slice a k c),.is (.pointer (some ⟨w.heap.size+1,1,none⟩)),.is (.slice a' k' c'),.any (fun v w'=>Num w' v (q)),.any (fun v w'=>WholeIs w' v (y))] [some 11,some 12,some 13,some 14,some 15,some 16,some 17,some 18] ?_;intro v6 v7 A hA;simp only[fG,Act.put,aq,ay,az] at hA;subst hA;refine⟨?_,?_⟩
  ·skip
   refine aa rfl ?a1 (aa rfl ?a6 (aa rfl ?a7 (aa rfl ?a8 (aa rfl ?o2_4 (aa rfl ?o2_5 (aa rfl ?b8 (aa rfl ?bA (bN))))))))
   case a1|a7|o2_4=>
    exact jX
   case a6|a8|o2_5=>
    intro W R hD K hK;clear hD;have ⟨bq,bs⟩:=rc29 R0 R;have ⟨bu,bv⟩:=rc29 R1 R;go_simp;exact hK.out _ _ ⟨_,rfl,ad _,rfl⟩
   ·intro W R hD K hK;have hc:=hi9 (HT.out W (ab g0 R));exact gY
   ·intro W R hD K hK;have h6:=gZ v6 6 hD;have hc:=hi9 (HS.out W v6 h6);exact gY
  intro B g1 hH;have h7:=jG v7 7 hH;clear hH;clear HT HS;obtain⟨a9,I,F,rfl,S⟩:=h7;have Z:Hid (Num B (.slice a9 I F) (y).natAbs):=S;obtain⟨t9,E⟩:∃ t,t=decide ((y)<0):=⟨_,rfl⟩;rw[← E];have d:Hid (t9=decide ((y)<0)):=E;clear S E;obtain⟨L,M,N,O⟩:=fe i (g1);refine wpAny_ready (rs:=[8]) eZ fX ?_;refine AllReady.cons rfl (fun K hK=> ?_) AllReady.nil;go_simp;refine hK _ _ ?_;clear hK K L M N O;refine wpAny_done eZ ?_ _;have J:Num _ _ _:=jb (u1:= .bool t9) (u2:= .slice a9 I F) Z.out (aw i.out (g1)) trivial trivial;go_wp2_with fail;have hT:Hid (Rec _ (w.heap.size+2) [.bool t9,.slice a9 I F]):=bE (aw i.out (g1));have g9:=dQ hT.out (ab g0 g1) eX;generalize (World.setCell (World.setCell B ⟨w.heap.size+2,0,none⟩ (.bool t9)) ⟨w.heap.size+2,1,none⟩ (.slice a9 I F))=w9 at *;obtain⟨ai,al,am,an⟩:=fe hT (((ad _)));refine bodyPost_ret (v:= .agg #[.bool t9,.slice a9 I F]) (by simp [results,Tryz.results70,go_sem, *]) rfl ?_;exact⟨_,rfl,g9,a9,I,F,by rw[← d.out],J⟩
 ·have bw:(s==t)=false:=by simp [U]
  have HC:Hid (∀ B,G w B→_):=fun B g=>jx B (.slice a k c) (.slice a' k' c') n m K eX (hv.G g) (hu.G g) hn hm;by_cases Y:n<m
  ·have HT:Hid (∀ B,G w B→_):=fun B g=>mF B (.slice a' k' c') (.slice a k c) m n K eX (hu.G g) (hv.G g) hm (dc Y);have HS:Hid (∀ B v,Num B v (m-n)→Calls Tryz.prog 80 #[.bool t,v] B (fW B (sgn s n+sgn t m))):=fun B v hv=>by
    have h:=im B v t _ hv;rw[show sgn t (m-n)=sgn s n+sgn t m from by unfold sgn;cases s<;>cases t<;>simp at U ⊢ <;>omega] at h;exact h
   rw[show cmpV n m= -1 from by unfold cmpV;rw[if_pos Y]] at HC;generalize m-n=q at *;generalize sgn s n+sgn t m=y at *;clear hv hu hn hm U Y;go_enter Tryz.func70,Tryz.ntmps70;go_wp2_with fail;obtain⟨w0,X,g0,bn,R0,R1,i⟩:=gf w [.bool s,.slice a k c] [.bool t,.slice a' k' c'] [.bool false,.slice none 0 0] 27 27 27;rw[X];clear X;have C:=Rec.f2 R0.out;have D:=Rec.f2 R1.out;have j:=C.1;have o:=C.2.1;have af:=D.1;have ag:=D.2.1;clear C D;go_wp2_with fail;refine eW (HC.out w0 g0) ?_;rintro e w3 ⟨rfl,g3⟩;clear j o af ag;have S0:=hi9 (aw R0.out g3);have S1:=hi9 (aw R1.out g3);go_wp2_with fail;refine jU 8 1 [.is (.pointer (some ⟨w.heap.size+1,0,none⟩)),.is (.bool t),.is (.pointer (some ⟨w.heap.size+1,1,none⟩)),.is (.slice a' k' c'),.is (.pointer (some ⟨w.heap.size,1,none⟩)),.is (.slice a k c),.any (fun v w'=>Num w' v (q)),.any (fun v w'=>WholeIs w' v (y))] [some 26,some 27,some 28,some 29,some 30,some 31,some 32,some 33] ?_;intro v6 v7 A hA;simp only[fG,Act.put,aq,ay,az] at hA;subst hA;refine⟨?_,?_⟩
   ·skip
    refine aa rfl ?b0 (aa rfl ?b1 (aa rfl ?b2 (aa rfl ?b3 (aa rfl ?o3_4 (aa rfl ?o3_5 (aa rfl ?bB (aa rfl ?bT (bN))))))))
    case b0|b2|o3_4=>
     exact jX
    case b1|b3|o3_5=>
     intro W R hD K hK;clear hD;have ⟨ap,bi⟩:=rc29 S0 R;have ⟨bl,bm⟩:=rc29 S1 R;go_simp;exact hK.out _ _ ⟨_,rfl,ad _,rfl⟩
    ·intro W R hD K hK;have hc:=hi9 (HT.out W (ab g0 (ab g3 R)));exact gY
    ·intro W R hD K hK;have h6:=gZ v6 6 hD;have hc:=hi9 (HS.out W v6 h6);exact gY
   intro B g1 hH;have h7:=jG v7 7 hH;clear hH;clear HT HS;obtain⟨a9,I,F,rfl,S⟩:=h7;have Z:Hid (Num B (.slice a9 I F) (y).natAbs):=S;obtain⟨t9,E⟩:∃ t,t=decide ((y)<0):=⟨_,rfl⟩;rw[← E];have d:Hid (t9=decide ((y)<0)):=E;clear S E;obtain⟨L,M,N,O⟩:=fe i (ab g3 g1);refine wpAny_ready (rs:=[8]) eZ fX ?_;refine AllReady.cons rfl (fun K hK=> ?_) AllReady.nil;go_simp;refine hK _ _ ?_;clear hK K L M N O;refine wpAny_done eZ ?_ _;have J:Num _ _ _:=jb (u1:= .bool t9) (u2:= .slice a9 I F) Z.out (aw i.out (ab g3 g1)) trivial trivial;go_wp2_with fail;have hT:Hid (Rec _ (w.heap.size+2) [.bool t9,.slice a9 I F]):=bE (aw i.out (ab g3 g1));have g9:=dQ hT.out (ab g0 (ab g3 g1)) eX;generalize (World.setCell (World.setCell B ⟨w.heap.size+2,0,none⟩ (.bool t9)) ⟨w.heap.size+2,1,none⟩ (.slice a9 I F))=w9 at *;obtain⟨ai,al,am,an⟩:=fe hT (((ad _)));refine bodyPost_ret (v:= .agg #[.bool t9,.slice a9 I F]) (by simp [results,Tryz.results70,go_sem, *]) rfl ?_;exact⟨_,rfl,g9,a9,I,F,by rw[← d.out],J⟩
  ·have HT:Hid (∀ B,G w B→_):=fun B g=>mF B (.slice a k c) (.slice a' k' c') n m K eX (hv.G g) (hu.G g) hn (Nat.le_of_not_lt Y);have HS:Hid (∀ B v,Num B v (n-m)→Calls Tryz.prog 80 #[.bool s,v] B (fW B (sgn s n+sgn t m))):=fun B v hv=>by
    have h:=im B v s _ hv;rw[show sgn s (n-m)=sgn s n+sgn t m from by unfold sgn;cases s<;>cases t<;>simp at U ⊢ <;>omega] at h;exact h
   have bz:decide (cmpV n m<0)=false:=by unfold cmpV;rw[if_neg Y];split<;>rfl
   generalize cmpV n m=cv at *;generalize n-m=q at *;generalize sgn s n+sgn t m=y at *;clear hv hu hn hm U Y;go_enter Tryz.func70,Tryz.ntmps70;go_wp2_with fail;obtain⟨w0,X,g0,bn,R0,R1,i⟩:=gf w [.bool s,.slice a k c] [.bool t,.slice a' k' c'] [.bool false,.slice none 0 0] 27 27 27;rw[X];clear X;have C:=Rec.f2 R0.out;have D:=Rec.f2 R1.out;have j:=C.1;have o:=C.2.1;have af:=D.1;have ag:=D.2.1;clear C D;go_wp2_with fail;refine eW (HC.out w0 g0) ?_;rintro e w3 ⟨rfl,g3⟩;clear j o af ag;have S0:=hi9 (aw R0.out g3);have S1:=hi9 (aw R1.out g3);go_wp2_with fail;refine jU 8 1 [.is (.pointer (some ⟨w.heap.size,0,none⟩)),.is (.bool s),.is (.pointer (some ⟨w.heap.size,1,none⟩)),.is (.slice a k c),.is (.pointer (some ⟨w.heap.size+1,1,none⟩)),.is (.slice a' k' c'),.any (fun v w'=>Num w' v (q)),.any (fun v w'=>WholeIs w' v (y))] [some 34,some 35,some 36,some 37,some 38,some 39,some 40,some 41] ?_;intro v6 v7 A hA;simp only[fG,Act.put,aq,ay,az] at hA;subst hA;refine⟨?_,?_⟩
   ·skip
    refine aa rfl ?b4 (aa rfl ?b5 (aa rfl ?b6 (aa rfl ?b7 (aa rfl ?o4_4 (aa rfl ?o4_5 (aa rfl ?bY (aa rfl ?c0 (bN))))))))
    case b4|b6|o4_4=>
     exact jX
    case b5|b7|o4_5=>
     intro W R hD K hK;clear hD;have ⟨ap,bi⟩:=rc29 S0 R;have ⟨bl,bm⟩:=rc29 S1 R;go_simp;exact hK.out _ _ ⟨_,rfl,ad _,rfl⟩
    ·intro W R hD K hK;have hc:=hi9 (HT.out W (ab g0 (ab g3 R)));exact gY
    ·intro W R hD K hK;have h6:=gZ v6 6 hD;have hc:=hi9 (HS.out W v6 h6);exact gY
   intro B g1 hH;have h7:=jG v7 7 hH;clear hH;clear HT HS;obtain⟨a9,I,F,rfl,S⟩:=h7;have Z:Hid (Num B (.slice a9 I F) (y).natAbs):=S;obtain⟨t9,E⟩:∃ t,t=decide ((y)<0):=⟨_,rfl⟩;rw[← E];have d:Hid (t9=decide ((y)<0)):=E;clear S E;obtain⟨L,M,N,O⟩:=fe i (ab g3 g1);refine wpAny_ready (rs:=[8]) eZ fX ?_;refine AllReady.cons rfl (fun K hK=> ?_) AllReady.nil;go_simp;refine hK _ _ ?_;clear hK K L M N O;refine wpAny_done eZ ?_ _;have J:Num _ _ _:=jb (u1:= .bool t9) (u2:= .slice a9 I F) Z.out (aw i.out (ab g3 g1)) trivial trivial;go_wp2_with fail;have hT:Hid (Rec _ (w.heap.size+2) [.bool t9,.slice a9 I F]):=bE (aw i.out (ab g3 g1));have g9:=dQ hT.out (ab g0 (ab g3 g1)) eX;generalize (World.setCell (World.setCell B ⟨w.heap.size+2,0,none⟩ (.bool t9)) ⟨w.heap.size+2,1,none⟩ (.slice a9 I F))=w9 at *;obtain⟨ai,al,am,an⟩:=fe hT (((ad _)));refine bodyPost_ret (v:= .agg #[.bool t9,.slice a9 I F]) (by simp [results,Tryz.results70,go_sem, *]) rfl ?_;exact⟨_,rfl,g9,a9,I,F,by rw[← d.out],J⟩
/-- What is kept below the bar: nothing for 1. -/
def iw (d:Nat):Nat:=if d=1 then 0 else d
/-- v is the fraction q. -/
def QIs (w:World) (v:Value) (q:Rat):Prop:=∃ a k c A B c',v= .agg #[.bool (decide (q.num<0)),.slice a k c,.slice A B c']∧Num w (.slice a k c) q.num.natAbs∧Num w (.slice A B c') (iw q.den)
theorem QIs.G {w A:World} {v:Value} {q:Rat} (h:QIs w v q) (g:G w A):QIs A v q:=by
 obtain⟨a,k,c,B,C,c',e,h2,h3⟩:=h;exact⟨a,k,c,B,C,c',e,h2.G g,h3.G g⟩
/-- A call hands back the fraction q. -/
def RetQ (w:World) (q:Rat) (e:Ending) (A:World):Prop:=∃ v,e= .returned v∧G w A∧QIs A v q
/-- Lowest terms are told by the number alone. -/
theorem rat_low {q:Rat} {z:Int} {d:Nat} (B:0<d) (A:Nat.gcd z.natAbs d=1) (h:z*q.den=q.num*d):q.num=z∧q.den=d:=by
 have e:(Rat.mk' z d eX A)=q:=by
  rw[Rat.mk_eq_divInt,← Rat.num_divInt_den q,Rat.divInt_eq_divInt_iff eX (by have:=q.den_pos;omega)];exact h
 rw[← e];exact⟨rfl,rfl⟩
theorem mk_cross {q:Rat} {n:Int} {d:Nat} (A:0<d) (h:q=mkRat n d):n*q.den=q.num*d:=by
 have h2:mkRat n d=mkRat q.num q.den:=by rw[Rat.mkRat_self];exact h.symm
 exact(ev eX q.den_nz).1 h2
theorem ir (w:World) (a:Option Addr) (c:Nat):Num w (.slice a 0 c) 0:=⟨[],⟨iv,Or.inl ⟨rfl,_,_,rfl⟩⟩,gT,rfl⟩
theorem pX (w:World):QIs w (.agg #[.bool false,.slice none 0 0,.slice none 0 0]) 0:=⟨none,0,0,none,0,0,rfl,ir _ _ _,ir _ _ _⟩
theorem oL {w:World} {t:Bool} {a A:Option Addr} {k c B c':Nat} {q:Rat} (h:QIs w (.agg #[.bool t,.slice a k c,.slice A B c']) q):Num w (.slice a k c) q.num.natAbs:=by
 obtain⟨_,_,_,_,_,_,e,h1,h2⟩:=h;simp only[Value.agg.injEq,Array.mk.injEq,ef,Value.slice.injEq,and_true,Value.bool.injEq] at e;obtain⟨-,⟨rfl,rfl,rfl⟩,rfl,rfl,rfl⟩:=e;exact h1
theorem oK {w:World} {t:Bool} {a A:Option Addr} {k c B c':Nat} {q:Rat} (h:QIs w (.agg #[.bool t,.slice a k c,.slice A B c']) q):Num w (.slice A B c') (iw q.den):=by
 obtain⟨_,_,_,_,_,_,e,h1,h2⟩:=h;simp only[Value.agg.injEq,Array.mk.injEq,ef,Value.slice.injEq,and_true,Value.bool.injEq] at e;obtain⟨-,⟨rfl,rfl,rfl⟩,rfl,rfl,rfl⟩:=e;exact h2
theorem rT (w:World) (v u:Value) (s t:Bool) (n m K:Nat) (hK:K≤400000) (h:WholeS w v s n) (hu:WholeS w u t m) (hn:n<2^(64*K)) (o:m<2^(64*K)):
  Calls Tryz.prog 74 #[v,u] w (fW w (sgn s n-sgn t m)):=by
 obtain⟨a,k,c,rfl,hv⟩:=h;obtain⟨J,L,c',rfl,hu⟩:=hu;have R:Hid (∀ A,G w A→Calls Tryz.prog 70 #[.agg #[.bool s,.slice a k c],.agg #[.bool (!t),.slice J L c']] A (fW A (sgn s n-sgn t m))):=fun A g=>by
  have h:=q0Y A (.agg #[.bool s,.slice a k c]) (.agg #[.bool (!t),.slice J L c']) s (!t) n m K hK ⟨a,k,c,rfl,hv.G g⟩ ⟨J,L,c',rfl,hu.G g⟩ hn o;rw[show sgn s n+sgn (!t) m=sgn s n-sgn t m from by unfold sgn;cases s<;>cases t<;>simp <;>omega] at h;exact h
 generalize sgn s n-sgn t m=y at *;clear hv hu hn o;go_enter Tryz.func74,Tryz.ntmps74;go_wp2_with fail;obtain⟨w0,I,g0,af,R0,R1,O⟩:=gf w [.bool s,.slice a k c] [.bool t,.slice J L c'] [.bool false,.slice none 0 0] 27 27 27;rw[I];clear I;refine eW (R.out w0 g0) ?_;intro e A hs;obtain⟨v,rfl,g1,h4⟩:=hs;clear R;obtain⟨a9,D,C,rfl,F⟩:=h4;have M:Hid (Num A (.slice a9 D C) (y).natAbs):=F;obtain⟨t9,B⟩:∃ t,t=decide ((y)<0):=⟨_,rfl⟩;rw[← B];have N:Hid (t9=decide ((y)<0)):=B;clear F B;obtain⟨Y,Z,d,i⟩:=fe O (((g1)));have E:Num _ _ _:=jb (u1:= .bool t9) (u2:= .slice a9 D C) M.out (aw O.out (g1)) trivial trivial;go_wp2_with fail;have j:Hid (Rec _ (w.heap.size+2) [.bool t9,.slice a9 D C]):=bE (aw O.out (g1));have g9:=dQ j.out (ab g0 g1) eX;generalize (World.setCell (World.setCell A ⟨w.heap.size+2,0,none⟩ (.bool t9)) ⟨w.heap.size+2,1,none⟩ (.slice a9 D C))=w9 at *;obtain⟨S,U,W,X⟩:=fe j (((ad _)));refine bodyPost_ret (v:= .agg #[.bool t9,.slice a9 D C]) (by simp [results,Tryz.results74,go_sem, *]) rfl ?_;exact⟨_,rfl,g9,a9,D,C,by rw[← N.out],E⟩
theorem p8 (w:World) (z:Int) (h1: -9223372036854775808≤z) (h2:z<9223372036854775808):
  Calls Tryz.prog 67 #[.int .i64 z] w (fW w z):=by
 by_cases h0:z<0
 ·obtain⟨n,rfl⟩:∃ n:Nat,z= -(n:Int):=⟨z.natAbs,by omega⟩;have j:n<18446744073709551616:=by omega
  have O:Hid (∀ A,_):=fun A=>nS A n j;have N:Hid (∀ A v,Num A v n→Calls Tryz.prog 80 #[.bool true,v] A (fW A (-(n:Int)))):=fun A v hv=>im A v true n hv;have o:decide (-(n:Int)<0)=true:=by simp;omega
  have s:(1:Int)≤n:=by omega
  have y:(n:Int)≤9223372036854775808:=by omega
  have hu:IntKind.u64.wrap (-(n:Int))=18446744073709551616-n:=by rw[IntKind.wrap_u64];omega
  have af:IntKind.u64.wrap (-(18446744073709551616-(n:Int)))=n:=by rw[IntKind.wrap_u64];omega
  generalize (-(n:Int))=z at *;clear h0 h1 h2 j;go_enter Tryz.func67,Tryz.ntmps67;go_wp2_with fail;obtain⟨w0,I,g0,ag,L⟩:=ft w [.bool false,.slice none 0 0] 27;rw[I];clear I;refine eW (O.out w0) ?_;intro e A M;obtain⟨v,rfl,g1,R⟩:=M;go_wp2_with fail;refine eW (N.out A v R) ?_;intro e k M;obtain⟨u,rfl,g2,m⟩:=M;clear O N R o hu af;obtain⟨a9,D,C,rfl,F⟩:=m;have J:Hid (Num k (.slice a9 D C) (z).natAbs):=F;obtain⟨t9,B⟩:∃ t,t=decide ((z)<0):=⟨_,rfl⟩;rw[← B];have K:Hid (t9=decide ((z)<0)):=B;clear F B;obtain⟨Y,Z,c,d⟩:=fe L (((ab g1 g2)));have E:Num _ _ _:=jb (u1:= .bool t9) (u2:= .slice a9 D C) J.out (aw L.out (ab g1 g2)) trivial trivial;go_wp2_with fail;have i:Hid (Rec _ (w.heap.size) [.bool t9,.slice a9 D C]):=bE (aw L.out (ab g1 g2));have g9:=dQ i.out (ab g0 (ab g1 g2)) eX;generalize (World.setCell (World.setCell k ⟨w.heap.size,0,none⟩ (.bool t9)) ⟨w.heap.size,1,none⟩ (.slice a9 D C))=w9 at *;obtain⟨S,U,W,X⟩:=fe i (((ad _)));refine bodyPost_ret (v:= .agg #[.bool t9,.slice a9 D C]) (by simp [results,Tryz.results67,go_sem, *]) rfl ?_;exact⟨_,rfl,g9,a9,D,C,by rw[← K.out],E⟩
 ·obtain⟨n,rfl⟩:∃ n:Nat,z=(n:Int):=⟨z.natAbs,by omega⟩;have j:n<18446744073709551616:=by omega
  have O:Hid (∀ A,_):=fun A=>nS A n j;have N:Hid (∀ A v,Num A v n→Calls Tryz.prog 80 #[.bool false,v] A (fW A (n:Int))):=fun A v hv=>im A v false n hv;have s:(0:Int)≤n:=by omega
  have y:(n:Int)≤9223372036854775807:=by omega
  have o:decide ((n:Int)<0)=false:=by simp
  clear h0 h1 h2 j;go_enter Tryz.func67,Tryz.ntmps67;go_wp2_with fail;obtain⟨w0,I,g0,ag,L⟩:=ft w [.bool false,.slice none 0 0] 27;rw[I];clear I;refine eW (O.out w0) ?_;intro e A M;obtain⟨v,rfl,g1,R⟩:=M;go_wp2_with fail;refine eW (N.out A v R) ?_;intro e k M;obtain⟨u,rfl,g2,m⟩:=M;clear O N R o;obtain⟨a9,D,C,rfl,F⟩:=m;have J:Hid (Num k (.slice a9 D C) ((n:Int)).natAbs):=F;obtain⟨t9,B⟩:∃ t,t=decide (((n:Int))<0):=⟨_,rfl⟩;rw[← B];have K:Hid (t9=decide (((n:Int))<0)):=B;clear F B;obtain⟨Y,Z,c,d⟩:=fe L (((ab g1 g2)));have E:Num _ _ _:=jb (u1:= .bool t9) (u2:= .slice a9 D C) J.out (aw L.out (ab g1 g2)) trivial trivial;go_wp2_with fail;have i:Hid (Rec _ (w.heap.size) [.bool t9,.slice a9 D C]):=bE (aw L.out (ab g1 g2));have g9:=dQ i.out (ab g0 (ab g1 g2)) eX;generalize (World.setCell (World.setCell k ⟨w.heap.size,0,none⟩ (.bool t9)) ⟨w.heap.size,1,none⟩ (.slice a9 D C))=w9 at *;obtain⟨S,U,W,X⟩:=fe i (((ad _)));refine bodyPost_ret (v:= .agg #[.bool t9,.slice a9 D C]) (by simp [results,Tryz.results67,go_sem, *]) rfl ?_;exact⟨_,rfl,g9,a9,D,C,by rw[← K.out],E⟩
theorem iQ (w:World) (t l:Value) (z:Int) (d K:Nat) (q:Rat) (ht:WholeIs w t z) (hl:Num w l d) (M:0<d) (hd:d<2^(64*K)) (hc:z≠0→Nat.gcd z.natAbs d=1) (B:q=mkRat z d):
  Calls Tryz.prog 66 #[t,l] w (RetQ w q):=by
 have hq:=mk_cross M B;clear B;have HS:Hid (∀ D,G w D→_):=fun D g=>qo D t z (ht.G g);obtain⟨a,k,c,rfl,hm⟩:=ht;by_cases h0:z=0
 ·subst h0;have B:q=0:=by
   have h1:q.num*(d:Int)=0:=by rw[← hq];simp
   have h2:q.num=0:=by rcases Int.mul_eq_zero.1 h1 with h|h;exact h;omega
   exact cI.1 h2
  rw[B];rw[show decide ((0:Int)<0)=false from rfl] at *;clear hl M hd hc hm hq B;go_enter Tryz.func66,Tryz.ntmps66;go_wp2_with fail;obtain⟨w0,A,g0,al,R0,E⟩:=gF w [.bool false,.slice a k c] [.bool false,.slice none 0 0,.slice none 0 0] 27 29;rw[A];clear A;refine eW (HS.out w0 g0) ?_;rintro e D ⟨rfl,g1⟩;clear HS;obtain⟨Y,Z,i,j,m,o⟩:=fL E (((g1)));go_wp2_with fail;have s:Hid (Rec _ (w.heap.size+1) [.bool false,.slice none 0 0,.slice none 0 0]):=eC (aw E.out (g1));have g9:=Rec.h3 s.out (ab g0 g1) eX;generalize (World.setCell (World.setCell (World.setCell D ⟨w.heap.size+1,0,none⟩ (.bool false)) ⟨w.heap.size+1,1,none⟩ (.slice none 0 0)) ⟨w.heap.size+1,2,none⟩ (.slice none 0 0))=w9 at *;obtain⟨O,R,S,U,W,X⟩:=fL s (((ad _)));refine bodyPost_ret (v:= .agg #[.bool false,.slice none 0 0,.slice none 0 0]) (by simp [results,Tryz.results66,go_sem, *]) rfl ?_;exact⟨_,rfl,g9,pX w9⟩
 ·obtain⟨rfl,rfl⟩:=rat_low M (hc h0) hq;have HO:Hid (∀ D,G w D→_):=fun D g=>q6Y D l q.den K (hl.G g) hd;have ai:(q.num.sign==0)=false:=by
   rcases cx q.num 0 with h|h|h
   ·rw[dd h];rfl
   ·exact absurd h h0
   ·rw[bg h];rfl
  obtain⟨J,L,c',rfl,-⟩:=jt hl;have HL:Hid (Num w (.slice J L c') q.den):=hl;obtain⟨t,ag⟩:∃ t,t=decide (q.num<0):=⟨_,rfl⟩;rw[← ag] at HS ⊢;have HT:Hid (t=decide (q.num<0)):=ag;have HM:Hid (Num w (.slice a k c) q.num.natAbs):=hm;generalize q.num.sign=sg at *;clear M hd hc hl ag hm hq;by_cases h1:q.den=1
  ·rw[decide_eq_true h1] at HO;go_enter Tryz.func66,Tryz.ntmps66;go_wp2_with fail;obtain⟨w0,A,g0,al,R0,E⟩:=gF w [.bool t,.slice a k c] [.bool false,.slice none 0 0,.slice none 0 0] 27 29;rw[A];clear A;refine eW (HS.out w0 g0) ?_;rintro e D ⟨rfl,g1⟩;go_wp2_with fail;refine eW (HO.out D (ab g0 g1)) ?_;rintro e N ⟨rfl,g2⟩;have C:=fe R0 (ab g1 g2);have B:=C.1;have am:=C.2.1;have h5:QIs N (.agg #[.bool (decide (q.num<0)),.slice a k c,.slice none 0 0]) q:=⟨a,k,c,none,0,0,rfl,HM.out.G (ab g0 (ab g1 g2)),by unfold iw;rw[if_pos h1];exact ir _ _ _⟩;clear C HS HO h0 h1 ai;have y:Hid (Num N (.slice a k c) (q).num.natAbs):=oL h5;have af:Hid (Num N (.slice none 0 0) (iw (q).den)):=oK h5;clear h5;obtain⟨Y,Z,i,j,m,o⟩:=fL E (((ab g1 g2)));have F:Num _ _ _:=fC (u1:= .bool t) (u2:= .slice a k c) (u3:= .slice none 0 0) y.out (aw E.out (ab g1 g2)) trivial trivial trivial;have I:Num _ _ _:=fC (u1:= .bool t) (u2:= .slice a k c) (u3:= .slice none 0 0) af.out (aw E.out (ab g1 g2)) trivial trivial trivial;go_wp2_with fail;have s:Hid (Rec _ (w.heap.size+1) [.bool t,.slice a k c,.slice none 0 0]):=eC (aw E.out (ab g1 g2));have g9:=Rec.h3 s.out (ab g0 (ab g1 g2)) eX;generalize (World.setCell (World.setCell (World.setCell N ⟨w.heap.size+1,0,none⟩ (.bool t)) ⟨w.heap.size+1,1,none⟩ (.slice a k c)) ⟨w.heap.size+1,2,none⟩ (.slice none 0 0))=w9 at *;obtain⟨O,R,S,U,W,X⟩:=fL s (((ad _)));refine bodyPost_ret (v:= .agg #[.bool t,.slice a k c,.slice none 0 0]) (by simp [results,Tryz.results66,go_sem, *]) rfl ?_
   exact⟨_,rfl,g9,a,k,c,none,0,0,by rw[← HT.out],F,I⟩
  ·rw[decide_eq_false h1] at HO;go_enter Tryz.func66,Tryz.ntmps66;go_wp2_with fail;obtain⟨w0,A,g0,al,R0,E⟩:=gF w [.bool t,.slice a k c] [.bool false,.slice none 0 0,.slice none 0 0] 27 29;rw[A];clear A;refine eW (HS.out w0 g0) ?_;rintro e D ⟨rfl,g1⟩;go_wp2_with fail;refine eW (HO.out D (ab g0 g1)) ?_;rintro e N ⟨rfl,g2⟩;have C:=fe R0 (ab g1 g2);have B:=C.1;have am:=C.2.1;have h5:QIs N (.agg #[.bool (decide (q.num<0)),.slice a k c,.slice J L c']) q:=⟨a,k,c,J,L,c',rfl,HM.out.G (ab g0 (ab g1 g2)),by unfold iw;rw[if_neg h1];exact HL.out.G (ab g0 (ab g1 g2))⟩;clear C HS HO h0 h1 ai;have y:Hid (Num N (.slice a k c) (q).num.natAbs):=oL h5;have af:Hid (Num N (.slice J L c') (iw (q).den)):=oK h5;clear h5;obtain⟨Y,Z,i,j,m,o⟩:=fL E (((ab g1 g2)));have F:Num _ _ _:=fC (u1:= .bool t) (u2:= .slice a k c) (u3:= .slice J L c') y.out (aw E.out (ab g1 g2)) trivial trivial trivial;have I:Num _ _ _:=fC (u1:= .bool t) (u2:= .slice a k c) (u3:= .slice J L c') af.out (aw E.out (ab g1 g2)) trivial trivial trivial;go_wp2_with fail;have s:Hid (Rec _ (w.heap.size+1) [.bool t,.slice a k c,.slice J L c']):=eC (aw E.out (ab g1 g2));have g9:=Rec.h3 s.out (ab g0 (ab g1 g2)) eX;generalize (World.setCell (World.setCell (World.setCell N ⟨w.heap.size+1,0,none⟩ (.bool t)) ⟨w.heap.size+1,1,none⟩ (.slice a k c)) ⟨w.heap.size+1,2,none⟩ (.slice J L c'))=w9 at *;obtain⟨O,R,S,U,W,X⟩:=fL s (((ad _)));refine bodyPost_ret (v:= .agg #[.bool t,.slice a k c,.slice J L c']) (by simp [results,Tryz.results66,go_sem, *]) rfl ?_
   exact⟨_,rfl,g9,a,k,c,J,L,c',by rw[← HT.out],F,I⟩
/-- How great a fraction's parts are. -/
def QB (q:Rat) (K:Nat):Prop:=q.num.natAbs<2^(64*K)∧q.den<2^(64*K)
theorem QB.mono {q:Rat} {K L:Nat} (h:QB q K) (A:K≤L):QB q L:=
 ⟨aj h.1 (ao eX eX),aj h.2 (ao eX eX)⟩
theorem gP {a b K L:Nat} (A:a<2^(64*K)) (hb:b<2^(64*L)):a*b<2^(64*(K+L)):=by
 rw[show 64*(K+L)=64*K+64*L from by omega,ah];exact bC A hb
theorem mC {a b:Nat} (h:0<b):Nat.gcd (a/Nat.gcd a b) (b/Nat.gcd a b)=1:=Nat.gcd_div_gcd_div_gcd_of_pos_right h
theorem kM {a b c d:Nat} (h:Nat.gcd a b=1) (A:c∣a) (B:d∣b):Nat.gcd c d=1:=
 Nat.eq_one_of_dvd_one (h▸Nat.dvd_gcd (eO (cj c d) A) (eO (bW c d) B))
theorem q2s {a c e b:Nat} (h1:Nat.gcd a e=1) (h2:Nat.gcd a b=1) (h3:Nat.gcd c e=1) (A:Nat.gcd c b=1):Nat.gcd (a*c) (e*b)=1:=
 Nat.Coprime.mul_left (Nat.Coprime.mul_right h1 h2) (Nat.Coprime.mul_right h3 A)
/-- What a product comes to, in lowest terms. -/
theorem q4L (x y:Rat):Nat.gcd (x.num.natAbs/Nat.gcd x.num.natAbs y.den*(y.num.natAbs/Nat.gcd y.num.natAbs x.den)) (x.den/Nat.gcd y.num.natAbs x.den*(y.den/Nat.gcd x.num.natAbs y.den))=1:=by
 have C:=x.reduced;have D:=y.reduced;have A:=x.den_pos;have B:=y.den_pos;refine q2s ?_ (mC B) (mC A) ?_
 ·exact kM C (dP (cj _ _)) (dP (bW _ _))
 ·exact kM D (dP (cj _ _)) (dP (bW _ _))
theorem q54 (s t:Bool) (n m:Nat):sgn (s != t) (n*m)=sgn s n*sgn t m:=by
 unfold sgn;cases s<;>cases t<;>simp [Int.neg_mul,Int.mul_neg]
theorem q4O (x y:Rat):x*y=mkRat (sgn (decide (x.num<0) != decide (y.num<0)) (x.num.natAbs/Nat.gcd x.num.natAbs y.den*(y.num.natAbs/Nat.gcd y.num.natAbs x.den))) (x.den/Nat.gcd y.num.natAbs x.den*(y.den/Nat.gcd x.num.natAbs y.den)):=by
 have C:=x.den_pos;have D:=y.den_pos;rw[Rat.mul_def'];obtain⟨a,E⟩:=cj x.num.natAbs y.den;obtain⟨b,hb⟩:=bW x.num.natAbs y.den;obtain⟨c,F⟩:=cj y.num.natAbs x.den;obtain⟨e,I⟩:=bW y.num.natAbs x.den;have J:0<Nat.gcd x.num.natAbs y.den:=cL _ D;have K:0<Nat.gcd y.num.natAbs x.den:=cL _ C;generalize Nat.gcd x.num.natAbs y.den=g at *;generalize Nat.gcd y.num.natAbs x.den=h at *;have M:x.num.natAbs/g=a:=by rw[E];exact cB _ J
 have N:y.den/g=b:=by rw[hb];exact cB _ J
 have O:y.num.natAbs/h=c:=by rw[F];exact cB _ K
 have R:x.den/h=e:=by rw[I];exact cB _ K
 rw[M,N,O,R];have A:b≠0:=by rintro rfl;omega
 have B:e≠0:=by rintro rfl;omega
 rw[ev (bK eX eX) (bK B A)];have S:x.num=sgn (decide (x.num<0)) (g*a):=by rw[← E];exact(gX _).symm
 have U:y.num=sgn (decide (y.num<0)) (h*c):=by rw[← F];exact(gX _).symm
 generalize decide (x.num<0)=s at *;generalize decide (y.num<0)=t at *;rw[S,U,hb,I,← q54];clear E hb F I J K M N O R S U A B C D;have W:∀ (r:Bool) (p q k l:Nat),p*k=q*l→sgn r p*(k:Int)=sgn r q*(l:Int):=by
  intro r p q k l L;have h1:(p:Int)*k=(q:Int)*l:=by rw[← aG,L,aG]
  unfold sgn;cases r
  ·exact h1
  ·simp only[if_true,dO,h1]
 exact W _ _ _ _ _ (by ac_rfl)
theorem mh (w:World) (v:Value) (q:Rat) (h:QIs w v q):
  Calls Tryz.prog 77 #[v] w (fo w q.den):=by
 obtain⟨a,k,c,K,E,c',rfl,h1,h2⟩:=h;obtain⟨a2,U,S,e,A,-,C⟩:=jt h2;injection e with L M N;subst L;subst M;subst N;have O:=q.den_pos;obtain⟨t,I⟩:∃ t,t=decide (q.num<0):=⟨_,rfl⟩;rw[← I];clear I;by_cases B:q.den=1
 ·have D:E=0:=A.2 (by unfold iw;rw[if_pos B]);subst D;rw[B];go_enter Tryz.func77,Tryz.ntmps77;go_wp2_with fail;go_ret;exact⟨_,rfl,((ad _).alloc _).alloc _,pW fX⟩
 ·have F:iw q.den=q.den:=by unfold iw;rw[if_neg B]
  rw[F] at h2 C;have R:((E:Int)==0)=false:=by rw[C];simp;omega
  have J:Hid (Num w (.slice K E c') q.den):=h2;clear C A B F h1 O h2;go_enter Tryz.func77,Tryz.ntmps77;go_wp2_with fail;go_ret;exact⟨_,rfl,(ad _).alloc _,J.out.G ((ad _).alloc _)⟩
set_option maxHeartbeats 1000000 in
theorem q09 (w:World) (v u:Value) (x y:Rat) (K:Nat) (hK:K≤100000) (S:1≤K) (m:Tab w) (hx:QIs w v x) (hy:QIs w u y) (bx:QB x K) (he:QB y K):
  Calls Tryz.prog 18 #[v,u] w (RetQ w (x*y)):=by
 have X:Hid (∀ E,G w E→_):=fun E g=>mh E v x (hx.G g);have Y:Hid (∀ E,G w E→_):=fun E g=>mh E u y (hy.G g);have i:=q4L x y;have O:=q4O x y;obtain⟨a,k,c,a',k',c',rfl,eb,kp⟩:=hx;obtain⟨b,j,e,b',j',e',rfl,ec,kq⟩:=hy;obtain⟨o,Z⟩:=bx;obtain⟨af,d⟩:=he;have ca:=x.den_pos;have cb:=y.den_pos;obtain⟨g,hg⟩:∃ g,g=Nat.gcd x.num.natAbs y.den:=⟨_,rfl⟩;obtain⟨h,hh⟩:∃ h,h=Nat.gcd y.num.natAbs x.den:=⟨_,rfl⟩;have bw:0<g:=by rw[hg];exact cL _ cb
 have bz:0<h:=by rw[hh];exact cL _ ca
 have dr:g<2^(64*K):=aD (by rw[hg];exact ey _ cb) d;have ds:h<2^(64*K):=aD (by rw[hh];exact ey _ ca) Z;have cs:Hid (∀ E F,G w E→Num E F y.den→Calls Tryz.prog 76 #[.slice a k c,F] E (fo E g)):=fun E F g1 h1=>by
  rw[hg];exact jM E _ F _ _ K eX S (m.G g1) (eb.G g1) h1 o d
 have cz:Hid (∀ E F,G w E→Num E F x.den→Calls Tryz.prog 76 #[.slice b j e,F] E (fo E h)):=fun E F g1 h1=>by
  rw[hh];exact jM E _ F _ _ K eX S (m.G g1) (ec.G g1) h1 af Z
 rw[← hg,← hh] at i O;have ez:Hid (∀ E F,G w E→Num E F g→_):=fun E F g1 h1=>kB E (.slice a k c) F _ g K eX S (m.G g1) (eb.G g1) h1 o dr bw;have fa:Hid (∀ E F,G w E→Num E F h→_):=fun E F g1 h1=>kB E (.slice b j e) F _ h K eX S (m.G g1) (ec.G g1) h1 af ds bz;have di:Hid (∀ E F v2,G w E→Num E F x.den→Num E v2 h→_):=fun E F v2 g1 h1 h2=>kB E F v2 _ h K eX S (m.G g1) h1 h2 Z ds bz;have dl:Hid (∀ E F v2,G w E→Num E F y.den→Num E v2 g→_):=fun E F v2 g1 h1 h2=>kB E F v2 _ g K eX S (m.G g1) h1 h2 d dr bw;have q1:x.num.natAbs/g<2^(64*K):=aD (aX _ _) o;have q2:y.num.natAbs/h<2^(64*K):=aD (aX _ _) af;have q3:x.den/h<2^(64*K):=aD (aX _ _) Z;have q4:y.den/g<2^(64*K):=aD (aX _ _) d;have q5:0<x.den/h:=ej (by rw[hh];exact ey _ ca) bz;have q6:0<y.den/g:=ej (by rw[hg];exact ey _ cb) bw;clear hg hh bw bz dr ds o Z af d ca cb kp kq eb ec m;obtain⟨s,hs⟩:∃ s,s=decide (x.num<0):=⟨_,rfl⟩;obtain⟨t,ht⟩:∃ t,t=decide (y.num<0):=⟨_,rfl⟩;rw[← hs,← ht] at O;rw[← hs] at X;rw[← ht] at Y;rw[← hs,← ht];clear hs ht;generalize x.num.natAbs/g=A at *;generalize y.num.natAbs/h=B at *;generalize x.den/h=C at *;generalize y.den/g=D at *;have fh:Hid (∀ E F v2,Num E F A→Num E v2 B→_):=fun E F v2 h1 h2=>jD E F v2 A B K eX h1 h2 q1 q2;have fp:Hid (∀ E F v2,Num E F C→Num E v2 D→_):=fun E F v2 h1 h2=>jD E F v2 C D K eX h1 h2 q3 q4;have HS:Hid (∀ E F,Num E F (A*B)→_):=fun E F h1=>im E F (s != t) (A*B) h1
 have HF:Hid (∀ E F v2,WholeIs E F (sgn (s != t) (A*B))→Num E v2 (C*D)→Calls Tryz.prog 66 #[F,v2] E (RetQ E (x*y))):=fun E F v2 h1 h2=>
  iQ E F v2 _ (C*D) (K+K) (x*y) h1 h2 (aM q5 q6) (gP q3 q4) (fun _=>by rw[jV];exact i) O
 clear q1 q2 q3 q4 q5 q6 i O;generalize A*B=N at *;generalize C*D=M at *;generalize sgn (s != t) N=z at *;obtain⟨p,hp⟩:∃ p,p=x.den:=⟨_,rfl⟩;obtain⟨r,hr⟩:∃ r,r=y.den:=⟨_,rfl⟩;rw[← hp] at X cz di;rw[← hr] at Y cs dl;clear hp hr;generalize x*y=q at *;go_enter Tryz.func18,Tryz.ntmps18;go_wp2_with fail;obtain⟨w0,gg,g0,ls,R0,R1,R2⟩:=gf w [.bool s,.slice a k c,.slice a' k' c'] [.bool t,.slice b j e,.slice b' j' e'] [.bool false,.slice none 0 0,.slice none 0 0] 29 29 29;rw[gg];clear gg;refine jU 14 0 [.is (.pointer (some ⟨w.heap.size,0,none⟩)),.is (.pointer (some ⟨w.heap.size,1,none⟩)),.is (.slice a k c),.is (.agg #[.bool t,.slice b j e,.slice b' j' e']),.any (fun v J=>Num J v (r)),.any (fun v J=>Num J v (g)),.is (.pointer (some ⟨w.heap.size+1,0,none⟩)),.is (.pointer (some ⟨w.heap.size+1,1,none⟩)),.is (.slice b j e),.is (.agg #[.bool s,.slice a k c,.slice a' k' c']),.any (fun v J=>Num J v (p)),.any (fun v J=>Num J v (h)),.any (fun v J=>Num J v (g)),.any (fun v J=>Num J v (h))] [some 9,some 10,some 11,some 12,some 13,some 14,some 15,some 16,some 17,some 18,some 19,some 20,some 5,some 6] ?_;intro v4 v5 cc U v12 L A hA;simp only[fG,Act.put,aq,ay,az] at hA;subst hA;refine⟨?_,?_⟩
 ·skip
  refine aa rfl ?a1 (aa rfl ?a6 (aa rfl ?a7 (aa rfl ?b0 (aa rfl ?c5 (aa rfl ?c6 (aa rfl ?b1 (aa rfl ?o1_7 (aa rfl ?b2 (aa rfl ?o1_9 (aa rfl ?bT (aa rfl ?bY (aa rfl ?c0 (aa rfl ?c2 (bN))))))))))))))
  case a1|a6|b1|o1_7=>
   exact jX
  case a7|b0|b2|o1_9=>
   intro W I hD K hK;clear hD;have ⟨hk,hl,hm⟩:=rc39 R0 I;have ⟨hn,ho,hq⟩:=rc39 R1 I;go_simp;exact hK.out _ _ ⟨_,rfl,ad _,rfl⟩
  ·intro W I hD K hK;have hc:=hi9 (Y.out W (ab g0 I));exact gY
  ·intro W I hD K hK;have h4:=gZ v4 4 hD;have hc:=hi9 (cs.out W v4 (ab g0 I) h4);exact gY
  ·intro W I hD K hK;have hc:=hi9 (X.out W (ab g0 I));exact gY
  ·intro W I hD K hK;have dq:=gZ cc 10 hD;have hc:=hi9 (cz.out W cc (ab g0 I) dq);exact gY
  ·intro W I hD K hK;have h5:=gZ v5 5 hD;clear hD;go_simp;exact hK.out _ _ ⟨_,rfl,ad _,h5⟩
  ·intro W I hD K hK;have ai:=gZ U 11 hD;clear hD;go_simp;exact hK.out _ _ ⟨_,rfl,ad _,ai⟩
 intro E g1 hH;have fr:=jG v12 12 hH;have fs:=jG L 13 hH;clear hH;refine wpAny_done eZ ?_ _;have cl:Hid (Num E v12 g):=fr;have cr:Hid (Num E L h):=fs;clear fr fs cs cz;have ag:=ab g0 g1;have S0:=hi9 (aw R0.out g1);have S1:=hi9 (aw R1.out g1);have S2:=hi9 (aw R2.out g1);clear R0 R1 R2 g0 g1;go_wp2_with fail;refine jU 12 0 [.is (.pointer (some ⟨w.heap.size,0,none⟩)),.is (.pointer (some ⟨w.heap.size,1,none⟩)),.is (.slice a k c),.is (v12),.any (fun v J=>Num J v (A)),.is (.pointer (some ⟨w.heap.size+1,0,none⟩)),.is (.pointer (some ⟨w.heap.size+1,1,none⟩)),.is (.slice b j e),.is (L),.any (fun v J=>Num J v (B)),.any (fun v J=>Num J v (N)),.any (fun v J=>Num J v (N))] [some 21,some 22,some 23,some 24,some 25,some 26,some 27,some 28,some 29,some 30,some 31,some 7] ?_;intro v4 v9 cc U A hA;simp only[fG,Act.put,aq,ay,az] at hA;subst hA;refine⟨?_,?_⟩
 ·skip
  refine aa rfl ?b3 (aa rfl ?b4 (aa rfl ?b5 (aa rfl ?b6 (aa rfl ?c7 (aa rfl ?b7 (aa rfl ?b8 (aa rfl ?o2_7 (aa rfl ?o2_8 (aa rfl ?cF (aa rfl ?c3 (aa rfl ?c4 (bN))))))))))))
  case b3|b4|b6|b7|b8|o2_8=>
   exact jX
  case b5|o2_7=>
   intro W I hD K hK;clear hD;have ⟨hw,hz,ia⟩:=rc39 S0 I;have ⟨ib,ih,ii⟩:=rc39 S1 I;go_simp;exact hK.out _ _ ⟨_,rfl,ad _,rfl⟩
  ·intro W I hD K hK;have hc:=hi9 (ez.out W v12 (ab ag I) (Num.G cl.out I));exact gY
  ·intro W I hD K hK;have hc:=hi9 (fa.out W L (ab ag I) (Num.G cr.out I));exact gY
  ·intro W I hD K hK;have h4:=gZ v4 4 hD;have h9:=gZ v9 9 hD;have hc:=hi9 (fh.out W v4 v9 h4 h9);exact gY
  ·intro W I hD K hK;have dq:=gZ cc 10 hD;clear hD;go_simp;exact hK.out _ _ ⟨_,rfl,ad _,dq⟩
 intro w2 g2 hH;have ai:=jG U 11 hH;clear hH;refine wpAny_done eZ ?_ _;have ee:Hid (Num w2 U N):=ai;have ce:Hid (Num w2 v12 g):=cl.out.G g2;have ci:Hid (Num w2 L h):=cr.out.G g2;have R:=ab ag g2;have T0:=hi9 (aw S0.out g2);have T1:=hi9 (aw S1.out g2);have T2:=hi9 (aw S2.out g2);clear ai cl cr ez fa fh S0 S1 S2 ag g2;go_wp2_with fail;refine jU 10 0 [.is (.agg #[.bool s,.slice a k c,.slice a' k' c']),.any (fun v J=>Num J v (p)),.is (L),.any (fun v J=>Num J v (C)),.is (.agg #[.bool t,.slice b j e,.slice b' j' e']),.any (fun v J=>Num J v (r)),.is (v12),.any (fun v J=>Num J v (D)),.any (fun v J=>Num J v (M)),.any (fun v J=>Num J v (M))] [some 32,some 33,some 34,some 35,some 36,some 37,some 38,some 39,some 40,some 8] ?_;intro F v3 v5 v7 v8 v9 A hA;simp only[fG,Act.put,aq,ay,az] at hA;subst hA;refine⟨?_,?_⟩
 ·skip
  refine aa rfl ?bA (aa rfl ?cH (aa rfl ?bB (aa rfl ?e1 (aa rfl ?o3_4 (aa rfl ?e2 (aa rfl ?o3_6 (aa rfl ?e3 (aa rfl ?e5 (aa rfl ?e6 (bN))))))))))
  case bB|o3_6=>
   exact jX
  case bA|o3_4=>
   intro W I hD K hK;clear hD;have ⟨io,it,jj⟩:=rc39 T0 I;have ⟨jp,kb,kk⟩:=rc39 T1 I;go_simp;exact hK.out _ _ ⟨_,rfl,ad _,rfl⟩
  ·intro W I hD K hK;have hc:=hi9 (X.out W (ab R I));exact gY
  ·intro W I hD K hK;have h1:=gZ F 1 hD;have hc:=hi9 (di.out W F L (ab R I) h1 (Num.G ci.out I));exact gY
  ·intro W I hD K hK;have hc:=hi9 (Y.out W (ab R I));exact gY
  ·intro W I hD K hK;have h5:=gZ v5 5 hD;have hc:=hi9 (dl.out W v5 v12 (ab R I) h5 (Num.G ce.out I));exact gY
  ·intro W I hD K hK;have h3:=gZ v3 3 hD;have h7:=gZ v7 7 hD;have hc:=hi9 (fp.out W v3 v7 h3 h7);exact gY
  ·intro W I hD K hK;have h8:=gZ v8 8 hD;clear hD;go_simp;exact hK.out _ _ ⟨_,rfl,ad _,h8⟩
 intro w3 g3 hH;have h9:=jG v9 9 hH;clear hH;refine wpAny_done eZ ?_ _;have H9:Hid (Num w3 v9 M):=h9;have cd:Hid (Num w3 U N):=ee.out.G g3;have hf:=ab R g3;have U0:=hi9 (aw T0.out g3);have U1:=hi9 (aw T1.out g3);have U2:=hi9 (aw T2.out g3);clear h9 ee ce ci di dl fp T0 T1 T2 R g3 X Y;have fb:=hi9 (HS.out w3 U cd.out);obtain⟨al,am,an,ap,bi,bl⟩:=fL U0 (ad _);obtain⟨bm,bn,bq,bs,bu,bv⟩:=fL U1 (ad _);go_wp2_with fail;refine eW fb.out ?_;intro e4 w4 hs;obtain⟨v20,rfl,g4,fv⟩:=hs;have em:=hi9 (HF.out w4 v20 v9 fv (H9.out.G g4));clear HS fb HF fv H9 cd;go_wp2_with fail;refine eW em.out ?_;intro e4 w5 hs;obtain⟨v21,rfl,g5,hj⟩:=hs;clear em;clear al am an ap bi bl bm bn bq bs bu bv;obtain⟨a8,k8,c8,a9,k9,c9,rfl,ga,gd⟩:=hj;have gm:Hid (Num w5 (.slice a8 k8 c8) (q).num.natAbs):=ga;have ha:Hid (Num w5 (.slice a9 k9 c9) (iw (q).den)):=gd;obtain⟨t9,ea⟩:∃ t,t=decide ((q).num<0):=⟨_,rfl⟩;rw[← ea];have hd:Hid (t9=decide ((q).num<0)):=ea;clear ga gd ea;obtain⟨lb,lc,lg,li,lk,lm⟩:=fL U2 (((ab g4 g5)));have ep:Num _ _ _:=fC (u1:= .bool t9) (u2:= .slice a8 k8 c8) (u3:= .slice a9 k9 c9) gm.out (aw U2.out (ab g4 g5)) trivial trivial trivial;have eu:Num _ _ _:=fC (u1:= .bool t9) (u2:= .slice a8 k8 c8) (u3:= .slice a9 k9 c9) ha.out (aw U2.out (ab g4 g5)) trivial trivial trivial;go_wp2_with fail;have m:Hid (Rec _ (w.heap.size+2) [.bool t9,.slice a8 k8 c8,.slice a9 k9 c9]):=eC (aw U2.out (ab g4 g5));have g9:=Rec.h3 m.out (ab hf (ab g4 g5)) eX
 generalize (World.setCell (World.setCell (World.setCell w5 ⟨w.heap.size+2,0,none⟩ (.bool t9)) ⟨w.heap.size+2,1,none⟩ (.slice a8 k8 c8)) ⟨w.heap.size+2,2,none⟩ (.slice a9 k9 c9))=w9 at *;obtain⟨kr,ks,kw,kx,ky,la⟩:=fL m (((ad _)));refine bodyPost_ret (v:= .agg #[.bool t9,.slice a8 k8 c8,.slice a9 k9 c9]) (by simp [results,Tryz.results18,go_sem, *]) rfl ?_;exact⟨_,rfl,g9,a8,k8,c8,a9,k9,c9,by rw[← hd.out],ep,eu⟩
/-- A call hands back a fraction and no error, or an error. -/
def od (w:World) (q:Rat) (c:Int) (e:Ending) (A:World):Prop:=∃ v,e= .returned (.tuple #[v,.int .i64 c])∧G w A∧QIs A v q
theorem QIs.set3 {w:World} {v:Value} {q:Rat} {b:Nat} {x y z u1 u2 u3:Value} (h:QIs w v q) (r:Rec w b [x,y,z]) (A:iK x) (B:iK y) (C:iK z):QIs (((w.setCell ⟨b,0,none⟩ u1).setCell ⟨b,1,none⟩ u2).setCell ⟨b,2,none⟩ u3) v q:=by
 obtain⟨a,k,c,D,E,c',e,h1,h2⟩:=h;exact⟨a,k,c,D,E,c',e,fC h1 r A B C,fC h2 r A B C⟩
theorem QIs.top {w:World} {a:Option Addr} {k c:Nat} {q:Rat} {t:Bool} (h:Num w (.slice a k c) q.num.natAbs) (A:t=decide (q.num<0)):WholeIs w (.agg #[.bool t,.slice a k c]) q.num:=⟨a,k,c,by rw[A],h⟩
theorem kd (w:World) (v:Value) (q:Rat) (h:QIs w v q):
  Calls Tryz.prog 22 #[v] w fun e J=>e= .returned (.int .i64 q.num.sign)∧G w J:=by
 obtain⟨a,k,c,E,I,c',rfl,h1,h2⟩:=h;obtain⟨t,C⟩:∃ t,t=decide (q.num<0):=⟨_,rfl⟩;have D:Hid (∀ B,G w B→_):=fun B g=>qo B (.agg #[.bool t,.slice a k c]) q.num (QIs.top (h1.G g) C);rw[← C];generalize q.num.sign=z at *;clear C h1 h2;go_enter Tryz.func22,Tryz.ntmps22;go_wp2_with fail;obtain⟨w0,A,g0,F,K⟩:=ft w [.bool t,.slice a k c,.slice E I c'] 29;rw[A];clear A;refine eW (D.out w0 g0) ?_;rintro e B ⟨rfl,g1⟩;go_wp2_with fail;go_ret;exact⟨rfl,ab g0 g1⟩
theorem mkRat_one (z:Int):((z:Int):Rat)=mkRat z 1:=(Rat.mk_eq_mkRat z 1 fk fX).symm▸rfl
theorem q6R (w:World) (z:Int) (h1: -9223372036854775808≤z) (h2:z<9223372036854775808):
  Calls Tryz.prog 12 #[.int .i64 z] w (RetQ w (z:Rat)):=by
 have o:Hid (∀ A,_):=fun A=>p8 A z h1 h2;have m:Hid (∀ A L v2,WholeIs A L z→Num A v2 1→_):=fun A L v2 B i=>iQ A L v2 z 1 1 (z:Rat) B i eX eX (fun _=>dG _) (mkRat_one z);generalize (z:Rat)=q at *;clear h1 h2;go_enter Tryz.func12,Tryz.ntmps12;go_wp2_with fail;obtain⟨w0,W,g0,bn,X⟩:=ft w [.bool false,.slice none 0 0,.slice none 0 0] 29;rw[W];clear W;refine eW (o.out w0) ?_;intro e A d;obtain⟨L,rfl,g1,B⟩:=d;have R:Hid (WholeIs A L z):=B;clear B o;go_wp2_with fail;have K:=(ad A).alloc (.cells #[.int .u64 1] 90);have M:=hi9 (m.out _ L (.slice (some ⟨A.heap.size,0,none⟩) 1 1) (R.out.G K) (pW rfl));generalize A.alloc (.cells #[.int .u64 1] 90)=w2 at *;clear m R;refine eW M.out ?_;intro e k d;obtain⟨v3,rfl,g3,j⟩:=d;clear M;obtain⟨C,I,D,a9,J,E,rfl,S,U⟩:=j;have Y:Hid (Num k (.slice C I D) (q).num.natAbs):=S;have Z:Hid (Num k (.slice a9 J E) (iw (q).den)):=U;obtain⟨t9,F⟩:∃ t,t=decide ((q).num<0):=⟨_,rfl⟩;rw[← F];have c:Hid (t9=decide ((q).num<0)):=F;clear S U F;obtain⟨am,an,ap,bi,bl,bm⟩:=fL X (((ab g1 (ab K g3))));have N:Num _ _ _:=fC (u1:= .bool t9) (u2:= .slice C I D) (u3:= .slice a9 J E) Y.out (aw X.out (ab g1 (ab K g3))) trivial trivial trivial;have O:Num _ _ _:=fC (u1:= .bool t9) (u2:= .slice C I D) (u3:= .slice a9 J E) Z.out (aw X.out (ab g1 (ab K g3))) trivial trivial trivial;go_wp2_with fail;have hT:Hid (Rec _ (w.heap.size) [.bool t9,.slice C I D,.slice a9 J E]):=eC (aw X.out (ab g1 (ab K g3)));have g9:=Rec.h3 hT.out (ab g0 (ab g1 (ab K g3))) eX
 generalize (World.setCell (World.setCell (World.setCell k ⟨w.heap.size,0,none⟩ (.bool t9)) ⟨w.heap.size,1,none⟩ (.slice C I D)) ⟨w.heap.size,2,none⟩ (.slice a9 J E))=w9 at *;obtain⟨s,y,af,ag,ai,al⟩:=fL hT (((ad _)));refine bodyPost_ret (v:= .agg #[.bool t9,.slice C I D,.slice a9 J E]) (by simp [results,Tryz.results12,go_sem, *]) rfl ?_;exact⟨_,rfl,g9,C,I,D,a9,J,E,by rw[← c.out],N,O⟩
/-- What is 1 over a fraction. -/
theorem oD {y:Rat} (h:y≠0):y⁻¹ =mkRat (sgn (decide (y.num<0)) y.den) y.num.natAbs∧Nat.gcd y.den y.num.natAbs=1∧0<y.num.natAbs:=by
 have B:y.num≠0:=fun e=>h (cI.1 e);refine⟨?_,by rw[cg];exact y.reduced,by omega⟩;rw[Rat.inv_def];rw[← Rat.divInt_ofNat,Rat.divInt_eq_divInt_iff B eX];unfold sgn;by_cases A:y.num<0
 ·simp only[A,decide_true,if_true];rw[show ((y.num.natAbs:Nat):Int)= -y.num from by omega,Int.mul_neg,dO]
 ·simp only[A,decide_false,ax,if_false];rw[show ((y.num.natAbs:Nat):Int)=y.num from by omega]
theorem q1q {y:Rat} {K:Nat} (h:y≠0) (hb:QB y K):QB y⁻¹ K:=by
 obtain⟨h1,h2,h3⟩:=oD h;have C:=mk_cross h3 h1;obtain⟨A,B⟩:=rat_low h3 (by rw[jV];exact h2) C;unfold QB;rw[A,B,jV];exact⟨hb.2,hb.1⟩
theorem jI {q:Rat}:(q.num.sign==0)=decide (q=0):=by
 rw[Bool.eq_iff_iff];simp [Int.sign_eq_zero_iff_zero,Rat.num_eq_zero]
set_option maxHeartbeats 1000000 in
theorem q6d (w:World) (v u:Value) (x y:Rat) (K:Nat) (hK:K≤100000) (em:1≤K) (hT:Tab w) (hx:QIs w v x) (hy:QIs w u y) (bx:QB x K) (o:QB y K):
  Calls Tryz.prog 31 #[v,u] w (od w (if y=0 then 0 else x/y) (if y=0 then 5 else 0)):=by
 have L:Hid (∀ B,G w B→_):=fun B g=>kd B u y (hy.G g);have HB:Hid (∀ B,G w B→_):=fun B g=>mh B u y (hy.G g);have HX:Hid (QIs w v x):=hx;obtain⟨a,k,c,a',k',c',rfl,di,dl⟩:=hx;obtain⟨b,j,e,b',j',e',rfl,bv,dq⟩:=hy;by_cases m:y=0
 ·rw[if_pos m,if_pos m];have hz:(y.num.sign==0)=true:=by rw[jI,m];rfl
  generalize y.num.sign=z at *;obtain⟨s,hs⟩:∃ s,s=decide (x.num<0):=⟨_,rfl⟩;obtain⟨t,ht⟩:∃ t,t=decide (y.num<0):=⟨_,rfl⟩;rw[← ht] at L;rw[← hs,← ht];clear hs ht di dl bv dq bx o m HB HX hT;go_enter Tryz.func31,Tryz.ntmps31;go_wp2_with fail;obtain⟨w0,i,g0,fa,R0,R1,R2⟩:=gf w [.bool s,.slice a k c,.slice a' k' c'] [.bool t,.slice b j e,.slice b' j' e'] [.bool false,.slice none 0 0,.slice none 0 0] 29 29 29;rw[i];clear i;refine eW (L.out w0 g0) ?_;rintro e B ⟨rfl,g1⟩;clear L;obtain⟨N,O,R,S,U,X⟩:=fL R2 (((g1)));go_wp2_with fail;have hT:Hid (Rec _ (w.heap.size+2) [.bool false,.slice none 0 0,.slice none 0 0]):=eC (aw R2.out (g1));have g9:=Rec.h3 hT.out (ab g0 g1) eX;generalize (World.setCell (World.setCell (World.setCell B ⟨w.heap.size+2,0,none⟩ (.bool false)) ⟨w.heap.size+2,1,none⟩ (.slice none 0 0)) ⟨w.heap.size+2,2,none⟩ (.slice none 0 0))=w9 at *;obtain⟨cc,cd,ce,ci,cl,cr⟩:=fL hT (((ad _)));refine bodyPost_ret (v:= .tuple #[.agg #[.bool false,.slice none 0 0,.slice none 0 0],.int .i64 5]) (by simp [results,Tryz.results31,go_sem, *]) rfl ?_;exact⟨_,rfl,g9,pX w9⟩
 ·rw[if_neg m,if_neg m];obtain⟨i1,i2,i3⟩:=oD m;have ib:=q1q m o;have hz:(y.num.sign==0)=false:=by rw[jI,decide_eq_false m]
  have cs:=o.1;obtain⟨s,hs⟩:∃ s,s=decide (x.num<0):=⟨_,rfl⟩;obtain⟨t,ht⟩:∃ t,t=decide (y.num<0):=⟨_,rfl⟩;have HS:Hid (∀ B M,Num B M y.den→_):=fun B M h1=>im B M t y.den h1;have HF:Hid (∀ B M,G w B→WholeIs B M (sgn t y.den)→_):=fun B M g h1=>iQ B M (.slice b j e) _ y.num.natAbs K y⁻¹ h1 (bv.G g) i3 cs (fun _=>by rw[jV];exact i2) (by rw[ht];exact i1);have HM:Hid (∀ B M,G w B→QIs B M y⁻¹ →Calls Tryz.prog 18 #[.agg #[.bool s,.slice a k c,.slice a' k' c'],M] B (RetQ B (x/y))):=fun B M g h1=>by
   rw[Rat.div_def];have hX:=HX.out;rw[← hs] at hX;exact q09 B _ M x y⁻¹ K hK em (hT.G g) (hX.G g) h1 bx ib
  rw[← ht] at L HB;rw[← hs,← ht];generalize y.num.sign=z at *;obtain⟨d,hd⟩:∃ d,d=y.den:=⟨_,rfl⟩;rw[← hd] at HB HS HF;generalize sgn t d=yt at *;generalize y.num.natAbs=yn at *;obtain⟨yi,dr⟩:∃ yi,yi=y⁻¹ :=⟨_,rfl⟩;rw[← dr] at HF HM;generalize x/y=q at *;clear hd hs ht dr i1 i2 i3 ib cs di dl bv dq bx o m HX hT;go_enter Tryz.func31,Tryz.ntmps31;go_wp2_with fail;obtain⟨w0,i,g0,fa,R0,R1,R2⟩:=gf w [.bool s,.slice a k c,.slice a' k' c'] [.bool t,.slice b j e,.slice b' j' e'] [.bool false,.slice none 0 0,.slice none 0 0] 29 29 29;rw[i];clear i;refine eW (L.out w0 g0) ?_;rintro e B ⟨rfl,g1⟩;clear L;have af:=ab g0 g1;have S0:Hid (Rec _ _ _):=aw R0.out (g1);have S1:Hid (Rec _ _ _):=aw R1.out (g1);have S2:Hid (Rec _ _ _):=aw R2.out (g1);clear R0 R1 R2 g0 g1;go_wp2_with fail;refine jU 11 1 [.is (.pointer (some ⟨w.heap.size+1,0,none⟩)),.is (.pointer (some ⟨w.heap.size+1,0,none⟩)),.is (.bool t),.is (.agg #[.bool t,.slice b j e,.slice b' j' e']),.any (fun v w'=>Num w' v (d)),.any (fun v w'=>WholeIs w' v (yt)),.is (.pointer (some ⟨w.heap.size+1,0,none⟩)),.is (.pointer (some ⟨w.heap.size+1,1,none⟩)),.is (.slice b j e),.any (fun v w'=>QIs w' v (yi)),.any (fun v w'=>NewRec B w' v ([.bool false,.slice none 0 0,.slice none 0 0]))] [some 11,some 12,some 13,some 14,some 15,some 16,some 17,some 18,some 19,some 20,some 6] ?_;intro v4 v5 v9 fb A hA;simp only[fG,Act.put,aq,ay,az] at hA;subst hA;refine⟨?_,?_⟩
  ·skip
   refine aa rfl ?a1 (aa rfl ?a6 (aa rfl ?a7 (aa rfl ?b0 (aa rfl ?b3 (aa rfl ?b4 (aa rfl ?b1 (aa rfl ?o2_7 (aa rfl ?o2_8 (aa rfl ?b5 (aa rfl ?b2 (bN)))))))))))
   case a1|a6|b1|o2_7=>
    exact jX
   case a7|b0|o2_8=>
    intro W hW hD K hK;clear hD;have ⟨ep,eu,ez⟩:=rc39 S1 hW;go_simp;exact hK.out _ _ ⟨_,rfl,ad _,rfl⟩
   ·intro W hW hD K hK;have hc:=hi9 (HB.out W (ab af hW));exact gY
   ·intro W hW hD K hK;have h4:=gZ v4 4 hD;have hc:=hi9 (HS.out W v4 h4);exact gY
   ·intro W hW hD K hK;have h5:=gZ v5 5 hD;have hc:=hi9 (HF.out W v5 (ab af hW) h5);exact gY
   ·intro W hW hD K hK;clear hD;go_simp;exact hK.out _ _ ⟨_,rfl,(ad _).alloc _,_,rfl,hW.size,Rec.new3 _ _ _ _ _⟩
  intro w2 g2 hH;have h9:=jG v9 9 hH;have ec:=jG fb 10 hH;clear hH;clear HS HF HB;obtain⟨nb,rfl,cz,bu⟩:=ec;have N0:Hid (Rec w2 nb [.bool false,.slice none 0 0,.slice none 0 0]):=bu;obtain⟨D,I,E,a9,J,F,rfl,Y,Z⟩:=h9;obtain⟨t9,C⟩:∃ t,t=decide (yi.num<0):=⟨_,rfl⟩;have hQ:QIs w2 (.agg #[.bool t9,.slice D I E,.slice a9 J F]) yi:=⟨D,I,E,a9,J,F,by rw[C],Y,Z⟩;have HQ:=hi9 (hQ.set3 (u1:= .bool t9) (u2:= .slice D I E) (u3:= .slice a9 J F) N0.out trivial trivial trivial);rw[← C];clear Y Z C bu hQ;obtain⟨N,O,R,S,U,X⟩:=fL N0 (((ad _)));refine wpAny_ready (rs:=[11]) eZ fX ?_;refine AllReady.cons rfl (fun K hK=> ?_) AllReady.nil;go_simp;refine hK _ _ ?_;clear hK K N O R S U X;refine wpAny_done eZ ?_ _;have N1:Hid (Rec _ nb [.bool t9,.slice D I E,.slice a9 J F]):=eC N0.out;have g3:=Rec.g3 (b:=nb) (u:= .bool t9) (v:= .slice D I E) (x:= .slice a9 J F) g2 cz;generalize (((w2.setCell ⟨nb,0,none⟩ (.bool t9)).setCell ⟨nb,1,none⟩ (.slice D I E)).setCell ⟨nb,2,none⟩ (.slice a9 J F))=w3 at *;have cb:=ab af g3;have T0:Hid (Rec _ _ _):=aw S0.out (g3);have T2:Hid (Rec _ _ _):=aw S2.out (g3);have bw:=hi9 (HM.out w3 _ cb HQ.out);clear HM HQ S0 S1 S2 N0 g2 cz af g3;obtain⟨bi,bl,bm,bn,bq,bs⟩:=fL T0 (ad _);obtain⟨ag,ai,al,am,an,ap⟩:=fL N1 (ad _);go_wp2_with fail;refine eW bw.out ?_;intro e4 w4 hs;obtain⟨v21,rfl,g4,ee⟩:=hs;clear bw bi bl bm bn bq bs ag ai al am an ap;obtain⟨D,I,E,a9,J,F,rfl,Y,Z⟩:=ee;have ds:Hid (Num w4 (.slice D I E) (q).num.natAbs):=Y;have ea:Hid (Num w4 (.slice a9 J F) (iw (q).den)):=Z
  obtain⟨t9,C⟩:∃ t,t=decide ((q).num<0):=⟨_,rfl⟩;rw[← C];have eb:Hid (t9=decide ((q).num<0)):=C;clear Y Z C;obtain⟨N,O,R,S,U,X⟩:=fL T2 (((g4)));have bz:Num _ _ _:=fC (u1:= .bool t9) (u2:= .slice D I E) (u3:= .slice a9 J F) ds.out (aw T2.out (g4)) trivial trivial trivial;have ca:Num _ _ _:=fC (u1:= .bool t9) (u2:= .slice D I E) (u3:= .slice a9 J F) ea.out (aw T2.out (g4)) trivial trivial trivial;go_wp2_with fail;have hT:Hid (Rec _ (w.heap.size+2) [.bool t9,.slice D I E,.slice a9 J F]):=eC (aw T2.out (g4));have g9:=Rec.h3 hT.out (ab cb g4) eX;generalize (World.setCell (World.setCell (World.setCell w4 ⟨w.heap.size+2,0,none⟩ (.bool t9)) ⟨w.heap.size+2,1,none⟩ (.slice D I E)) ⟨w.heap.size+2,2,none⟩ (.slice a9 J F))=w9 at *;obtain⟨cc,cd,ce,ci,cl,cr⟩:=fL hT (((ad _)));refine bodyPost_ret (v:= .tuple #[.agg #[.bool t9,.slice D I E,.slice a9 J F],.int .i64 0]) (by simp [results,Tryz.results31,go_sem, *]) rfl ?_;exact⟨_,rfl,g9,D,I,E,a9,J,F,by rw[← eb.out],bz,ca⟩
theorem QIs.top' {w:World} {a:Option Addr} {k c:Nat} {z:Int} {t:Bool} (h:Num w (.slice a k c) z.natAbs) (A:t=decide (z<0)):WholeIs w (.agg #[.bool t,.slice a k c]) z:=⟨a,k,c,by rw[A],h⟩
theorem oX (t:Bool) (n k:Nat):sgn t (n*k)=sgn t n*(k:Int):=by unfold sgn;cases t<;>simp [Int.neg_mul]
set_option maxHeartbeats 1000000 in
theorem q3j (w:World) (v u:Value) (x y:Rat) (K:Nat) (hK:K≤100000) (hx:QIs w v x) (hy:QIs w u y) (bx:QB x K) (F:QB y K):
  Calls Tryz.prog 24 #[v,u] w fun e I=>e= .returned (.int .i64 (x.num*y.den-y.num*x.den).sign)∧G w I:=by
 have J:Hid (∀ C,G w C→_):=fun C g=>mh C v x (hx.G g);have L:Hid (∀ C,G w C→_):=fun C g=>mh C u y (hy.G g);obtain⟨a,k,c,a',k',c',rfl,U,am⟩:=hx;obtain⟨b,j,e,b',j',e',rfl,X,an⟩:=hy;obtain⟨s,Z⟩:∃ s,s=decide (x.num<0):=⟨_,rfl⟩;obtain⟨t,d⟩:∃ t,t=decide (y.num<0):=⟨_,rfl⟩;have O:sgn s x.num.natAbs=x.num:=by rw[Z];exact gX _
 have R:sgn t y.num.natAbs=y.num:=by rw[d];exact gX _
 have M:Hid (∀ C D,G w C→Num C D y.den→Calls Tryz.prog 87 #[.agg #[.bool s,.slice a k c],D] C (fW C (x.num*y.den))):=fun C D g h=>by
  have h:=lO C (.agg #[.bool s,.slice a k c]) D s _ _ K eX ⟨a,k,c,rfl,U.G g⟩ h bx.1 F.2;rw[O] at h;exact h
 have N:Hid (∀ C D,G w C→Num C D x.den→Calls Tryz.prog 87 #[.agg #[.bool t,.slice b j e],D] C (fW C (y.num*x.den))):=fun C D g h=>by
  have h:=lO C (.agg #[.bool t,.slice b j e]) D t _ _ K eX ⟨b,j,e,rfl,X.G g⟩ h F.1 bx.2;rw[R] at h;exact h
 have q1:(x.num*y.den).natAbs<2^(64*(K+K)):=by rw[cn];exact gP bx.1 F.2
 have q2:(y.num*x.den).natAbs<2^(64*(K+K)):=by rw[cn];exact gP F.1 bx.2
 rw[← Z] at J;rw[← d] at L;rw[← Z,← d];obtain⟨p,hp⟩:∃ p,p=x.den:=⟨_,rfl⟩;obtain⟨r,hr⟩:∃ r,r=y.den:=⟨_,rfl⟩;rw[← hp] at J N q2 ⊢;rw[← hr] at L M q1 ⊢;generalize x.num*(r:Int)=A at *;generalize y.num*(p:Int)=B at *;have HM:Hid (∀ C D v2,WholeIs C D A→WholeIs C v2 B→Calls Tryz.prog 74 #[D,v2] C (fW C (A-B))):=fun C D v2 h1 h2=>by
  have h:=rT C D v2 _ _ _ _ (K+K) eX h1 h2 q1 q2;rw[gX,gX] at h;exact h
 have HS:Hid (∀ C D,WholeIs C D (A-B)→_):=fun C D h=>qo C D (A-B) h;generalize A-B=z at *;generalize z.sign=sz at *;clear hp hr q1 q2 O R Z d bx F U am X an;go_enter Tryz.func24,Tryz.ntmps24;go_wp2_with fail;obtain⟨w0,S,g0,ap,R0,R1⟩:=gF w [.bool s,.slice a k c,.slice a' k' c'] [.bool t,.slice b j e,.slice b' j' e'] 29 29;rw[S];clear S;refine jU 13 0 [.is (.pointer (some ⟨w.heap.size,0,none⟩)),.is (.agg #[.bool s,.slice a k c]),.is (.agg #[.bool t,.slice b j e,.slice b' j' e']),.any (fun v I=>Num I v (r)),.any (fun v I=>WholeIs I v (A)),.is (.pointer (some ⟨w.heap.size+1,0,none⟩)),.is (.agg #[.bool t,.slice b j e]),.is (.agg #[.bool s,.slice a k c,.slice a' k' c']),.any (fun v I=>Num I v (p)),.any (fun v I=>WholeIs I v (B)),.any (fun v I=>WholeIs I v (z)),.is (.int .i64 sz),.is (.int .i64 sz)] [some 5,some 6,some 7,some 8,some 9,some 10,some 11,some 12,some 13,some 14,some 15,some 16,some 4] ?_;intro v3 v4 v8 v9 Y A hA;simp only[fG,Act.put,aq,ay,az] at hA;subst hA;refine⟨?_,?_⟩
 ·skip
  refine aa rfl ?a1 (aa rfl ?a6 (aa rfl ?a7 (aa rfl ?b3 (aa rfl ?b4 (aa rfl ?a8 (aa rfl ?b0 (aa rfl ?o1_7 (aa rfl ?b5 (aa rfl ?b6 (aa rfl ?b1 (aa rfl ?b2 (aa rfl ?o1_12 (bN)))))))))))))
  case a1|a8|o1_12=>
   exact jX
  case a6|a7|b0|o1_7=>
   intro W E hD K hK;clear hD;have ⟨m,o,af⟩:=rc39 R0 E;have ⟨ag,ai,al⟩:=rc39 R1 E;go_simp;exact hK.out _ _ ⟨_,rfl,ad _,rfl⟩
  ·intro W E hD K hK;have hc:=hi9 (L.out W (ab g0 E));exact gY
  ·intro W E hD K hK;have h3:=gZ v3 3 hD;have hc:=hi9 (M.out W v3 (ab g0 E) h3);exact gY
  ·intro W E hD K hK;have hc:=hi9 (J.out W (ab g0 E));exact gY
  ·intro W E hD K hK;have h8:=gZ v8 8 hD;have hc:=hi9 (N.out W v8 (ab g0 E) h8);exact gY
  ·intro W E hD K hK;have h4:=gZ v4 4 hD;have h9:=gZ v9 9 hD;have hc:=hi9 (HM.out W v4 v9 h4 h9);exact gY
  ·intro W E hD K hK;have i:=gZ Y 10 hD;have hc:=hi9 (HS.out W Y i);exact sj
 intro C g1 hH;clear hH;refine wpAny_done eZ ?_ _;clear HM HS M N J L R0 R1;go_wp2_with fail;go_ret;exact⟨rfl,ab g0 g1⟩
/-- A whole number times a power of two. -/
def mk2 (m e:Int):Rat:=mkRat (m*((2^e.toNat:Nat):Int)) (2^(-e).toNat)
set_option maxHeartbeats 1000000 in
theorem oY (w:World) (m e:Int) (h1: -9223372036854775808≤m) (h2:m<9223372036854775808) (h3: -1000000≤e) (h4:e≤1000000) (hm:m=0∨m%2=1):
  Calls Tryz.prog 99 #[.int .i64 m,.int .i64 e] w (RetQ w (mk2 m e)):=by
 have HW:Hid (∀ B,_):=fun B=>p8 B m h1 h2;have bl:m.natAbs<2^(64*1):=by omega
 by_cases he:e<0
 ·obtain⟨n,rfl⟩:∃ n:Nat,e= -(n:Int):=⟨e.natAbs,by omega⟩;have af:mk2 m (-(n:Int))=mkRat m (2^n):=by
   unfold mk2;rw[show (-(n:Int)).toNat=0 from by omega,show (- -(n:Int)).toNat=n from by omega];simp
  rw[af];obtain⟨K,hK⟩:∃ K,K=15626:=⟨_,rfl⟩;have ca:2^n<2^(64*K):=bk eX eX;have HL:Hid (∀ B C,Num B C 1→Calls Tryz.prog 163 #[C,.int .i64 (n:Int)] B (fo B (2^n))):=fun B C hv=>by
   have h:=jq B C 1 n 1 eX eX hv eX;rw[aT] at h;exact h
  have ag:m≠0→Nat.gcd m.natAbs (2^n)=1:=fun h0=>by
   have h5:m.natAbs=2*(m.natAbs/2)+1:=by omega
   rw[h5];exact q0N _ _
  have HF:Hid (∀ B C v2,WholeIs B C m→Num B v2 (2^n)→_):=fun B C v2 k1 k2=>iQ B C v2 m (2^n) K (mkRat m (2^n)) k1 k2 (ae n) ca ag rfl;have hd:decide (-(n:Int)<0)=true:=decide_eq_true he;have ci: - -(n:Int)=n:=by omega
  have cl:IntKind.i64.wrap (n:Int)=n:=by rw[IntKind.wrap_i64];omega
  have hb:(n:Int)≤1000000:=by omega
  have ce:(1:Int)≤n:=by omega
  generalize -(n:Int)=e at *;generalize mkRat m (2^n)=q at *;generalize 2^n=P at *;clear af ca ag bl hm h1 h2 he hK;go_enter Tryz.func99,Tryz.ntmps99;go_wp2_with fail;obtain⟨w0,D,g0,cc,U⟩:=ft w [.bool false,.slice none 0 0,.slice none 0 0] 29;rw[D];clear D;refine eW (HW.out w0) ?_;intro e2 B hs;obtain⟨C,rfl,g1,⟨a,k,c,rfl,k1⟩⟩:=hs;obtain⟨s,hs⟩:∃ s,s=decide (m<0):=⟨_,rfl⟩;have K1:Hid (Num B (.slice a k c) m.natAbs):=k1;have bm:Hid (s=decide (m<0)):=hs;rw[← hs];clear k1 hs HW;go_wp2_with fail;have S0:Hid (Rec _ _ _):=aw U.out (g1);have an:=ab g0 g1;clear U g0 g1;obtain⟨w2,D,g2,cd,U⟩:=ft B [.bool s,.slice a k c] 27;rw[D];clear D;refine jU 6 1 [.is (.agg #[.bool s,.slice a k c]),.any (fun v N=>Num N v (1)),.is (.int .i64 e),.is (.int .i64 n),.any (fun v N=>Num N v (P)),.any (fun v N=>QIs N v (q))] [some 10,some 11,some 12,some 13,some 14,some 15] ?_;intro C v4 v5 A hA;simp only[fG,Act.put,aq,ay,az] at hA;subst hA;refine⟨?_,?_⟩
  ·skip
   refine aa rfl ?a1 (aa rfl ?b2 (aa rfl ?a6 (aa rfl ?o2_3 (aa rfl ?b3 (aa rfl ?b4 (bN))))))
   case a6|o2_3=>
    exact jX
   case a1=>
    intro W O hD K hK;clear hD;have ⟨ap,bi⟩:=rc29 U O;go_simp;exact hK.out _ _ ⟨_,rfl,ad _,rfl⟩
   ·intro W O hD K hK;clear hD;go_simp;exact hK.out _ _ ⟨_,rfl,(ad _).alloc _,jA fk fk⟩
   ·intro W O hD K hK;have h1:=gZ C 1 hD;have hc:=hi9 (HL.out W C h1);exact gY
   ·intro W O hD K hK;have h4:=gZ v4 4 hD;have hc:=hi9 (HF.out W (.agg #[.bool s,.slice a k c]) v4 (QIs.top' (K1.out.G (ab g2 O)) bm.out) h4);exact gY
  intro w3 g3 hH;have h5:=jG v5 5 hH;clear hH;clear HL HF U K1 bm;have g13:=ab g2 g3;clear g2 g3;obtain⟨E,L,F,a9,M,I,rfl,o,y⟩:=h5;have ai:Hid (Num w3 (.slice E L F) (q).num.natAbs):=o;have al:Hid (Num w3 (.slice a9 M I) (iw (q).den)):=y;obtain⟨t9,J⟩:∃ t,t=decide ((q).num<0):=⟨_,rfl⟩;rw[← J];have am:Hid (t9=decide ((q).num<0)):=J;clear o y J;obtain⟨X,Y,Z,d,i,j⟩:=fL S0 (g13);refine wpAny_ready (rs:=[6]) eZ fX ?_;refine AllReady.cons rfl (fun K hK=> ?_) AllReady.nil;go_simp;refine hK _ _ ?_;clear hK K X Y Z d i j;refine wpAny_done eZ ?_ _;have R:Num _ _ _:=fC (u1:= .bool t9) (u2:= .slice E L F) (u3:= .slice a9 M I) ai.out (aw S0.out (g13)) trivial trivial trivial;have S:Num _ _ _:=fC (u1:= .bool t9) (u2:= .slice E L F) (u3:= .slice a9 M I) al.out (aw S0.out (g13)) trivial trivial trivial;go_wp2_with fail;have hT:Hid (Rec _ (w.heap.size) [.bool t9,.slice E L F,.slice a9 M I]):=eC (aw S0.out (g13));have g9:=Rec.h3 hT.out (ab an g13) eX;generalize (World.setCell (World.setCell (World.setCell w3 ⟨w.heap.size,0,none⟩ (.bool t9)) ⟨w.heap.size,1,none⟩ (.slice E L F)) ⟨w.heap.size,2,none⟩ (.slice a9 M I))=w9 at *;obtain⟨bq,bs,bu,bv,bw,bz⟩:=fL hT (((ad _)));refine bodyPost_ret (v:= .agg #[.bool t9,.slice E L F,.slice a9 M I]) (by simp [results,Tryz.results99,go_sem, *]) rfl ?_;exact⟨_,rfl,g9,E,L,F,a9,M,I,by rw[← am.out],R,S⟩
 ·obtain⟨n,rfl⟩:∃ n:Nat,e=(n:Int):=⟨e.natAbs,by omega⟩;have af:mk2 m (n:Int)=((m*((2^n:Nat):Int):Int):Rat):=by
   unfold mk2;rw[show (-(n:Int)).toNat=0 from by omega,show (n:Int).toNat=n from by omega,mkRat_one]
  rw[af];obtain⟨t,ht⟩:∃ t,t=decide (m<0):=⟨_,rfl⟩;have HL:Hid (∀ B C,Num B C m.natAbs→_):=fun B C hv=>jq B C m.natAbs n 1 eX eX hv bl;have cb:sgn t (m.natAbs*2^n)=m*((2^n:Nat):Int):=by
   have h:=gX m;rw[← ht] at h;rw[oX,h]
  have HS:Hid (∀ B C,Num B C (m.natAbs*2^n)→Calls Tryz.prog 80 #[.bool t,C] B (fW B (m*((2^n:Nat):Int)))):=fun B C hv=>by
   have h:=im B C t _ hv;rw[cb] at h;exact h
  have HF:Hid (∀ B C v2,WholeIs B C (m*((2^n:Nat):Int))→Num B v2 1→_):=fun B C v2 k1 k2=>iQ B C v2 (m*((2^n:Nat):Int)) 1 1 ((m*((2^n:Nat):Int):Int):Rat) k1 k2 eX eX (fun _=>dG _) (mkRat_one _);have hd:decide ((n:Int)<0)=false:=by simp
  have hb:(n:Int)≤1000000:=by omega
  generalize ((m*((2^n:Nat):Int):Int):Rat)=q at *;generalize m*((2^n:Nat):Int)=z at *;generalize m.natAbs*2^n=P at *;have bn:Hid (t=decide (m<0)):=ht;clear af bl hm h1 h2 he h3 h4 cb ht;go_enter Tryz.func99,Tryz.ntmps99;go_wp2_with fail;obtain⟨w0,D,g0,cc,U⟩:=ft w [.bool false,.slice none 0 0,.slice none 0 0] 29;rw[D];clear D;refine eW (HW.out w0) ?_;intro e2 B hs;obtain⟨C,rfl,g1,⟨a,k,c,rfl,k1⟩⟩:=hs;have K1:Hid (Num B (.slice a k c) m.natAbs):=k1;rw[← bn.out];clear k1 HW bn;go_wp2_with fail;have S0:Hid (Rec _ _ _):=aw U.out (g1);have an:=ab g0 g1;clear U g0 g1;obtain⟨w2,D,g2,cd,U⟩:=ft B [.bool t,.slice a k c] 27;rw[D];clear D;refine jU 9 1 [.is (.pointer (some ⟨B.heap.size,0,none⟩)),.is (.bool t),.is (.pointer (some ⟨B.heap.size,1,none⟩)),.is (.slice a k c),.is (.int .i64 n),.any (fun v N=>Num N v (P)),.any (fun v N=>WholeIs N v (z)),.any (fun v N=>Num N v (1)),.any (fun v N=>QIs N v (q))] [some 16,some 17,some 18,some 19,some 20,some 21,some 22,some 23,some 24] ?_;intro v5 v6 v7 v8 A hA;simp only[fG,Act.put,aq,ay,az] at hA;subst hA;refine⟨?_,?_⟩
  ·skip
   refine aa rfl ?a7 (aa rfl ?b0 (aa rfl ?b1 (aa rfl ?o3_3 (aa rfl ?o3_4 (aa rfl ?b5 (aa rfl ?b6 (aa rfl ?b7 (aa rfl ?b8 (bN)))))))))
   case a7|b1|o3_4=>
    exact jX
   case b0|o3_3=>
    intro W O hD K hK;clear hD;have ⟨ap,bi⟩:=rc29 U O;go_simp;exact hK.out _ _ ⟨_,rfl,ad _,rfl⟩
   ·intro W O hD K hK;have hc:=hi9 (HL.out W (.slice a k c) (K1.out.G (ab g2 O)));exact gY
   ·intro W O hD K hK;have h5:=gZ v5 5 hD;have hc:=hi9 (HS.out W v5 h5);exact gY
   ·intro W O hD K hK;clear hD;go_simp;exact hK.out _ _ ⟨_,rfl,(ad _).alloc _,jA fk fk⟩
   ·intro W O hD K hK;have h6:=gZ v6 6 hD;have h7:=gZ v7 7 hD;have hc:=hi9 (HF.out W v6 v7 h6 h7);exact gY
  intro w3 g3 hH;have h8:=jG v8 8 hH;clear hH;clear HL HF HS U K1;have g13:=ab g2 g3;clear g2 g3;obtain⟨E,L,F,a9,M,I,rfl,o,y⟩:=h8;have ai:Hid (Num w3 (.slice E L F) (q).num.natAbs):=o;have al:Hid (Num w3 (.slice a9 M I) (iw (q).den)):=y;obtain⟨t9,J⟩:∃ t,t=decide ((q).num<0):=⟨_,rfl⟩;rw[← J];have am:Hid (t9=decide ((q).num<0)):=J;clear o y J;obtain⟨X,Y,Z,d,i,j⟩:=fL S0 (g13);refine wpAny_ready (rs:=[9]) eZ fX ?_;refine AllReady.cons rfl (fun K hK=> ?_) AllReady.nil;go_simp;refine hK _ _ ?_;clear hK K X Y Z d i j;refine wpAny_done eZ ?_ _;have R:Num _ _ _:=fC (u1:= .bool t9) (u2:= .slice E L F) (u3:= .slice a9 M I) ai.out (aw S0.out (g13)) trivial trivial trivial;have S:Num _ _ _:=fC (u1:= .bool t9) (u2:= .slice E L F) (u3:= .slice a9 M I) al.out (aw S0.out (g13)) trivial trivial trivial;go_wp2_with fail;have hT:Hid (Rec _ (w.heap.size) [.bool t9,.slice E L F,.slice a9 M I]):=eC (aw S0.out (g13));have g9:=Rec.h3 hT.out (ab an g13) eX;generalize (World.setCell (World.setCell (World.setCell w3 ⟨w.heap.size,0,none⟩ (.bool t9)) ⟨w.heap.size,1,none⟩ (.slice E L F)) ⟨w.heap.size,2,none⟩ (.slice a9 M I))=w9 at *;obtain⟨bq,bs,bu,bv,bw,bz⟩:=fL hT (((ad _)));refine bodyPost_ret (v:= .agg #[.bool t9,.slice E L F,.slice a9 M I]) (by simp [results,Tryz.results99,go_sem, *]) rfl ?_;exact⟨_,rfl,g9,E,L,F,a9,M,I,by rw[← am.out],R,S⟩
theorem kv {w:World} {v:Value} {n b i:Nat} {x y u:Value} (h:Num w v n) (r:Rec w b [x,y]) (C:iK x) (D:iK y):Num (w.setCell ⟨b,i,none⟩ u) v n:=
 lX h r (by intro z A;simp at A;rcases A with rfl|rfl<;>assumption) _ (fun i k hi=>by
  rw[World.cell?_setCell_other _ _ _ _ (by intro e;injection e with B;exact hi B.symm)]) (by simp [World.setCell])
theorem q6m {w:World} {b c:Nat} {x y x' y' A:Value} (h:Rec w b [x,y]) (h2:Rec w c [x',y',A]):b≠c:=by
 intro e;subst e;obtain⟨t,h⟩:=h;obtain⟨t2,h2⟩:=h2;rw[h] at h2;simp at h2
/-- A sum of fractions over one bar: s divides both bars, r the sum above and s. -/
theorem q2N {x y:Rat} {op:Int→Int→Int} {z:Rat} (j:z=mkRat (op (x.num*y.den) (y.num*x.den)) (x.den*y.den)) (K:∀ a b k:Int,op a b*k=op (a*k) (b*k))
  {s r:Nat} (M:s=Nat.gcd x.den y.den) {T:Int} (O:T=op (x.num*((y.den/s:Nat):Int)) (y.num*((x.den/s:Nat):Int))) (L:r=Nat.gcd T.natAbs s) (t:Bool) (d:t=decide (T<0)):
  z=mkRat (sgn t (T.natAbs/r)) (x.den/s*(y.den/s)*(s/r)):=by
 have N:=x.den_pos;have i:=y.den_pos;have A:0<s:=by rw[M];exact Nat.gcd_pos_of_pos_left _ N
 have D:0<r:=by rw[L];exact cL _ A
 obtain⟨a,I⟩:s∣x.den:=by rw[M];exact cj _ _
 obtain⟨b,hb⟩:s∣y.den:=by rw[M];exact bW _ _
 obtain⟨c,R⟩:r∣T.natAbs:=by rw[L];exact cj _ _
 obtain⟨e,S⟩:r∣s:=by rw[L];exact bW _ _
 have U:x.den/s=a:=by rw[I];exact cB _ A
 have W:y.den/s=b:=by rw[hb];exact cB _ A
 have X:T.natAbs/r=c:=by rw[R];exact cB _ D
 have Y:s/r=e:=by rw[S];exact cB _ D
 rw[U,W] at O ⊢;rw[X,Y];have B:a≠0:=by rintro rfl;omega
 have C:b≠0:=by rintro rfl;omega
 have J:e≠0:=by rintro rfl;omega
 have F:T=sgn t c*(r:Int):=by
  have h:=gX T;rw[← d,R,aJ,oX] at h;exact h.symm
 have E:op (x.num*y.den) (y.num*x.den)=T*(s:Int):=by
  rw[O,K,I,hb]
  congr 1<;>(rw[aG];ac_rfl)
 rw[j,E,F,I,hb];rw[ev (bK (bK eX B) (bK eX C)) (bK (bK B C) J)];have Z:(s:Int)=r*e:=by rw[S,aG]
 simp only[aG];rw[Z]
 ac_rfl
theorem q2M {x y:Rat} {op:Int→Int→Int} (B:∀ p q g:Int,g∣q→g∣op p q→g∣p) (C:∀ p q g:Int,g∣p→g∣op p q→g∣q)
  {s r:Nat} (E:s=Nat.gcd x.den y.den) {T:Int} (W:T=op (x.num*((y.den/s:Nat):Int)) (y.num*((x.den/s:Nat):Int))) (K:r=Nat.gcd T.natAbs s):
  Nat.gcd (T.natAbs/r) (x.den/s*(y.den/s)*(s/r))=1:=by
 have N:=x.den_pos;have S:=y.den_pos;have D:0<s:=by rw[E];exact Nat.gcd_pos_of_pos_left _ N
 have Y:0<r:=by rw[K];exact cL _ D
 have O:s∣x.den:=by rw[E];exact cj _ _
 have U:s∣y.den:=by rw[E];exact bW _ _
 have A:Nat.gcd (x.den/s) (y.den/s)=1:=by rw[E];exact mC S
 have L:r∣T.natAbs:=by rw[K];exact cj _ _
 have J:Nat.gcd (T.natAbs/r) (s/r)=1:=by rw[K];exact mC D
 have M:x.den/s∣x.den:=dP O;have R:y.den/s∣y.den:=dP U;have key:∀ (n d e:Nat),Nat.gcd n d=1→Nat.gcd d e=1→Nat.gcd (n*e) d=1:=fun n d e h1 h2=>Nat.Coprime.mul_left h1 (by show Nat.gcd e d=1;rw[cg];exact h2);have F:Nat.gcd T.natAbs (x.den/s)=1:=by
  refine Nat.eq_one_of_dvd_one ?_;have g1:((Nat.gcd T.natAbs (x.den/s):Nat):Int)∣T:=eK.2 (cj _ _);have g2:Nat.gcd T.natAbs (x.den/s)∣x.den/s:=bW _ _;generalize Nat.gcd T.natAbs (x.den/s)=g at *;rw[W] at g1;have g3:=B _ _ _ (dJ (cE.2 g2) (Int.dvd_mul_left _ _)) g1;have g4:=eK.1 g3;rw[cn,aA] at g4;have g5:=key x.num.natAbs (x.den/s) (y.den/s) (kM x.reduced (Nat.dvd_refl _) M) A;rw[← g5];exact Nat.dvd_gcd g4 g2
 have I:Nat.gcd T.natAbs (y.den/s)=1:=by
  refine Nat.eq_one_of_dvd_one ?_;have g1:((Nat.gcd T.natAbs (y.den/s):Nat):Int)∣T:=eK.2 (cj _ _);have g2:Nat.gcd T.natAbs (y.den/s)∣y.den/s:=bW _ _;generalize Nat.gcd T.natAbs (y.den/s)=g at *;rw[W] at g1;have g3:=C _ _ _ (dJ (cE.2 g2) (Int.dvd_mul_left _ _)) g1;have g4:=eK.1 g3;rw[cn,aA] at g4;have g5:=key y.num.natAbs (y.den/s) (x.den/s) (kM y.reduced (Nat.dvd_refl _) R) (by rw[cg];exact A);rw[← g5];exact Nat.dvd_gcd g4 g2
 have X:T.natAbs/r∣T.natAbs:=dP L;exact Nat.Coprime.mul_right (Nat.Coprime.mul_right (kM F X (Nat.dvd_refl _)) (kM I X (Nat.dvd_refl _))) J
set_option maxHeartbeats 2000000 in
theorem oE (w:World) (v u:Value) (x y:Rat) (K:Nat) (hK:K≤40000) (bw:1≤K) (Z:Tab w) (hx:QIs w v x) (hy:QIs w u y) (bx:QB x K) (m:QB y K) (FR:Nat) (op:Int→Int→Int) (z:Rat)
  (hz:z=mkRat (op (x.num*y.den) (y.num*x.den)) (x.den*y.den)) (hd:∀ a b k:Int,op a b*k=op (a*k) (b*k)) (cb:∀ p q g:Int,g∣q→g∣op p q→g∣p) (cc:∀ p q g:Int,g∣p→g∣op p q→g∣q) (gg:∀ p q:Int,(op p q).natAbs≤p.natAbs+q.natAbs)
  (fv:∀ C D v2 (X Y:Int),X.natAbs<2^(64*(K+K))→Y.natAbs<2^(64*(K+K))→WholeIs C D X→WholeIs C v2 Y→Calls Tryz.prog FR #[D,v2] C (fW C (op X Y))) (hE:∀ args w,(callFunc FR args).run Tryz.prog w= .ok (.enter FR args) w):
  Calls Tryz.prog 69 #[v,u,.func (.func FR) #[] #[]] w (RetQ w z):=by
 have af:Hid (∀ C,G w C→_):=fun C g=>mh C v x (hx.G g);have ag:Hid (∀ C,G w C→_):=fun C g=>mh C u y (hy.G g);obtain⟨a,k,c,a',k',c',rfl,hg,lg⟩:=hx;obtain⟨b,j,e,b',j',e',rfl,hh,li⟩:=hy;have ca:=x.den_pos;have hj:=y.den_pos;obtain⟨s,i⟩:∃ s,s=Nat.gcd x.den y.den:=⟨_,rfl⟩;have d:0<s:=by rw[i];exact Nat.gcd_pos_of_pos_left _ ca
 have U:s<2^(64*K):=aD (by rw[i];exact Nat.gcd_le_left _ ca) bx.2;obtain⟨T,hT⟩:∃ T:Int,T=op (x.num*((y.den/s:Nat):Int)) (y.num*((x.den/s:Nat):Int)):=⟨_,rfl⟩;obtain⟨r,hr⟩:∃ r,r=Nat.gcd T.natAbs s:=⟨_,rfl⟩;obtain⟨t,ht⟩:∃ t,t=decide (T<0):=⟨_,rfl⟩;have bm:0<r:=by rw[hr];exact cL _ d
 have bz:r≤s:=by rw[hr];exact ey _ d
 have bq:=q2N (x:=x) (y:=y) (op:=op) (z:=z) hz hd i hT hr t ht;have bi:=q2M (x:=x) (y:=y) (op:=op) cb cc i hT hr;have cd:sgn (decide (x.num<0)) x.num.natAbs=x.num:=gX _;have ce:sgn (decide (y.num<0)) y.num.natAbs=y.num:=gX _;obtain⟨p,hp⟩:∃ p,p=x.den:=⟨_,rfl⟩;obtain⟨q,hq⟩:∃ q,q=y.den:=⟨_,rfl⟩;obtain⟨A,S⟩:∃ A,A=x.den/s:=⟨_,rfl⟩;obtain⟨B,hB⟩:∃ B,B=y.den/s:=⟨_,rfl⟩;have bA:A<2^(64*K):=aD (by rw[S];exact aX _ _) bx.2;have bB:B<2^(64*K):=aD (by rw[hB];exact aX _ _) m.2;have A0:0<A:=by rw[S];exact ej (by rw[i];exact Nat.gcd_le_left _ ca) d
 have B0:0<B:=by rw[hB];exact ej (by rw[i];exact ey _ hj) d
 have dr:Hid (∀ C D v2,G w C→Num C D p→Num C v2 q→Calls Tryz.prog 76 #[D,v2] C (fo C s)):=fun C D v2 g h1 h2=>by
  rw[i,← hp,← hq];exact jM C D v2 p q K eX bw (Z.G g) h1 h2 (by rw[hp];exact bx.2) (by rw[hq];exact m.2)
 have ep:Hid (∀ C D v2,G w C→Num C D p→Num C v2 s→Calls Tryz.prog 78 #[D,v2] C (fo C A)):=fun C D v2 g1 h1 h2=>by
  rw[S,← hp];exact kB C D v2 p s K eX bw (Z.G g1) h1 h2 (by rw[hp];exact bx.2) U d
 have eu:Hid (∀ C D v2,G w C→Num C D q→Num C v2 s→Calls Tryz.prog 78 #[D,v2] C (fo C B)):=fun C D v2 g1 h1 h2=>by
  rw[hB,← hq];exact kB C D v2 q s K eX bw (Z.G g1) h1 h2 (by rw[hq];exact m.2) U d
 rw[← S,← hB] at hT bq bi;have bs:Hid (∀ C D,G w C→Num C D B→Calls Tryz.prog 87 #[.agg #[.bool (decide (x.num<0)),.slice a k c],D] C (fW C (x.num*B))):=fun C D g h=>by
  have h:=lO C (.agg #[.bool (decide (x.num<0)),.slice a k c]) D _ _ _ K eX ⟨a,k,c,rfl,hg.G g⟩ h bx.1 bB;rw[cd] at h;exact h
 have bu:Hid (∀ C D,G w C→Num C D A→Calls Tryz.prog 87 #[.agg #[.bool (decide (y.num<0)),.slice b j e],D] C (fW C (y.num*A))):=fun C D g h=>by
  have h:=lO C (.agg #[.bool (decide (y.num<0)),.slice b j e]) D _ _ _ K eX ⟨b,j,e,rfl,hh.G g⟩ h m.1 bA;rw[ce] at h;exact h
 have q1:(x.num*(B:Int)).natAbs<2^(64*(K+K)):=by rw[cn];exact gP bx.1 bB
 have q2:(y.num*(A:Int)).natAbs<2^(64*(K+K)):=by rw[cn];exact gP m.1 bA
 have bT:T.natAbs<2^(64*(2*K+1)):=by
  have h1:2^(64*(2*K+1))=2^(64*(K+K))*2^64:=by rw[← ah];congr 1;omega
  rw[hT,h1];have h2:=gg (x.num*(B:Int)) (y.num*(A:Int));generalize x.num*(B:Int)=X at *;generalize y.num*(A:Int)=Y at *;generalize 2^(64*(K+K))=P at *;omega
 obtain⟨X,hX⟩:∃ X:Int,X=x.num*B:=⟨_,rfl⟩;obtain⟨Y,hY⟩:∃ Y:Int,Y=y.num*A:=⟨_,rfl⟩;rw[← hX] at bs q1 hT;rw[← hY] at bu q2 hT;have HP:Hid (∀ C D v2,WholeIs C D X→WholeIs C v2 Y→Calls Tryz.prog FR #[D,v2] C (fW C T)):=fun C D v2 h1 h2=>by
  rw[hT];exact fv C D v2 X Y q1 q2 h1 h2
 have HE:Hid (∀ args w,(callFunc FR args).run Tryz.prog w= .ok (.enter FR args) w):=hE;have ds:Hid (∀ C D v2,G w C→Num C D T.natAbs→Num C v2 s→Calls Tryz.prog 76 #[D,v2] C (fo C r)):=fun C D v2 g h1 h2=>by
  rw[hr];exact jM C D v2 _ s (2*K+1) eX eX (Z.G g) h1 h2 bT (aj U (ao eX eX))
 have ez:Hid (∀ C D v2,G w C→Num C D T.natAbs→Num C v2 r→_):=fun C D v2 g1 h1 h2=>kB C D v2 _ r (2*K+1) eX eX (Z.G g1) h1 h2 bT (aD bz (aj U (ao eX eX))) bm;have fa:Hid (∀ C D v2,G w C→Num C D s→Num C v2 r→_):=fun C D v2 g1 h1 h2=>kB C D v2 s r K eX bw (Z.G g1) h1 h2 U (aD bz U) bm;have q3:s/r<2^(64*K):=aD (aX _ _) U;have q4:0<s/r:=ej bz bm;have eb:Hid (∀ C D v2,Num C D A→Num C v2 B→_):=fun C D v2 h1 h2=>jD C D v2 A B K eX h1 h2 bA bB;have cl:A*B<2^(64*(K+K)):=gP bA bB;have ec:Hid (∀ C D v2,Num C D (A*B)→Num C v2 (s/r)→_):=fun C D v2 h1 h2=>jD C D v2 (A*B) (s/r) (K+K) eX h1 h2 cl (aj q3 (ao eX eX));have he:decide (sgn t (T.natAbs/r)<0)=t:=by
  rw[q0L];have h1:r∣T.natAbs:=by rw[hr];exact cj _ _
  rw[ht];by_cases h:T<0
  ·have h2:0<T.natAbs/r:=ej (Nat.le_of_dvd eX h1) bm;simp [h,h2]
  ·simp [h]
 have HF:Hid (∀ C d1 d2 d3 v2,Num C (.slice d1 d2 d3) (T.natAbs/r)→Num C v2 (A*B*(s/r))→Calls Tryz.prog 66 #[.agg #[.bool t,.slice d1 d2 d3],v2] C (RetQ C z)):=fun C d1 d2 d3 v2 h1 h2=>
  iQ C _ v2 (sgn t (T.natAbs/r)) (A*B*(s/r)) ((K+K)+K) z ⟨d1,d2,d3,by rw[he],by rw[jV];exact h1⟩ h2 (aM (aM A0 B0) q4) (gP cl q3) (fun _=>by rw[jV];exact bi) bq
 have hn:Hid (t=decide (T<0)):=ht;clear hz hd cb cc gg fv hE bq bi he cd ce hX hY hT S hB i hr ht q1 q2 q3 q4 cl bT bA bB A0 B0 d U bm bz ca hj bx m Z hg lg hh li;generalize A*B*(s/r)=M at *;generalize A*B=N at *;generalize s/r=sr at *;generalize T.natAbs/r=tr at *;obtain⟨sx,cs⟩:∃ sx,sx=decide (x.num<0):=⟨_,rfl⟩;obtain⟨sy,cz⟩:∃ sy,sy=decide (y.num<0):=⟨_,rfl⟩;rw[← cs] at af bs;rw[← cz] at ag bu;rw[← cs,← cz];rw[← hp] at af;rw[← hq] at ag;clear cs cz hp hq;go_enter Tryz.func69,Tryz.ntmps69;go_wp2_with fail;obtain⟨w0,hf,g0,nc,R0,R1,R2⟩:=gf w [.bool sx,.slice a k c,.slice a' k' c'] [.bool sy,.slice b j e,.slice b' j' e'] [.bool false,.slice none 0 0,.slice none 0 0] 29 29 29;rw[hf];clear hf;refine jU 6 0 [.is (.agg #[.bool sx,.slice a k c,.slice a' k' c']),.any (fun v F=>Num F v (p)),.is (.agg #[.bool sy,.slice b j e,.slice b' j' e']),.any (fun v F=>Num F v (q)),.any (fun v F=>Num F v (s)),.any (fun v F=>Num F v (s))] [some 12,some 13,some 14,some 15,some 16,some 7] ?_;intro D v3 v4 v5 A S;simp only[fG,Act.put,aq,ay,az] at S;subst S;refine⟨?_,?_⟩
 ·skip
  refine aa rfl ?a1 (aa rfl ?c0 (aa rfl ?o1_2 (aa rfl ?c2 (aa rfl ?c3 (aa rfl ?c4 (bN))))))
  case a1|o1_2=>
   intro W E hD K hK;clear hD;have ⟨ib,ih,ii⟩:=rc39 R0 E;have ⟨io,it,jj⟩:=rc39 R1 E;go_simp;exact hK.out _ _ ⟨_,rfl,ad _,rfl⟩
  ·intro W E hD K hK;have hc:=hi9 (af.out W (ab g0 E));exact gY
  ·intro W E hD K hK;have hc:=hi9 (ag.out W (ab g0 E));exact gY
  ·intro W E hD K hK;have h1:=gZ D 1 hD;have h3:=gZ v3 3 hD;have hc:=hi9 (dr.out W D v3 (ab g0 E) h1 h3);exact gY
  ·intro W E hD K hK;have h4:=gZ v4 4 hD;clear hD;go_simp;exact hK.out _ _ ⟨_,rfl,ad _,h4⟩
 intro C g1 hH;have h5:=jG v5 5 hH;clear hH;refine wpAny_done eZ ?_ _;generalize v5=vs at *;have S5:Hid (Num C vs s):=h5;have o:=ab g0 g1;have S0:Hid (Rec _ _ _):=aw R0.out (g1);have S1:Hid (Rec _ _ _):=aw R1.out (g1);have S2:Hid (Rec _ _ _):=aw R2.out (g1);clear h5 R0 R1 R2 g0 g1 dr;go_wp2_with fail;refine jU 10 0 [.is (.agg #[.bool sx,.slice a k c,.slice a' k' c']),.any (fun v F=>Num F v (p)),.is (vs),.any (fun v F=>Num F v (A)),.is (.agg #[.bool sy,.slice b j e,.slice b' j' e']),.any (fun v F=>Num F v (q)),.is (vs),.any (fun v F=>Num F v (B)),.any (fun v F=>Num F v (A)),.any (fun v F=>Num F v (B))] [some 17,some 18,some 19,some 20,some 21,some 22,some 23,some 24,some 8,some 9] ?_;intro D v3 v5 v7 v8 v9 A S;simp only[fG,Act.put,aq,ay,az] at S;subst S;refine⟨?_,?_⟩
 ·skip
  refine aa rfl ?a6 (aa rfl ?c5 (aa rfl ?a7 (aa rfl ?c6 (aa rfl ?o2_4 (aa rfl ?c7 (aa rfl ?o2_6 (aa rfl ?cF (aa rfl ?cH (aa rfl ?e1 (bN))))))))))
  case a7|o2_6=>
   exact jX
  case a6|o2_4=>
   intro W E hD K hK;clear hD;have ⟨jp,kb,kk⟩:=rc39 S0 E;have ⟨kp,kq,kr⟩:=rc39 S1 E;go_simp;exact hK.out _ _ ⟨_,rfl,ad _,rfl⟩
  ·intro W E hD K hK;have hc:=hi9 (af.out W (ab o E));exact gY
  ·intro W E hD K hK;have h1:=gZ D 1 hD;have hc:=hi9 (ep.out W D vs (ab o E) h1 (S5.out.G E));exact gY
  ·intro W E hD K hK;have hc:=hi9 (ag.out W (ab o E));exact gY
  ·intro W E hD K hK;have h5:=gZ v5 5 hD;have hc:=hi9 (eu.out W v5 vs (ab o E) h5 (S5.out.G E));exact gY
  ·intro W E hD K hK;have h3:=gZ v3 3 hD;clear hD;go_simp;exact hK.out _ _ ⟨_,rfl,ad _,h3⟩
  ·intro W E hD K hK;have h7:=gZ v7 7 hD;clear hD;go_simp;exact hK.out _ _ ⟨_,rfl,ad _,h7⟩
 intro w2 g2 hH;have h8:=jG v8 8 hH;have h9:=jG v9 9 hH;clear hH;refine wpAny_done eZ ?_ _;have S8:Hid (Num w2 v8 A):=h8;have S9:Hid (Num w2 v9 B):=h9;have fh:Hid (Num w2 vs s):=S5.out.G g2;have ai:=ab o g2;have T0:Hid (Rec _ _ _):=aw S0.out (g2);have T1:Hid (Rec _ _ _):=aw S1.out (g2);have T2:Hid (Rec _ _ _):=aw S2.out (g2);generalize v8=va at *;generalize v9=vb at *;clear h8 h9 S5 S0 S1 S2 o g2 ep eu af ag;go_wp2_with fail;refine jU 11 1 [.is (.func (.func FR) #[] #[]),.is (.pointer (some ⟨w.heap.size,0,none⟩)),.is (.agg #[.bool sx,.slice a k c]),.is (vb),.any (fun v F=>WholeIs F v (X)),.is (.pointer (some ⟨w.heap.size+1,0,none⟩)),.is (.agg #[.bool sy,.slice b j e]),.is (va),.any (fun v F=>WholeIs F v (Y)),.any (fun v F=>WholeIs F v (T)),.any (fun v F=>NewRec w2 F v ([.bool false,.slice none 0 0]))] [some 25,some 26,some 27,some 28,some 29,some 30,some 31,some 32,some 33,some 34,some 10] ?_;intro v4 v8 v9 lk A S;simp only[fG,Act.put,aq,ay,az] at S;subst S;refine⟨?_,?_⟩
 ·skip
  refine aa rfl ?b0 (aa rfl ?b1 (aa rfl ?b2 (aa rfl ?b3 (aa rfl ?e2 (aa rfl ?b4 (aa rfl ?o3_6 (aa rfl ?o3_7 (aa rfl ?e3 (aa rfl ?e5 (aa rfl ?bY (bN)))))))))))
  case b0|b1|b3|b4|o3_7=>
   exact jX
  case b2|o3_6=>
   intro W E hD K hK;clear hD;have ⟨ks,kw,kx⟩:=rc39 T0 E;have ⟨ky,la,lb⟩:=rc39 T1 E;go_simp;exact hK.out _ _ ⟨_,rfl,ad _,rfl⟩
  ·intro W E hD K hK;have hc:=hi9 (bs.out W vb (ab ai E) (S9.out.G E));exact gY
  ·intro W E hD K hK;have hc:=hi9 (bu.out W va (ab ai E) (S8.out.G E));exact gY
  ·intro W E hD K hK;have h4:=gZ v4 4 hD;have h8:=gZ v8 8 hD;clear hD;have ms:=HE.out #[v4,v8] W;go_simp;go_wp2_with (refine eW (HP.out W v4 v8 h4 h8) ?_;intro e w9 i;obtain⟨u9,rfl,g9,lc⟩:=i);exact hK.out _ _ ⟨_,rfl,g9,lc⟩
  ·intro W E hD K hK;clear hD;go_simp;exact hK.out _ _ ⟨_,rfl,(ad _).alloc _,_,rfl,E.size,Rec.new2 _ _ _ _⟩
 intro w3 g3 hH;have h9:=jG v9 9 hH;have ho:=jG lk 10 hH;clear hH;obtain⟨nb,rfl,cr,bn⟩:=ho;obtain⟨d1,d2,d3,rfl,bl⟩:=h9;rw[← hn.out];have N0:Hid (Rec w3 nb [.bool false,.slice none 0 0]):=bn;have ci:Hid (Num _ (.slice d1 d2 d3) T.natAbs):=jb (u1:= .bool t) (u2:= .slice d1 d2 d3) bl bn trivial trivial;clear bn bl HP bs bu;obtain⟨al,am,an,ap⟩:=fe N0 (((ad _)));refine wpAny_ready (rs:=[11]) eZ fX ?_;refine AllReady.cons rfl (fun K hK=> ?_) AllReady.nil;go_simp;refine hK _ _ ?_;clear hK K al am an ap;refine wpAny_done eZ ?_ _;have N1:Hid (Rec _ nb [.bool t,.slice d1 d2 d3]):=bE N0.out;have g4:=Rec.g2 (b:=nb) (u:= .bool t) (v:= .slice d1 d2 d3) g3 cr;generalize ((w3.setCell ⟨nb,0,none⟩ (.bool t)).setCell ⟨nb,1,none⟩ (.slice d1 d2 d3))=w4 at *;have bv:=ab ai g4;have U2:Hid (Rec _ _ _):=aw T2.out (g4);have S5:Hid (Num w4 vs s):=fh.out.G g4;have fp:Hid (Num w4 va A):=S8.out.G g4;have fr:Hid (Num w4 vb B):=S9.out.G g4;have ea:=hi9 (ds.out w4 (.slice d1 d2 d3) vs bv ci.out S5.out);have ha:w.heap.size≤nb:=bt ai.size cr;clear T0 T1 T2 N0 fh S8 S9 ai g3 g4 cr ds;obtain⟨I,J,L,O⟩:=fe N1 (ad _);go_wp2_with fail;refine eW ea.out ?_;intro e4 w5 i;obtain⟨vr,rfl,g5,dl⟩:=i;have fb:=hi9 (ez.out w5 (.slice d1 d2 d3) vr (ab bv g5) (ci.out.G g5) dl);have SR:Hid (Num w5 vr r):=dl;clear ea ez dl I J L O;obtain⟨I,J,L,O⟩:=fe N1 (g5);go_wp2_with fail;refine eW fb.out ?_;intro e4 w6 i;obtain⟨vt,rfl,g6,dq⟩:=i;obtain⟨f1,f2,f3,rfl,-⟩:=jt dq;have fs:Hid (Num w6 vr r):=SR.out.G g6
 have ST:Hid (Num (w6.setCell ⟨nb,1,none⟩ (.slice f1 f2 f3)) (.slice f1 f2 f3) tr):=kv dq (aw (aw N1.out g5) g6) trivial trivial;have R:=ab g5 g6;have SA:Hid (Num (w6.setCell ⟨nb,1,none⟩ (.slice f1 f2 f3)) va A):=kv (fp.out.G R) (aw N1.out R) trivial trivial;have SB:Hid (Num (w6.setCell ⟨nb,1,none⟩ (.slice f1 f2 f3)) vb B):=kv (fr.out.G R) (aw N1.out R) trivial trivial;have SS:Hid (Num (w6.setCell ⟨nb,1,none⟩ (.slice f1 f2 f3)) vs s):=kv (S5.out.G R) (aw N1.out R) trivial trivial;have SQ:Hid (Num (w6.setCell ⟨nb,1,none⟩ (.slice f1 f2 f3)) vr r):=kv fs.out (aw N1.out R) trivial trivial;have N2:Hid (Rec (w6.setCell ⟨nb,1,none⟩ (.slice f1 f2 f3)) nb [.bool t,.slice f1 f2 f3]):=(aw N1.out R).set 1 _;have V2:Hid (Rec (w6.setCell ⟨nb,1,none⟩ (.slice f1 f2 f3)) (w.heap.size+2) [.bool false,.slice none 0 0,.slice none 0 0]):=(aw U2.out R).oth (p:=⟨nb,1,none⟩) _ (q6m N1.out U2.out);have g7:G w (w6.setCell ⟨nb,1,none⟩ (.slice f1 f2 f3)):=(ab bv R).setCell (p:=⟨nb,1,none⟩) ha _;clear fb dq I J L O SR fs S5 fp fr bv ha ci U2;obtain⟨I,J,L,O⟩:=fe N1 (R);clear g5 g6 R;go_wp2_with fail;generalize w6.setCell ⟨nb,1,none⟩ (.slice f1 f2 f3)=w7 at *;clear I J L O N1;refine jU 9 1 [.is (.agg #[.bool t,.slice f1 f2 f3]),.is (va),.is (vb),.any (fun v F=>Num F v (N)),.is (vs),.is (vr),.any (fun v F=>Num F v (sr)),.any (fun v F=>Num F v (M)),.any (fun v F=>QIs F v (z))] [some 44,some 45,some 46,some 47,some 48,some 49,some 50,some 51,some 52] ?_;intro v3 v6 v7 v8 A S
 simp only[fG,Act.put,aq,ay,az] at S;subst S;refine⟨?_,?_⟩
 ·skip
  refine aa rfl ?b5 (aa rfl ?b6 (aa rfl ?b7 (aa rfl ?e6 (aa rfl ?b8 (aa rfl ?o4_5 (aa rfl ?e7 (aa rfl ?e8 (aa rfl ?e9 (bN)))))))))
  case b6|b7|b8|o4_5=>
   exact jX
  case b5=>
   intro W E hD K hK;clear hD;have ⟨hw,ia⟩:=rc29 N2 E;go_simp;exact hK.out _ _ ⟨_,rfl,ad _,rfl⟩
  ·intro W E hD K hK;have hc:=hi9 (eb.out W va vb (SA.out.G E) (SB.out.G E));exact gY
  ·intro W E hD K hK;have hc:=hi9 (fa.out W vs vr (ab g7 E) (SS.out.G E) (SQ.out.G E));exact gY
  ·intro W E hD K hK;have h3:=gZ v3 3 hD;have h6:=gZ v6 6 hD;have hc:=hi9 (ec.out W v3 v6 h3 h6);exact gY
  ·intro W E hD K hK;have h7:=gZ v7 7 hD;have hc:=hi9 (HF.out W f1 f2 f3 v7 (ST.out.G E) h7);exact gY
 intro w8 g8 hH;have h8:=jG v8 8 hH;clear hH;clear eb ec fa HF SA SB SS SQ ST N2;obtain⟨a8,k8,c8,a9,k9,c9,rfl,gm,bl⟩:=h8;have hk:Hid (Num w8 (.slice a8 k8 c8) (z).num.natAbs):=gm;have hl:Hid (Num w8 (.slice a9 k9 c9) (iw (z).den)):=bl;obtain⟨t9,di⟩:∃ t,t=decide ((z).num<0):=⟨_,rfl⟩;rw[← di];have hm:Hid (t9=decide ((z).num<0)):=di;clear gm bl di;obtain⟨al,am,an,ap,ga,gd⟩:=fL V2 (g8);refine wpAny_ready (rs:=[9]) eZ fX ?_;refine AllReady.cons rfl (fun K hK=> ?_) AllReady.nil;go_simp;refine hK _ _ ?_;clear hK K al am an ap ga gd;refine wpAny_done eZ ?_ _;have ee:Num _ _ _:=fC (u1:= .bool t9) (u2:= .slice a8 k8 c8) (u3:= .slice a9 k9 c9) hk.out (aw V2.out (g8)) trivial trivial trivial;have em:Num _ _ _:=fC (u1:= .bool t9) (u2:= .slice a8 k8 c8) (u3:= .slice a9 k9 c9) hl.out (aw V2.out (g8)) trivial trivial trivial;go_wp2_with fail;have hT:Hid (Rec _ (w.heap.size+2) [.bool t9,.slice a8 k8 c8,.slice a9 k9 c9]):=eC (aw V2.out (g8));have g9:=Rec.h3 hT.out (ab g7 g8) eX;generalize (World.setCell (World.setCell (World.setCell w8 ⟨w.heap.size+2,0,none⟩ (.bool t9)) ⟨w.heap.size+2,1,none⟩ (.slice a8 k8 c8)) ⟨w.heap.size+2,2,none⟩ (.slice a9 k9 c9))=w9 at *;obtain⟨lm,ls,lw,mm,mn,mp⟩:=fL hT (((ad _)));refine bodyPost_ret (v:= .agg #[.bool t9,.slice a8 k8 c8,.slice a9 k9 c9]) (by simp [results,Tryz.results69,go_sem, *]) rfl ?_;exact⟨_,rfl,g9,a8,k8,c8,a9,k9,c9,by rw[← hm.out],ee,em⟩
theorem qR (w:World) (v u:Value) (x y:Rat) (K:Nat) (D:K≤40000) (B:1≤K) (C:Tab w) (E:QIs w v x) (F:QIs w u y) (bx:QB x K) (A:QB y K):
  Calls Tryz.prog 69 #[v,u,.func (.func 70) #[] #[]] w (RetQ w (x+y)):=
 oE w v u x y K D B C E F bx A _ (fun p q=>p+q) _ (Rat.add_def' x y) (fun p q k=>Int.add_mul p q k) (fun p q g h1 h2=>by
   have h3:=Int.dvd_sub h2 h1;rwa[show p+q-q=p from by omega] at h3) (fun p q g h1 h2=>by
   have h3:=Int.dvd_sub h2 h1;rwa[show p+q-p=q from by omega] at h3) (fun p q=>Int.natAbs_add_le p q) (fun M L v2 X Y I J h1 h2=>by
   have h:=q0Y M L v2 _ _ _ _ (K+K) eX h1 h2 I J;rw[gX,gX] at h;exact h) (fun _ _=>by kernel_rfl)
theorem pP (w:World) (v u:Value) (x y:Rat) (K:Nat) (D:K≤40000) (B:1≤K) (C:Tab w) (E:QIs w v x) (F:QIs w u y) (bx:QB x K) (A:QB y K):
  Calls Tryz.prog 69 #[v,u,.func (.func 74) #[] #[]] w (RetQ w (x-y)):=
 oE w v u x y K D B C E F bx A _ (fun p q=>p-q) _ (Rat.sub_def' x y) (fun p q k=>cO p q k) (fun p q g h1 h2=>by
   have h3:=Int.dvd_add h2 h1;rwa[show p-q+q=p from by omega] at h3) (fun p q g h1 h2=>by
   have h3:=Int.dvd_sub h1 h2;rwa[show p-(p-q)=q from by omega] at h3) (fun p q=>Int.natAbs_sub_le p q) (fun M L v2 X Y I J h1 h2=>by
   have h:=rT M L v2 _ _ _ _ (K+K) eX h1 h2 I J;rw[gX,gX] at h;exact h) (fun _ _=>by kernel_rfl)
theorem q3g (w:World) (v u:Value) (x y:Rat) (K:Nat) (hK:K≤40000) (Z:1≤K) (N:Tab w) (hx:QIs w v x) (hy:QIs w u y) (bx:QB x K) (M:QB y K):
  Calls Tryz.prog 14 #[v,u] w (RetQ w (x+y)):=by
 have d:Hid (∀ I,G w I→_):=fun I g=>qR I v u x y K hK Z (N.G g) (hx.G g) (hy.G g) bx M;generalize x+y=z at *;obtain⟨a,k,c,a',k',c',rfl,-,-⟩:=hx;obtain⟨b,j,e,b',j',e',rfl,-,-⟩:=hy;generalize decide (x.num<0)=s at *;generalize decide (y.num<0)=t at *;clear bx M N;go_enter Tryz.func14,Tryz.ntmps14;go_wp2_with fail;obtain⟨w0,S,g0,bm,R0,R1,U⟩:=gf w [.bool s,.slice a k c,.slice a' k' c'] [.bool t,.slice b j e,.slice b' j' e'] [.bool false,.slice none 0 0,.slice none 0 0] 29 29 29;rw[S];clear S;refine Calls.mono (P:=Tryz.prog) (d.out w0 g0) ?_;intro e4 I hs;obtain⟨vz,rfl,g1,hz⟩:=hs;clear d;obtain⟨A,E,B,a9,F,C,rfl,O,R⟩:=hz;have W:Hid (Num I (.slice A E B) (z).num.natAbs):=O;have X:Hid (Num I (.slice a9 F C) (iw (z).den)):=R;obtain⟨t9,D⟩:∃ t,t=decide ((z).num<0):=⟨_,rfl⟩;rw[← D];have Y:Hid (t9=decide ((z).num<0)):=D;clear O R D;obtain⟨al,am,an,ap,bi,bl⟩:=fL U (((g1)));have J:Num _ _ _:=fC (u1:= .bool t9) (u2:= .slice A E B) (u3:= .slice a9 F C) W.out (aw U.out (g1)) trivial trivial trivial;have L:Num _ _ _:=fC (u1:= .bool t9) (u2:= .slice A E B) (u3:= .slice a9 F C) X.out (aw U.out (g1)) trivial trivial trivial;go_wp2_with fail;have hT:Hid (Rec _ (w.heap.size+2) [.bool t9,.slice A E B,.slice a9 F C]):=eC (aw U.out (g1));have g9:=Rec.h3 hT.out (ab g0 g1) eX;generalize (World.setCell (World.setCell (World.setCell I ⟨w.heap.size+2,0,none⟩ (.bool t9)) ⟨w.heap.size+2,1,none⟩ (.slice A E B)) ⟨w.heap.size+2,2,none⟩ (.slice a9 F C))=w9 at *;obtain⟨i,m,o,af,ag,ai⟩:=fL hT (((ad _)))
 refine bodyPost_ret (v:= .agg #[.bool t9,.slice A E B,.slice a9 F C]) (by simp [results,Tryz.results14,go_sem, *]) rfl ?_;exact⟨_,rfl,g9,A,E,B,a9,F,C,by rw[← Y.out],J,L⟩
theorem q3m (w:World) (v u:Value) (x y:Rat) (K:Nat) (hK:K≤40000) (Z:1≤K) (N:Tab w) (hx:QIs w v x) (hy:QIs w u y) (bx:QB x K) (M:QB y K):
  Calls Tryz.prog 16 #[v,u] w (RetQ w (x-y)):=by
 have d:Hid (∀ I,G w I→_):=fun I g=>pP I v u x y K hK Z (N.G g) (hx.G g) (hy.G g) bx M;generalize x-y=z at *;obtain⟨a,k,c,a',k',c',rfl,-,-⟩:=hx;obtain⟨b,j,e,b',j',e',rfl,-,-⟩:=hy;generalize decide (x.num<0)=s at *;generalize decide (y.num<0)=t at *;clear bx M N;go_enter Tryz.func16,Tryz.ntmps16;go_wp2_with fail;obtain⟨w0,S,g0,bm,R0,R1,U⟩:=gf w [.bool s,.slice a k c,.slice a' k' c'] [.bool t,.slice b j e,.slice b' j' e'] [.bool false,.slice none 0 0,.slice none 0 0] 29 29 29;rw[S];clear S;refine Calls.mono (P:=Tryz.prog) (d.out w0 g0) ?_;intro e4 I hs;obtain⟨vz,rfl,g1,hz⟩:=hs;clear d;obtain⟨A,E,B,a9,F,C,rfl,O,R⟩:=hz;have W:Hid (Num I (.slice A E B) (z).num.natAbs):=O;have X:Hid (Num I (.slice a9 F C) (iw (z).den)):=R;obtain⟨t9,D⟩:∃ t,t=decide ((z).num<0):=⟨_,rfl⟩;rw[← D];have Y:Hid (t9=decide ((z).num<0)):=D;clear O R D;obtain⟨al,am,an,ap,bi,bl⟩:=fL U (((g1)));have J:Num _ _ _:=fC (u1:= .bool t9) (u2:= .slice A E B) (u3:= .slice a9 F C) W.out (aw U.out (g1)) trivial trivial trivial;have L:Num _ _ _:=fC (u1:= .bool t9) (u2:= .slice A E B) (u3:= .slice a9 F C) X.out (aw U.out (g1)) trivial trivial trivial;go_wp2_with fail;have hT:Hid (Rec _ (w.heap.size+2) [.bool t9,.slice A E B,.slice a9 F C]):=eC (aw U.out (g1));have g9:=Rec.h3 hT.out (ab g0 g1) eX;generalize (World.setCell (World.setCell (World.setCell I ⟨w.heap.size+2,0,none⟩ (.bool t9)) ⟨w.heap.size+2,1,none⟩ (.slice A E B)) ⟨w.heap.size+2,2,none⟩ (.slice a9 F C))=w9 at *;obtain⟨i,m,o,af,ag,ai⟩:=fL hT (((ad _)))
 refine bodyPost_ret (v:= .agg #[.bool t9,.slice A E B,.slice a9 F C]) (by simp [results,Tryz.results16,go_sem, *]) rfl ?_;exact⟨_,rfl,g9,A,E,B,a9,F,C,by rw[← Y.out],J,L⟩
theorem ju (w:World) (va:Value) (a K:Nat) (n:Int) (E:K≤500000) (F: -1000000≤n) (I:n≤1000000) (B:Num w va a) (A:a<2^(64*K)):
  Calls Tryz.prog 218 #[va,.int .i64 n] w (fo w (a*2^n.toNat)):=by
 have C:=hi9 (jq w va a n.toNat K E eX B A);have D:Hid (max n 0=((n.toNat:Nat):Int)):=by show max n 0=_;omega
 generalize n.toNat=k at *;generalize a*2^k=z at *;clear B A;go_enter Tryz.func218,Tryz.ntmps218;go_wp2_with fail;rw[D.out];refine eW C.out ?_;intro e L J;obtain⟨v,rfl,g1,hv⟩:=J;go_wp2_with fail;go_ret;exact⟨_,rfl,g1,hv⟩
theorem ot (w:World) (Q:Nat) (e P:Int) (C:Bool) (B:Q≠0) (X:Q<2^63) (j: -10000000≤e) (k:e≤10000000) (U:P=max (e+blen Q-53) (-1074)) (Z:971<P):
  Calls Tryz.prog 216 #[.agg #[.int .u64 (Q:Int),.int .i64 e,.bool C]] w fun r w'=>r= .returned (.tuple #[.int .u64 9007199254740991,.int .i64 971,.int .i64 3])∧G w w':=by
 have E:Hid (∀ O,_):=fun O=>mE Q O eX;have S:Lib.bitLen Q=blen Q:=by rw[ic B eX];unfold blen;rw[if_neg B]
 have d:blen Q≤63:=by
  have:=(cT B).2 X;unfold blen;rw[if_neg B];omega
 rw[S] at E;generalize blen Q=L at *;have m:max (e+(L:Int)-53) (-1074)=P:=U.symm;have o:IntKind.i64.wrap (e+(L:Int))=e+(L:Int):=by rw[IntKind.wrap_i64];omega
 have s:IntKind.i64.wrap (e+(L:Int)-53)=e+(L:Int)-53:=by rw[IntKind.wrap_i64];omega
 have hd:decide (971<P)=true:=decide_eq_true Z;have i:(Q:Int)<18446744073709551616:=by omega
 clear B X S U Z;go_enter Tryz.func216,Tryz.ntmps216;go_wp2_with fail;obtain⟨w0,D,g0,y,F⟩:=ft w [.int .u64 (Q:Int),.int .i64 e,.bool C] 221;rw[D];clear D;refine jU 9 0 [.is (.pointer (some ⟨w.heap.size,1,none⟩)),.is (.int .i64 e),.is (.pointer (some ⟨w.heap.size,0,none⟩)),.is (.int .u64 Q),.is (.int .i64 L),.is (.int .i64 (e+L)),.is (.int .i64 (e+L-53)),.is (.int .i64 P),.is (.int .i64 P)] [some 8,some 9,some 10,some 11,some 12,some 13,some 14,some 15,some 3] ?_;intro A R;simp only[fG,Act.put,aq,ay,az] at R;subst R;refine⟨?_,?_⟩
 ·skip
  refine aa rfl ?a1 (aa rfl ?a6 (aa rfl ?a7 (aa rfl ?o1_3 (aa rfl ?b2 (aa rfl ?a8 (aa rfl ?b0 (aa rfl ?b1 (aa rfl ?o1_8 (bN)))))))))
  case a1|a7|a8|b0|b1|o1_8=>
   exact jX
  case a6|o1_3=>
   intro W Y hD K hK;clear hD;have ⟨J,M,N⟩:=rc39 F Y;go_simp;exact hK.out _ _ ⟨_,rfl,ad _,rfl⟩
  ·intro W Y hD K hK;have hc:=hi9 (E.out W);exact sj
 intro O g1 c;clear c;refine wpAny_done eZ ?_ _;have I:=ab g0 g1;have S0:Hid (Rec _ _ _):=aw F.out (g1);clear F g0 g1 E;go_wp2_with fail
 go_ret3
 exact⟨rfl,I⟩
theorem ou (w:World) (Q:Nat) (e P:Int) (C:Bool) (B:Q≠0) (j:Q<2^63) (al: -10000000≤e) (am:e≤10000000) (i:P=max (e+blen Q-53) (-1074)) (hf:P≤971) (m:63<P-e):
  Calls Tryz.prog 216 #[.agg #[.int .u64 (Q:Int),.int .i64 e,.bool C]] w fun r w'=>r= .returned (.tuple #[.int .u64 0,.int .i64 P,.int .i64 1])∧G w w':=by
 have O:Hid (∀ Z,_):=fun Z=>mE Q Z eX;have d:Lib.bitLen Q=blen Q:=by rw[ic B eX];unfold blen;rw[if_neg B]
 have y:blen Q≤63:=by
  have:=(cT B).2 j;unfold blen;rw[if_neg B];omega
 rw[d] at O;generalize blen Q=L at *;have an:max (e+(L:Int)-53) (-1074)=P:=i.symm;have ap:IntKind.i64.wrap (e+(L:Int))=e+(L:Int):=by rw[IntKind.wrap_i64];omega
 have bi:IntKind.i64.wrap (e+(L:Int)-53)=e+(L:Int)-53:=by rw[IntKind.wrap_i64];omega
 have hd:decide (971<P)=false:=decide_eq_false eX;have ai:decide (63<P-e)=true:=decide_eq_true m;have af: -1074≤P:=by omega
 have ag:(Q:Int)<18446744073709551616:=by omega
 clear B j d i m;go_enter Tryz.func216,Tryz.ntmps216;go_wp2_with fail;obtain⟨w0,D,g0,bl,R⟩:=ft w [.int .u64 (Q:Int),.int .i64 e,.bool C] 221;rw[D];clear D;refine jU 9 0 [.is (.pointer (some ⟨w.heap.size,1,none⟩)),.is (.int .i64 e),.is (.pointer (some ⟨w.heap.size,0,none⟩)),.is (.int .u64 Q),.is (.int .i64 L),.is (.int .i64 (e+L)),.is (.int .i64 (e+L-53)),.is (.int .i64 P),.is (.int .i64 P)] [some 8,some 9,some 10,some 11,some 12,some 13,some 14,some 15,some 3] ?_;intro A c;simp only[fG,Act.put,aq,ay,az] at c;subst c;refine⟨?_,?_⟩
 ·skip
  refine aa rfl ?a1 (aa rfl ?a6 (aa rfl ?a7 (aa rfl ?o2_3 (aa rfl ?b2 (aa rfl ?a8 (aa rfl ?b0 (aa rfl ?b1 (aa rfl ?o2_8 (bN)))))))))
  case a1|a7|a8|b0|b1|o2_8=>
   exact jX
  case a6|o2_3=>
   intro W k hD K hK;clear hD;have ⟨U,X,Y⟩:=rc39 R k;go_simp;exact hK.out _ _ ⟨_,rfl,ad _,rfl⟩
  ·intro W k hD K hK;have hc:=hi9 (O.out W);exact sj
 intro Z g1 s;clear s;refine wpAny_done eZ ?_ _;have S:=ab g0 g1;have o:Hid (Rec _ _ _):=aw R.out (g1);clear R g0 g1 O;obtain⟨E,F,I,J,M,N⟩:=fL o (ad _);go_wp2_with fail
 go_ret3
 exact⟨rfl,S⟩
/-- What is left: b of 2 m steps, and whether there are tails. -/
def lv (b m:Nat) (A:Bool):Nat:=if b=0∧A=false then 0 else if b<m then 1 else if b=m∧A=false then 2 else 3
set_option maxRecDepth 100000 in
set_option maxHeartbeats 1000000 in
theorem mU (w:World) (Q k:Nat) (e P:Int) (J:Bool) (R:Q≠0) (hQ:Q<2^63) (ds: -10000000≤e) (ea:e≤10000000) (hP:P=max (e+blen Q-53) (-1074)) (hf:P≤971) (hn:P-e=(k:Int)+1) (hk:k≤62):
  Calls Tryz.prog 216 #[.agg #[.int .u64 (Q:Int),.int .i64 e,.bool J]] w fun r w'=>r= .returned (.tuple #[.int .u64 (Q/2^(k+1):Nat),.int .i64 P,.int .i64 ((lv (Q%2^(k+1)) (2^k) J:Nat):Int)])∧G w w':=by
 have HB:Hid (∀ w1,_):=fun w1=>mE Q w1 eX;have hL:Lib.bitLen Q=blen Q:=by rw[ic R eX];unfold blen;rw[if_neg R]
 have cz:blen Q≤63:=by
  have:=(cT R).2 hQ;unfold blen;rw[if_neg R];omega
 rw[hL] at HB;generalize blen Q=L at *;have bw:max (e+(L:Int)-53) (-1074)=P:=hP.symm;have cc:IntKind.i64.wrap (e+(L:Int))=e+(L:Int):=by rw[IntKind.wrap_i64];omega
 have cd:IntKind.i64.wrap (e+(L:Int)-53)=e+(L:Int)-53:=by rw[IntKind.wrap_i64];omega
 have hd:decide (971<P)=false:=decide_eq_false eX;have dr:decide ((63:Int)<(k:Int)+1)=false:=decide_eq_false eX;have di: -1074≤P:=by omega
 have dl:(Q:Int)<18446744073709551616:=by omega
 have ce:IntKind.i64.wrap (P-e)=(k:Int)+1:=by rw[IntKind.wrap_i64];omega
 have ec:IntKind.i64.wrap ((k:Int)+1)=(k:Int)+1:=by rw[IntKind.wrap_i64];omega
 have ee:IntKind.i64.wrap (k:Int)=k:=by rw[IntKind.wrap_i64];omega
 obtain⟨p,Z⟩:∃ p,p=2^(k+1):=⟨_,rfl⟩;obtain⟨m,Y⟩:∃ m,m=2^k:=⟨_,rfl⟩;obtain⟨b,hb⟩:∃ b,b=Q%p:=⟨_,rfl⟩;have cb:p=2*m:=by rw[Z,Y,bH];omega
 have i:1≤m:=by rw[Y];exact ae k
 have bq:m≤2^62:=by rw[Y];exact gD hk
 have X:bits BinOp.and IntKind.u64 (Q:Int) ((p:Int)-1)=(b:Int):=by
  rw[show ((p:Int)-1)=((p-1:Nat):Int) from by omega,u64_and_nat Q (p-1) eX eX,Z,dp,hb,Z]
 have eb:(2:Int)^(k+1)=(p:Int):=by rw[Z];push_cast;rfl
 have bv:(2:Int)^k=(m:Int):=by rw[Y];push_cast;rfl
 have bz:(p:Int)≤9223372036854775808:=by omega
 have bs:(m:Int)≤9223372036854775808:=by omega
 have ca:(2:Int)≤p:=by omega
 have bu:(1:Int)≤m:=by omega
 have ci:IntKind.u64.wrap (p:Int)=p:=by rw[IntKind.wrap_u64];omega
 have cl:IntKind.u64.wrap ((p:Int)-1)=(p:Int)-1:=by rw[IntKind.wrap_u64];omega
 have cr:IntKind.u64.wrap (m:Int)=m:=by rw[IntKind.wrap_u64];omega
 rw[← Z,← Y,← hb];obtain⟨q,hq⟩:∃ q,q=Q/p:=⟨_,rfl⟩;rw[← hq];have dq:(Q:Int)/(p:Int)=(q:Int):=by rw[hq];push_cast;rfl
 have cs:(q:Int)≤(Q:Int):=by have:=aX Q p;omega
 have am:Hid (1≤m):=i;clear R hQ hL hP Z Y hb cb i bq hq;go_enter Tryz.func216,Tryz.ntmps216;go_wp2_with fail;obtain⟨w0,j,g0,em,R0⟩:=ft w [.int .u64 (Q:Int),.int .i64 e,.bool J] 221;rw[j];clear j;refine jU 9 0 [.is (.pointer (some ⟨w.heap.size,1,none⟩)),.is (.int .i64 e),.is (.pointer (some ⟨w.heap.size,0,none⟩)),.is (.int .u64 Q),.is (.int .i64 L),.is (.int .i64 (e+L)),.is (.int .i64 (e+L-53)),.is (.int .i64 P),.is (.int .i64 P)] [some 8,some 9,some 10,some 11,some 12,some 13,some 14,some 15,some 3] ?_;intro A d;simp only[fG,Act.put,aq,ay,az] at d;subst d;refine⟨?_,?_⟩
 ·skip
  refine aa rfl ?a1 (aa rfl ?a6 (aa rfl ?a7 (aa rfl ?o3_3 (aa rfl ?bY (aa rfl ?a8 (aa rfl ?b0 (aa rfl ?b1 (aa rfl ?o3_8 (bN)))))))))
  case a1|a7|a8|b0|b1|o3_8=>
   exact jX
  case a6|o3_3=>
   intro W hW hD K hK;clear hD;have ⟨an,ap,bi⟩:=rc39 R0 hW;go_simp;exact hK.out _ _ ⟨_,rfl,ad _,rfl⟩
  ·intro W hW hD K hK;have hc:=hi9 (HB.out W);exact sj
 intro w1 g1 hH;clear hH;refine wpAny_done eZ ?_ _;have c:=ab g0 g1;have o:Hid (Rec _ _ _):=aw R0.out (g1);clear R0 g0 g1 HB;obtain⟨s,y,af,ag,ai,al⟩:=fL o (ad _);go_wp2_with fail;refine jU 11 0 [.is (.pointer (some ⟨w.heap.size,0,none⟩)),.is (.int .u64 Q),.is (.int .i64 (k+1)),.is (.int .u64 p),.is (.int .u64 (p-1)),.is (.int .u64 b),.is (.int .i64 (k+1)),.is (.int .i64 k),.is (.int .u64 m),.is (.int .u64 b),.is (.int .u64 m)] [some 25,some 26,some 27,some 28,some 29,some 30,some 31,some 32,some 33,some 6,some 7] ?_;intro A d;simp only[fG,Act.put,aq,ay,az] at d;subst d;refine⟨?_,?_⟩
 ·skip
  refine aa rfl ?b2 (aa rfl ?b3 (aa rfl ?b4 (aa rfl ?b5 (aa rfl ?b6 (aa rfl ?b7 (aa rfl ?b8 (aa rfl ?bA (aa rfl ?bB (aa rfl ?bT (aa rfl ?o4_10 (bN)))))))))))
  case b2|b4|b5|b6|b7|b8|bA|bB|bT|o4_10=>
   exact jX
  case b3=>
   intro W hW hD K hK;clear hD;have ⟨bl,bm,bn⟩:=rc39 o hW;go_simp;exact hK.out _ _ ⟨_,rfl,ad _,rfl⟩
 intro w2 g2 hH;clear hH;refine wpAny_done eZ ?_ _;have M:=ab c g2;have U:Hid (Rec _ _ _):=aw o.out (g2);clear o X cc cd ce ci cl cr bw bv bz bs ca bu c g2;cases J
 ·by_cases N:b=0
  ·have t0:((b:Int)==0)=true:=by rw[N];rfl
   have O:Hid (lv b m false=0):=by show lv b m false=0;unfold lv;simp [N]
   clear N;obtain⟨B,C,D,E,F,I⟩:=fL U (ad _)
   repeat (first|go_values|go_skip|go_guarded|go_step|go_upon)
   go_ret3
   exact⟨by rw[O.out];rfl,M⟩
  ·have t0:((b:Int)==0)=false:=by simp;exact N
   by_cases c1:b<m
   ·have t1:decide (b<m)=true:=decide_eq_true c1;have O:Hid (lv b m false=1):=by show lv b m false=1;unfold lv;simp [N,c1]
    clear N c1;obtain⟨B,C,D,E,F,I⟩:=fL U (ad _)
    repeat (first|go_values|go_skip|go_guarded|go_step|go_upon)
    go_ret3
    exact⟨by rw[O.out];rfl,M⟩
   ·have t1:decide (b<m)=false:=decide_eq_false c1;by_cases S:b=m
    ·have t2:((b:Int)==(m:Int))=true:=by rw[S];simp
     have O:Hid (lv b m false=2):=by show lv b m false=2;unfold lv;rw[if_neg (by rintro⟨h,-⟩;exact N h),if_neg c1,if_pos ⟨S,rfl⟩]
     clear N c1 S;obtain⟨B,C,D,E,F,I⟩:=fL U (ad _)
     repeat (first|go_values|go_skip|go_guarded|go_step|go_upon)
     go_ret3
     exact⟨by rw[O.out];rfl,M⟩
    ·have t2:((b:Int)==(m:Int))=false:=by simp;omega
     have O:Hid (lv b m false=3):=by show lv b m false=3;unfold lv;simp [N,c1,S]
     clear N c1 S;obtain⟨B,C,D,E,F,I⟩:=fL U (ad _)
     repeat (first|go_values|go_skip|go_guarded|go_step|go_upon)
     go_ret3
     exact⟨by rw[O.out];rfl,M⟩
 ·by_cases c1:b<m
  ·have t1:decide (b<m)=true:=decide_eq_true c1;have O:Hid (lv b m true=1):=by show lv b m true=1;unfold lv;simp [c1]
   by_cases N:b=0
   ·have t0:((b:Int)==0)=true:=by rw[N];rfl
    clear N c1;obtain⟨B,C,D,E,F,I⟩:=fL U (ad _)
    repeat (first|go_values|go_skip|go_guarded|go_step|go_upon)
    go_ret3
    exact⟨by rw[O.out];rfl,M⟩
   ·have t0:((b:Int)==0)=false:=by simp;exact N
    clear N c1;obtain⟨B,C,D,E,F,I⟩:=fL U (ad _)
    repeat (first|go_values|go_skip|go_guarded|go_step|go_upon)
    go_ret3
    exact⟨by rw[O.out];rfl,M⟩
  ·have t1:decide (b<m)=false:=decide_eq_false c1;have O:Hid (lv b m true=3):=by show lv b m true=3;unfold lv;simp [c1]
   have t0:((b:Int)==0)=false:=by have:=am.out;simp;omega
   by_cases S:b=m
   ·have t2:((b:Int)==(m:Int))=true:=by rw[S];simp
    clear c1 S;obtain⟨B,C,D,E,F,I⟩:=fL U (ad _)
    repeat (first|go_values|go_skip|go_guarded|go_step|go_upon)
    go_ret3
    exact⟨by rw[O.out];rfl,M⟩
   ·have t2:((b:Int)==(m:Int))=false:=by simp;omega
    clear c1 S;obtain⟨B,C,D,E,F,I⟩:=fL U (ad _)
    repeat (first|go_values|go_skip|go_guarded|go_step|go_upon)
    go_ret3
    exact⟨by rw[O.out];rfl,M⟩
end Go.Proofs.YtohcneeihdkfgaaGreatDoor.EN
