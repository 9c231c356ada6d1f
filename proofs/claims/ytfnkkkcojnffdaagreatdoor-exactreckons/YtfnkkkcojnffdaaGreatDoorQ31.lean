/- What is proved here: contracts of package exact: sums and products of whole numbers, over this seat's translation.
What is proved here: contracts of package exact: fractions are made, over this seat's translation.
What is proved here: contracts of package exact: products of fractions, over this seat's translation.
What is proved here: contracts of package exact: sign, opposite, quotient of fractions, over this seat's translation.
What is proved here: contracts of package exact: comparison, powers of two, sums of fractions, over this seat's translation.
What is proved here: contracts of package exact: sums of fractions, over this seat's translation.
What is proved here: contracts of package exact: Add, Sub, Floor, Square, over this seat's translation.
What is proved here: contracts of package exact: a fraction's front, over this seat's translation.
What is proved here: contracts of package exact: texts of small numbers, over this seat's translation.
What is proved here: contracts of package exact: powers of ten, over this seat's translation. -/
import Derived.Test.YtfnkkkcojnffdaaGreatDoorQ20
import Derived.Test.YtfnkkkcojnffdaaGreatDoorQ1
import Derived.Test.YtfnkkkcojnffdaaGreatDoorQ8
import Derived.Test.YtfnkkkcojnffdaaGreatDoorQ3
import Derived.Test.YtfnkkkcojnffdaaGreatDoorQ18
import Derived.Test.YtfnkkkcojnffdaaGreatDoorQ30
import Derived.Test.YtfnkkkcojnffdaaGreatDoorQ15
import Derived.Test.YtfnkkkcojnffdaaGreatDoorQ17
import Derived.Handy
import Derived.Test.YtfnkkkcojnffdaaGreatDoorQ29
namespace Go.Proofs.YtfnkkkcojnffdaaGreatDoor.EN
open Go.ChangeShapes Go.WideShapes Go.ChangeAt Go.RowKit
theorem kf (w:World) (v u:Value) (s:Bool) (n m K:Nat) (hK:K≤400000) (h:WholeS w v s n) (hu:Num w u m) (hn:n<2^(64*K)) (hm:m<2^(64*K)):
  Calls Tryz.prog 69 #[v,u] w (fj w (sgn s n*m)):=by
 obtain⟨a,k,c,rfl,hv⟩:=h;have j:Hid (∀ B,G w B→_):=fun B g=>gU B (.slice a k c) u n m K eK (hv.G g) (hu.G g) hn hm;have i:Hid (∀ B v,Num B v (n*m)→Calls Tryz.prog 62 #[.bool s,v] B (fj B (sgn s n*m))):=fun B v hv=>by
  have h:=fO B v s _ hv;rw[show sgn s (n*m)=sgn s n*m from by unfold sgn;cases s<;>simp [Int.neg_mul]] at h;exact h
 generalize n*m=q at *;generalize sgn s n*m=y at *;clear hv hu hn hm;go_enter Tryz.func69,Tryz.ntmps69;go_wp2_with fail;obtain⟨w0,O,g0,ao,R0,X⟩:=iy w [.bool s,.slice a k c] [.bool false,.slice none 0 0] 27 27;rw[O];clear O;refine jy 7 1 [.is (.pointer (some ⟨w.heap.size,0,none⟩)),.is (.bool s),.is (.pointer (some ⟨w.heap.size,1,none⟩)),.is (.slice a k c),.is (u),.any (fun v d=>Num d v (q)),.any (fun v d=>WholeIs d v (y))] [some 5,some 6,some 7,some 8,some 9,some 10,some 11] ?_;intro v5 v6 A o;simp only[fg,Act.put,aj,au,av] at o;subst o;refine⟨?_,?_⟩
 ·skip
  refine ab rfl ?a1 (ab rfl ?a6 (ab rfl ?a7 (ab rfl ?o1_3 (ab rfl ?o1_4 (ab rfl ?a8 (ab rfl ?b0 (bQ)))))))
  case a1|a7|o1_4=>
   exact iX
  case a6|o1_3=>
   intro W R hD K hK;clear hD;have ⟨Y,Z⟩:=rc29 R0 R;go_simp;exact hK.out _ _ ⟨_,rfl,ag _,rfl⟩
  ·intro W R hD K hK;have hc:=hi9 (j.out W (aa g0 R));exact gH
  ·intro W R hD K hK;have h5:=gL v5 5 hD;have hc:=hi9 (i.out W v5 h5);exact gH
 intro B g1 hH;have h6:=iW v6 6 hH;clear hH;clear j i;obtain⟨a9,E,D,rfl,N⟩:=h6;have S:Hid (Num B (.slice a9 E D) (y).natAbs):=N;obtain⟨t9,C⟩:∃ t,t=decide ((y)<0):=⟨_,rfl⟩;rw[← C];have U:Hid (t9=decide ((y)<0)):=C;clear N C;obtain⟨I,J,L,M⟩:=iD X (g1);refine wpAny_ready (rs:=[7]) eM fI ?_;refine AllReady.cons rfl (fun K hK=> ?_) AllReady.nil;go_simp;refine hK _ _ ?_;clear hK K I J L M;refine wpAny_done eM ?_ _;have F:Num _ _ _:=gS (u1:= .bool t9) (u2:= .slice a9 E D) S.out (aM X.out (g1)) trivial trivial;go_wp2_with fail;have hT:Hid (Rec _ (w.heap.size+1) [.bool t9,.slice a9 E D]):=Rec.set2 (aM X.out (g1));have g9:=Rec.h2 hT.out (aa g0 g1) eK;generalize (World.setCell (World.setCell B ⟨w.heap.size+1,0,none⟩ (.bool t9)) ⟨w.heap.size+1,1,none⟩ (.slice a9 E D))=w9 at *;obtain⟨e,al,am,an⟩:=iD hT (((ag _)));refine bodyPost_ret (v:= .agg #[.bool t9,.slice a9 E D]) (by simp [results,Tryz.results69,go_sem, *]) rfl ?_;exact⟨_,rfl,g9,a9,E,D,by rw[← U.out],F⟩
theorem qn (w:World) (v u:Value) (s t:Bool) (n m K:Nat) (hK:K≤400000) (h:WholeS w v s n) (hu:WholeS w u t m) (hn:n<2^(64*K)) (hm:m<2^(64*K)):
  Calls Tryz.prog 52 #[v,u] w (fj w (sgn s n+sgn t m)):=by
 obtain⟨a,k,c,rfl,hv⟩:=h;obtain⟨a',k',c',rfl,hu⟩:=hu;by_cases U:s=t
 ·have HT:Hid (∀ B,G w B→_):=fun B g=>p7 B (.slice a k c) (.slice a' k' c') n m K eK (hv.G g) (hu.G g) hn hm;have HS:Hid (∀ B v,Num B v (n+m)→Calls Tryz.prog 62 #[.bool s,v] B (fj B (sgn s n+sgn t m))):=fun B v hv=>by
   have h:=fO B v s _ hv;rw[show sgn s (n+m)=sgn s n+sgn t m from by rw[← U];unfold sgn;cases s<;>simp;omega] at h;exact h
  have cc:(s==t)=true:=by rw[U];simp
  generalize n+m=q at *;generalize sgn s n+sgn t m=y at *;clear hv hu hn hm U;go_enter Tryz.func52,Tryz.ntmps52;go_wp2_with fail;obtain⟨w0,X,g0,bu,R0,R1,i⟩:=iJ w [.bool s,.slice a k c] [.bool t,.slice a' k' c'] [.bool false,.slice none 0 0] 27 27 27;rw[X];clear X;have C:=Rec.f2 R0.out;have D:=Rec.f2 R1.out;have j:=C.1;have o:=C.2.1;have al:=D.1;have am:=D.2.1;clear C D;go_wp2_with fail;clear j o al am;refine jy 8 1 [.is (.pointer (some ⟨w.heap.size,0,none⟩)),.is (.bool s),.is (.pointer (some ⟨w.heap.size,1,none⟩)),.is (.slice a k c),.is (.pointer (some ⟨w.heap.size+1,1,none⟩)),.is (.slice a' k' c'),.any (fun v w'=>Num w' v (q)),.any (fun v w'=>WholeIs w' v (y))] [some 11,some 12,some 13,some 14,some 15,some 16,some 17,some 18] ?_;intro v6 v7 A hA;simp only[fg,Act.put,aj,au,av] at hA;subst hA;refine⟨?_,?_⟩
  ·skip
   refine ab rfl ?a1 (ab rfl ?a6 (ab rfl ?a7 (ab rfl ?a8 (ab rfl ?o2_4 (ab rfl ?o2_5 (ab rfl ?b8 (ab rfl ?bA (bQ))))))))
   case a1|a7|o2_4=>
    exact iX
   case a6|a8|o2_5=>
    intro W R hD K hK;clear hD;have ⟨bv,bz⟩:=rc29 R0 R;have ⟨ca,cb⟩:=rc29 R1 R;go_simp;exact hK.out _ _ ⟨_,rfl,ag _,rfl⟩
   ·intro W R hD K hK;have hc:=hi9 (HT.out W (aa g0 R));exact gH
   ·intro W R hD K hK;have h6:=gL v6 6 hD;have hc:=hi9 (HS.out W v6 h6);exact gH
  intro B g1 hH;have h7:=iW v7 7 hH;clear hH;clear HT HS;obtain⟨a9,I,F,rfl,S⟩:=h7;have Z:Hid (Num B (.slice a9 I F) (y).natAbs):=S;obtain⟨t9,E⟩:∃ t,t=decide ((y)<0):=⟨_,rfl⟩;rw[← E];have d:Hid (t9=decide ((y)<0)):=E;clear S E;obtain⟨L,M,N,O⟩:=iD i (g1);refine wpAny_ready (rs:=[8]) eM fI ?_;refine AllReady.cons rfl (fun K hK=> ?_) AllReady.nil;go_simp;refine hK _ _ ?_;clear hK K L M N O;refine wpAny_done eM ?_ _;have J:Num _ _ _:=gS (u1:= .bool t9) (u2:= .slice a9 I F) Z.out (aM i.out (g1)) trivial trivial;go_wp2_with fail;have hT:Hid (Rec _ (w.heap.size+2) [.bool t9,.slice a9 I F]):=Rec.set2 (aM i.out (g1));have g9:=Rec.h2 hT.out (aa g0 g1) eK;generalize (World.setCell (World.setCell B ⟨w.heap.size+2,0,none⟩ (.bool t9)) ⟨w.heap.size+2,1,none⟩ (.slice a9 I F))=w9 at *;obtain⟨an,ao,ap,bi⟩:=iD hT (((ag _)));refine bodyPost_ret (v:= .agg #[.bool t9,.slice a9 I F]) (by simp [results,Tryz.results52,go_sem, *]) rfl ?_;exact⟨_,rfl,g9,a9,I,F,by rw[← d.out],J⟩
 ·have cc:(s==t)=false:=by simp [U]
  have HC:Hid (∀ B,G w B→_):=fun B g=>iz B (.slice a k c) (.slice a' k' c') n m K eK (hv.G g) (hu.G g) hn hm;by_cases Y:n<m
  ·have HT:Hid (∀ B,G w B→_):=fun B g=>kU B (.slice a' k' c') (.slice a k c) m n K eK (hu.G g) (hv.G g) hm (cj Y);have HS:Hid (∀ B v,Num B v (m-n)→Calls Tryz.prog 62 #[.bool t,v] B (fj B (sgn s n+sgn t m))):=fun B v hv=>by
    have h:=fO B v t _ hv;rw[show sgn t (m-n)=sgn s n+sgn t m from by unfold sgn;cases s<;>cases t<;>simp at U ⊢ <;>omega] at h;exact h
   rw[show cmpV n m= -1 from by unfold cmpV;rw[if_pos Y]] at HC;generalize m-n=q at *;generalize sgn s n+sgn t m=y at *;clear hv hu hn hm U Y;go_enter Tryz.func52,Tryz.ntmps52;go_wp2_with fail;obtain⟨w0,X,g0,bu,R0,R1,i⟩:=iJ w [.bool s,.slice a k c] [.bool t,.slice a' k' c'] [.bool false,.slice none 0 0] 27 27 27;rw[X];clear X;have C:=Rec.f2 R0.out;have D:=Rec.f2 R1.out;have j:=C.1;have o:=C.2.1;have al:=D.1;have am:=D.2.1;clear C D;go_wp2_with fail;refine eJ (HC.out w0 g0) ?_;rintro e w3 ⟨rfl,g3⟩;clear j o al am;have S0:=hi9 (aM R0.out g3);have S1:=hi9 (aM R1.out g3);go_wp2_with fail;refine jy 8 1 [.is (.pointer (some ⟨w.heap.size+1,0,none⟩)),.is (.bool t),.is (.pointer (some ⟨w.heap.size+1,1,none⟩)),.is (.slice a' k' c'),.is (.pointer (some ⟨w.heap.size,1,none⟩)),.is (.slice a k c),.any (fun v w'=>Num w' v (q)),.any (fun v w'=>WholeIs w' v (y))] [some 26,some 27,some 28,some 29,some 30,some 31,some 32,some 33] ?_;intro v6 v7 A hA;simp only[fg,Act.put,aj,au,av] at hA;subst hA;refine⟨?_,?_⟩
   ·skip
    refine ab rfl ?b0 (ab rfl ?b1 (ab rfl ?b2 (ab rfl ?b3 (ab rfl ?o3_4 (ab rfl ?o3_5 (ab rfl ?bB (ab rfl ?bT (bQ))))))))
    case b0|b2|o3_4=>
     exact iX
    case b1|b3|o3_5=>
     intro W R hD K hK;clear hD;have ⟨bl,bn⟩:=rc29 S0 R;have ⟨bq,bs⟩:=rc29 S1 R;go_simp;exact hK.out _ _ ⟨_,rfl,ag _,rfl⟩
    ·intro W R hD K hK;have hc:=hi9 (HT.out W (aa g0 (aa g3 R)));exact gH
    ·intro W R hD K hK;have h6:=gL v6 6 hD;have hc:=hi9 (HS.out W v6 h6);exact gH
   intro B g1 hH;have h7:=iW v7 7 hH;clear hH;clear HT HS;obtain⟨a9,I,F,rfl,S⟩:=h7;have Z:Hid (Num B (.slice a9 I F) (y).natAbs):=S;obtain⟨t9,E⟩:∃ t,t=decide ((y)<0):=⟨_,rfl⟩;rw[← E];have d:Hid (t9=decide ((y)<0)):=E;clear S E;obtain⟨L,M,N,O⟩:=iD i (aa g3 g1);refine wpAny_ready (rs:=[8]) eM fI ?_;refine AllReady.cons rfl (fun K hK=> ?_) AllReady.nil;go_simp;refine hK _ _ ?_;clear hK K L M N O;refine wpAny_done eM ?_ _;have J:Num _ _ _:=gS (u1:= .bool t9) (u2:= .slice a9 I F) Z.out (aM i.out (aa g3 g1)) trivial trivial;go_wp2_with fail;have hT:Hid (Rec _ (w.heap.size+2) [.bool t9,.slice a9 I F]):=Rec.set2 (aM i.out (aa g3 g1));have g9:=Rec.h2 hT.out (aa g0 (aa g3 g1)) eK;generalize (World.setCell (World.setCell B ⟨w.heap.size+2,0,none⟩ (.bool t9)) ⟨w.heap.size+2,1,none⟩ (.slice a9 I F))=w9 at *;obtain⟨an,ao,ap,bi⟩:=iD hT (((ag _)));refine bodyPost_ret (v:= .agg #[.bool t9,.slice a9 I F]) (by simp [results,Tryz.results52,go_sem, *]) rfl ?_;exact⟨_,rfl,g9,a9,I,F,by rw[← d.out],J⟩
  ·have HT:Hid (∀ B,G w B→_):=fun B g=>kU B (.slice a k c) (.slice a' k' c') n m K eK (hv.G g) (hu.G g) hn (Nat.le_of_not_lt Y);have HS:Hid (∀ B v,Num B v (n-m)→Calls Tryz.prog 62 #[.bool s,v] B (fj B (sgn s n+sgn t m))):=fun B v hv=>by
    have h:=fO B v s _ hv;rw[show sgn s (n-m)=sgn s n+sgn t m from by unfold sgn;cases s<;>cases t<;>simp at U ⊢ <;>omega] at h;exact h
   have cd:decide (cmpV n m<0)=false:=by unfold cmpV;rw[if_neg Y];split<;>rfl
   generalize cmpV n m=cv at *;generalize n-m=q at *;generalize sgn s n+sgn t m=y at *;clear hv hu hn hm U Y;go_enter Tryz.func52,Tryz.ntmps52;go_wp2_with fail;obtain⟨w0,X,g0,bu,R0,R1,i⟩:=iJ w [.bool s,.slice a k c] [.bool t,.slice a' k' c'] [.bool false,.slice none 0 0] 27 27 27;rw[X];clear X;have C:=Rec.f2 R0.out;have D:=Rec.f2 R1.out;have j:=C.1;have o:=C.2.1;have al:=D.1;have am:=D.2.1;clear C D;go_wp2_with fail;refine eJ (HC.out w0 g0) ?_;rintro e w3 ⟨rfl,g3⟩;clear j o al am;have S0:=hi9 (aM R0.out g3);have S1:=hi9 (aM R1.out g3);go_wp2_with fail;refine jy 8 1 [.is (.pointer (some ⟨w.heap.size,0,none⟩)),.is (.bool s),.is (.pointer (some ⟨w.heap.size,1,none⟩)),.is (.slice a k c),.is (.pointer (some ⟨w.heap.size+1,1,none⟩)),.is (.slice a' k' c'),.any (fun v w'=>Num w' v (q)),.any (fun v w'=>WholeIs w' v (y))] [some 34,some 35,some 36,some 37,some 38,some 39,some 40,some 41] ?_;intro v6 v7 A hA;simp only[fg,Act.put,aj,au,av] at hA;subst hA;refine⟨?_,?_⟩
   ·skip
    refine ab rfl ?b4 (ab rfl ?b5 (ab rfl ?b6 (ab rfl ?b7 (ab rfl ?o4_4 (ab rfl ?o4_5 (ab rfl ?c0 (ab rfl ?c2 (bQ))))))))
    case b4|b6|o4_4=>
     exact iX
    case b5|b7|o4_5=>
     intro W R hD K hK;clear hD;have ⟨bl,bn⟩:=rc29 S0 R;have ⟨bq,bs⟩:=rc29 S1 R;go_simp;exact hK.out _ _ ⟨_,rfl,ag _,rfl⟩
    ·intro W R hD K hK;have hc:=hi9 (HT.out W (aa g0 (aa g3 R)));exact gH
    ·intro W R hD K hK;have h6:=gL v6 6 hD;have hc:=hi9 (HS.out W v6 h6);exact gH
   intro B g1 hH;have h7:=iW v7 7 hH;clear hH;clear HT HS;obtain⟨a9,I,F,rfl,S⟩:=h7;have Z:Hid (Num B (.slice a9 I F) (y).natAbs):=S;obtain⟨t9,E⟩:∃ t,t=decide ((y)<0):=⟨_,rfl⟩;rw[← E];have d:Hid (t9=decide ((y)<0)):=E;clear S E;obtain⟨L,M,N,O⟩:=iD i (aa g3 g1);refine wpAny_ready (rs:=[8]) eM fI ?_;refine AllReady.cons rfl (fun K hK=> ?_) AllReady.nil;go_simp;refine hK _ _ ?_;clear hK K L M N O;refine wpAny_done eM ?_ _;have J:Num _ _ _:=gS (u1:= .bool t9) (u2:= .slice a9 I F) Z.out (aM i.out (aa g3 g1)) trivial trivial;go_wp2_with fail;have hT:Hid (Rec _ (w.heap.size+2) [.bool t9,.slice a9 I F]):=Rec.set2 (aM i.out (aa g3 g1));have g9:=Rec.h2 hT.out (aa g0 (aa g3 g1)) eK;generalize (World.setCell (World.setCell B ⟨w.heap.size+2,0,none⟩ (.bool t9)) ⟨w.heap.size+2,1,none⟩ (.slice a9 I F))=w9 at *;obtain⟨an,ao,ap,bi⟩:=iD hT (((ag _)));refine bodyPost_ret (v:= .agg #[.bool t9,.slice a9 I F]) (by simp [results,Tryz.results52,go_sem, *]) rfl ?_;exact⟨_,rfl,g9,a9,I,F,by rw[← d.out],J⟩
/-- What is kept below the bar: nothing for 1. -/
def fT (d:Nat):Nat:=if d=1 then 0 else d
/-- v is the fraction q. -/
def QIs (w:World) (v:Value) (q:Rat):Prop:=∃ a k c A B c',v= .agg #[.bool (decide (q.num<0)),.slice a k c,.slice A B c']∧Num w (.slice a k c) q.num.natAbs∧Num w (.slice A B c') (fT q.den)
theorem QIs.G {w A:World} {v:Value} {q:Rat} (h:QIs w v q) (g:G w A):QIs A v q:=by
 obtain⟨a,k,c,B,C,c',e,h2,h3⟩:=h;exact⟨a,k,c,B,C,c',e,h2.G g,h3.G g⟩
/-- A call hands back the fraction q. -/
def RetQ (w:World) (q:Rat) (e:Ending) (A:World):Prop:=∃ v,e= .returned v∧G w A∧QIs A v q
/-- Lowest terms are told by the number alone. -/
theorem rat_low {q:Rat} {z:Int} {d:Nat} (B:0<d) (A:Nat.gcd z.natAbs d=1) (h:z*q.den=q.num*d):q.num=z∧q.den=d:=by
 have e:(Rat.mk' z d eK A)=q:=by
  rw[Rat.mk_eq_divInt,← Rat.num_divInt_den q,Rat.divInt_eq_divInt_iff eK (by have:=q.den_pos;omega)];exact h
 rw[← e];exact⟨rfl,rfl⟩
theorem mk_cross {q:Rat} {n:Int} {d:Nat} (A:0<d) (h:q=mkRat n d):n*q.den=q.num*d:=by
 have h2:mkRat n d=mkRat q.num q.den:=by rw[dv];exact h.symm
 exact(dX eK q.den_nz).1 h2
theorem gF (w:World) (a:Option Addr) (c:Nat):Num w (.slice a 0 c) 0:=⟨[],⟨gG,Or.inl ⟨rfl,_,_,rfl⟩⟩,gh,rfl⟩
theorem iS (w:World):QIs w (.agg #[.bool false,.slice none 0 0,.slice none 0 0]) 0:=⟨none,0,0,none,0,0,rfl,gF _ _ _,gF _ _ _⟩
theorem q2w {w:World} {t:Bool} {a A:Option Addr} {k c B c':Nat} {q:Rat} (h:QIs w (.agg #[.bool t,.slice a k c,.slice A B c']) q):Num w (.slice a k c) q.num.natAbs:=by
 obtain⟨_,_,_,_,_,_,e,h1,h2⟩:=h;simp only[Value.agg.injEq,Array.mk.injEq,List.cons.injEq,Value.slice.injEq,and_true,Value.bool.injEq] at e;obtain⟨-,⟨rfl,rfl,rfl⟩,rfl,rfl,rfl⟩:=e;exact h1
theorem q2v {w:World} {t:Bool} {a A:Option Addr} {k c B c':Nat} {q:Rat} (h:QIs w (.agg #[.bool t,.slice a k c,.slice A B c']) q):Num w (.slice A B c') (fT q.den):=by
 obtain⟨_,_,_,_,_,_,e,h1,h2⟩:=h;simp only[Value.agg.injEq,Array.mk.injEq,List.cons.injEq,Value.slice.injEq,and_true,Value.bool.injEq] at e;obtain⟨-,⟨rfl,rfl,rfl⟩,rfl,rfl,rfl⟩:=e;exact h2
theorem ow (w:World) (v u:Value) (s t:Bool) (n m K:Nat) (hK:K≤400000) (h:WholeS w v s n) (hu:WholeS w u t m) (hn:n<2^(64*K)) (o:m<2^(64*K)):
  Calls Tryz.prog 56 #[v,u] w (fj w (sgn s n-sgn t m)):=by
 obtain⟨a,k,c,rfl,hv⟩:=h;obtain⟨J,L,c',rfl,hu⟩:=hu;have R:Hid (∀ A,G w A→Calls Tryz.prog 52 #[.agg #[.bool s,.slice a k c],.agg #[.bool (!t),.slice J L c']] A (fj A (sgn s n-sgn t m))):=fun A g=>by
  have h:=qn A (.agg #[.bool s,.slice a k c]) (.agg #[.bool (!t),.slice J L c']) s (!t) n m K hK ⟨a,k,c,rfl,hv.G g⟩ ⟨J,L,c',rfl,hu.G g⟩ hn o;rw[show sgn s n+sgn (!t) m=sgn s n-sgn t m from by unfold sgn;cases s<;>cases t<;>simp <;>omega] at h;exact h
 generalize sgn s n-sgn t m=y at *;clear hv hu hn o;go_enter Tryz.func56,Tryz.ntmps56;go_wp2_with fail;obtain⟨w0,I,g0,al,R0,R1,O⟩:=iJ w [.bool s,.slice a k c] [.bool t,.slice J L c'] [.bool false,.slice none 0 0] 27 27 27;rw[I];clear I;refine eJ (R.out w0 g0) ?_;intro e A hs;obtain⟨v,rfl,g1,h4⟩:=hs;clear R;obtain⟨a9,D,C,rfl,F⟩:=h4;have M:Hid (Num A (.slice a9 D C) (y).natAbs):=F;obtain⟨t9,B⟩:∃ t,t=decide ((y)<0):=⟨_,rfl⟩;rw[← B];have N:Hid (t9=decide ((y)<0)):=B;clear F B;obtain⟨Y,Z,d,i⟩:=iD O (((g1)));have E:Num _ _ _:=gS (u1:= .bool t9) (u2:= .slice a9 D C) M.out (aM O.out (g1)) trivial trivial;go_wp2_with fail;have j:Hid (Rec _ (w.heap.size+2) [.bool t9,.slice a9 D C]):=Rec.set2 (aM O.out (g1));have g9:=Rec.h2 j.out (aa g0 g1) eK;generalize (World.setCell (World.setCell A ⟨w.heap.size+2,0,none⟩ (.bool t9)) ⟨w.heap.size+2,1,none⟩ (.slice a9 D C))=w9 at *;obtain⟨S,U,W,X⟩:=iD j (((ag _)));refine bodyPost_ret (v:= .agg #[.bool t9,.slice a9 D C]) (by simp [results,Tryz.results56,go_sem, *]) rfl ?_;exact⟨_,rfl,g9,a9,D,C,by rw[← N.out],E⟩
theorem kF (w:World) (z:Int) (h1: -9223372036854775808≤z) (h2:z<9223372036854775808):
  Calls Tryz.prog 49 #[.int .i64 z] w (fj w z):=by
 by_cases h0:z<0
 ·obtain⟨n,rfl⟩:∃ n:Nat,z= -(n:Int):=⟨z.natAbs,by omega⟩;have j:n<18446744073709551616:=by omega
  have O:Hid (∀ A,_):=fun A=>kG A n j;have N:Hid (∀ A v,Num A v n→Calls Tryz.prog 62 #[.bool true,v] A (fj A (-(n:Int)))):=fun A v hv=>fO A v true n hv;have o:decide (-(n:Int)<0)=true:=by simp;omega
  have s:(1:Int)≤n:=by omega
  have y:(n:Int)≤9223372036854775808:=by omega
  have hu:IntKind.u64.wrap (-(n:Int))=18446744073709551616-n:=by rw[IntKind.wrap_u64];omega
  have al:IntKind.u64.wrap (-(18446744073709551616-(n:Int)))=n:=by rw[IntKind.wrap_u64];omega
  generalize (-(n:Int))=z at *;clear h0 h1 h2 j;go_enter Tryz.func49,Tryz.ntmps49;go_wp2_with fail;obtain⟨w0,I,g0,am,L⟩:=fi w [.bool false,.slice none 0 0] 27;rw[I];clear I;refine eJ (O.out w0) ?_;intro e A M;obtain⟨v,rfl,g1,R⟩:=M;go_wp2_with fail;refine eJ (N.out A v R) ?_;intro e k M;obtain⟨u,rfl,g2,m⟩:=M;clear O N R o hu al;obtain⟨a9,D,C,rfl,F⟩:=m;have J:Hid (Num k (.slice a9 D C) (z).natAbs):=F;obtain⟨t9,B⟩:∃ t,t=decide ((z)<0):=⟨_,rfl⟩;rw[← B];have K:Hid (t9=decide ((z)<0)):=B;clear F B;obtain⟨Y,Z,c,d⟩:=iD L (((aa g1 g2)));have E:Num _ _ _:=gS (u1:= .bool t9) (u2:= .slice a9 D C) J.out (aM L.out (aa g1 g2)) trivial trivial;go_wp2_with fail;have i:Hid (Rec _ (w.heap.size) [.bool t9,.slice a9 D C]):=Rec.set2 (aM L.out (aa g1 g2));have g9:=Rec.h2 i.out (aa g0 (aa g1 g2)) eK;generalize (World.setCell (World.setCell k ⟨w.heap.size,0,none⟩ (.bool t9)) ⟨w.heap.size,1,none⟩ (.slice a9 D C))=w9 at *;obtain⟨S,U,W,X⟩:=iD i (((ag _)));refine bodyPost_ret (v:= .agg #[.bool t9,.slice a9 D C]) (by simp [results,Tryz.results49,go_sem, *]) rfl ?_;exact⟨_,rfl,g9,a9,D,C,by rw[← K.out],E⟩
 ·obtain⟨n,rfl⟩:∃ n:Nat,z=(n:Int):=⟨z.natAbs,by omega⟩;have j:n<18446744073709551616:=by omega
  have O:Hid (∀ A,_):=fun A=>kG A n j;have N:Hid (∀ A v,Num A v n→Calls Tryz.prog 62 #[.bool false,v] A (fj A (n:Int))):=fun A v hv=>fO A v false n hv;have s:(0:Int)≤n:=by omega
  have y:(n:Int)≤9223372036854775807:=by omega
  have o:decide ((n:Int)<0)=false:=by simp
  clear h0 h1 h2 j;go_enter Tryz.func49,Tryz.ntmps49;go_wp2_with fail;obtain⟨w0,I,g0,am,L⟩:=fi w [.bool false,.slice none 0 0] 27;rw[I];clear I;refine eJ (O.out w0) ?_;intro e A M;obtain⟨v,rfl,g1,R⟩:=M;go_wp2_with fail;refine eJ (N.out A v R) ?_;intro e k M;obtain⟨u,rfl,g2,m⟩:=M;clear O N R o;obtain⟨a9,D,C,rfl,F⟩:=m;have J:Hid (Num k (.slice a9 D C) ((n:Int)).natAbs):=F;obtain⟨t9,B⟩:∃ t,t=decide (((n:Int))<0):=⟨_,rfl⟩;rw[← B];have K:Hid (t9=decide (((n:Int))<0)):=B;clear F B;obtain⟨Y,Z,c,d⟩:=iD L (((aa g1 g2)));have E:Num _ _ _:=gS (u1:= .bool t9) (u2:= .slice a9 D C) J.out (aM L.out (aa g1 g2)) trivial trivial;go_wp2_with fail;have i:Hid (Rec _ (w.heap.size) [.bool t9,.slice a9 D C]):=Rec.set2 (aM L.out (aa g1 g2));have g9:=Rec.h2 i.out (aa g0 (aa g1 g2)) eK;generalize (World.setCell (World.setCell k ⟨w.heap.size,0,none⟩ (.bool t9)) ⟨w.heap.size,1,none⟩ (.slice a9 D C))=w9 at *;obtain⟨S,U,W,X⟩:=iD i (((ag _)));refine bodyPost_ret (v:= .agg #[.bool t9,.slice a9 D C]) (by simp [results,Tryz.results49,go_sem, *]) rfl ?_;exact⟨_,rfl,g9,a9,D,C,by rw[← K.out],E⟩
theorem fK (w:World) (t l:Value) (z:Int) (d K:Nat) (q:Rat) (ht:WholeIs w t z) (hl:Num w l d) (M:0<d) (hd:d<2^(64*K)) (hc:z≠0→Nat.gcd z.natAbs d=1) (B:q=mkRat z d):
  Calls Tryz.prog 48 #[t,l] w (RetQ w q):=by
 have hq:=mk_cross M B;clear B;have HS:Hid (∀ D,G w D→_):=fun D g=>nj D t z (ht.G g);obtain⟨a,k,c,rfl,hm⟩:=ht;by_cases h0:z=0
 ·subst h0;have B:q=0:=by
   have h1:q.num*(d:Int)=0:=by rw[← hq];simp
   have h2:q.num=0:=by rcases Int.mul_eq_zero.1 h1 with h|h;exact h;omega
   exact Rat.num_eq_zero.1 h2
  rw[B];rw[show decide ((0:Int)<0)=false from rfl] at *;clear hl M hd hc hm hq B;go_enter Tryz.func48,Tryz.ntmps48;go_wp2_with fail;obtain⟨w0,A,g0,ao,R0,E⟩:=iy w [.bool false,.slice a k c] [.bool false,.slice none 0 0,.slice none 0 0] 27 29;rw[A];clear A;refine eJ (HS.out w0 g0) ?_;rintro e D ⟨rfl,g1⟩;clear HS;obtain⟨Y,Z,i,j,m,o⟩:=eX E (((g1)));go_wp2_with fail;have s:Hid (Rec _ (w.heap.size+1) [.bool false,.slice none 0 0,.slice none 0 0]):=du (aM E.out (g1));have g9:=Rec.h3 s.out (aa g0 g1) eK;generalize (World.setCell (World.setCell (World.setCell D ⟨w.heap.size+1,0,none⟩ (.bool false)) ⟨w.heap.size+1,1,none⟩ (.slice none 0 0)) ⟨w.heap.size+1,2,none⟩ (.slice none 0 0))=w9 at *;obtain⟨O,R,S,U,W,X⟩:=eX s (((ag _)));refine bodyPost_ret (v:= .agg #[.bool false,.slice none 0 0,.slice none 0 0]) (by simp [results,Tryz.results48,go_sem, *]) rfl ?_;exact⟨_,rfl,g9,iS w9⟩
 ·obtain⟨rfl,rfl⟩:=rat_low M (hc h0) hq;have HO:Hid (∀ D,G w D→_):=fun D g=>q3P D l q.den K (hl.G g) hd;have an:(q.num.sign==0)=false:=by
   rcases Int.lt_trichotomy q.num 0 with h|h|h
   ·rw[dI h];rfl
   ·exact absurd h h0
   ·rw[dz h];rfl
  obtain⟨J,L,c',rfl,-⟩:=gv hl;have HL:Hid (Num w (.slice J L c') q.den):=hl;obtain⟨t,am⟩:∃ t,t=decide (q.num<0):=⟨_,rfl⟩;rw[← am] at HS ⊢;have HT:Hid (t=decide (q.num<0)):=am;have HM:Hid (Num w (.slice a k c) q.num.natAbs):=hm;generalize q.num.sign=sg at *;clear M hd hc hl am hm hq;by_cases h1:q.den=1
  ·rw[decide_eq_true h1] at HO;go_enter Tryz.func48,Tryz.ntmps48;go_wp2_with fail;obtain⟨w0,A,g0,ao,R0,E⟩:=iy w [.bool t,.slice a k c] [.bool false,.slice none 0 0,.slice none 0 0] 27 29;rw[A];clear A;refine eJ (HS.out w0 g0) ?_;rintro e D ⟨rfl,g1⟩;go_wp2_with fail;refine eJ (HO.out D (aa g0 g1)) ?_;rintro e N ⟨rfl,g2⟩;have C:=iD R0 (aa g1 g2);have B:=C.1;have ap:=C.2.1;have h5:QIs N (.agg #[.bool (decide (q.num<0)),.slice a k c,.slice none 0 0]) q:=⟨a,k,c,none,0,0,rfl,HM.out.G (aa g0 (aa g1 g2)),by unfold fT;rw[if_pos h1];exact gF _ _ _⟩;clear C HS HO h0 h1 an;have y:Hid (Num N (.slice a k c) (q).num.natAbs):=q2w h5;have al:Hid (Num N (.slice none 0 0) (fT (q).den)):=q2v h5;clear h5;obtain⟨Y,Z,i,j,m,o⟩:=eX E (((aa g1 g2)));have F:Num _ _ _:=eT (u1:= .bool t) (u2:= .slice a k c) (u3:= .slice none 0 0) y.out (aM E.out (aa g1 g2)) trivial trivial trivial;have I:Num _ _ _:=eT (u1:= .bool t) (u2:= .slice a k c) (u3:= .slice none 0 0) al.out (aM E.out (aa g1 g2)) trivial trivial trivial;go_wp2_with fail;have s:Hid (Rec _ (w.heap.size+1) [.bool t,.slice a k c,.slice none 0 0]):=du (aM E.out (aa g1 g2));have g9:=Rec.h3 s.out (aa g0 (aa g1 g2)) eK;generalize (World.setCell (World.setCell (World.setCell N ⟨w.heap.size+1,0,none⟩ (.bool t)) ⟨w.heap.size+1,1,none⟩ (.slice a k c)) ⟨w.heap.size+1,2,none⟩ (.slice none 0 0))=w9 at *;obtain⟨O,R,S,U,W,X⟩:=eX s (((ag _)));refine bodyPost_ret (v:= .agg #[.bool t,.slice a k c,.slice none 0 0]) (by simp [results,Tryz.results48,go_sem, *]) rfl ?_
   exact⟨_,rfl,g9,a,k,c,none,0,0,by rw[← HT.out],F,I⟩
  ·rw[decide_eq_false h1] at HO;go_enter Tryz.func48,Tryz.ntmps48;go_wp2_with fail;obtain⟨w0,A,g0,ao,R0,E⟩:=iy w [.bool t,.slice a k c] [.bool false,.slice none 0 0,.slice none 0 0] 27 29;rw[A];clear A;refine eJ (HS.out w0 g0) ?_;rintro e D ⟨rfl,g1⟩;go_wp2_with fail;refine eJ (HO.out D (aa g0 g1)) ?_;rintro e N ⟨rfl,g2⟩;have C:=iD R0 (aa g1 g2);have B:=C.1;have ap:=C.2.1;have h5:QIs N (.agg #[.bool (decide (q.num<0)),.slice a k c,.slice J L c']) q:=⟨a,k,c,J,L,c',rfl,HM.out.G (aa g0 (aa g1 g2)),by unfold fT;rw[if_neg h1];exact HL.out.G (aa g0 (aa g1 g2))⟩;clear C HS HO h0 h1 an;have y:Hid (Num N (.slice a k c) (q).num.natAbs):=q2w h5;have al:Hid (Num N (.slice J L c') (fT (q).den)):=q2v h5;clear h5;obtain⟨Y,Z,i,j,m,o⟩:=eX E (((aa g1 g2)));have F:Num _ _ _:=eT (u1:= .bool t) (u2:= .slice a k c) (u3:= .slice J L c') y.out (aM E.out (aa g1 g2)) trivial trivial trivial;have I:Num _ _ _:=eT (u1:= .bool t) (u2:= .slice a k c) (u3:= .slice J L c') al.out (aM E.out (aa g1 g2)) trivial trivial trivial;go_wp2_with fail;have s:Hid (Rec _ (w.heap.size+1) [.bool t,.slice a k c,.slice J L c']):=du (aM E.out (aa g1 g2));have g9:=Rec.h3 s.out (aa g0 (aa g1 g2)) eK;generalize (World.setCell (World.setCell (World.setCell N ⟨w.heap.size+1,0,none⟩ (.bool t)) ⟨w.heap.size+1,1,none⟩ (.slice a k c)) ⟨w.heap.size+1,2,none⟩ (.slice J L c'))=w9 at *;obtain⟨O,R,S,U,W,X⟩:=eX s (((ag _)))
   refine bodyPost_ret (v:= .agg #[.bool t,.slice a k c,.slice J L c']) (by simp [results,Tryz.results48,go_sem, *]) rfl ?_;exact⟨_,rfl,g9,a,k,c,J,L,c',by rw[← HT.out],F,I⟩
/-- How great a fraction's parts are. -/
def QB (q:Rat) (K:Nat):Prop:=q.num.natAbs<2^(64*K)∧q.den<2^(64*K)
theorem QB.mono {q:Rat} {K L:Nat} (h:QB q K) (A:K≤L):QB q L:=
 ⟨ae h.1 (ai eK eK),ae h.2 (ai eK eK)⟩
theorem fW {a b K L:Nat} (A:a<2^(64*K)) (hb:b<2^(64*L)):a*b<2^(64*(K+L)):=by
 rw[show 64*(K+L)=64*K+64*L from by omega,ah];exact bE A hb
theorem kR {a b:Nat} (h:0<b):Nat.gcd (a/Nat.gcd a b) (b/Nat.gcd a b)=1:=Nat.gcd_div_gcd_div_gcd_of_pos_right h
theorem jm {a b c d:Nat} (h:Nat.gcd a b=1) (A:c∣a) (B:d∣b):Nat.gcd c d=1:=
 Nat.eq_one_of_dvd_one (h▸Nat.dvd_gcd (eD (bI c d) A) (eD (bD c d) B))
theorem rN {a c e b:Nat} (h1:Nat.gcd a e=1) (h2:Nat.gcd a b=1) (h3:Nat.gcd c e=1) (A:Nat.gcd c b=1):Nat.gcd (a*c) (e*b)=1:=
 Nat.Coprime.mul_left (dB h1 h2) (dB h3 A)
/-- What a product comes to, in lowest terms. -/
theorem q1M (x y:Rat):Nat.gcd (x.num.natAbs/Nat.gcd x.num.natAbs y.den*(y.num.natAbs/Nat.gcd y.num.natAbs x.den)) (x.den/Nat.gcd y.num.natAbs x.den*(y.den/Nat.gcd x.num.natAbs y.den))=1:=by
 have C:=x.reduced;have D:=y.reduced;have A:=x.den_pos;have B:=y.den_pos;refine rN ?_ (kR B) (kR A) ?_
 ·exact jm C (dy (bI _ _)) (dy (bD _ _))
 ·exact jm D (dy (bI _ _)) (dy (bD _ _))
theorem q26 (s t:Bool) (n m:Nat):sgn (s != t) (n*m)=sgn s n*sgn t m:=by
 unfold sgn;cases s<;>cases t<;>simp [Int.neg_mul,Int.mul_neg]
theorem q1O (x y:Rat):x*y=mkRat (sgn (decide (x.num<0) != decide (y.num<0)) (x.num.natAbs/Nat.gcd x.num.natAbs y.den*(y.num.natAbs/Nat.gcd y.num.natAbs x.den))) (x.den/Nat.gcd y.num.natAbs x.den*(y.den/Nat.gcd x.num.natAbs y.den)):=by
 have C:=x.den_pos;have D:=y.den_pos;rw[Rat.mul_def'];obtain⟨a,E⟩:=bI x.num.natAbs y.den;obtain⟨b,hb⟩:=bD x.num.natAbs y.den;obtain⟨c,F⟩:=bI y.num.natAbs x.den;obtain⟨e,I⟩:=bD y.num.natAbs x.den;have J:0<Nat.gcd x.num.natAbs y.den:=ch _ D;have K:0<Nat.gcd y.num.natAbs x.den:=ch _ C;generalize Nat.gcd x.num.natAbs y.den=g at *;generalize Nat.gcd y.num.natAbs x.den=h at *;have M:x.num.natAbs/g=a:=by rw[E];exact bY _ J
 have N:y.den/g=b:=by rw[hb];exact bY _ J
 have O:y.num.natAbs/h=c:=by rw[F];exact bY _ K
 have R:x.den/h=e:=by rw[I];exact bY _ K
 rw[M,N,O,R];have A:b≠0:=by rintro rfl;omega
 have B:e≠0:=by rintro rfl;omega
 rw[dX (bV eK eK) (bV B A)];have S:x.num=sgn (decide (x.num<0)) (g*a):=by rw[← E];exact(gu _).symm
 have U:y.num=sgn (decide (y.num<0)) (h*c):=by rw[← F];exact(gu _).symm
 generalize decide (x.num<0)=s at *;generalize decide (y.num<0)=t at *;rw[S,U,hb,I,← q26];clear E hb F I J K M N O R S U A B C D;have W:∀ (r:Bool) (p q k l:Nat),p*k=q*l→sgn r p*(k:Int)=sgn r q*(l:Int):=by
  intro r p q k l L;have h1:(p:Int)*k=(q:Int)*l:=by rw[← aL,L,aL]
  unfold sgn;cases r
  ·exact h1
  ·simp only[if_true,Int.neg_mul,h1]
 exact W _ _ _ _ _ (by ac_rfl)
theorem iZ (w:World) (v:Value) (q:Rat) (h:QIs w v q):
  Calls Tryz.prog 59 #[v] w (eU w q.den):=by
 obtain⟨a,k,c,K,E,c',rfl,h1,h2⟩:=h;obtain⟨a2,U,S,e,A,-,C⟩:=gv h2;injection e with L M N;subst L;subst M;subst N;have O:=q.den_pos;obtain⟨t,I⟩:∃ t,t=decide (q.num<0):=⟨_,rfl⟩;rw[← I];clear I;by_cases B:q.den=1
 ·have D:E=0:=A.2 (by unfold fT;rw[if_pos B]);subst D;rw[B];go_enter Tryz.func59,Tryz.ntmps59;go_wp2_with fail;go_ret;exact⟨_,rfl,((ag _).alloc _).alloc _,jd fI⟩
 ·have F:fT q.den=q.den:=by unfold fT;rw[if_neg B]
  rw[F] at h2 C;have R:((E:Int)==0)=false:=by rw[C];simp;omega
  have J:Hid (Num w (.slice K E c') q.den):=h2;clear C A B F h1 O h2;go_enter Tryz.func59,Tryz.ntmps59;go_wp2_with fail;go_ret;exact⟨_,rfl,(ag _).alloc _,J.out.G ((ag _).alloc _)⟩
set_option maxHeartbeats 1000000 in
theorem q0H (w:World) (v u:Value) (x y:Rat) (K:Nat) (hK:K≤100000) (S:1≤K) (m:Tab w) (hx:QIs w v x) (hy:QIs w u y) (bx:QB x K) (ha:QB y K):
  Calls Tryz.prog 17 #[v,u] w (RetQ w (x*y)):=by
 have X:Hid (∀ E,G w E→_):=fun E g=>iZ E v x (hx.G g);have Y:Hid (∀ E,G w E→_):=fun E g=>iZ E u y (hy.G g);have i:=q1M x y;have O:=q1O x y;obtain⟨a,k,c,a',k',c',rfl,eb,jx⟩:=hx;obtain⟨b,j,e,b',j',e',rfl,ec,ka⟩:=hy;obtain⟨o,Z⟩:=bx;obtain⟨al,d⟩:=ha;have ce:=x.den_pos;have ci:=y.den_pos;obtain⟨g,hg⟩:∃ g,g=Nat.gcd x.num.natAbs y.den:=⟨_,rfl⟩;obtain⟨h,hh⟩:∃ h,h=Nat.gcd y.num.natAbs x.den:=⟨_,rfl⟩;have cc:0<g:=by rw[hg];exact ch _ ci
 have cd:0<h:=by rw[hh];exact ch _ ce
 have dr:g<2^(64*K):=aq (by rw[hg];exact dZ _ ci) d;have ds:h<2^(64*K):=aq (by rw[hh];exact dZ _ ce) Z;have cy:Hid (∀ E F,G w E→Num E F y.den→Calls Tryz.prog 58 #[.slice a k c,F] E (eU E g)):=fun E F g1 h1=>by
  rw[hg];exact iO E _ F _ _ K eK S (m.G g1) (eb.G g1) h1 o d
 have cz:Hid (∀ E F,G w E→Num E F x.den→Calls Tryz.prog 58 #[.slice b j e,F] E (eU E h)):=fun E F g1 h1=>by
  rw[hh];exact iO E _ F _ _ K eK S (m.G g1) (ec.G g1) h1 al Z
 rw[← hg,← hh] at i O;have ep:Hid (∀ E F,G w E→Num E F g→_):=fun E F g1 h1=>je E (.slice a k c) F _ g K eK S (m.G g1) (eb.G g1) h1 o dr cc;have fp:Hid (∀ E F,G w E→Num E F h→_):=fun E F g1 h1=>je E (.slice b j e) F _ h K eK S (m.G g1) (ec.G g1) h1 al ds cd;have dk:Hid (∀ E F v2,G w E→Num E F x.den→Num E v2 h→_):=fun E F v2 g1 h1 h2=>je E F v2 _ h K eK S (m.G g1) h1 h2 Z ds cd;have dl:Hid (∀ E F v2,G w E→Num E F y.den→Num E v2 g→_):=fun E F v2 g1 h1 h2=>je E F v2 _ g K eK S (m.G g1) h1 h2 d dr cc;have q1:x.num.natAbs/g<2^(64*K):=aq (aN _ _) o;have q2:y.num.natAbs/h<2^(64*K):=aq (aN _ _) al;have q3:x.den/h<2^(64*K):=aq (aN _ _) Z;have q4:y.den/g<2^(64*K):=aq (aN _ _) d;have q5:0<x.den/h:=dM (by rw[hh];exact dZ _ ce) cd;have q6:0<y.den/g:=dM (by rw[hg];exact dZ _ ci) cc;clear hg hh cc cd dr ds o Z al d ce ci jx ka eb ec m;obtain⟨s,hs⟩:∃ s,s=decide (x.num<0):=⟨_,rfl⟩;obtain⟨t,ht⟩:∃ t,t=decide (y.num<0):=⟨_,rfl⟩;rw[← hs,← ht] at O;rw[← hs] at X;rw[← ht] at Y;rw[← hs,← ht];clear hs ht;generalize x.num.natAbs/g=A at *;generalize y.num.natAbs/h=B at *;generalize x.den/h=C at *;generalize y.den/g=D at *;have fs:Hid (∀ E F v2,Num E F A→Num E v2 B→_):=fun E F v2 h1 h2=>gU E F v2 A B K eK h1 h2 q1 q2;have fv:Hid (∀ E F v2,Num E F C→Num E v2 D→_):=fun E F v2 h1 h2=>gU E F v2 C D K eK h1 h2 q3 q4;have HS:Hid (∀ E F,Num E F (A*B)→_):=fun E F h1=>fO E F (s != t) (A*B) h1
 have HF:Hid (∀ E F v2,WholeIs E F (sgn (s != t) (A*B))→Num E v2 (C*D)→Calls Tryz.prog 48 #[F,v2] E (RetQ E (x*y))):=fun E F v2 h1 h2=>
  fK E F v2 _ (C*D) (K+K) (x*y) h1 h2 (bF q5 q6) (fW q3 q4) (fun _=>by rw[iE];exact i) O
 clear q1 q2 q3 q4 q5 q6 i O;generalize A*B=N at *;generalize C*D=M at *;generalize sgn (s != t) N=z at *;obtain⟨p,hp⟩:∃ p,p=x.den:=⟨_,rfl⟩;obtain⟨r,hr⟩:∃ r,r=y.den:=⟨_,rfl⟩;rw[← hp] at X cz dk;rw[← hr] at Y cy dl;clear hp hr;generalize x*y=q at *;go_enter Tryz.func17,Tryz.ntmps17;go_wp2_with fail;obtain⟨w0,gl,g0,lg,R0,R1,R2⟩:=iJ w [.bool s,.slice a k c,.slice a' k' c'] [.bool t,.slice b j e,.slice b' j' e'] [.bool false,.slice none 0 0,.slice none 0 0] 29 29 29;rw[gl];clear gl;refine jy 14 0 [.is (.pointer (some ⟨w.heap.size,0,none⟩)),.is (.pointer (some ⟨w.heap.size,1,none⟩)),.is (.slice a k c),.is (.agg #[.bool t,.slice b j e,.slice b' j' e']),.any (fun v J=>Num J v (r)),.any (fun v J=>Num J v (g)),.is (.pointer (some ⟨w.heap.size+1,0,none⟩)),.is (.pointer (some ⟨w.heap.size+1,1,none⟩)),.is (.slice b j e),.is (.agg #[.bool s,.slice a k c,.slice a' k' c']),.any (fun v J=>Num J v (p)),.any (fun v J=>Num J v (h)),.any (fun v J=>Num J v (g)),.any (fun v J=>Num J v (h))] [some 9,some 10,some 11,some 12,some 13,some 14,some 15,some 16,some 17,some 18,some 19,some 20,some 5,some 6] ?_;intro v4 v5 cl U v12 L A hA;simp only[fg,Act.put,aj,au,av] at hA;subst hA;refine⟨?_,?_⟩
 ·skip
  refine ab rfl ?a1 (ab rfl ?a6 (ab rfl ?a7 (ab rfl ?b0 (ab rfl ?c6 (ab rfl ?c7 (ab rfl ?b1 (ab rfl ?o1_7 (ab rfl ?b2 (ab rfl ?o1_9 (ab rfl ?bT (ab rfl ?c0 (ab rfl ?c2 (ab rfl ?c3 (bQ))))))))))))))
  case a1|a6|b1|o1_7=>
   exact iX
  case a7|b0|b2|o1_9=>
   intro W I hD K hK;clear hD;have ⟨hf,hj,hk⟩:=rc39 R0 I;have ⟨hl,hm,hn⟩:=rc39 R1 I;go_simp;exact hK.out _ _ ⟨_,rfl,ag _,rfl⟩
  ·intro W I hD K hK;have hc:=hi9 (Y.out W (aa g0 I));exact gH
  ·intro W I hD K hK;have h4:=gL v4 4 hD;have hc:=hi9 (cy.out W v4 (aa g0 I) h4);exact gH
  ·intro W I hD K hK;have hc:=hi9 (X.out W (aa g0 I));exact gH
  ·intro W I hD K hK;have dq:=gL cl 10 hD;have hc:=hi9 (cz.out W cl (aa g0 I) dq);exact gH
  ·intro W I hD K hK;have h5:=gL v5 5 hD;clear hD;go_simp;exact hK.out _ _ ⟨_,rfl,ag _,h5⟩
  ·intro W I hD K hK;have an:=gL U 11 hD;clear hD;go_simp;exact hK.out _ _ ⟨_,rfl,ag _,an⟩
 intro E g1 hH;have ga:=iW v12 12 hH;have gd:=iW L 13 hH;clear hH;refine wpAny_done eM ?_ _;have cs:Hid (Num E v12 g):=ga;have cx:Hid (Num E L h):=gd;clear ga gd cy cz;have am:=aa g0 g1;have S0:=hi9 (aM R0.out g1);have S1:=hi9 (aM R1.out g1);have S2:=hi9 (aM R2.out g1);clear R0 R1 R2 g0 g1;go_wp2_with fail;refine jy 12 0 [.is (.pointer (some ⟨w.heap.size,0,none⟩)),.is (.pointer (some ⟨w.heap.size,1,none⟩)),.is (.slice a k c),.is (v12),.any (fun v J=>Num J v (A)),.is (.pointer (some ⟨w.heap.size+1,0,none⟩)),.is (.pointer (some ⟨w.heap.size+1,1,none⟩)),.is (.slice b j e),.is (L),.any (fun v J=>Num J v (B)),.any (fun v J=>Num J v (N)),.any (fun v J=>Num J v (N))] [some 21,some 22,some 23,some 24,some 25,some 26,some 27,some 28,some 29,some 30,some 31,some 7] ?_;intro v4 v9 cl U A hA;simp only[fg,Act.put,aj,au,av] at hA;subst hA;refine⟨?_,?_⟩
 ·skip
  refine ab rfl ?b3 (ab rfl ?b4 (ab rfl ?b5 (ab rfl ?b6 (ab rfl ?e1 (ab rfl ?b7 (ab rfl ?b8 (ab rfl ?o2_7 (ab rfl ?o2_8 (ab rfl ?e2 (ab rfl ?c4 (ab rfl ?c5 (bQ))))))))))))
  case b3|b4|b6|b7|b8|o2_8=>
   exact iX
  case b5|o2_7=>
   intro W I hD K hK;clear hD;have ⟨ho,hq,hw⟩:=rc39 S0 I;have ⟨hz,ia,ib⟩:=rc39 S1 I;go_simp;exact hK.out _ _ ⟨_,rfl,ag _,rfl⟩
  ·intro W I hD K hK;have hc:=hi9 (ep.out W v12 (aa am I) (Num.G cs.out I));exact gH
  ·intro W I hD K hK;have hc:=hi9 (fp.out W L (aa am I) (Num.G cx.out I));exact gH
  ·intro W I hD K hK;have h4:=gL v4 4 hD;have h9:=gL v9 9 hD;have hc:=hi9 (fs.out W v4 v9 h4 h9);exact gH
  ·intro W I hD K hK;have dq:=gL cl 10 hD;clear hD;go_simp;exact hK.out _ _ ⟨_,rfl,ag _,dq⟩
 intro w2 g2 hH;have an:=iW U 11 hH;clear hH;refine wpAny_done eM ?_ _;have ed:Hid (Num w2 U N):=an;have cn:Hid (Num w2 v12 g):=cs.out.G g2;have cr:Hid (Num w2 L h):=cx.out.G g2;have R:=aa am g2;have T0:=hi9 (aM S0.out g2);have T1:=hi9 (aM S1.out g2);have T2:=hi9 (aM S2.out g2);clear an cs cx ep fp fs S0 S1 S2 am g2;go_wp2_with fail;refine jy 10 0 [.is (.agg #[.bool s,.slice a k c,.slice a' k' c']),.any (fun v J=>Num J v (p)),.is (L),.any (fun v J=>Num J v (C)),.is (.agg #[.bool t,.slice b j e,.slice b' j' e']),.any (fun v J=>Num J v (r)),.is (v12),.any (fun v J=>Num J v (D)),.any (fun v J=>Num J v (M)),.any (fun v J=>Num J v (M))] [some 32,some 33,some 34,some 35,some 36,some 37,some 38,some 39,some 40,some 8] ?_;intro F v3 v5 v7 v8 v9 A hA;simp only[fg,Act.put,aj,au,av] at hA;subst hA;refine⟨?_,?_⟩
 ·skip
  refine ab rfl ?bA (ab rfl ?e3 (ab rfl ?bB (ab rfl ?e5 (ab rfl ?o3_4 (ab rfl ?e6 (ab rfl ?o3_6 (ab rfl ?e7 (ab rfl ?e8 (ab rfl ?e9 (bQ))))))))))
  case bB|o3_6=>
   exact iX
  case bA|o3_4=>
   intro W I hD K hK;clear hD;have ⟨ih,ii,io⟩:=rc39 T0 I;have ⟨it,jj,jp⟩:=rc39 T1 I;go_simp;exact hK.out _ _ ⟨_,rfl,ag _,rfl⟩
  ·intro W I hD K hK;have hc:=hi9 (X.out W (aa R I));exact gH
  ·intro W I hD K hK;have h1:=gL F 1 hD;have hc:=hi9 (dk.out W F L (aa R I) h1 (Num.G cr.out I));exact gH
  ·intro W I hD K hK;have hc:=hi9 (Y.out W (aa R I));exact gH
  ·intro W I hD K hK;have h5:=gL v5 5 hD;have hc:=hi9 (dl.out W v5 v12 (aa R I) h5 (Num.G cn.out I));exact gH
  ·intro W I hD K hK;have h3:=gL v3 3 hD;have h7:=gL v7 7 hD;have hc:=hi9 (fv.out W v3 v7 h3 h7);exact gH
  ·intro W I hD K hK;have h8:=gL v8 8 hD;clear hD;go_simp;exact hK.out _ _ ⟨_,rfl,ag _,h8⟩
 intro w3 g3 hH;have h9:=iW v9 9 hH;clear hH;refine wpAny_done eM ?_ _;have H9:Hid (Num w3 v9 M):=h9;have cm:Hid (Num w3 U N):=ed.out.G g3;have hd:=aa R g3;have U0:=hi9 (aM T0.out g3);have U1:=hi9 (aM T1.out g3);have U2:=hi9 (aM T2.out g3);clear h9 ed cn cr dk dl fv T0 T1 T2 R g3 X Y;have fr:=hi9 (HS.out w3 U cm.out);obtain⟨ao,ap,bi,bl,bn,bq⟩:=eX U0 (ag _);obtain⟨bs,bu,bv,bz,ca,cb⟩:=eX U1 (ag _);go_wp2_with fail;refine eJ fr.out ?_;intro e4 w4 hs;obtain⟨v20,rfl,g4,gf⟩:=hs;have ee:=hi9 (HF.out w4 v20 v9 gf (H9.out.G g4));clear HS fr HF gf H9 cm;go_wp2_with fail;refine eJ ee.out ?_;intro e4 w5 hs;obtain⟨v21,rfl,g5,he⟩:=hs;clear ee;clear ao ap bi bl bn bq bs bu bv bz ca cb;obtain⟨a8,k8,c8,a9,k9,c9,rfl,gg,gk⟩:=he;have gm:Hid (Num w5 (.slice a8 k8 c8) (q).num.natAbs):=gg;have gn:Hid (Num w5 (.slice a9 k9 c9) (fT (q).den)):=gk;obtain⟨t9,ea⟩:∃ t,t=decide ((q).num<0):=⟨_,rfl⟩;rw[← ea];have gz:Hid (t9=decide ((q).num<0)):=ea;clear gg gk ea;obtain⟨kw,kx,ky,la,lb,lc⟩:=eX U2 (((aa g4 g5)));have em:Num _ _ _:=eT (u1:= .bool t9) (u2:= .slice a8 k8 c8) (u3:= .slice a9 k9 c9) gm.out (aM U2.out (aa g4 g5)) trivial trivial trivial;have en:Num _ _ _:=eT (u1:= .bool t9) (u2:= .slice a8 k8 c8) (u3:= .slice a9 k9 c9) gn.out (aM U2.out (aa g4 g5)) trivial trivial trivial;go_wp2_with fail;have m:Hid (Rec _ (w.heap.size+2) [.bool t9,.slice a8 k8 c8,.slice a9 k9 c9]):=du (aM U2.out (aa g4 g5));have g9:=Rec.h3 m.out (aa hd (aa g4 g5)) eK
 generalize (World.setCell (World.setCell (World.setCell w5 ⟨w.heap.size+2,0,none⟩ (.bool t9)) ⟨w.heap.size+2,1,none⟩ (.slice a8 k8 c8)) ⟨w.heap.size+2,2,none⟩ (.slice a9 k9 c9))=w9 at *;obtain⟨kb,kk,kp,kq,kr,ks⟩:=eX m (((ag _)));refine bodyPost_ret (v:= .agg #[.bool t9,.slice a8 k8 c8,.slice a9 k9 c9]) (by simp [results,Tryz.results17,go_sem, *]) rfl ?_;exact⟨_,rfl,g9,a8,k8,c8,a9,k9,c9,by rw[← gz.out],em,en⟩
/-- A call hands back a fraction and no error, or an error. -/
def gM (w:World) (q:Rat) (c:Int) (e:Ending) (A:World):Prop:=∃ v,e= .returned (.tuple #[v,.int .i64 c])∧G w A∧QIs A v q
theorem QIs.set3 {w:World} {v:Value} {q:Rat} {b:Nat} {x y z u1 u2 u3:Value} (h:QIs w v q) (r:Rec w b [x,y,z]) (A:gW x) (B:gW y) (C:gW z):QIs (((w.setCell ⟨b,0,none⟩ u1).setCell ⟨b,1,none⟩ u2).setCell ⟨b,2,none⟩ u3) v q:=by
 obtain⟨a,k,c,D,E,c',e,h1,h2⟩:=h;exact⟨a,k,c,D,E,c',e,eT h1 r A B C,eT h2 r A B C⟩
theorem QIs.top {w:World} {a:Option Addr} {k c:Nat} {q:Rat} {t:Bool} (h:Num w (.slice a k c) q.num.natAbs) (A:t=decide (q.num<0)):WholeIs w (.agg #[.bool t,.slice a k c]) q.num:=⟨a,k,c,by rw[A],h⟩
theorem kX (w:World) (v:Value) (q:Rat) (h:QIs w v q):
  Calls Tryz.prog 21 #[v] w fun e J=>e= .returned (.int .i64 q.num.sign)∧G w J:=by
 obtain⟨a,k,c,E,I,c',rfl,h1,h2⟩:=h;obtain⟨t,C⟩:∃ t,t=decide (q.num<0):=⟨_,rfl⟩;have D:Hid (∀ B,G w B→_):=fun B g=>nj B (.agg #[.bool t,.slice a k c]) q.num (QIs.top (h1.G g) C);rw[← C];generalize q.num.sign=z at *;clear C h1 h2;go_enter Tryz.func21,Tryz.ntmps21;go_wp2_with fail;obtain⟨w0,A,g0,F,K⟩:=fi w [.bool t,.slice a k c,.slice E I c'] 29;rw[A];clear A;refine eJ (D.out w0 g0) ?_;rintro e B ⟨rfl,g1⟩;go_wp2_with fail;go_ret;exact⟨rfl,aa g0 g1⟩
theorem q3a (w:World) (v:Value) (q:Rat) (K:Nat) (hK:K≤1000000) (h:QIs w v q) (hb:QB q K):
  Calls Tryz.prog 19 #[v] w (RetQ w (-q)):=by
 have e:Hid (∀ B,G w B→_):=fun B g=>iZ B v q (h.G g);obtain⟨a,k,c,a',k',c',rfl,h1,h2⟩:=h;obtain⟨t,ht⟩:∃ t,t=decide (q.num<0):=⟨_,rfl⟩;have HO:Hid (∀ B,G w B→_):=fun B g=>p6 B (.agg #[.bool t,.slice a k c]) q.num K hK (QIs.top (h1.G g) ht) hb.1;have HC:Hid (∀ B M,Num B M q.den→_):=fun B M hv=>lj B M q.den K hK hv hb.2;have HF:Hid (∀ B M v2,WholeIs B M (-q.num)→Num B v2 q.den→_):=fun B M v2 bl bn=>fK B M v2 (-q.num) q.den K (-q) bl bn q.den_pos hb.2 (fun _=>by rw[et];exact q.reduced) (by rw[← Rat.neg_mkRat,dv]);rw[← ht] at e ⊢;generalize q.den=d at *;generalize -q.num=z at *;generalize -q=y at *;clear ht h1 h2 hb;go_enter Tryz.func19,Tryz.ntmps19;go_wp2_with fail;obtain⟨w0,o,g0,cb,R0,s⟩:=iy w [.bool t,.slice a k c,.slice a' k' c'] [.bool false,.slice none 0 0,.slice none 0 0] 29 29;rw[o];clear o;refine jy 7 1 [.is (.pointer (some ⟨w.heap.size,0,none⟩)),.is (.agg #[.bool t,.slice a k c]),.any (fun v N=>WholeIs N v (z)),.is (.agg #[.bool t,.slice a k c,.slice a' k' c']),.any (fun v N=>Num N v (d)),.any (fun v N=>Num N v (d)),.any (fun v N=>QIs N v (y))] [some 3,some 4,some 5,some 6,some 7,some 8,some 9] ?_;intro v2 v4 v5 v6 A hA;simp only[fg,Act.put,aj,au,av] at hA;subst hA;refine⟨?_,?_⟩
 ·skip
  refine ab rfl ?a1 (ab rfl ?a6 (ab rfl ?a7 (ab rfl ?o1_3 (ab rfl ?b0 (ab rfl ?b1 (ab rfl ?b2 (bQ)))))))
  case a1=>
   exact iX
  case a6|o1_3=>
   intro W F hD K hK;clear hD;have ⟨ao,ap,bi⟩:=rc39 R0 F;go_simp;exact hK.out _ _ ⟨_,rfl,ag _,rfl⟩
  ·intro W F hD K hK;have hc:=hi9 (HO.out W (aa g0 F));exact gH
  ·intro W F hD K hK;have hc:=hi9 (e.out W (aa g0 F));exact gH
  ·intro W F hD K hK;have h4:=gL v4 4 hD;have hc:=hi9 (HC.out W v4 h4);exact gH
  ·intro W F hD K hK;have h2:=gL v2 2 hD;have h5:=gL v5 5 hD;have hc:=hi9 (HF.out W v2 v5 h2 h5);exact gH
 intro B g1 hH;have h6:=iW v6 6 hH;clear hH;clear HO HC HF e;obtain⟨C,J,D,a9,L,E,rfl,j,m⟩:=h6;have al:Hid (Num B (.slice C J D) (y).num.natAbs):=j;have am:Hid (Num B (.slice a9 L E) (fT (y).den)):=m;obtain⟨t9,I⟩:∃ t,t=decide ((y).num<0):=⟨_,rfl⟩;rw[← I];have an:Hid (t9=decide ((y).num<0)):=I;clear j m I;obtain⟨S,U,X,Y,Z,i⟩:=eX s (g1);refine wpAny_ready (rs:=[7]) eM fI ?_;refine AllReady.cons rfl (fun K hK=> ?_) AllReady.nil;go_simp;refine hK _ _ ?_;clear hK K S U X Y Z i;refine wpAny_done eM ?_ _;have O:Num _ _ _:=eT (u1:= .bool t9) (u2:= .slice C J D) (u3:= .slice a9 L E) al.out (aM s.out (g1)) trivial trivial trivial;have R:Num _ _ _:=eT (u1:= .bool t9) (u2:= .slice C J D) (u3:= .slice a9 L E) am.out (aM s.out (g1)) trivial trivial trivial;go_wp2_with fail;have hT:Hid (Rec _ (w.heap.size+1) [.bool t9,.slice C J D,.slice a9 L E]):=du (aM s.out (g1));have g9:=Rec.h3 hT.out (aa g0 g1) eK;generalize (World.setCell (World.setCell (World.setCell B ⟨w.heap.size+1,0,none⟩ (.bool t9)) ⟨w.heap.size+1,1,none⟩ (.slice C J D)) ⟨w.heap.size+1,2,none⟩ (.slice a9 L E))=w9 at *;obtain⟨bq,bs,bu,bv,bz,ca⟩:=eX hT (((ag _)));refine bodyPost_ret (v:= .agg #[.bool t9,.slice C J D,.slice a9 L E]) (by simp [results,Tryz.results19,go_sem, *]) rfl ?_;exact⟨_,rfl,g9,C,J,D,a9,L,E,by rw[← an.out],O,R⟩
theorem ir (z:Int):((z:Int):Rat)=mkRat z 1:=(Rat.mk_eq_mkRat z 1 ff fI).symm▸rfl
theorem q08 (w:World) (z:Int) (h1: -9223372036854775808≤z) (h2:z<9223372036854775808):
  Calls Tryz.prog 11 #[.int .i64 z] w (RetQ w (z:Rat)):=by
 have o:Hid (∀ A,_):=fun A=>kF A z h1 h2;have m:Hid (∀ A L v2,WholeIs A L z→Num A v2 1→_):=fun A L v2 B i=>fK A L v2 z 1 1 (z:Rat) B i eK eK (fun _=>cS _) (ir z);generalize (z:Rat)=q at *;clear h1 h2;go_enter Tryz.func11,Tryz.ntmps11;go_wp2_with fail;obtain⟨w0,W,g0,bu,X⟩:=fi w [.bool false,.slice none 0 0,.slice none 0 0] 29;rw[W];clear W;refine eJ (o.out w0) ?_;intro e A d;obtain⟨L,rfl,g1,B⟩:=d;have R:Hid (WholeIs A L z):=B;clear B o;go_wp2_with fail;have K:=(ag A).alloc (.cells #[.int .u64 1] 78);have M:=hi9 (m.out _ L (.slice (some ⟨A.heap.size,0,none⟩) 1 1) (R.out.G K) (jd rfl));generalize A.alloc (.cells #[.int .u64 1] 78)=w2 at *;clear m R;refine eJ M.out ?_;intro e k d;obtain⟨v3,rfl,g3,j⟩:=d;clear M;obtain⟨C,I,D,a9,J,E,rfl,S,U⟩:=j;have Y:Hid (Num k (.slice C I D) (q).num.natAbs):=S;have Z:Hid (Num k (.slice a9 J E) (fT (q).den)):=U;obtain⟨t9,F⟩:∃ t,t=decide ((q).num<0):=⟨_,rfl⟩;rw[← F];have c:Hid (t9=decide ((q).num<0)):=F;clear S U F;obtain⟨ap,bi,bl,bn,bq,bs⟩:=eX X (((aa g1 (aa K g3))));have N:Num _ _ _:=eT (u1:= .bool t9) (u2:= .slice C I D) (u3:= .slice a9 J E) Y.out (aM X.out (aa g1 (aa K g3))) trivial trivial trivial;have O:Num _ _ _:=eT (u1:= .bool t9) (u2:= .slice C I D) (u3:= .slice a9 J E) Z.out (aM X.out (aa g1 (aa K g3))) trivial trivial trivial;go_wp2_with fail;have hT:Hid (Rec _ (w.heap.size) [.bool t9,.slice C I D,.slice a9 J E]):=du (aM X.out (aa g1 (aa K g3)));have g9:=Rec.h3 hT.out (aa g0 (aa g1 (aa K g3))) eK
 generalize (World.setCell (World.setCell (World.setCell k ⟨w.heap.size,0,none⟩ (.bool t9)) ⟨w.heap.size,1,none⟩ (.slice C I D)) ⟨w.heap.size,2,none⟩ (.slice a9 J E))=w9 at *;obtain⟨s,y,al,am,an,ao⟩:=eX hT (((ag _)));refine bodyPost_ret (v:= .agg #[.bool t9,.slice C I D,.slice a9 J E]) (by simp [results,Tryz.results11,go_sem, *]) rfl ?_;exact⟨_,rfl,g9,C,I,D,a9,J,E,by rw[← c.out],N,O⟩
/-- What is 1 over a fraction. -/
theorem km {y:Rat} (h:y≠0):y⁻¹ =mkRat (sgn (decide (y.num<0)) y.den) y.num.natAbs∧Nat.gcd y.den y.num.natAbs=1∧0<y.num.natAbs:=by
 have B:y.num≠0:=fun e=>h (Rat.num_eq_zero.1 e);refine⟨?_,by rw[bL];exact y.reduced,by omega⟩;rw[Rat.inv_def];rw[← Rat.divInt_ofNat,Rat.divInt_eq_divInt_iff B eK];unfold sgn;by_cases A:y.num<0
 ·simp only[A,decide_true,if_true];rw[show ((y.num.natAbs:Nat):Int)= -y.num from by omega,Int.mul_neg,Int.neg_mul]
 ·simp only[A,decide_false,aB,if_false];rw[show ((y.num.natAbs:Nat):Int)=y.num from by omega]
theorem qQ {y:Rat} {K:Nat} (h:y≠0) (hb:QB y K):QB y⁻¹ K:=by
 obtain⟨h1,h2,h3⟩:=km h;have C:=mk_cross h3 h1;obtain⟨A,B⟩:=rat_low h3 (by rw[iE];exact h2) C;unfold QB;rw[A,B,iE];exact⟨hb.2,hb.1⟩
theorem iL {q:Rat}:(q.num.sign==0)=decide (q=0):=by
 rw[Bool.eq_iff_iff];simp [Int.sign_eq_zero_iff_zero,Rat.num_eq_zero]
set_option maxHeartbeats 1000000 in
theorem q0I (w:World) (v u:Value) (x y:Rat) (K:Nat) (hK:K≤100000) (ee:1≤K) (hT:Tab w) (hx:QIs w v x) (hy:QIs w u y) (bx:QB x K) (o:QB y K):
  Calls Tryz.prog 30 #[v,u] w (gM w (if y=0 then 0 else x/y) (if y=0 then 5 else 0)):=by
 have L:Hid (∀ B,G w B→_):=fun B g=>kX B u y (hy.G g);have HB:Hid (∀ B,G w B→_):=fun B g=>iZ B u y (hy.G g);have HX:Hid (QIs w v x):=hx;obtain⟨a,k,c,a',k',c',rfl,dk,dl⟩:=hx;obtain⟨b,j,e,b',j',e',rfl,cb,dq⟩:=hy;by_cases m:y=0
 ·rw[if_pos m,if_pos m];have hz:(y.num.sign==0)=true:=by rw[iL,m];rfl
  generalize y.num.sign=z at *;obtain⟨s,hs⟩:∃ s,s=decide (x.num<0):=⟨_,rfl⟩;obtain⟨t,ht⟩:∃ t,t=decide (y.num<0):=⟨_,rfl⟩;rw[← ht] at L;rw[← hs,← ht];clear hs ht dk dl cb dq bx o m HB HX hT;go_enter Tryz.func30,Tryz.ntmps30;go_wp2_with fail;obtain⟨w0,i,g0,fp,R0,R1,R2⟩:=iJ w [.bool s,.slice a k c,.slice a' k' c'] [.bool t,.slice b j e,.slice b' j' e'] [.bool false,.slice none 0 0,.slice none 0 0] 29 29 29;rw[i];clear i;refine eJ (L.out w0 g0) ?_;rintro e B ⟨rfl,g1⟩;clear L;obtain⟨N,O,R,S,U,X⟩:=eX R2 (((g1)));go_wp2_with fail;have hT:Hid (Rec _ (w.heap.size+2) [.bool false,.slice none 0 0,.slice none 0 0]):=du (aM R2.out (g1));have g9:=Rec.h3 hT.out (aa g0 g1) eK;generalize (World.setCell (World.setCell (World.setCell B ⟨w.heap.size+2,0,none⟩ (.bool false)) ⟨w.heap.size+2,1,none⟩ (.slice none 0 0)) ⟨w.heap.size+2,2,none⟩ (.slice none 0 0))=w9 at *;obtain⟨cl,cm,cn,cr,cs,cx⟩:=eX hT (((ag _)));refine bodyPost_ret (v:= .tuple #[.agg #[.bool false,.slice none 0 0,.slice none 0 0],.int .i64 5]) (by simp [results,Tryz.results30,go_sem, *]) rfl ?_;exact⟨_,rfl,g9,iS w9⟩
 ·rw[if_neg m,if_neg m];obtain⟨i1,i2,i3⟩:=km m;have ib:=qQ m o;have hz:(y.num.sign==0)=false:=by rw[iL,decide_eq_false m]
  have cy:=o.1;obtain⟨s,hs⟩:∃ s,s=decide (x.num<0):=⟨_,rfl⟩;obtain⟨t,ht⟩:∃ t,t=decide (y.num<0):=⟨_,rfl⟩;have HS:Hid (∀ B M,Num B M y.den→_):=fun B M h1=>fO B M t y.den h1;have HF:Hid (∀ B M,G w B→WholeIs B M (sgn t y.den)→_):=fun B M g h1=>fK B M (.slice b j e) _ y.num.natAbs K y⁻¹ h1 (cb.G g) i3 cy (fun _=>by rw[iE];exact i2) (by rw[ht];exact i1);have HM:Hid (∀ B M,G w B→QIs B M y⁻¹ →Calls Tryz.prog 17 #[.agg #[.bool s,.slice a k c,.slice a' k' c'],M] B (RetQ B (x/y))):=fun B M g h1=>by
   rw[Rat.div_def];have hX:=HX.out;rw[← hs] at hX;exact q0H B _ M x y⁻¹ K hK ee (hT.G g) (hX.G g) h1 bx ib
  rw[← ht] at L HB;rw[← hs,← ht];generalize y.num.sign=z at *;obtain⟨d,hd⟩:∃ d,d=y.den:=⟨_,rfl⟩;rw[← hd] at HB HS HF;generalize sgn t d=yt at *;generalize y.num.natAbs=yn at *;obtain⟨yi,dr⟩:∃ yi,yi=y⁻¹ :=⟨_,rfl⟩;rw[← dr] at HF HM;generalize x/y=q at *;clear hd hs ht dr i1 i2 i3 ib cy dk dl cb dq bx o m HX hT;go_enter Tryz.func30,Tryz.ntmps30;go_wp2_with fail;obtain⟨w0,i,g0,fp,R0,R1,R2⟩:=iJ w [.bool s,.slice a k c,.slice a' k' c'] [.bool t,.slice b j e,.slice b' j' e'] [.bool false,.slice none 0 0,.slice none 0 0] 29 29 29;rw[i];clear i;refine eJ (L.out w0 g0) ?_;rintro e B ⟨rfl,g1⟩;clear L;have al:=aa g0 g1;have S0:Hid (Rec _ _ _):=aM R0.out (g1);have S1:Hid (Rec _ _ _):=aM R1.out (g1);have S2:Hid (Rec _ _ _):=aM R2.out (g1);clear R0 R1 R2 g0 g1;go_wp2_with fail;refine jy 11 1 [.is (.pointer (some ⟨w.heap.size+1,0,none⟩)),.is (.pointer (some ⟨w.heap.size+1,0,none⟩)),.is (.bool t),.is (.agg #[.bool t,.slice b j e,.slice b' j' e']),.any (fun v w'=>Num w' v (d)),.any (fun v w'=>WholeIs w' v (yt)),.is (.pointer (some ⟨w.heap.size+1,0,none⟩)),.is (.pointer (some ⟨w.heap.size+1,1,none⟩)),.is (.slice b j e),.any (fun v w'=>QIs w' v (yi)),.any (fun v w'=>NewRec B w' v ([.bool false,.slice none 0 0,.slice none 0 0]))] [some 11,some 12,some 13,some 14,some 15,some 16,some 17,some 18,some 19,some 20,some 6] ?_;intro v4 v5 v9 fr A hA;simp only[fg,Act.put,aj,au,av] at hA;subst hA;refine⟨?_,?_⟩
  ·skip
   refine ab rfl ?a1 (ab rfl ?a6 (ab rfl ?a7 (ab rfl ?b0 (ab rfl ?b3 (ab rfl ?b4 (ab rfl ?b1 (ab rfl ?o2_7 (ab rfl ?o2_8 (ab rfl ?b5 (ab rfl ?b2 (bQ)))))))))))
   case a1|a6|b1|o2_7=>
    exact iX
   case a7|b0|o2_8=>
    intro W hW hD K hK;clear hD;have ⟨em,en,ep⟩:=rc39 S1 hW;go_simp;exact hK.out _ _ ⟨_,rfl,ag _,rfl⟩
   ·intro W hW hD K hK;have hc:=hi9 (HB.out W (aa al hW));exact gH
   ·intro W hW hD K hK;have h4:=gL v4 4 hD;have hc:=hi9 (HS.out W v4 h4);exact gH
   ·intro W hW hD K hK;have h5:=gL v5 5 hD;have hc:=hi9 (HF.out W v5 (aa al hW) h5);exact gH
   ·intro W hW hD K hK;clear hD;go_simp;exact hK.out _ _ ⟨_,rfl,(ag _).alloc _,_,rfl,hW.size,Rec.new3 _ _ _ _ _⟩
  intro w2 g2 hH;have h9:=iW v9 9 hH;have ec:=iW fr 10 hH;clear hH;clear HS HF HB;obtain⟨nb,rfl,cz,ca⟩:=ec;have N0:Hid (Rec w2 nb [.bool false,.slice none 0 0,.slice none 0 0]):=ca;obtain⟨D,I,E,a9,J,F,rfl,Y,Z⟩:=h9;obtain⟨t9,C⟩:∃ t,t=decide (yi.num<0):=⟨_,rfl⟩;have hQ:QIs w2 (.agg #[.bool t9,.slice D I E,.slice a9 J F]) yi:=⟨D,I,E,a9,J,F,by rw[C],Y,Z⟩;have HQ:=hi9 (hQ.set3 (u1:= .bool t9) (u2:= .slice D I E) (u3:= .slice a9 J F) N0.out trivial trivial trivial);rw[← C];clear Y Z C ca hQ;obtain⟨N,O,R,S,U,X⟩:=eX N0 (((ag _)));refine wpAny_ready (rs:=[11]) eM fI ?_;refine AllReady.cons rfl (fun K hK=> ?_) AllReady.nil;go_simp;refine hK _ _ ?_;clear hK K N O R S U X;refine wpAny_done eM ?_ _;have N1:Hid (Rec _ nb [.bool t9,.slice D I E,.slice a9 J F]):=du N0.out;have g3:=Rec.g3 (b:=nb) (u:= .bool t9) (v:= .slice D I E) (x:= .slice a9 J F) g2 cz;generalize (((w2.setCell ⟨nb,0,none⟩ (.bool t9)).setCell ⟨nb,1,none⟩ (.slice D I E)).setCell ⟨nb,2,none⟩ (.slice a9 J F))=w3 at *;have ci:=aa al g3;have T0:Hid (Rec _ _ _):=aM S0.out (g3);have T2:Hid (Rec _ _ _):=aM S2.out (g3);have cc:=hi9 (HM.out w3 _ ci HQ.out);clear HM HQ S0 S1 S2 N0 g2 cz al g3;obtain⟨bn,bq,bs,bu,bv,bz⟩:=eX T0 (ag _);obtain⟨am,an,ao,ap,bi,bl⟩:=eX N1 (ag _);go_wp2_with fail;refine eJ cc.out ?_;intro e4 w4 hs;obtain⟨v21,rfl,g4,ed⟩:=hs;clear cc bn bq bs bu bv bz am an ao ap bi bl;obtain⟨D,I,E,a9,J,F,rfl,Y,Z⟩:=ed;have ds:Hid (Num w4 (.slice D I E) (q).num.natAbs):=Y;have ea:Hid (Num w4 (.slice a9 J F) (fT (q).den)):=Z
  obtain⟨t9,C⟩:∃ t,t=decide ((q).num<0):=⟨_,rfl⟩;rw[← C];have eb:Hid (t9=decide ((q).num<0)):=C;clear Y Z C;obtain⟨N,O,R,S,U,X⟩:=eX T2 (((g4)));have cd:Num _ _ _:=eT (u1:= .bool t9) (u2:= .slice D I E) (u3:= .slice a9 J F) ds.out (aM T2.out (g4)) trivial trivial trivial;have ce:Num _ _ _:=eT (u1:= .bool t9) (u2:= .slice D I E) (u3:= .slice a9 J F) ea.out (aM T2.out (g4)) trivial trivial trivial;go_wp2_with fail;have hT:Hid (Rec _ (w.heap.size+2) [.bool t9,.slice D I E,.slice a9 J F]):=du (aM T2.out (g4));have g9:=Rec.h3 hT.out (aa ci g4) eK;generalize (World.setCell (World.setCell (World.setCell w4 ⟨w.heap.size+2,0,none⟩ (.bool t9)) ⟨w.heap.size+2,1,none⟩ (.slice D I E)) ⟨w.heap.size+2,2,none⟩ (.slice a9 J F))=w9 at *;obtain⟨cl,cm,cn,cr,cs,cx⟩:=eX hT (((ag _)));refine bodyPost_ret (v:= .tuple #[.agg #[.bool t9,.slice D I E,.slice a9 J F],.int .i64 0]) (by simp [results,Tryz.results30,go_sem, *]) rfl ?_;exact⟨_,rfl,g9,D,I,E,a9,J,F,by rw[← eb.out],cd,ce⟩
theorem ph {z:Int} (h1: -9223372036854775808≤z) (h2:z<9223372036854775808):QB (z:Rat) 1:=⟨by show z.natAbs<_;omega,by show 1<_;omega⟩
theorem QIs.top' {w:World} {a:Option Addr} {k c:Nat} {z:Int} {t:Bool} (h:Num w (.slice a k c) z.natAbs) (A:t=decide (z<0)):WholeIs w (.agg #[.bool t,.slice a k c]) z:=⟨a,k,c,by rw[A],h⟩
theorem my (t:Bool) (n k:Nat):sgn t (n*k)=sgn t n*(k:Int):=by unfold sgn;cases t<;>simp [Int.neg_mul]
theorem jD (w:World) (a b:Int) (O:Tab w) (h1: -9223372036854775808≤a) (h2:a<9223372036854775808) (h3: -9223372036854775808≤b) (j:b<9223372036854775808):
  Calls Tryz.prog 6 #[.int .i64 a,.int .i64 b] w (gM w (if b=0 then 0 else (a:Rat)/b) (if b=0 then 5 else 0)):=by
 have m:Hid (∀ A,_):=fun A=>q08 A a h1 h2;have o:Hid (∀ A,_):=fun A=>q08 A b h3 j;have s:Hid (∀ A J v2,G w A→QIs A J (a:Rat)→QIs A v2 (b:Rat)→Calls Tryz.prog 30 #[J,v2] A (gM A (if b=0 then 0 else (a:Rat)/b) (if b=0 then 5 else 0))):=fun A J v2 g Y Z=>by
  have h:=q0I A J v2 a b 1 eK eK (O.G g) Y Z (ph h1 h2) (ph h3 j);have e:((b:Rat)=0)=(b=0):=by
   apply propext;constructor
   ·intro h;have:=congrArg Rat.num h;exact this
   ·intro h;rw[h];rfl
  simpa only[e] using h
 generalize (if b=0 then (5:Int) else 0)=cd at *;generalize (if b=0 then 0 else (a:Rat)/b)=q at *;clear h1 h2 h3 j O;go_enter Tryz.func6,Tryz.ntmps6;go_wp2_with fail;obtain⟨w0,W,g0,bz,X⟩:=fi w [.bool false,.slice none 0 0,.slice none 0 0] 29;rw[W];clear W;refine eJ (m.out w0) ?_;intro e A U;obtain⟨J,rfl,g1,Y⟩:=U;have y:Hid (QIs A J (a:Rat)):=Y;clear Y;go_wp2_with fail;refine eJ (o.out A) ?_;intro e w2 U;obtain⟨v2,rfl,g2,Z⟩:=U;have N:=aa g0 (aa g1 g2);have M:=hi9 (s.out w2 J v2 N (y.out.G g2) Z);clear Z y m o s;go_wp2_with fail;refine eJ M.out ?_;intro e k U;obtain⟨v3,rfl,g3,k3⟩:=U;clear M;obtain⟨B,F,C,a9,I,D,rfl,R,S⟩:=k3;have c:Hid (Num k (.slice B F C) (q).num.natAbs):=R;have d:Hid (Num k (.slice a9 I D) (fT (q).den)):=S;obtain⟨t9,E⟩:∃ t,t=decide ((q).num<0):=⟨_,rfl⟩;rw[← E];have i:Hid (t9=decide ((q).num<0)):=E;clear R S E;obtain⟨bl,bn,bq,bs,bu,bv⟩:=eX X (((aa g1 (aa g2 g3))));have K:Num _ _ _:=eT (u1:= .bool t9) (u2:= .slice B F C) (u3:= .slice a9 I D) c.out (aM X.out (aa g1 (aa g2 g3))) trivial trivial trivial;have L:Num _ _ _:=eT (u1:= .bool t9) (u2:= .slice B F C) (u3:= .slice a9 I D) d.out (aM X.out (aa g1 (aa g2 g3))) trivial trivial trivial;go_wp2_with fail;have O:Hid (Rec _ (w.heap.size) [.bool t9,.slice B F C,.slice a9 I D]):=du (aM X.out (aa g1 (aa g2 g3)));have g9:=Rec.h3 O.out (aa N g3) eK;generalize (World.setCell (World.setCell (World.setCell k ⟨w.heap.size,0,none⟩ (.bool t9)) ⟨w.heap.size,1,none⟩ (.slice B F C)) ⟨w.heap.size,2,none⟩ (.slice a9 I D))=w9 at *
 obtain⟨al,am,an,ao,ap,bi⟩:=eX O (((ag _)));refine bodyPost_ret (v:= .tuple #[.agg #[.bool t9,.slice B F C,.slice a9 I D],.int .i64 cd]) (by simp [results,Tryz.results6,go_sem, *]) rfl ?_;exact⟨_,rfl,g9,B,F,C,a9,I,D,by rw[← i.out],K,L⟩
set_option maxHeartbeats 1000000 in
theorem q39 (w:World) (v u:Value) (x y:Rat) (K:Nat) (hK:K≤100000) (hx:QIs w v x) (hy:QIs w u y) (bx:QB x K) (F:QB y K):
  Calls Tryz.prog 23 #[v,u] w fun e I=>e= .returned (.int .i64 (x.num*y.den-y.num*x.den).sign)∧G w I:=by
 have J:Hid (∀ C,G w C→_):=fun C g=>iZ C v x (hx.G g);have L:Hid (∀ C,G w C→_):=fun C g=>iZ C u y (hy.G g);obtain⟨a,k,c,a',k',c',rfl,U,ap⟩:=hx;obtain⟨b,j,e,b',j',e',rfl,X,bi⟩:=hy;obtain⟨s,Z⟩:∃ s,s=decide (x.num<0):=⟨_,rfl⟩;obtain⟨t,d⟩:∃ t,t=decide (y.num<0):=⟨_,rfl⟩;have O:sgn s x.num.natAbs=x.num:=by rw[Z];exact gu _
 have R:sgn t y.num.natAbs=y.num:=by rw[d];exact gu _
 have M:Hid (∀ C D,G w C→Num C D y.den→Calls Tryz.prog 69 #[.agg #[.bool s,.slice a k c],D] C (fj C (x.num*y.den))):=fun C D g h=>by
  have h:=kf C (.agg #[.bool s,.slice a k c]) D s _ _ K eK ⟨a,k,c,rfl,U.G g⟩ h bx.1 F.2;rw[O] at h;exact h
 have N:Hid (∀ C D,G w C→Num C D x.den→Calls Tryz.prog 69 #[.agg #[.bool t,.slice b j e],D] C (fj C (y.num*x.den))):=fun C D g h=>by
  have h:=kf C (.agg #[.bool t,.slice b j e]) D t _ _ K eK ⟨b,j,e,rfl,X.G g⟩ h F.1 bx.2;rw[R] at h;exact h
 have q1:(x.num*y.den).natAbs<2^(64*(K+K)):=by rw[bG];exact fW bx.1 F.2
 have q2:(y.num*x.den).natAbs<2^(64*(K+K)):=by rw[bG];exact fW F.1 bx.2
 rw[← Z] at J;rw[← d] at L;rw[← Z,← d];obtain⟨p,hp⟩:∃ p,p=x.den:=⟨_,rfl⟩;obtain⟨r,hr⟩:∃ r,r=y.den:=⟨_,rfl⟩;rw[← hp] at J N q2 ⊢;rw[← hr] at L M q1 ⊢;generalize x.num*(r:Int)=A at *;generalize y.num*(p:Int)=B at *;have HM:Hid (∀ C D v2,WholeIs C D A→WholeIs C v2 B→Calls Tryz.prog 56 #[D,v2] C (fj C (A-B))):=fun C D v2 h1 h2=>by
  have h:=ow C D v2 _ _ _ _ (K+K) eK h1 h2 q1 q2;rw[gu,gu] at h;exact h
 have HS:Hid (∀ C D,WholeIs C D (A-B)→_):=fun C D h=>nj C D (A-B) h;generalize A-B=z at *;generalize z.sign=sz at *;clear hp hr q1 q2 O R Z d bx F U ap X bi;go_enter Tryz.func23,Tryz.ntmps23;go_wp2_with fail;obtain⟨w0,S,g0,bl,R0,R1⟩:=iy w [.bool s,.slice a k c,.slice a' k' c'] [.bool t,.slice b j e,.slice b' j' e'] 29 29;rw[S];clear S;refine jy 13 0 [.is (.pointer (some ⟨w.heap.size,0,none⟩)),.is (.agg #[.bool s,.slice a k c]),.is (.agg #[.bool t,.slice b j e,.slice b' j' e']),.any (fun v I=>Num I v (r)),.any (fun v I=>WholeIs I v (A)),.is (.pointer (some ⟨w.heap.size+1,0,none⟩)),.is (.agg #[.bool t,.slice b j e]),.is (.agg #[.bool s,.slice a k c,.slice a' k' c']),.any (fun v I=>Num I v (p)),.any (fun v I=>WholeIs I v (B)),.any (fun v I=>WholeIs I v (z)),.is (.int .i64 sz),.is (.int .i64 sz)] [some 5,some 6,some 7,some 8,some 9,some 10,some 11,some 12,some 13,some 14,some 15,some 16,some 4] ?_;intro v3 v4 v8 v9 Y A hA;simp only[fg,Act.put,aj,au,av] at hA;subst hA;refine⟨?_,?_⟩
 ·skip
  refine ab rfl ?a1 (ab rfl ?a6 (ab rfl ?a7 (ab rfl ?b3 (ab rfl ?b4 (ab rfl ?a8 (ab rfl ?b0 (ab rfl ?o1_7 (ab rfl ?b5 (ab rfl ?b6 (ab rfl ?b1 (ab rfl ?b2 (ab rfl ?o1_12 (bQ)))))))))))))
  case a1|a8|o1_12=>
   exact iX
  case a6|a7|b0|o1_7=>
   intro W E hD K hK;clear hD;have ⟨m,o,al⟩:=rc39 R0 E;have ⟨am,an,ao⟩:=rc39 R1 E;go_simp;exact hK.out _ _ ⟨_,rfl,ag _,rfl⟩
  ·intro W E hD K hK;have hc:=hi9 (L.out W (aa g0 E));exact gH
  ·intro W E hD K hK;have h3:=gL v3 3 hD;have hc:=hi9 (M.out W v3 (aa g0 E) h3);exact gH
  ·intro W E hD K hK;have hc:=hi9 (J.out W (aa g0 E));exact gH
  ·intro W E hD K hK;have h8:=gL v8 8 hD;have hc:=hi9 (N.out W v8 (aa g0 E) h8);exact gH
  ·intro W E hD K hK;have h4:=gL v4 4 hD;have h9:=gL v9 9 hD;have hc:=hi9 (HM.out W v4 v9 h4 h9);exact gH
  ·intro W E hD K hK;have i:=gL Y 10 hD;have hc:=hi9 (HS.out W Y i);exact rX
 intro C g1 hH;clear hH;refine wpAny_done eM ?_ _;clear HM HS M N J L R0 R1;go_wp2_with fail;go_ret;exact⟨rfl,aa g0 g1⟩
/-- A whole number times a power of two. -/
def mk2 (m e:Int):Rat:=mkRat (m*((2^e.toNat:Nat):Int)) (2^(-e).toNat)
set_option maxHeartbeats 1000000 in
theorem kB (w:World) (m e:Int) (h1: -9223372036854775808≤m) (h2:m<9223372036854775808) (h3: -1000000≤e) (h4:e≤1000000) (hm:m=0∨m%2=1):
  Calls Tryz.prog 81 #[.int .i64 m,.int .i64 e] w (RetQ w (mk2 m e)):=by
 have HW:Hid (∀ B,_):=fun B=>kF B m h1 h2;have bq:m.natAbs<2^(64*1):=by omega
 by_cases he:e<0
 ·obtain⟨n,rfl⟩:∃ n:Nat,e= -(n:Int):=⟨e.natAbs,by omega⟩;have al:mk2 m (-(n:Int))=mkRat m (2^n):=by
   unfold mk2;rw[show (-(n:Int)).toNat=0 from by omega,show (- -(n:Int)).toNat=n from by omega];simp
  rw[al];obtain⟨K,hK⟩:∃ K,K=15626:=⟨_,rfl⟩;have ce:2^n<2^(64*K):=cF eK eK;have HL:Hid (∀ B C,Num B C 1→Calls Tryz.prog 118 #[C,.int .i64 (n:Int)] B (eU B (2^n))):=fun B C hv=>by
   have h:=iC B C 1 n 1 eK eK hv eK;rw[b9] at h;exact h
  have am:m≠0→Nat.gcd m.natAbs (2^n)=1:=fun h0=>by
   have h5:m.natAbs=2*(m.natAbs/2)+1:=by omega
   rw[h5];exact qd _ _
  have HF:Hid (∀ B C v2,WholeIs B C m→Num B v2 (2^n)→_):=fun B C v2 k1 k2=>fK B C v2 m (2^n) K (mkRat m (2^n)) k1 k2 (af n) ce am rfl;have hd:decide (-(n:Int)<0)=true:=decide_eq_true he;have cr: - -(n:Int)=n:=by omega
  have cs:IntKind.i64.wrap (n:Int)=n:=by rw[IntKind.wrap_i64];omega
  have hb:(n:Int)≤1000000:=by omega
  have cn:(1:Int)≤n:=by omega
  generalize -(n:Int)=e at *;generalize mkRat m (2^n)=q at *;generalize 2^n=P at *;clear al ce am bq hm h1 h2 he hK;go_enter Tryz.func81,Tryz.ntmps81;go_wp2_with fail;obtain⟨w0,D,g0,cl,U⟩:=fi w [.bool false,.slice none 0 0,.slice none 0 0] 29;rw[D];clear D;refine eJ (HW.out w0) ?_;intro e2 B hs;obtain⟨C,rfl,g1,⟨a,k,c,rfl,k1⟩⟩:=hs;obtain⟨s,hs⟩:∃ s,s=decide (m<0):=⟨_,rfl⟩;have K1:Hid (Num B (.slice a k c) m.natAbs):=k1;have bs:Hid (s=decide (m<0)):=hs;rw[← hs];clear k1 hs HW;go_wp2_with fail;have S0:Hid (Rec _ _ _):=aM U.out (g1);have bi:=aa g0 g1;clear U g0 g1;obtain⟨w2,D,g2,cm,U⟩:=fi B [.bool s,.slice a k c] 27;rw[D];clear D;refine jy 6 1 [.is (.agg #[.bool s,.slice a k c]),.any (fun v N=>Num N v (1)),.is (.int .i64 e),.is (.int .i64 n),.any (fun v N=>Num N v (P)),.any (fun v N=>QIs N v (q))] [some 10,some 11,some 12,some 13,some 14,some 15] ?_;intro C v4 v5 A hA;simp only[fg,Act.put,aj,au,av] at hA;subst hA;refine⟨?_,?_⟩
  ·skip
   refine ab rfl ?a1 (ab rfl ?b2 (ab rfl ?a6 (ab rfl ?o2_3 (ab rfl ?b3 (ab rfl ?b4 (bQ))))))
   case a6|o2_3=>
    exact iX
   case a1=>
    intro W O hD K hK;clear hD;have ⟨bl,bn⟩:=rc29 U O;go_simp;exact hK.out _ _ ⟨_,rfl,ag _,rfl⟩
   ·intro W O hD K hK;clear hD;go_simp;exact hK.out _ _ ⟨_,rfl,(ag _).alloc _,iG ff ff⟩
   ·intro W O hD K hK;have h1:=gL C 1 hD;have hc:=hi9 (HL.out W C h1);exact gH
   ·intro W O hD K hK;have h4:=gL v4 4 hD;have hc:=hi9 (HF.out W (.agg #[.bool s,.slice a k c]) v4 (QIs.top' (K1.out.G (aa g2 O)) bs.out) h4);exact gH
  intro w3 g3 hH;have h5:=iW v5 5 hH;clear hH;clear HL HF U K1 bs;have g13:=aa g2 g3;clear g2 g3;obtain⟨E,L,F,a9,M,I,rfl,o,y⟩:=h5;have an:Hid (Num w3 (.slice E L F) (q).num.natAbs):=o;have ao:Hid (Num w3 (.slice a9 M I) (fT (q).den)):=y;obtain⟨t9,J⟩:∃ t,t=decide ((q).num<0):=⟨_,rfl⟩;rw[← J];have ap:Hid (t9=decide ((q).num<0)):=J;clear o y J;obtain⟨X,Y,Z,d,i,j⟩:=eX S0 (g13);refine wpAny_ready (rs:=[6]) eM fI ?_;refine AllReady.cons rfl (fun K hK=> ?_) AllReady.nil;go_simp;refine hK _ _ ?_;clear hK K X Y Z d i j;refine wpAny_done eM ?_ _;have R:Num _ _ _:=eT (u1:= .bool t9) (u2:= .slice E L F) (u3:= .slice a9 M I) an.out (aM S0.out (g13)) trivial trivial trivial;have S:Num _ _ _:=eT (u1:= .bool t9) (u2:= .slice E L F) (u3:= .slice a9 M I) ao.out (aM S0.out (g13)) trivial trivial trivial;go_wp2_with fail;have hT:Hid (Rec _ (w.heap.size) [.bool t9,.slice E L F,.slice a9 M I]):=du (aM S0.out (g13));have g9:=Rec.h3 hT.out (aa bi g13) eK;generalize (World.setCell (World.setCell (World.setCell w3 ⟨w.heap.size,0,none⟩ (.bool t9)) ⟨w.heap.size,1,none⟩ (.slice E L F)) ⟨w.heap.size,2,none⟩ (.slice a9 M I))=w9 at *;obtain⟨bv,bz,ca,cb,cc,cd⟩:=eX hT (((ag _)));refine bodyPost_ret (v:= .agg #[.bool t9,.slice E L F,.slice a9 M I]) (by simp [results,Tryz.results81,go_sem, *]) rfl ?_;exact⟨_,rfl,g9,E,L,F,a9,M,I,by rw[← ap.out],R,S⟩
 ·obtain⟨n,rfl⟩:∃ n:Nat,e=(n:Int):=⟨e.natAbs,by omega⟩;have al:mk2 m (n:Int)=((m*((2^n:Nat):Int):Int):Rat):=by
   unfold mk2;rw[show (-(n:Int)).toNat=0 from by omega,show (n:Int).toNat=n from by omega,ir]
  rw[al];obtain⟨t,ht⟩:∃ t,t=decide (m<0):=⟨_,rfl⟩;have HL:Hid (∀ B C,Num B C m.natAbs→_):=fun B C hv=>iC B C m.natAbs n 1 eK eK hv bq;have ci:sgn t (m.natAbs*2^n)=m*((2^n:Nat):Int):=by
   have h:=gu m;rw[← ht] at h;rw[my,h]
  have HS:Hid (∀ B C,Num B C (m.natAbs*2^n)→Calls Tryz.prog 62 #[.bool t,C] B (fj B (m*((2^n:Nat):Int)))):=fun B C hv=>by
   have h:=fO B C t _ hv;rw[ci] at h;exact h
  have HF:Hid (∀ B C v2,WholeIs B C (m*((2^n:Nat):Int))→Num B v2 1→_):=fun B C v2 k1 k2=>fK B C v2 (m*((2^n:Nat):Int)) 1 1 ((m*((2^n:Nat):Int):Int):Rat) k1 k2 eK eK (fun _=>cS _) (ir _);have hd:decide ((n:Int)<0)=false:=by simp
  have hb:(n:Int)≤1000000:=by omega
  generalize ((m*((2^n:Nat):Int):Int):Rat)=q at *;generalize m*((2^n:Nat):Int)=z at *;generalize m.natAbs*2^n=P at *;have bu:Hid (t=decide (m<0)):=ht;clear al bq hm h1 h2 he h3 h4 ci ht;go_enter Tryz.func81,Tryz.ntmps81;go_wp2_with fail;obtain⟨w0,D,g0,cl,U⟩:=fi w [.bool false,.slice none 0 0,.slice none 0 0] 29;rw[D];clear D;refine eJ (HW.out w0) ?_;intro e2 B hs;obtain⟨C,rfl,g1,⟨a,k,c,rfl,k1⟩⟩:=hs;have K1:Hid (Num B (.slice a k c) m.natAbs):=k1;rw[← bu.out];clear k1 HW bu;go_wp2_with fail;have S0:Hid (Rec _ _ _):=aM U.out (g1);have bi:=aa g0 g1;clear U g0 g1;obtain⟨w2,D,g2,cm,U⟩:=fi B [.bool t,.slice a k c] 27;rw[D];clear D;refine jy 9 1 [.is (.pointer (some ⟨B.heap.size,0,none⟩)),.is (.bool t),.is (.pointer (some ⟨B.heap.size,1,none⟩)),.is (.slice a k c),.is (.int .i64 n),.any (fun v N=>Num N v (P)),.any (fun v N=>WholeIs N v (z)),.any (fun v N=>Num N v (1)),.any (fun v N=>QIs N v (q))] [some 16,some 17,some 18,some 19,some 20,some 21,some 22,some 23,some 24] ?_;intro v5 v6 v7 v8 A hA;simp only[fg,Act.put,aj,au,av] at hA;subst hA;refine⟨?_,?_⟩
  ·skip
   refine ab rfl ?a7 (ab rfl ?b0 (ab rfl ?b1 (ab rfl ?o3_3 (ab rfl ?o3_4 (ab rfl ?b5 (ab rfl ?b6 (ab rfl ?b7 (ab rfl ?b8 (bQ)))))))))
   case a7|b1|o3_4=>
    exact iX
   case b0|o3_3=>
    intro W O hD K hK;clear hD;have ⟨bl,bn⟩:=rc29 U O;go_simp;exact hK.out _ _ ⟨_,rfl,ag _,rfl⟩
   ·intro W O hD K hK;have hc:=hi9 (HL.out W (.slice a k c) (K1.out.G (aa g2 O)));exact gH
   ·intro W O hD K hK;have h5:=gL v5 5 hD;have hc:=hi9 (HS.out W v5 h5);exact gH
   ·intro W O hD K hK;clear hD;go_simp;exact hK.out _ _ ⟨_,rfl,(ag _).alloc _,iG ff ff⟩
   ·intro W O hD K hK;have h6:=gL v6 6 hD;have h7:=gL v7 7 hD;have hc:=hi9 (HF.out W v6 v7 h6 h7);exact gH
  intro w3 g3 hH;have h8:=iW v8 8 hH;clear hH;clear HL HF HS U K1;have g13:=aa g2 g3;clear g2 g3;obtain⟨E,L,F,a9,M,I,rfl,o,y⟩:=h8;have an:Hid (Num w3 (.slice E L F) (q).num.natAbs):=o;have ao:Hid (Num w3 (.slice a9 M I) (fT (q).den)):=y;obtain⟨t9,J⟩:∃ t,t=decide ((q).num<0):=⟨_,rfl⟩;rw[← J];have ap:Hid (t9=decide ((q).num<0)):=J;clear o y J;obtain⟨X,Y,Z,d,i,j⟩:=eX S0 (g13);refine wpAny_ready (rs:=[9]) eM fI ?_;refine AllReady.cons rfl (fun K hK=> ?_) AllReady.nil;go_simp;refine hK _ _ ?_;clear hK K X Y Z d i j;refine wpAny_done eM ?_ _;have R:Num _ _ _:=eT (u1:= .bool t9) (u2:= .slice E L F) (u3:= .slice a9 M I) an.out (aM S0.out (g13)) trivial trivial trivial;have S:Num _ _ _:=eT (u1:= .bool t9) (u2:= .slice E L F) (u3:= .slice a9 M I) ao.out (aM S0.out (g13)) trivial trivial trivial;go_wp2_with fail;have hT:Hid (Rec _ (w.heap.size) [.bool t9,.slice E L F,.slice a9 M I]):=du (aM S0.out (g13));have g9:=Rec.h3 hT.out (aa bi g13) eK;generalize (World.setCell (World.setCell (World.setCell w3 ⟨w.heap.size,0,none⟩ (.bool t9)) ⟨w.heap.size,1,none⟩ (.slice E L F)) ⟨w.heap.size,2,none⟩ (.slice a9 M I))=w9 at *;obtain⟨bv,bz,ca,cb,cc,cd⟩:=eX hT (((ag _)));refine bodyPost_ret (v:= .agg #[.bool t9,.slice E L F,.slice a9 M I]) (by simp [results,Tryz.results81,go_sem, *]) rfl ?_;exact⟨_,rfl,g9,E,L,F,a9,M,I,by rw[← ap.out],R,S⟩
theorem q3T (w:World) (e:Int) (h3: -5000≤e) (h4:e≤5000):
  Calls Tryz.prog 85 #[.int .i64 e] w (gM w (mk2 1 e) 0):=by
 have W:Hid (∀ I,_):=fun I=>kB I 1 e eK eK eK eK (Or.inr rfl);generalize mk2 1 e=q at *;have h5:decide (e< -5000)=false:=decide_eq_false eK;have h6:decide (5000<e)=false:=decide_eq_false eK;clear h3 h4;go_enter Tryz.func85,Tryz.ntmps85;go_wp2_with fail;obtain⟨w0,N,g0,al,O⟩:=fi w [.bool false,.slice none 0 0,.slice none 0 0] 29;rw[N];clear N;refine eJ (W.out w0) ?_;intro e2 I hs;obtain⟨v1,rfl,g1,k1⟩:=hs;clear W;obtain⟨A,E,B,a9,F,C,rfl,L,M⟩:=k1;have R:Hid (Num I (.slice A E B) (q).num.natAbs):=L;have S:Hid (Num I (.slice a9 F C) (fT (q).den)):=M;obtain⟨t9,D⟩:∃ t,t=decide ((q).num<0):=⟨_,rfl⟩;rw[← D];have U:Hid (t9=decide ((q).num<0)):=D;clear L M D;obtain⟨j,k,m,o,s,y⟩:=eX O (((g1)));have J:Num _ _ _:=eT (u1:= .bool t9) (u2:= .slice A E B) (u3:= .slice a9 F C) R.out (aM O.out (g1)) trivial trivial trivial;have K:Num _ _ _:=eT (u1:= .bool t9) (u2:= .slice A E B) (u3:= .slice a9 F C) S.out (aM O.out (g1)) trivial trivial trivial;go_wp2_with fail;have hT:Hid (Rec _ (w.heap.size) [.bool t9,.slice A E B,.slice a9 F C]):=du (aM O.out (g1));have g9:=Rec.h3 hT.out (aa g0 g1) eK;generalize (World.setCell (World.setCell (World.setCell I ⟨w.heap.size,0,none⟩ (.bool t9)) ⟨w.heap.size,1,none⟩ (.slice A E B)) ⟨w.heap.size,2,none⟩ (.slice a9 F C))=w9 at *;obtain⟨X,Y,Z,c,d,i⟩:=eX hT (((ag _)));refine bodyPost_ret (v:= .tuple #[.agg #[.bool t9,.slice A E B,.slice a9 F C],.int .i64 0]) (by simp [results,Tryz.results85,go_sem, *]) rfl ?_;exact⟨_,rfl,g9,A,E,B,a9,F,C,by rw[← U.out],J,K⟩
theorem rq (w:World) (e:Int) (h:e< -5000∨5000<e):
  Calls Tryz.prog 85 #[.int .i64 e] w (gM w 0 3):=by
 by_cases h1:e< -5000
 ·have A:decide (e< -5000)=true:=decide_eq_true h1;clear h h1;go_enter Tryz.func85,Tryz.ntmps85;go_wp2_with fail;refine bodyPost_ret (v:= .tuple #[.agg #[.bool false,.slice none 0 0,.slice none 0 0],.int .i64 3]) (by simp [results,Tryz.results85,go_sem, *]) rfl ?_;exact⟨_,rfl,(ag _).alloc _,iS _⟩
 ·have A:decide (e< -5000)=false:=decide_eq_false h1;have h6:decide (5000<e)=true:=decide_eq_true eK;clear h h1;go_enter Tryz.func85,Tryz.ntmps85;go_wp2_with fail;refine bodyPost_ret (v:= .tuple #[.agg #[.bool false,.slice none 0 0,.slice none 0 0],.int .i64 3]) (by simp [results,Tryz.results85,go_sem, *]) rfl ?_;exact⟨_,rfl,(ag _).alloc _,iS _⟩
theorem ja {w:World} {v:Value} {n b i:Nat} {x y u:Value} (h:Num w v n) (r:Rec w b [x,y]) (C:gW x) (D:gW y):Num (w.setCell ⟨b,i,none⟩ u) v n:=
 jo h r (by intro z A;simp at A;rcases A with rfl|rfl<;>assumption) _ (fun i k hi=>by
  rw[World.cell?_setCell_other _ _ _ _ (by intro e;injection e with B;exact hi B.symm)]) (by simp [World.setCell])
theorem q3i {w:World} {b c:Nat} {x y x' y' A:Value} (h:Rec w b [x,y]) (h2:Rec w c [x',y',A]):b≠c:=by
 intro e;subst e;obtain⟨t,h⟩:=h;obtain⟨t2,h2⟩:=h2;rw[h] at h2;simp at h2
/-- A sum of fractions over one bar: s divides both bars, r the sum above and s. -/
theorem q0d {x y:Rat} {op:Int→Int→Int} {z:Rat} (j:z=mkRat (op (x.num*y.den) (y.num*x.den)) (x.den*y.den)) (K:∀ a b k:Int,op a b*k=op (a*k) (b*k))
  {s r:Nat} (M:s=Nat.gcd x.den y.den) {T:Int} (O:T=op (x.num*((y.den/s:Nat):Int)) (y.num*((x.den/s:Nat):Int))) (L:r=Nat.gcd T.natAbs s) (t:Bool) (d:t=decide (T<0)):
  z=mkRat (sgn t (T.natAbs/r)) (x.den/s*(y.den/s)*(s/r)):=by
 have N:=x.den_pos;have i:=y.den_pos;have A:0<s:=by rw[M];exact Nat.gcd_pos_of_pos_left _ N
 have D:0<r:=by rw[L];exact ch _ A
 obtain⟨a,I⟩:s∣x.den:=by rw[M];exact bI _ _
 obtain⟨b,hb⟩:s∣y.den:=by rw[M];exact bD _ _
 obtain⟨c,R⟩:r∣T.natAbs:=by rw[L];exact bI _ _
 obtain⟨e,S⟩:r∣s:=by rw[L];exact bD _ _
 have U:x.den/s=a:=by rw[I];exact bY _ A
 have W:y.den/s=b:=by rw[hb];exact bY _ A
 have X:T.natAbs/r=c:=by rw[R];exact bY _ D
 have Y:s/r=e:=by rw[S];exact bY _ D
 rw[U,W] at O ⊢;rw[X,Y];have B:a≠0:=by rintro rfl;omega
 have C:b≠0:=by rintro rfl;omega
 have J:e≠0:=by rintro rfl;omega
 have F:T=sgn t c*(r:Int):=by
  have h:=gu T;rw[← d,R,aI,my] at h;exact h.symm
 have E:op (x.num*y.den) (y.num*x.den)=T*(s:Int):=by
  rw[O,K,I,hb]
  congr 1<;>(rw[aL];ac_rfl)
 rw[j,E,F,I,hb];rw[dX (bV (bV eK B) (bV eK C)) (bV (bV B C) J)];have Z:(s:Int)=r*e:=by rw[S,aL]
 simp only[aL];rw[Z]
 ac_rfl
theorem q0c {x y:Rat} {op:Int→Int→Int} (B:∀ p q g:Int,g∣q→g∣op p q→g∣p) (C:∀ p q g:Int,g∣p→g∣op p q→g∣q)
  {s r:Nat} (E:s=Nat.gcd x.den y.den) {T:Int} (W:T=op (x.num*((y.den/s:Nat):Int)) (y.num*((x.den/s:Nat):Int))) (K:r=Nat.gcd T.natAbs s):
  Nat.gcd (T.natAbs/r) (x.den/s*(y.den/s)*(s/r))=1:=by
 have N:=x.den_pos;have S:=y.den_pos;have D:0<s:=by rw[E];exact Nat.gcd_pos_of_pos_left _ N
 have Y:0<r:=by rw[K];exact ch _ D
 have O:s∣x.den:=by rw[E];exact bI _ _
 have U:s∣y.den:=by rw[E];exact bD _ _
 have A:Nat.gcd (x.den/s) (y.den/s)=1:=by rw[E];exact kR S
 have L:r∣T.natAbs:=by rw[K];exact bI _ _
 have J:Nat.gcd (T.natAbs/r) (s/r)=1:=by rw[K];exact kR D
 have M:x.den/s∣x.den:=dy O;have R:y.den/s∣y.den:=dy U;have key:∀ (n d e:Nat),Nat.gcd n d=1→Nat.gcd d e=1→Nat.gcd (n*e) d=1:=fun n d e h1 h2=>Nat.Coprime.mul_left h1 (by show Nat.gcd e d=1;rw[bL];exact h2);have F:Nat.gcd T.natAbs (x.den/s)=1:=by
  refine Nat.eq_one_of_dvd_one ?_;have g1:((Nat.gcd T.natAbs (x.den/s):Nat):Int)∣T:=er.2 (bI _ _);have g2:Nat.gcd T.natAbs (x.den/s)∣x.den/s:=bD _ _;generalize Nat.gcd T.natAbs (x.den/s)=g at *;rw[W] at g1;have g3:=B _ _ _ (dm (bZ.2 g2) (Int.dvd_mul_left _ _)) g1;have g4:=er.1 g3;rw[bG,ar] at g4;have g5:=key x.num.natAbs (x.den/s) (y.den/s) (jm x.reduced (Nat.dvd_refl _) M) A;rw[← g5];exact Nat.dvd_gcd g4 g2
 have I:Nat.gcd T.natAbs (y.den/s)=1:=by
  refine Nat.eq_one_of_dvd_one ?_;have g1:((Nat.gcd T.natAbs (y.den/s):Nat):Int)∣T:=er.2 (bI _ _);have g2:Nat.gcd T.natAbs (y.den/s)∣y.den/s:=bD _ _;generalize Nat.gcd T.natAbs (y.den/s)=g at *;rw[W] at g1;have g3:=C _ _ _ (dm (bZ.2 g2) (Int.dvd_mul_left _ _)) g1;have g4:=er.1 g3;rw[bG,ar] at g4;have g5:=key y.num.natAbs (y.den/s) (x.den/s) (jm y.reduced (Nat.dvd_refl _) R) (by rw[bL];exact A);rw[← g5];exact Nat.dvd_gcd g4 g2
 have X:T.natAbs/r∣T.natAbs:=dy L;exact dB (dB (jm F X (Nat.dvd_refl _)) (jm I X (Nat.dvd_refl _))) J
set_option maxHeartbeats 2000000 in
theorem mh (w:World) (v u:Value) (x y:Rat) (K:Nat) (hK:K≤40000) (cc:1≤K) (Z:Tab w) (hx:QIs w v x) (hy:QIs w u y) (bx:QB x K) (m:QB y K) (FR:Nat) (op:Int→Int→Int) (z:Rat)
  (hz:z=mkRat (op (x.num*y.den) (y.num*x.den)) (x.den*y.den)) (gz:∀ a b k:Int,op a b*k=op (a*k) (b*k)) (ci:∀ p q g:Int,g∣q→g∣op p q→g∣p) (cl:∀ p q g:Int,g∣p→g∣op p q→g∣q) (gl:∀ p q:Int,(op p q).natAbs≤p.natAbs+q.natAbs)
  (gf:∀ C D v2 (X Y:Int),X.natAbs<2^(64*(K+K))→Y.natAbs<2^(64*(K+K))→WholeIs C D X→WholeIs C v2 Y→Calls Tryz.prog FR #[D,v2] C (fj C (op X Y))) (hE:∀ args w,(callFunc FR args).run Tryz.prog w= .ok (.enter FR args) w):
  Calls Tryz.prog 51 #[v,u,.func (.func FR) #[] #[]] w (RetQ w z):=by
 have al:Hid (∀ C,G w C→_):=fun C g=>iZ C v x (hx.G g);have am:Hid (∀ C,G w C→_):=fun C g=>iZ C u y (hy.G g);obtain⟨a,k,c,a',k',c',rfl,he,ky⟩:=hx;obtain⟨b,j,e,b',j',e',rfl,hf,la⟩:=hy;have ce:=x.den_pos;have hg:=y.den_pos;obtain⟨s,i⟩:∃ s,s=Nat.gcd x.den y.den:=⟨_,rfl⟩;have d:0<s:=by rw[i];exact Nat.gcd_pos_of_pos_left _ ce
 have U:s<2^(64*K):=aq (by rw[i];exact Nat.gcd_le_left _ ce) bx.2;obtain⟨T,hT⟩:∃ T:Int,T=op (x.num*((y.den/s:Nat):Int)) (y.num*((x.den/s:Nat):Int)):=⟨_,rfl⟩;obtain⟨r,hr⟩:∃ r,r=Nat.gcd T.natAbs s:=⟨_,rfl⟩;obtain⟨t,ht⟩:∃ t,t=decide (T<0):=⟨_,rfl⟩;have bs:0<r:=by rw[hr];exact ch _ d
 have cd:r≤s:=by rw[hr];exact dZ _ d
 have bv:=q0d (x:=x) (y:=y) (op:=op) (z:=z) hz gz i hT hr t ht;have bn:=q0c (x:=x) (y:=y) (op:=op) ci cl i hT hr;have cm:sgn (decide (x.num<0)) x.num.natAbs=x.num:=gu _;have cn:sgn (decide (y.num<0)) y.num.natAbs=y.num:=gu _;obtain⟨p,hp⟩:∃ p,p=x.den:=⟨_,rfl⟩;obtain⟨q,hq⟩:∃ q,q=y.den:=⟨_,rfl⟩;obtain⟨A,S⟩:∃ A,A=x.den/s:=⟨_,rfl⟩;obtain⟨B,hB⟩:∃ B,B=y.den/s:=⟨_,rfl⟩;have bA:A<2^(64*K):=aq (by rw[S];exact aN _ _) bx.2;have bB:B<2^(64*K):=aq (by rw[hB];exact aN _ _) m.2;have A0:0<A:=by rw[S];exact dM (by rw[i];exact Nat.gcd_le_left _ ce) d
 have B0:0<B:=by rw[hB];exact dM (by rw[i];exact dZ _ hg) d
 have dr:Hid (∀ C D v2,G w C→Num C D p→Num C v2 q→Calls Tryz.prog 58 #[D,v2] C (eU C s)):=fun C D v2 g h1 h2=>by
  rw[i,← hp,← hq];exact iO C D v2 p q K eK cc (Z.G g) h1 h2 (by rw[hp];exact bx.2) (by rw[hq];exact m.2)
 have em:Hid (∀ C D v2,G w C→Num C D p→Num C v2 s→Calls Tryz.prog 60 #[D,v2] C (eU C A)):=fun C D v2 g1 h1 h2=>by
  rw[S,← hp];exact je C D v2 p s K eK cc (Z.G g1) h1 h2 (by rw[hp];exact bx.2) U d
 have en:Hid (∀ C D v2,G w C→Num C D q→Num C v2 s→Calls Tryz.prog 60 #[D,v2] C (eU C B)):=fun C D v2 g1 h1 h2=>by
  rw[hB,← hq];exact je C D v2 q s K eK cc (Z.G g1) h1 h2 (by rw[hq];exact m.2) U d
 rw[← S,← hB] at hT bv bn;have bz:Hid (∀ C D,G w C→Num C D B→Calls Tryz.prog 69 #[.agg #[.bool (decide (x.num<0)),.slice a k c],D] C (fj C (x.num*B))):=fun C D g h=>by
  have h:=kf C (.agg #[.bool (decide (x.num<0)),.slice a k c]) D _ _ _ K eK ⟨a,k,c,rfl,he.G g⟩ h bx.1 bB;rw[cm] at h;exact h
 have ca:Hid (∀ C D,G w C→Num C D A→Calls Tryz.prog 69 #[.agg #[.bool (decide (y.num<0)),.slice b j e],D] C (fj C (y.num*A))):=fun C D g h=>by
  have h:=kf C (.agg #[.bool (decide (y.num<0)),.slice b j e]) D _ _ _ K eK ⟨b,j,e,rfl,hf.G g⟩ h m.1 bA;rw[cn] at h;exact h
 have q1:(x.num*(B:Int)).natAbs<2^(64*(K+K)):=by rw[bG];exact fW bx.1 bB
 have q2:(y.num*(A:Int)).natAbs<2^(64*(K+K)):=by rw[bG];exact fW m.1 bA
 have bT:T.natAbs<2^(64*(2*K+1)):=by
  have h1:2^(64*(2*K+1))=2^(64*(K+K))*2^64:=by rw[← ah];congr 1;omega
  rw[hT,h1];have h2:=gl (x.num*(B:Int)) (y.num*(A:Int));generalize x.num*(B:Int)=X at *;generalize y.num*(A:Int)=Y at *;generalize 2^(64*(K+K))=P at *;omega
 obtain⟨X,hX⟩:∃ X:Int,X=x.num*B:=⟨_,rfl⟩;obtain⟨Y,hY⟩:∃ Y:Int,Y=y.num*A:=⟨_,rfl⟩;rw[← hX] at bz q1 hT;rw[← hY] at ca q2 hT;have HP:Hid (∀ C D v2,WholeIs C D X→WholeIs C v2 Y→Calls Tryz.prog FR #[D,v2] C (fj C T)):=fun C D v2 h1 h2=>by
  rw[hT];exact gf C D v2 X Y q1 q2 h1 h2
 have HE:Hid (∀ args w,(callFunc FR args).run Tryz.prog w= .ok (.enter FR args) w):=hE;have ds:Hid (∀ C D v2,G w C→Num C D T.natAbs→Num C v2 s→Calls Tryz.prog 58 #[D,v2] C (eU C r)):=fun C D v2 g h1 h2=>by
  rw[hr];exact iO C D v2 _ s (2*K+1) eK eK (Z.G g) h1 h2 bT (ae U (ai eK eK))
 have ep:Hid (∀ C D v2,G w C→Num C D T.natAbs→Num C v2 r→_):=fun C D v2 g1 h1 h2=>je C D v2 _ r (2*K+1) eK eK (Z.G g1) h1 h2 bT (aq cd (ae U (ai eK eK))) bs;have fp:Hid (∀ C D v2,G w C→Num C D s→Num C v2 r→_):=fun C D v2 g1 h1 h2=>je C D v2 s r K eK cc (Z.G g1) h1 h2 U (aq cd U) bs;have q3:s/r<2^(64*K):=aq (aN _ _) U;have q4:0<s/r:=dM cd bs;have eb:Hid (∀ C D v2,Num C D A→Num C v2 B→_):=fun C D v2 h1 h2=>gU C D v2 A B K eK h1 h2 bA bB;have cs:A*B<2^(64*(K+K)):=fW bA bB;have ec:Hid (∀ C D v2,Num C D (A*B)→Num C v2 (s/r)→_):=fun C D v2 h1 h2=>gU C D v2 (A*B) (s/r) (K+K) eK h1 h2 cs (ae q3 (ai eK eK));have ha:decide (sgn t (T.natAbs/r)<0)=t:=by
  rw[qc];have h1:r∣T.natAbs:=by rw[hr];exact bI _ _
  rw[ht];by_cases h:T<0
  ·have h2:0<T.natAbs/r:=dM (Nat.le_of_dvd eK h1) bs;simp [h,h2]
  ·simp [h]
 have HF:Hid (∀ C d1 d2 d3 v2,Num C (.slice d1 d2 d3) (T.natAbs/r)→Num C v2 (A*B*(s/r))→Calls Tryz.prog 48 #[.agg #[.bool t,.slice d1 d2 d3],v2] C (RetQ C z)):=fun C d1 d2 d3 v2 h1 h2=>
  fK C _ v2 (sgn t (T.natAbs/r)) (A*B*(s/r)) ((K+K)+K) z ⟨d1,d2,d3,by rw[ha],by rw[iE];exact h1⟩ h2 (bF (bF A0 B0) q4) (fW cs q3) (fun _=>by rw[iE];exact bn) bv
 have hl:Hid (t=decide (T<0)):=ht;clear hz gz ci cl gl gf hE bv bn ha cm cn hX hY hT S hB i hr ht q1 q2 q3 q4 cs bT bA bB A0 B0 d U bs cd ce hg bx m Z he ky hf la;generalize A*B*(s/r)=M at *;generalize A*B=N at *;generalize s/r=sr at *;generalize T.natAbs/r=tr at *;obtain⟨sx,cy⟩:∃ sx,sx=decide (x.num<0):=⟨_,rfl⟩;obtain⟨sy,cz⟩:∃ sy,sy=decide (y.num<0):=⟨_,rfl⟩;rw[← cy] at al bz;rw[← cz] at am ca;rw[← cy,← cz];rw[← hp] at al;rw[← hq] at am;clear cy cz hp hq;go_enter Tryz.func51,Tryz.ntmps51;go_wp2_with fail;obtain⟨w0,hd,g0,lx,R0,R1,R2⟩:=iJ w [.bool sx,.slice a k c,.slice a' k' c'] [.bool sy,.slice b j e,.slice b' j' e'] [.bool false,.slice none 0 0,.slice none 0 0] 29 29 29;rw[hd];clear hd;refine jy 6 0 [.is (.agg #[.bool sx,.slice a k c,.slice a' k' c']),.any (fun v F=>Num F v (p)),.is (.agg #[.bool sy,.slice b j e,.slice b' j' e']),.any (fun v F=>Num F v (q)),.any (fun v F=>Num F v (s)),.any (fun v F=>Num F v (s))] [some 12,some 13,some 14,some 15,some 16,some 7] ?_;intro D v3 v4 v5 A S;simp only[fg,Act.put,aj,au,av] at S;subst S;refine⟨?_,?_⟩
 ·skip
  refine ab rfl ?a1 (ab rfl ?c2 (ab rfl ?o1_2 (ab rfl ?c3 (ab rfl ?c4 (ab rfl ?c5 (bQ))))))
  case a1|o1_2=>
   intro W E hD K hK;clear hD;have ⟨hw,ia,ib⟩:=rc39 R0 E;have ⟨ih,ii,io⟩:=rc39 R1 E;go_simp;exact hK.out _ _ ⟨_,rfl,ag _,rfl⟩
  ·intro W E hD K hK;have hc:=hi9 (al.out W (aa g0 E));exact gH
  ·intro W E hD K hK;have hc:=hi9 (am.out W (aa g0 E));exact gH
  ·intro W E hD K hK;have h1:=gL D 1 hD;have h3:=gL v3 3 hD;have hc:=hi9 (dr.out W D v3 (aa g0 E) h1 h3);exact gH
  ·intro W E hD K hK;have h4:=gL v4 4 hD;clear hD;go_simp;exact hK.out _ _ ⟨_,rfl,ag _,h4⟩
 intro C g1 hH;have h5:=iW v5 5 hH;clear hH;refine wpAny_done eM ?_ _;generalize v5=vs at *;have S5:Hid (Num C vs s):=h5;have o:=aa g0 g1;have S0:Hid (Rec _ _ _):=aM R0.out (g1);have S1:Hid (Rec _ _ _):=aM R1.out (g1);have S2:Hid (Rec _ _ _):=aM R2.out (g1);clear h5 R0 R1 R2 g0 g1 dr;go_wp2_with fail;refine jy 10 0 [.is (.agg #[.bool sx,.slice a k c,.slice a' k' c']),.any (fun v F=>Num F v (p)),.is (vs),.any (fun v F=>Num F v (A)),.is (.agg #[.bool sy,.slice b j e,.slice b' j' e']),.any (fun v F=>Num F v (q)),.is (vs),.any (fun v F=>Num F v (B)),.any (fun v F=>Num F v (A)),.any (fun v F=>Num F v (B))] [some 17,some 18,some 19,some 20,some 21,some 22,some 23,some 24,some 8,some 9] ?_;intro D v3 v5 v7 v8 v9 A S;simp only[fg,Act.put,aj,au,av] at S;subst S;refine⟨?_,?_⟩
 ·skip
  refine ab rfl ?a6 (ab rfl ?c6 (ab rfl ?a7 (ab rfl ?c7 (ab rfl ?o2_4 (ab rfl ?e1 (ab rfl ?o2_6 (ab rfl ?e2 (ab rfl ?e3 (ab rfl ?e5 (bQ))))))))))
  case a7|o2_6=>
   exact iX
  case a6|o2_4=>
   intro W E hD K hK;clear hD;have ⟨it,jj,jp⟩:=rc39 S0 E;have ⟨jx,ka,kb⟩:=rc39 S1 E;go_simp;exact hK.out _ _ ⟨_,rfl,ag _,rfl⟩
  ·intro W E hD K hK;have hc:=hi9 (al.out W (aa o E));exact gH
  ·intro W E hD K hK;have h1:=gL D 1 hD;have hc:=hi9 (em.out W D vs (aa o E) h1 (S5.out.G E));exact gH
  ·intro W E hD K hK;have hc:=hi9 (am.out W (aa o E));exact gH
  ·intro W E hD K hK;have h5:=gL v5 5 hD;have hc:=hi9 (en.out W v5 vs (aa o E) h5 (S5.out.G E));exact gH
  ·intro W E hD K hK;have h3:=gL v3 3 hD;clear hD;go_simp;exact hK.out _ _ ⟨_,rfl,ag _,h3⟩
  ·intro W E hD K hK;have h7:=gL v7 7 hD;clear hD;go_simp;exact hK.out _ _ ⟨_,rfl,ag _,h7⟩
 intro w2 g2 hH;have h8:=iW v8 8 hH;have h9:=iW v9 9 hH;clear hH;refine wpAny_done eM ?_ _;have S8:Hid (Num w2 v8 A):=h8;have S9:Hid (Num w2 v9 B):=h9;have fs:Hid (Num w2 vs s):=S5.out.G g2;have an:=aa o g2;have T0:Hid (Rec _ _ _):=aM S0.out (g2);have T1:Hid (Rec _ _ _):=aM S1.out (g2);have T2:Hid (Rec _ _ _):=aM S2.out (g2);generalize v8=va at *;generalize v9=vb at *;clear h8 h9 S5 S0 S1 S2 o g2 em en al am;go_wp2_with fail;refine jy 11 1 [.is (.func (.func FR) #[] #[]),.is (.pointer (some ⟨w.heap.size,0,none⟩)),.is (.agg #[.bool sx,.slice a k c]),.is (vb),.any (fun v F=>WholeIs F v (X)),.is (.pointer (some ⟨w.heap.size+1,0,none⟩)),.is (.agg #[.bool sy,.slice b j e]),.is (va),.any (fun v F=>WholeIs F v (Y)),.any (fun v F=>WholeIs F v (T)),.any (fun v F=>NewRec w2 F v ([.bool false,.slice none 0 0]))] [some 25,some 26,some 27,some 28,some 29,some 30,some 31,some 32,some 33,some 34,some 10] ?_;intro v4 v8 v9 lb A S;simp only[fg,Act.put,aj,au,av] at S;subst S;refine⟨?_,?_⟩
 ·skip
  refine ab rfl ?b0 (ab rfl ?b1 (ab rfl ?b2 (ab rfl ?b3 (ab rfl ?e6 (ab rfl ?b4 (ab rfl ?o3_6 (ab rfl ?o3_7 (ab rfl ?e7 (ab rfl ?e8 (ab rfl ?c0 (bQ)))))))))))
  case b0|b1|b3|b4|o3_7=>
   exact iX
  case b2|o3_6=>
   intro W E hD K hK;clear hD;have ⟨kk,kp,kq⟩:=rc39 T0 E;have ⟨kr,ks,kw⟩:=rc39 T1 E;go_simp;exact hK.out _ _ ⟨_,rfl,ag _,rfl⟩
  ·intro W E hD K hK;have hc:=hi9 (bz.out W vb (aa an E) (S9.out.G E));exact gH
  ·intro W E hD K hK;have hc:=hi9 (ca.out W va (aa an E) (S8.out.G E));exact gH
  ·intro W E hD K hK;have h4:=gL v4 4 hD;have h8:=gL v8 8 hD;clear hD;have lw:=HE.out #[v4,v8] W;go_simp;go_wp2_with (refine eJ (HP.out W v4 v8 h4 h8) ?_;intro e w9 i;obtain⟨u9,rfl,g9,kx⟩:=i);exact hK.out _ _ ⟨_,rfl,g9,kx⟩
  ·intro W E hD K hK;clear hD;go_simp;exact hK.out _ _ ⟨_,rfl,(ag _).alloc _,_,rfl,E.size,Rec.new2 _ _ _ _⟩
 intro w3 g3 hH;have h9:=iW v9 9 hH;have hm:=iW lb 10 hH;clear hH;obtain⟨nb,rfl,cx,bu⟩:=hm;obtain⟨d1,d2,d3,rfl,bq⟩:=h9;rw[← hl.out];have N0:Hid (Rec w3 nb [.bool false,.slice none 0 0]):=bu;have cr:Hid (Num _ (.slice d1 d2 d3) T.natAbs):=gS (u1:= .bool t) (u2:= .slice d1 d2 d3) bq bu trivial trivial;clear bu bq HP bz ca;obtain⟨ao,ap,bi,bl⟩:=iD N0 (((ag _)));refine wpAny_ready (rs:=[11]) eM fI ?_;refine AllReady.cons rfl (fun K hK=> ?_) AllReady.nil;go_simp;refine hK _ _ ?_;clear hK K ao ap bi bl;refine wpAny_done eM ?_ _;have N1:Hid (Rec _ nb [.bool t,.slice d1 d2 d3]):=Rec.set2 N0.out;have g4:=Rec.g2 (b:=nb) (u:= .bool t) (v:= .slice d1 d2 d3) g3 cx;generalize ((w3.setCell ⟨nb,0,none⟩ (.bool t)).setCell ⟨nb,1,none⟩ (.slice d1 d2 d3))=w4 at *;have cb:=aa an g4;have U2:Hid (Rec _ _ _):=aM T2.out (g4);have S5:Hid (Num w4 vs s):=fs.out.G g4;have fv:Hid (Num w4 va A):=S8.out.G g4;have ga:Hid (Num w4 vb B):=S9.out.G g4;have ea:=hi9 (ds.out w4 (.slice d1 d2 d3) vs cb cr.out S5.out);have gn:w.heap.size≤nb:=bk an.size cx;clear T0 T1 T2 N0 fs S8 S9 an g3 g4 cx ds;obtain⟨I,J,L,O⟩:=iD N1 (ag _);go_wp2_with fail;refine eJ ea.out ?_;intro e4 w5 i;obtain⟨vr,rfl,g5,dl⟩:=i;have fr:=hi9 (ep.out w5 (.slice d1 d2 d3) vr (aa cb g5) (cr.out.G g5) dl);have SR:Hid (Num w5 vr r):=dl;clear ea ep dl I J L O;obtain⟨I,J,L,O⟩:=iD N1 (g5);go_wp2_with fail;refine eJ fr.out ?_;intro e4 w6 i;obtain⟨vt,rfl,g6,dq⟩:=i;obtain⟨f1,f2,f3,rfl,-⟩:=gv dq;have gd:Hid (Num w6 vr r):=SR.out.G g6
 have ST:Hid (Num (w6.setCell ⟨nb,1,none⟩ (.slice f1 f2 f3)) (.slice f1 f2 f3) tr):=ja dq (aM (aM N1.out g5) g6) trivial trivial;have R:=aa g5 g6;have SA:Hid (Num (w6.setCell ⟨nb,1,none⟩ (.slice f1 f2 f3)) va A):=ja (fv.out.G R) (aM N1.out R) trivial trivial;have SB:Hid (Num (w6.setCell ⟨nb,1,none⟩ (.slice f1 f2 f3)) vb B):=ja (ga.out.G R) (aM N1.out R) trivial trivial;have SS:Hid (Num (w6.setCell ⟨nb,1,none⟩ (.slice f1 f2 f3)) vs s):=ja (S5.out.G R) (aM N1.out R) trivial trivial;have SQ:Hid (Num (w6.setCell ⟨nb,1,none⟩ (.slice f1 f2 f3)) vr r):=ja gd.out (aM N1.out R) trivial trivial;have N2:Hid (Rec (w6.setCell ⟨nb,1,none⟩ (.slice f1 f2 f3)) nb [.bool t,.slice f1 f2 f3]):=(aM N1.out R).set 1 _;have V2:Hid (Rec (w6.setCell ⟨nb,1,none⟩ (.slice f1 f2 f3)) (w.heap.size+2) [.bool false,.slice none 0 0,.slice none 0 0]):=(aM U2.out R).oth (p:=⟨nb,1,none⟩) _ (q3i N1.out U2.out);have g7:G w (w6.setCell ⟨nb,1,none⟩ (.slice f1 f2 f3)):=(aa cb R).setCell (p:=⟨nb,1,none⟩) gn _;clear fr dq I J L O SR gd S5 fv ga cb gn cr U2;obtain⟨I,J,L,O⟩:=iD N1 (R);clear g5 g6 R;go_wp2_with fail;generalize w6.setCell ⟨nb,1,none⟩ (.slice f1 f2 f3)=w7 at *;clear I J L O N1;refine jy 9 1 [.is (.agg #[.bool t,.slice f1 f2 f3]),.is (va),.is (vb),.any (fun v F=>Num F v (N)),.is (vs),.is (vr),.any (fun v F=>Num F v (sr)),.any (fun v F=>Num F v (M)),.any (fun v F=>QIs F v (z))] [some 44,some 45,some 46,some 47,some 48,some 49,some 50,some 51,some 52] ?_;intro v3 v6 v7 v8 A S
 simp only[fg,Act.put,aj,au,av] at S;subst S;refine⟨?_,?_⟩
 ·skip
  refine ab rfl ?b5 (ab rfl ?b6 (ab rfl ?b7 (ab rfl ?e9 (ab rfl ?b8 (ab rfl ?o4_5 (ab rfl ?eP (ab rfl ?eZ (ab rfl ?gA (bQ)))))))))
  case b6|b7|b8|o4_5=>
   exact iX
  case b5=>
   intro W E hD K hK;clear hD;have ⟨hn,ho⟩:=rc29 N2 E;go_simp;exact hK.out _ _ ⟨_,rfl,ag _,rfl⟩
  ·intro W E hD K hK;have hc:=hi9 (eb.out W va vb (SA.out.G E) (SB.out.G E));exact gH
  ·intro W E hD K hK;have hc:=hi9 (fp.out W vs vr (aa g7 E) (SS.out.G E) (SQ.out.G E));exact gH
  ·intro W E hD K hK;have h3:=gL v3 3 hD;have h6:=gL v6 6 hD;have hc:=hi9 (ec.out W v3 v6 h3 h6);exact gH
  ·intro W E hD K hK;have h7:=gL v7 7 hD;have hc:=hi9 (HF.out W f1 f2 f3 v7 (ST.out.G E) h7);exact gH
 intro w8 g8 hH;have h8:=iW v8 8 hH;clear hH;clear eb ec fp HF SA SB SS SQ ST N2;obtain⟨a8,k8,c8,a9,k9,c9,rfl,gm,bq⟩:=h8;have hh:Hid (Num w8 (.slice a8 k8 c8) (z).num.natAbs):=gm;have hj:Hid (Num w8 (.slice a9 k9 c9) (fT (z).den)):=bq;obtain⟨t9,dk⟩:∃ t,t=decide ((z).num<0):=⟨_,rfl⟩;rw[← dk];have hk:Hid (t9=decide ((z).num<0)):=dk;clear gm bq dk;obtain⟨ao,ap,bi,bl,gg,gk⟩:=eX V2 (g8);refine wpAny_ready (rs:=[9]) eM fI ?_;refine AllReady.cons rfl (fun K hK=> ?_) AllReady.nil;go_simp;refine hK _ _ ?_;clear hK K ao ap bi bl gg gk;refine wpAny_done eM ?_ _;have ed:Num _ _ _:=eT (u1:= .bool t9) (u2:= .slice a8 k8 c8) (u3:= .slice a9 k9 c9) hh.out (aM V2.out (g8)) trivial trivial trivial;have ee:Num _ _ _:=eT (u1:= .bool t9) (u2:= .slice a8 k8 c8) (u3:= .slice a9 k9 c9) hj.out (aM V2.out (g8)) trivial trivial trivial;go_wp2_with fail;have hT:Hid (Rec _ (w.heap.size+2) [.bool t9,.slice a8 k8 c8,.slice a9 k9 c9]):=du (aM V2.out (g8));have g9:=Rec.h3 hT.out (aa g7 g8) eK;generalize (World.setCell (World.setCell (World.setCell w8 ⟨w.heap.size+2,0,none⟩ (.bool t9)) ⟨w.heap.size+2,1,none⟩ (.slice a8 k8 c8)) ⟨w.heap.size+2,2,none⟩ (.slice a9 k9 c9))=w9 at *;obtain⟨lc,lg,li,lk,lm,ls⟩:=eX hT (((ag _)));refine bodyPost_ret (v:= .agg #[.bool t9,.slice a8 k8 c8,.slice a9 k9 c9]) (by simp [results,Tryz.results51,go_sem, *]) rfl ?_;exact⟨_,rfl,g9,a8,k8,c8,a9,k9,c9,by rw[← hk.out],ed,ee⟩
theorem nI (w:World) (v u:Value) (x y:Rat) (K:Nat) (D:K≤40000) (B:1≤K) (C:Tab w) (E:QIs w v x) (F:QIs w u y) (bx:QB x K) (A:QB y K):
  Calls Tryz.prog 51 #[v,u,.func (.func 52) #[] #[]] w (RetQ w (x+y)):=
 mh w v u x y K D B C E F bx A _ (fun p q=>p+q) _ (Rat.add_def' x y) (fun p q k=>Int.add_mul p q k) (fun p q g h1 h2=>by
   have h3:=Int.dvd_sub h2 h1;rwa[show p+q-q=p from by omega] at h3) (fun p q g h1 h2=>by
   have h3:=Int.dvd_sub h2 h1;rwa[show p+q-p=q from by omega] at h3) (fun p q=>Int.natAbs_add_le p q) (fun M L v2 X Y I J h1 h2=>by
   have h:=qn M L v2 _ _ _ _ (K+K) eK h1 h2 I J;rw[gu,gu] at h;exact h) (fun _ _=>by kernel_rfl)
theorem mP (w:World) (v u:Value) (x y:Rat) (K:Nat) (D:K≤40000) (B:1≤K) (C:Tab w) (E:QIs w v x) (F:QIs w u y) (bx:QB x K) (A:QB y K):
  Calls Tryz.prog 51 #[v,u,.func (.func 56) #[] #[]] w (RetQ w (x-y)):=
 mh w v u x y K D B C E F bx A _ (fun p q=>p-q) _ (Rat.sub_def' x y) (fun p q k=>df p q k) (fun p q g h1 h2=>by
   have h3:=Int.dvd_add h2 h1;rwa[show p-q+q=p from by omega] at h3) (fun p q g h1 h2=>by
   have h3:=Int.dvd_sub h1 h2;rwa[show p-(p-q)=q from by omega] at h3) (fun p q=>Int.natAbs_sub_le p q) (fun M L v2 X Y I J h1 h2=>by
   have h:=ow M L v2 _ _ _ _ (K+K) eK h1 h2 I J;rw[gu,gu] at h;exact h) (fun _ _=>by kernel_rfl)
theorem q35 (w:World) (v u:Value) (x y:Rat) (K:Nat) (hK:K≤40000) (Z:1≤K) (N:Tab w) (hx:QIs w v x) (hy:QIs w u y) (bx:QB x K) (M:QB y K):
  Calls Tryz.prog 13 #[v,u] w (RetQ w (x+y)):=by
 have d:Hid (∀ I,G w I→_):=fun I g=>nI I v u x y K hK Z (N.G g) (hx.G g) (hy.G g) bx M;generalize x+y=z at *;obtain⟨a,k,c,a',k',c',rfl,-,-⟩:=hx;obtain⟨b,j,e,b',j',e',rfl,-,-⟩:=hy;generalize decide (x.num<0)=s at *;generalize decide (y.num<0)=t at *;clear bx M N;go_enter Tryz.func13,Tryz.ntmps13;go_wp2_with fail;obtain⟨w0,S,g0,bs,R0,R1,U⟩:=iJ w [.bool s,.slice a k c,.slice a' k' c'] [.bool t,.slice b j e,.slice b' j' e'] [.bool false,.slice none 0 0,.slice none 0 0] 29 29 29;rw[S];clear S;refine Calls.mono (P:=Tryz.prog) (d.out w0 g0) ?_;intro e4 I hs;obtain⟨vz,rfl,g1,hz⟩:=hs;clear d;obtain⟨A,E,B,a9,F,C,rfl,O,R⟩:=hz;have W:Hid (Num I (.slice A E B) (z).num.natAbs):=O;have X:Hid (Num I (.slice a9 F C) (fT (z).den)):=R;obtain⟨t9,D⟩:∃ t,t=decide ((z).num<0):=⟨_,rfl⟩;rw[← D];have Y:Hid (t9=decide ((z).num<0)):=D;clear O R D;obtain⟨ao,ap,bi,bl,bn,bq⟩:=eX U (((g1)));have J:Num _ _ _:=eT (u1:= .bool t9) (u2:= .slice A E B) (u3:= .slice a9 F C) W.out (aM U.out (g1)) trivial trivial trivial;have L:Num _ _ _:=eT (u1:= .bool t9) (u2:= .slice A E B) (u3:= .slice a9 F C) X.out (aM U.out (g1)) trivial trivial trivial;go_wp2_with fail;have hT:Hid (Rec _ (w.heap.size+2) [.bool t9,.slice A E B,.slice a9 F C]):=du (aM U.out (g1));have g9:=Rec.h3 hT.out (aa g0 g1) eK;generalize (World.setCell (World.setCell (World.setCell I ⟨w.heap.size+2,0,none⟩ (.bool t9)) ⟨w.heap.size+2,1,none⟩ (.slice A E B)) ⟨w.heap.size+2,2,none⟩ (.slice a9 F C))=w9 at *;obtain⟨i,m,o,al,am,an⟩:=eX hT (((ag _)))
 refine bodyPost_ret (v:= .agg #[.bool t9,.slice A E B,.slice a9 F C]) (by simp [results,Tryz.results13,go_sem, *]) rfl ?_;exact⟨_,rfl,g9,A,E,B,a9,F,C,by rw[← Y.out],J,L⟩
theorem q3b (w:World) (v u:Value) (x y:Rat) (K:Nat) (hK:K≤40000) (Z:1≤K) (N:Tab w) (hx:QIs w v x) (hy:QIs w u y) (bx:QB x K) (M:QB y K):
  Calls Tryz.prog 15 #[v,u] w (RetQ w (x-y)):=by
 have d:Hid (∀ I,G w I→_):=fun I g=>mP I v u x y K hK Z (N.G g) (hx.G g) (hy.G g) bx M;generalize x-y=z at *;obtain⟨a,k,c,a',k',c',rfl,-,-⟩:=hx;obtain⟨b,j,e,b',j',e',rfl,-,-⟩:=hy;generalize decide (x.num<0)=s at *;generalize decide (y.num<0)=t at *;clear bx M N;go_enter Tryz.func15,Tryz.ntmps15;go_wp2_with fail;obtain⟨w0,S,g0,bs,R0,R1,U⟩:=iJ w [.bool s,.slice a k c,.slice a' k' c'] [.bool t,.slice b j e,.slice b' j' e'] [.bool false,.slice none 0 0,.slice none 0 0] 29 29 29;rw[S];clear S;refine Calls.mono (P:=Tryz.prog) (d.out w0 g0) ?_;intro e4 I hs;obtain⟨vz,rfl,g1,hz⟩:=hs;clear d;obtain⟨A,E,B,a9,F,C,rfl,O,R⟩:=hz;have W:Hid (Num I (.slice A E B) (z).num.natAbs):=O;have X:Hid (Num I (.slice a9 F C) (fT (z).den)):=R;obtain⟨t9,D⟩:∃ t,t=decide ((z).num<0):=⟨_,rfl⟩;rw[← D];have Y:Hid (t9=decide ((z).num<0)):=D;clear O R D;obtain⟨ao,ap,bi,bl,bn,bq⟩:=eX U (((g1)));have J:Num _ _ _:=eT (u1:= .bool t9) (u2:= .slice A E B) (u3:= .slice a9 F C) W.out (aM U.out (g1)) trivial trivial trivial;have L:Num _ _ _:=eT (u1:= .bool t9) (u2:= .slice A E B) (u3:= .slice a9 F C) X.out (aM U.out (g1)) trivial trivial trivial;go_wp2_with fail;have hT:Hid (Rec _ (w.heap.size+2) [.bool t9,.slice A E B,.slice a9 F C]):=du (aM U.out (g1));have g9:=Rec.h3 hT.out (aa g0 g1) eK;generalize (World.setCell (World.setCell (World.setCell I ⟨w.heap.size+2,0,none⟩ (.bool t9)) ⟨w.heap.size+2,1,none⟩ (.slice A E B)) ⟨w.heap.size+2,2,none⟩ (.slice a9 F C))=w9 at *;obtain⟨i,m,o,al,am,an⟩:=eX hT (((ag _)))
 refine bodyPost_ret (v:= .agg #[.bool t9,.slice A E B,.slice a9 F C]) (by simp [results,Tryz.results15,go_sem, *]) rfl ?_;exact⟨_,rfl,g9,A,E,B,a9,F,C,by rw[← Y.out],J,L⟩
theorem ji (w:World) (va:Value) (a K:Nat) (n:Int) (E:K≤500000) (F: -1000000≤n) (I:n≤1000000) (B:Num w va a) (A:a<2^(64*K)):
  Calls Tryz.prog 155 #[va,.int .i64 n] w (eU w (a*2^n.toNat)):=by
 have C:=hi9 (iC w va a n.toNat K E eK B A);have D:Hid (max n 0=((n.toNat:Nat):Int)):=by show max n 0=_;omega
 generalize n.toNat=k at *;generalize a*2^k=z at *;clear B A;go_enter Tryz.func155,Tryz.ntmps155;go_wp2_with fail;rw[D.out];refine eJ C.out ?_;intro e L J;obtain⟨v,rfl,g1,hv⟩:=J;go_wp2_with fail;go_ret;exact⟨_,rfl,g1,hv⟩
theorem qG (w:World) (Q:Nat) (e P:Int) (C:Bool) (B:Q≠0) (X:Q<2^63) (j: -10000000≤e) (k:e≤10000000) (U:P=max (e+blen Q-53) (-1074)) (Z:971<P):
  Calls Tryz.prog 153 #[.agg #[.int .u64 (Q:Int),.int .i64 e,.bool C]] w fun r w'=>r= .returned (.tuple #[.int .u64 9007199254740991,.int .i64 971,.int .i64 3])∧G w w':=by
 have E:Hid (∀ O,_):=fun O=>kT Q O eK;have S:Lib.bitLen Q=blen Q:=by rw[fV B eK];unfold blen;rw[if_neg B]
 have d:blen Q≤63:=by
  have:=(cH B).2 X;unfold blen;rw[if_neg B];omega
 rw[S] at E;generalize blen Q=L at *;have m:max (e+(L:Int)-53) (-1074)=P:=U.symm;have o:IntKind.i64.wrap (e+(L:Int))=e+(L:Int):=by rw[IntKind.wrap_i64];omega
 have s:IntKind.i64.wrap (e+(L:Int)-53)=e+(L:Int)-53:=by rw[IntKind.wrap_i64];omega
 have hd:decide (971<P)=true:=decide_eq_true Z;have i:(Q:Int)<18446744073709551616:=by omega
 clear B X S U Z;go_enter Tryz.func153,Tryz.ntmps153;go_wp2_with fail;obtain⟨w0,D,g0,y,F⟩:=fi w [.int .u64 (Q:Int),.int .i64 e,.bool C] 177;rw[D];clear D;refine jy 9 0 [.is (.pointer (some ⟨w.heap.size,1,none⟩)),.is (.int .i64 e),.is (.pointer (some ⟨w.heap.size,0,none⟩)),.is (.int .u64 Q),.is (.int .i64 L),.is (.int .i64 (e+L)),.is (.int .i64 (e+L-53)),.is (.int .i64 P),.is (.int .i64 P)] [some 8,some 9,some 10,some 11,some 12,some 13,some 14,some 15,some 3] ?_;intro A R;simp only[fg,Act.put,aj,au,av] at R;subst R;refine⟨?_,?_⟩
 ·skip
  refine ab rfl ?a1 (ab rfl ?a6 (ab rfl ?a7 (ab rfl ?o1_3 (ab rfl ?b2 (ab rfl ?a8 (ab rfl ?b0 (ab rfl ?b1 (ab rfl ?o1_8 (bQ)))))))))
  case a1|a7|a8|b0|b1|o1_8=>
   exact iX
  case a6|o1_3=>
   intro W Y hD K hK;clear hD;have ⟨J,M,N⟩:=rc39 F Y;go_simp;exact hK.out _ _ ⟨_,rfl,ag _,rfl⟩
  ·intro W Y hD K hK;have hc:=hi9 (E.out W);exact rX
 intro O g1 c;clear c;refine wpAny_done eM ?_ _;have I:=aa g0 g1;have S0:Hid (Rec _ _ _):=aM F.out (g1);clear F g0 g1 E;go_wp2_with fail
 go_ret3
 exact⟨rfl,I⟩
theorem qH (w:World) (Q:Nat) (e P:Int) (C:Bool) (B:Q≠0) (j:Q<2^63) (ao: -10000000≤e) (ap:e≤10000000) (i:P=max (e+blen Q-53) (-1074)) (hf:P≤971) (m:63<P-e):
  Calls Tryz.prog 153 #[.agg #[.int .u64 (Q:Int),.int .i64 e,.bool C]] w fun r w'=>r= .returned (.tuple #[.int .u64 0,.int .i64 P,.int .i64 1])∧G w w':=by
 have O:Hid (∀ Z,_):=fun Z=>kT Q Z eK;have d:Lib.bitLen Q=blen Q:=by rw[fV B eK];unfold blen;rw[if_neg B]
 have y:blen Q≤63:=by
  have:=(cH B).2 j;unfold blen;rw[if_neg B];omega
 rw[d] at O;generalize blen Q=L at *;have bi:max (e+(L:Int)-53) (-1074)=P:=i.symm;have bl:IntKind.i64.wrap (e+(L:Int))=e+(L:Int):=by rw[IntKind.wrap_i64];omega
 have bn:IntKind.i64.wrap (e+(L:Int)-53)=e+(L:Int)-53:=by rw[IntKind.wrap_i64];omega
 have hd:decide (971<P)=false:=decide_eq_false eK;have an:decide (63<P-e)=true:=decide_eq_true m;have al: -1074≤P:=by omega
 have am:(Q:Int)<18446744073709551616:=by omega
 clear B j d i m;go_enter Tryz.func153,Tryz.ntmps153;go_wp2_with fail;obtain⟨w0,D,g0,bq,R⟩:=fi w [.int .u64 (Q:Int),.int .i64 e,.bool C] 177;rw[D];clear D;refine jy 9 0 [.is (.pointer (some ⟨w.heap.size,1,none⟩)),.is (.int .i64 e),.is (.pointer (some ⟨w.heap.size,0,none⟩)),.is (.int .u64 Q),.is (.int .i64 L),.is (.int .i64 (e+L)),.is (.int .i64 (e+L-53)),.is (.int .i64 P),.is (.int .i64 P)] [some 8,some 9,some 10,some 11,some 12,some 13,some 14,some 15,some 3] ?_;intro A c;simp only[fg,Act.put,aj,au,av] at c;subst c;refine⟨?_,?_⟩
 ·skip
  refine ab rfl ?a1 (ab rfl ?a6 (ab rfl ?a7 (ab rfl ?o2_3 (ab rfl ?b2 (ab rfl ?a8 (ab rfl ?b0 (ab rfl ?b1 (ab rfl ?o2_8 (bQ)))))))))
  case a1|a7|a8|b0|b1|o2_8=>
   exact iX
  case a6|o2_3=>
   intro W k hD K hK;clear hD;have ⟨U,X,Y⟩:=rc39 R k;go_simp;exact hK.out _ _ ⟨_,rfl,ag _,rfl⟩
  ·intro W k hD K hK;have hc:=hi9 (O.out W);exact rX
 intro Z g1 s;clear s;refine wpAny_done eM ?_ _;have S:=aa g0 g1;have o:Hid (Rec _ _ _):=aM R.out (g1);clear R g0 g1 O;obtain⟨E,F,I,J,M,N⟩:=eX o (ag _);go_wp2_with fail
 go_ret3
 exact⟨rfl,S⟩
/-- What is left: b of 2 m steps, and whether there are tails. -/
def lv (b m:Nat) (A:Bool):Nat:=if b=0∧A=false then 0 else if b<m then 1 else if b=m∧A=false then 2 else 3
set_option maxRecDepth 100000 in
set_option maxHeartbeats 1000000 in
theorem oF (w:World) (Q k:Nat) (e P:Int) (J:Bool) (R:Q≠0) (hQ:Q<2^63) (ds: -10000000≤e) (ea:e≤10000000) (hP:P=max (e+blen Q-53) (-1074)) (hf:P≤971) (hn:P-e=(k:Int)+1) (hk:k≤62):
  Calls Tryz.prog 153 #[.agg #[.int .u64 (Q:Int),.int .i64 e,.bool J]] w fun r w'=>r= .returned (.tuple #[.int .u64 (Q/2^(k+1):Nat),.int .i64 P,.int .i64 ((lv (Q%2^(k+1)) (2^k) J:Nat):Int)])∧G w w':=by
 have HB:Hid (∀ w1,_):=fun w1=>kT Q w1 eK;have hL:Lib.bitLen Q=blen Q:=by rw[fV R eK];unfold blen;rw[if_neg R]
 have cz:blen Q≤63:=by
  have:=(cH R).2 hQ;unfold blen;rw[if_neg R];omega
 rw[hL] at HB;generalize blen Q=L at *;have cc:max (e+(L:Int)-53) (-1074)=P:=hP.symm;have cl:IntKind.i64.wrap (e+(L:Int))=e+(L:Int):=by rw[IntKind.wrap_i64];omega
 have cm:IntKind.i64.wrap (e+(L:Int)-53)=e+(L:Int)-53:=by rw[IntKind.wrap_i64];omega
 have hd:decide (971<P)=false:=decide_eq_false eK;have dr:decide ((63:Int)<(k:Int)+1)=false:=decide_eq_false eK;have dk: -1074≤P:=by omega
 have dl:(Q:Int)<18446744073709551616:=by omega
 have cn:IntKind.i64.wrap (P-e)=(k:Int)+1:=by rw[IntKind.wrap_i64];omega
 have ec:IntKind.i64.wrap ((k:Int)+1)=(k:Int)+1:=by rw[IntKind.wrap_i64];omega
 have ed:IntKind.i64.wrap (k:Int)=k:=by rw[IntKind.wrap_i64];omega
 obtain⟨p,Z⟩:∃ p,p=2^(k+1):=⟨_,rfl⟩;obtain⟨m,Y⟩:∃ m,m=2^k:=⟨_,rfl⟩;obtain⟨b,hb⟩:∃ b,b=Q%p:=⟨_,rfl⟩;have ci:p=2*m:=by rw[Z,Y,bp];omega
 have i:1≤m:=by rw[Y];exact af k
 have bv:m≤2^62:=by rw[Y];exact fU hk
 have X:bits BinOp.and IntKind.u64 (Q:Int) ((p:Int)-1)=(b:Int):=by
  rw[show ((p:Int)-1)=((p-1:Nat):Int) from by omega,u64_and_nat Q (p-1) eK eK,Z,dw,hb,Z]
 have eb:(2:Int)^(k+1)=(p:Int):=by rw[Z];push_cast;rfl
 have cb:(2:Int)^k=(m:Int):=by rw[Y];push_cast;rfl
 have cd:(p:Int)≤9223372036854775808:=by omega
 have bz:(m:Int)≤9223372036854775808:=by omega
 have ce:(2:Int)≤p:=by omega
 have ca:(1:Int)≤m:=by omega
 have cr:IntKind.u64.wrap (p:Int)=p:=by rw[IntKind.wrap_u64];omega
 have cs:IntKind.u64.wrap ((p:Int)-1)=(p:Int)-1:=by rw[IntKind.wrap_u64];omega
 have cx:IntKind.u64.wrap (m:Int)=m:=by rw[IntKind.wrap_u64];omega
 rw[← Z,← Y,← hb];obtain⟨q,hq⟩:∃ q,q=Q/p:=⟨_,rfl⟩;rw[← hq];have dq:(Q:Int)/(p:Int)=(q:Int):=by rw[hq];push_cast;rfl
 have cy:(q:Int)≤(Q:Int):=by have:=aN Q p;omega
 have ap:Hid (1≤m):=i;clear R hQ hL hP Z Y hb ci i bv hq;go_enter Tryz.func153,Tryz.ntmps153;go_wp2_with fail;obtain⟨w0,j,g0,ee,R0⟩:=fi w [.int .u64 (Q:Int),.int .i64 e,.bool J] 177;rw[j];clear j;refine jy 9 0 [.is (.pointer (some ⟨w.heap.size,1,none⟩)),.is (.int .i64 e),.is (.pointer (some ⟨w.heap.size,0,none⟩)),.is (.int .u64 Q),.is (.int .i64 L),.is (.int .i64 (e+L)),.is (.int .i64 (e+L-53)),.is (.int .i64 P),.is (.int .i64 P)] [some 8,some 9,some 10,some 11,some 12,some 13,some 14,some 15,some 3] ?_;intro A d;simp only[fg,Act.put,aj,au,av] at d;subst d;refine⟨?_,?_⟩
 ·skip
  refine ab rfl ?a1 (ab rfl ?a6 (ab rfl ?a7 (ab rfl ?o3_3 (ab rfl ?c3 (ab rfl ?a8 (ab rfl ?b0 (ab rfl ?b1 (ab rfl ?o3_8 (bQ)))))))))
  case a1|a7|a8|b0|b1|o3_8=>
   exact iX
  case a6|o3_3=>
   intro W hW hD K hK;clear hD;have ⟨bi,bl,bn⟩:=rc39 R0 hW;go_simp;exact hK.out _ _ ⟨_,rfl,ag _,rfl⟩
  ·intro W hW hD K hK;have hc:=hi9 (HB.out W);exact rX
 intro w1 g1 hH;clear hH;refine wpAny_done eM ?_ _;have c:=aa g0 g1;have o:Hid (Rec _ _ _):=aM R0.out (g1);clear R0 g0 g1 HB;obtain⟨s,y,al,am,an,ao⟩:=eX o (ag _);go_wp2_with fail;refine jy 11 0 [.is (.pointer (some ⟨w.heap.size,0,none⟩)),.is (.int .u64 Q),.is (.int .i64 (k+1)),.is (.int .u64 p),.is (.int .u64 (p-1)),.is (.int .u64 b),.is (.int .i64 (k+1)),.is (.int .i64 k),.is (.int .u64 m),.is (.int .u64 b),.is (.int .u64 m)] [some 25,some 26,some 27,some 28,some 29,some 30,some 31,some 32,some 33,some 6,some 7] ?_;intro A d;simp only[fg,Act.put,aj,au,av] at d;subst d;refine⟨?_,?_⟩
 ·skip
  refine ab rfl ?b2 (ab rfl ?b3 (ab rfl ?b4 (ab rfl ?b5 (ab rfl ?b6 (ab rfl ?b7 (ab rfl ?b8 (ab rfl ?bA (ab rfl ?bB (ab rfl ?bT (ab rfl ?o4_10 (bQ)))))))))))
  case b2|b4|b5|b6|b7|b8|bA|bB|bT|o4_10=>
   exact iX
  case b3=>
   intro W hW hD K hK;clear hD;have ⟨bq,bs,bu⟩:=rc39 o hW;go_simp;exact hK.out _ _ ⟨_,rfl,ag _,rfl⟩
 intro w2 g2 hH;clear hH;refine wpAny_done eM ?_ _;have M:=aa c g2;have U:Hid (Rec _ _ _):=aM o.out (g2);clear o X cl cm cn cr cs cx cc cb cd bz ce ca c g2;cases J
 ·by_cases N:b=0
  ·have t0:((b:Int)==0)=true:=by rw[N];rfl
   have O:Hid (lv b m false=0):=by show lv b m false=0;unfold lv;simp [N]
   clear N;obtain⟨B,C,D,E,F,I⟩:=eX U (ag _)
   repeat (first|go_values|go_skip|go_guarded|go_step|go_upon)
   go_ret3
   exact⟨by rw[O.out];rfl,M⟩
  ·have t0:((b:Int)==0)=false:=by simp;exact N
   by_cases c1:b<m
   ·have t1:decide (b<m)=true:=decide_eq_true c1;have O:Hid (lv b m false=1):=by show lv b m false=1;unfold lv;simp [N,c1]
    clear N c1;obtain⟨B,C,D,E,F,I⟩:=eX U (ag _)
    repeat (first|go_values|go_skip|go_guarded|go_step|go_upon)
    go_ret3
    exact⟨by rw[O.out];rfl,M⟩
   ·have t1:decide (b<m)=false:=decide_eq_false c1;by_cases S:b=m
    ·have t2:((b:Int)==(m:Int))=true:=by rw[S];simp
     have O:Hid (lv b m false=2):=by show lv b m false=2;unfold lv;rw[if_neg (by rintro⟨h,-⟩;exact N h),if_neg c1,if_pos ⟨S,rfl⟩]
     clear N c1 S;obtain⟨B,C,D,E,F,I⟩:=eX U (ag _)
     repeat (first|go_values|go_skip|go_guarded|go_step|go_upon)
     go_ret3
     exact⟨by rw[O.out];rfl,M⟩
    ·have t2:((b:Int)==(m:Int))=false:=by simp;omega
     have O:Hid (lv b m false=3):=by show lv b m false=3;unfold lv;simp [N,c1,S]
     clear N c1 S;obtain⟨B,C,D,E,F,I⟩:=eX U (ag _)
     repeat (first|go_values|go_skip|go_guarded|go_step|go_upon)
     go_ret3
     exact⟨by rw[O.out];rfl,M⟩
 ·by_cases c1:b<m
  ·have t1:decide (b<m)=true:=decide_eq_true c1;have O:Hid (lv b m true=1):=by show lv b m true=1;unfold lv;simp [c1]
   by_cases N:b=0
   ·have t0:((b:Int)==0)=true:=by rw[N];rfl
    clear N c1;obtain⟨B,C,D,E,F,I⟩:=eX U (ag _)
    repeat (first|go_values|go_skip|go_guarded|go_step|go_upon)
    go_ret3
    exact⟨by rw[O.out];rfl,M⟩
   ·have t0:((b:Int)==0)=false:=by simp;exact N
    clear N c1;obtain⟨B,C,D,E,F,I⟩:=eX U (ag _)
    repeat (first|go_values|go_skip|go_guarded|go_step|go_upon)
    go_ret3
    exact⟨by rw[O.out];rfl,M⟩
  ·have t1:decide (b<m)=false:=decide_eq_false c1;have O:Hid (lv b m true=3):=by show lv b m true=3;unfold lv;simp [c1]
   have t0:((b:Int)==0)=false:=by have:=ap.out;simp;omega
   by_cases S:b=m
   ·have t2:((b:Int)==(m:Int))=true:=by rw[S];simp
    clear c1 S;obtain⟨B,C,D,E,F,I⟩:=eX U (ag _)
    repeat (first|go_values|go_skip|go_guarded|go_step|go_upon)
    go_ret3
    exact⟨by rw[O.out];rfl,M⟩
   ·have t2:((b:Int)==(m:Int))=false:=by simp;omega
    clear c1 S;obtain⟨B,C,D,E,F,I⟩:=eX U (ag _)
    repeat (first|go_values|go_skip|go_guarded|go_step|go_upon)
    go_ret3
    exact⟨by rw[O.out];rfl,M⟩
theorem q2p (w:World) (n:Nat) (D:n<100):Calls Tryz.prog 105 #[.int .u64 (n:Int),.int .i64 10] w fun e B=>e= .returned (.string ⟨(Lib.decDigits n).toArray⟩)∧G w B:=by
 have I:Hid (∀ A,Calls Tryz.prog 167 #[.int .i64 (n:Int)] A fun e B=>e= .returned (.string ⟨(Lib.decDigits n).toArray⟩)∧B=A):=fun A=>Tryz.internal_strconv_small n D A;have J:decide ((n:Int)<100)=true:=decide_eq_true eK;have C:decide (n<100)=true:=decide_eq_true D;have E:(n:Int)<100:=by omega
 have F:Hid (∀ A,Calls Tryz.prog 161 #[.int .u64 (n:Int),.int .i64 10] A fun e B=>e= .returned (.string ⟨(Lib.decDigits n).toArray⟩)∧G A B):=by
  intro A;go_enter Tryz.func161,Tryz.ntmps161;go_wp2_with fail;refine eJ (I.out _) ?_;rintro e K ⟨rfl,rfl⟩;go_wp2_with fail;go_ret;exact⟨rfl,ag _⟩
 clear J C D E;go_enter Tryz.func105,Tryz.ntmps105;go_wp2_with fail;refine eJ (F.out _) ?_;rintro e K ⟨rfl,g⟩;go_wp2_with fail;go_ret;exact⟨rfl,g⟩
theorem q1b (w:World) (va:Value) (n:Nat) (Y:0<n) (k:n<100) (W:Num w va n):
  Calls Tryz.prog 47 #[va] w fun e s=>e= .returned (.string ⟨(Lib.decDigits n).toArray⟩)∧G w s:=by
 have O:=hi9 (gP w va n 10000000000000000000 1 eK W eK eK eK);rw[aR eK,aU eK] at O;have j:Hid (∀ d,_):=fun d=>q2p d n k;have M:(⟨(Lib.decDigits n).toArray⟩:ByteArray).size≤1000:=by
  show (Lib.decDigits n).toArray.size≤1000;rw[List.size_toArray,Lib.decDigits];split
  ·simp
  ·rw[Lib.decDigits,dif_pos eK];simp
 rcases gi W with ⟨h,-⟩|⟨-,-,nb,no,nc,rfl,-,-,-⟩|⟨h,-⟩
 ·omega
 ·clear W Y k;go_enter Tryz.func47,Tryz.ntmps47;go_wp2_with fail;refine wp_loop_rounds 2 ?_;rw[rounds_succ];go_wp2_with fail;refine eJ O.out ?_;intro e d Z;obtain⟨v,rfl,g1,hv⟩:=Z;rcases gi hv with ⟨-,pa,pc,rfl⟩|⟨h,-⟩|⟨h,-⟩
  ·go_wp2_with fail;refine eJ (j.out _) ?_;rintro e B ⟨rfl,g2⟩;go_wp2_with fail;generalize m:Value.string ⟨(Lib.decDigits n).toArray⟩=S at *;generalize (Question.appendCap 1 0 9).cut (B.tape B.drawn (Question.appendCap 1 0 9))=cap at *;generalize Builtin.zeroCells #[Value.string ⟨#[]⟩] (cap-1)=N at *;have K:(#[S]++N)[0]? =some S:=by rw[Array.getElem?_append_left fI];rfl
   have hc:((B.alloc (.cells #[S] 9)).alloc (.cells (#[S]++N) 9)).drew.cell? ⟨B.heap.size+1,0,none⟩=some S:=by simp [go_sem,K]
   have g3:G w ((B.alloc (.cells #[S] 9)).alloc (.cells (#[S]++N) 9)).drew:=((((aa g1 g2)).alloc _).alloc _).drew;have o:B.heap.size+1<((B.alloc (.cells #[S] 9)).alloc (.cells (#[S]++N) 9)).drew.heap.size:=by simp
   generalize ((B.alloc (.cells #[S] 9)).alloc (.cells (#[S]++N) 9)).drew=A at *;generalize B.heap.size+1=pb at *;have c:(Value.slice (some ⟨B.heap.size,0,none⟩) 1 1)=Value.slice (some ⟨B.heap.size,0,none⟩) 1 1:=rfl;clear c j O hv g1 g2 K;have J:(A.alloc (.cells #[.pointer none,.slice none 0 0] 130)).heap[A.heap.size]? =some (.cells #[.pointer none,.slice none 0 0] 130 (0,0)):=by simp only[World.alloc];exact dt
   have F:=hi9 (q2l (A.alloc (.cells #[.pointer none,.slice none 0 0] 130)) A.heap.size ⟨(Lib.decDigits n).toArray⟩ J M);have D:Hid (G A (A.alloc (.cells #[.pointer none,.slice none 0 0] 130))):=(ag A).alloc _;clear J M;subst m;rw[rounds_succ];go_wp2_with fail;refine eJ F.out ?_;intro e i Z;obtain⟨⟨v4,rfl⟩,L,C⟩:=Z;have E:Hid (Lib.IsBuilderF 130 5 A.heap.size A.heap.size (Lib.byteCells (Lib.decDigits n)) i):=L;have I:G A i:=Below.trans D.out C;have R:=hi9 (q1k i A.heap.size (Lib.decDigits n) E.out I.size);clear F D L C E;go_wp2_with fail;refine wp_loop_rounds 1 ?_;rw[rounds_succ];go_wp2_with fail;refine eJ R.out ?_;rintro e y ⟨rfl,X⟩;have U:G A y:=Below.trans I X;go_wp2_with fail;go_ret;exact⟨rfl,aa g3 U⟩
  ·omega
  ·omega
 ·omega
/-- Ten to the power of e. -/
def ten (e:Int):Rat:=mkRat ((10^e.toNat:Nat):Int) (10^(-e).toNat)
theorem q0A (n:Nat):10^n<2^(4*n+1):=by
 have h:10^n≤(2^4)^n:=cT eK _;rw[← Nat.pow_mul] at h;exact aq h (cF eK eK)
set_option maxRecDepth 10000 in
theorem q3S (w:World) (e:Int) (h3: -2000≤e) (h4:e≤2000):
  Calls Tryz.prog 86 #[.int .i64 e] w (gM w (ten e) 0):=by
 have h5:decide (e< -2000)=false:=decide_eq_false eK;have h6:decide (2000<e)=false:=decide_eq_false eK;by_cases Y:e<0
 ·obtain⟨n,rfl⟩:∃ n:Nat,e= -(n:Int):=⟨e.natAbs,by omega⟩;have hn:(n:Int)≤2000:=by omega
  have hq:ten (-(n:Int))=mkRat 1 (10^n):=by
   unfold ten;rw[show (-(n:Int)).toNat=0 from by omega,show (-(-(n:Int))).toNat=n from by omega];rfl
  have y:0<10^n:=Nat.pow_pos eK;have k:Hid (∀ A B v2,WholeIs A B 1→Num A v2 (10^n)→_):=fun A B v2 W X=>fK A B v2 1 (10^n) (4*n+1) (mkRat 1 (10^n)) W X y (ae (q0A n) (ai eK eK)) (fun _=>Nat.gcd_one_left _) rfl;have HW:Hid (∀ A,_):=fun A=>kF A 1 eK eK;have m:Hid (∀ A,_):=fun A=>qe A 10 n eK eK;have hd:decide (0<n)=true:=decide_eq_true eK;rw[hq];generalize mkRat 1 (10^n)=q at *;generalize 10^n=P at *;clear h3 h4 Y hq y;go_enter Tryz.func86,Tryz.ntmps86;go_wp2_with fail;obtain⟨w0,S,g0,bz,U⟩:=fi w [.bool false,.slice none 0 0,.slice none 0 0] 29;rw[S];clear S;refine eJ (HW.out w0) ?_;intro s A R;obtain⟨B,rfl,g1,W⟩:=R;have K1:Hid (WholeIs A B 1):=W;clear W HW;go_wp2_with fail;refine eJ (m.out A) ?_;intro s w2 R;obtain⟨v2,rfl,g2,X⟩:=R;have K:=hi9 (k.out w2 B v2 (K1.out.G g2) X);clear X m k K1;go_wp2_with fail;refine eJ K.out ?_;intro s i R;obtain⟨v3,rfl,g3,k3⟩:=R;clear K;obtain⟨C,I,D,a9,J,E,rfl,N,O⟩:=k3;have Z:Hid (Num i (.slice C I D) (q).num.natAbs):=N;have c:Hid (Num i (.slice a9 J E) (fT (q).den)):=O;obtain⟨t9,F⟩:∃ t,t=decide ((q).num<0):=⟨_,rfl⟩;rw[← F];have d:Hid (t9=decide ((q).num<0)):=F;clear N O F;obtain⟨bl,bn,bq,bs,bu,bv⟩:=eX U (((aa g1 (aa g2 g3))));have L:Num _ _ _:=eT (u1:= .bool t9) (u2:= .slice C I D) (u3:= .slice a9 J E) Z.out (aM U.out (aa g1 (aa g2 g3))) trivial trivial trivial;have M:Num _ _ _:=eT (u1:= .bool t9) (u2:= .slice C I D) (u3:= .slice a9 J E) c.out (aM U.out (aa g1 (aa g2 g3))) trivial trivial trivial;go_wp2_with fail
  have hT:Hid (Rec _ (w.heap.size) [.bool t9,.slice C I D,.slice a9 J E]):=du (aM U.out (aa g1 (aa g2 g3)));have g9:=Rec.h3 hT.out (aa g0 (aa g1 (aa g2 g3))) eK;generalize (World.setCell (World.setCell (World.setCell i ⟨w.heap.size,0,none⟩ (.bool t9)) ⟨w.heap.size,1,none⟩ (.slice C I D)) ⟨w.heap.size,2,none⟩ (.slice a9 J E))=w9 at *;obtain⟨al,am,an,ao,ap,bi⟩:=eX hT (((ag _)));refine bodyPost_ret (v:= .tuple #[.agg #[.bool t9,.slice C I D,.slice a9 J E],.int .i64 0]) (by simp [results,Tryz.results86,go_sem, *]) rfl ?_;exact⟨_,rfl,g9,C,I,D,a9,J,E,by rw[← d.out],L,M⟩
 ·obtain⟨n,rfl⟩:∃ n:Nat,e=(n:Int):=⟨e.natAbs,by omega⟩;have hn:(n:Int)≤2000:=by omega
  have hq:ten (n:Int)=(((10^n:Nat):Int):Rat):=by
   unfold ten;rw[show (n:Int).toNat=n from by omega,show (-(n:Int)).toNat=0 from by omega,ir]
  have m:Hid (∀ A,_):=fun A=>qe A 10 n eK eK;have HS:Hid (∀ A B,Num A B (10^n)→Calls Tryz.prog 62 #[.bool false,B] A (fj A ((10^n:Nat):Int))):=fun A B h1=>fO A B false (10^n) h1;have k:Hid (∀ A B v2,WholeIs A B ((10^n:Nat):Int)→Num A v2 1→_):=fun A B v2 W X=>fK A B v2 ((10^n:Nat):Int) 1 1 (((10^n:Nat):Int):Rat) W X eK eK (fun _=>cS _) (ir _);have hd:decide ((n:Int)<0)=false:=by simp
  rw[hq];generalize (((10^n:Nat):Int):Rat)=q at *;generalize ((10^n:Nat):Int)=z at *;generalize 10^n=P at *;clear h3 h4 Y hq;go_enter Tryz.func86,Tryz.ntmps86;go_wp2_with fail;obtain⟨w0,S,g0,bz,U⟩:=fi w [.bool false,.slice none 0 0,.slice none 0 0] 29;rw[S];clear S;refine eJ (m.out w0) ?_;intro s A R;obtain⟨B,rfl,g1,W⟩:=R;have o:=hi9 (HS.out A B W);clear W m HS;go_wp2_with fail;refine eJ o.out ?_;intro s w2 R;obtain⟨v2,rfl,g2,X⟩:=R;have j:=(ag w2).alloc (.cells #[.int .u64 1] 78);have K:=hi9 (k.out _ v2 (.slice (some ⟨w2.heap.size,0,none⟩) 1 1) (X.G j) (jd rfl));clear X o k;go_wp2_with fail;generalize w2.alloc (.cells #[.int .u64 1] 78)=w4 at *;refine eJ K.out ?_;intro s i R;obtain⟨v3,rfl,g3,k3⟩:=R;clear K;obtain⟨C,I,D,a9,J,E,rfl,N,O⟩:=k3;have Z:Hid (Num i (.slice C I D) (q).num.natAbs):=N;have c:Hid (Num i (.slice a9 J E) (fT (q).den)):=O;obtain⟨t9,F⟩:∃ t,t=decide ((q).num<0):=⟨_,rfl⟩;rw[← F];have d:Hid (t9=decide ((q).num<0)):=F;clear N O F;obtain⟨bl,bn,bq,bs,bu,bv⟩:=Rec.f3 (aM U.out ((aa g1 (aa g2 (aa j g3)))));have L:Num _ _ _:=eT (u1:= .bool t9) (u2:= .slice C I D) (u3:= .slice a9 J E) Z.out (aM U.out (aa g1 (aa g2 (aa j g3)))) trivial trivial trivial;have M:Num _ _ _:=eT (u1:= .bool t9) (u2:= .slice C I D) (u3:= .slice a9 J E) c.out (aM U.out (aa g1 (aa g2 (aa j g3)))) trivial trivial trivial;go_wp2_with fail;have hT:Hid (Rec _ (w.heap.size) [.bool t9,.slice C I D,.slice a9 J E]):=du (aM U.out (aa g1 (aa g2 (aa j g3))))
  have g9:=Rec.h3 hT.out (aa g0 (aa g1 (aa g2 (aa j g3)))) eK;generalize (World.setCell (World.setCell (World.setCell i ⟨w.heap.size,0,none⟩ (.bool t9)) ⟨w.heap.size,1,none⟩ (.slice C I D)) ⟨w.heap.size,2,none⟩ (.slice a9 J E))=w9 at *;obtain⟨al,am,an,ao,ap,bi⟩:=eX hT (((ag _)));refine bodyPost_ret (v:= .tuple #[.agg #[.bool t9,.slice C I D,.slice a9 J E],.int .i64 0]) (by simp [results,Tryz.results86,go_sem, *]) rfl ?_;exact⟨_,rfl,g9,C,I,D,a9,J,E,by rw[← d.out],L,M⟩
theorem rm (w:World) (e:Int) (h:e< -2000∨2000<e):
  Calls Tryz.prog 86 #[.int .i64 e] w (gM w 0 3):=by
 by_cases h1:e< -2000
 case' pos=>
  have A:decide (e< -2000)=true:=decide_eq_true h1
 case' neg=>
  have A:decide (e< -2000)=false:=decide_eq_false h1;have h6:decide (2000<e)=true:=decide_eq_true eK
 all_goals
  clear h h1;go_enter Tryz.func86,Tryz.ntmps86;go_wp2_with fail;refine bodyPost_ret (v:= .tuple #[.agg #[.bool false,.slice none 0 0,.slice none 0 0],.int .i64 3]) (by simp [results,Tryz.results86,go_sem, *]) rfl ?_;exact⟨_,rfl,(ag _).alloc _,iS _⟩
end Go.Proofs.YtfnkkkcojnffdaaGreatDoor.EN
