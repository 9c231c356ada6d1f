/- What is proved here: contracts of the reference: the fraction whose square a fraction is, over this seat's translation. -/
import Derived.Test.YtfnkkkcojnffdaaGreatDoorQ1
import Derived.Test.YtfnkkkcojnffdaaGreatDoorQ3
import Derived.Test.YtfnkkkcojnffdaaGreatDoorQ18
import Derived.Test.YtfnkkkcojnffdaaGreatDoorQ32
import Derived.Test.YtfnkkkcojnffdaaGreatDoorQ39
import Derived.Test.YtfnkkkcojnffdaaGreatDoorQ39
import Derived.Test.YtfnkkkcojnffdaaGreatDoorQ37
import Derived.Test.YtfnkkkcojnffdaaGreatDoorQ42
import Derived.Test.YtfnkkkcojnffdaaGreatDoorQ39
namespace Go.Proofs.YtfnkkkcojnffdaaGreatDoor.EN
open Go.ChangeShapes Go.WideShapes Go.ChangeAt Go.RowKit
theorem oE {x y:Rat}:(x.num*y.den-y.num*x.den=0)↔x=y:=by
 have A:=x.den_nz;have B:=y.den_nz;constructor
 ·intro h;rw[← dv x,← dv y];exact(dX A B).2 eK
 ·rintro rfl;omega
theorem oc (s:Rat):(s*s).num=s.num*s.num∧(s*s).den=s.den*s.den:=by
 have A:Nat.gcd (s.num*s.num).natAbs (s.den*s.den)=1:=by
  rw[bG];exact Nat.Coprime.mul_left (dB s.reduced s.reduced) (dB s.reduced s.reduced)
 exact rat_low (bF s.den_pos s.den_pos) A (mk_cross (bF s.den_pos s.den_pos) (Rat.mul_def' s s))
theorem q3u {x:Rat} {r s:Nat} (L:¬ x.num<0) (C:r*r≤x.num.natAbs) (D:x.num.natAbs<(r+1)*(r+1)) (E:s*s≤x.den) (F:x.den<(s+1)*(s+1)):
  (mkRat r s*mkRat r s=x)↔(r*r=x.num.natAbs∧s*s=x.den):=by
 constructor
 ·intro h;obtain⟨A,B⟩:=oc (mkRat r s);rw[h] at A B;refine⟨nV C D (s:=(mkRat r s).num.natAbs) ?_,nV E F B.symm⟩;rw[← bG,← A]
 ·rintro⟨J,I⟩;obtain⟨g1,g2⟩:=mA J I;obtain⟨n1,K⟩:=rat_low (q:=mkRat r s) (z:=(r:Int)) g2 (by rw[ar];exact g1) (mk_cross g2 rfl);obtain⟨A,B⟩:=oc (mkRat r s);rw[n1] at A;rw[K] at B;refine Rat.ext ?_ ?_
  ·rw[A];omega
  ·rw[B];exact I
/-- What SquareOf hands back. -/
def q2n (w:World) (s:Rat) (t:Bool) (e:Ending) (A:World):Prop:=∃ p,e= .returned (.tuple #[.pointer (some ⟨p,0,none⟩),.bool t])∧G w A∧w.heap.size≤p∧p<A.heap.size∧RIs A p s
set_option maxRecDepth 10000 in
theorem pD (w:World) (b:Nat) (x:Rat) (r s K:Nat) (hK:K≤5000) (ec:1≤K) (hb:b<w.heap.size) (h:RIs w b x) (qx:QB x K) (h0:¬ x.num<0) (M:r*r≤x.num.natAbs) (m:x.num.natAbs<(r+1)*(r+1)) (N:s*s≤x.den) (al:x.den<(s+1)*(s+1)):
  Calls Tryz.prog 33 #[.pointer (some ⟨b,0,none⟩)] w (q2n w (mkRat r s) (decide (r*r=x.num.natAbs∧s*s=x.den))):=by
 have dq:x.num=(x.num.natAbs:Int):=by omega
 have dk:0<s:=by
  rcases bo s with h|h
  ·subst h;have:=x.den_pos;omega
  ·exact h
 have o:r<2^(64*K):=aq (bk (dA r) M) qx.1;have am:s<2^(64*K):=aq (bk (dA s) N) qx.2;have d:64*K=32*(2*K):=by omega
 have U:Hid (∀ A,G w A→Calls Tryz.prog 27 #[.pointer (some ⟨b,0,none⟩)] A fun e C=>e= .returned (.pointer (some ⟨b,0,none⟩))∧G A C):=fun A _=>q2r A b;have S:Hid (∀ A,G w A→_):=fun A g=>pM A b x.num x.den (2*K) eK (qb32 qx).2 x.den_pos (dp g hb) (RatIs.G h hb g);have bn:Hid (∀ A p,G w A→NI w A p 0→_):=fun A p g hp=>qk A p 0 b 0 0 x.num.natAbs r (2*K) eK eK (qb32 qx).1 M m hp.2.1 (dp g hb) hp.2.2 (by rw[← dq];exact(RatIs.G h hb g).1);have bq:Hid (∀ A p p2,NI w A p 0→NI w A p2 (x.den:Int)→_):=fun A p p2 hp I=>qk A p 0 p2 0 0 x.den s (2*K) eK eK (qb32 qx).2 N al hp.2.1 I.2.1 hp.2.2 I.2.2;have cs:((r:Int):Rat)/((s:Int):Rat)=mkRat r s:=by rw[show (((s:Int):Int):Rat)=((s:Nat):Rat) from rfl,← Rat.mkRat_eq_div]
 have ca:Hid (∀ A D F B,NI w A D (r:Int)→NI w A F (s:Int)→Rec A B [.bool false,.slice none 0 0,.bool false,.slice none 0 0]→Calls Tryz.prog 43 #[.pointer (some ⟨B,0,none⟩),.pointer (some ⟨D,0,none⟩),.pointer (some ⟨F,0,none⟩)] A (NormTo A B (mkRat r s).num (mkRat r s).den)):=fun A D F B ha ce hz=>by
  have h:=iI A B D 0 F 0 (r:Int) (s:Int) (2*K) eK (by rw[ar,← d];exact o) (by rw[ar,← d];exact am) eK ha.2.1 ce.2.1 hz ha.2.2 ce.2.2;rw[cs] at h;exact h
 have qs:QB (mkRat r s) K:=lE dk rfl (by rw[ar];exact o) am;have bi:Hid (∀ A B bs,B<A.heap.size→bs<A.heap.size→RatIs A B 0 0→RIs A bs (mkRat r s)→_):=fun A B bs h1 h2 h3 h4=>q0j A B bs bs 0 0 (mkRat r s) (mkRat r s) K eK qs qs h1 h2 h2 h3 h4 h4;have ao:Hid (∀ A B,G w A→B<A.heap.size→RIs A B (mkRat r s*mkRat r s)→_):=fun A B g h1 h2=>rL A B b (mkRat r s*mkRat r s) x (K+K) eK (pj qs qs) (qx.mono eK) h1 (dp g hb) (Or.inl h2) (Or.inl (RatIs.G h hb g));have cl:∀ y:Rat,((y.num*x.den-x.num*y.den).sign==0)=decide (y=x):=fun y=>by
  rw[Bool.eq_iff_iff];simp only[beq_iff_eq,decide_eq_true_eq,Int.sign_eq_zero_iff_zero,oE]
 have ed:(((mkRat r s*mkRat r s).num*(x.den:Int)-x.num*((mkRat r s*mkRat r s).den:Int)).sign==0)=decide (r*r=x.num.natAbs∧s*s=x.den):=by
  rw[cl];exact decide_eq_decide.2 (q3u h0 M m N al)
 have ds:=hi9 ed;generalize decide (r*r=x.num.natAbs∧s*s=x.den)=t at *;generalize ((mkRat r s*mkRat r s).num*(x.den:Int)-x.num*((mkRat r s*mkRat r s).den:Int)).sign=z at *;clear h dq dk o am d qs cs h0 M m N al qx cl hK ec;go_enter Tryz.func33,Tryz.ntmps33;go_wp2_with fail;have ga:G w (w.alloc (.cells #[.bool false,.slice none 0 0] 43)):=(ag _).alloc _;have ha:NI w (w.alloc (.cells #[.bool false,.slice none 0 0] 43)) w.heap.size 0:=eu (ag _) _;generalize w.alloc (.cells #[.bool false,.slice none 0 0] 43)=A at *;generalize w.heap.size=D at *;refine eJ (U.out A ga) ?_;rintro e w2 ⟨rfl,g2⟩;have i:=aa ga g2;have j:=ha.G g2;have HQ:=hi9 (bn.out w2 D i j);have cb:Hid (∀ e C,SetTo w2 D 0 (r:Int) e C→Step w w2 D (r:Int) e C):=fun e C h=>h.step i j;clear U bn ha ga g2 i j;go_wp2_with fail;refine eJ HQ.out ?_;intro e R J;obtain⟨rfl,g3,r3,-,-⟩:=cb.out e R J;have R3:Hid (NI w R D (r:Int)):=r3;clear J HQ cb r3;go_wp2_with fail;have gb:G R (R.alloc (.cells #[.bool false,.slice none 0 0] 43)):=(ag _).alloc _;have ci:NI w (R.alloc (.cells #[.bool false,.slice none 0 0] 43)) R.heap.size 0:=eu g3 _;have cx:D≠R.heap.size:=by have:=R3.out.2.1;omega
 generalize R.alloc (.cells #[.bool false,.slice none 0 0] 43)=w4 at *;generalize R.heap.size=F at *;have g4:=aa g3 gb;have R4:Hid (NI w w4 D (r:Int)):=R3.out.G gb;have B4:Hid (NI w w4 F 0):=ci;clear ci gb g3 R3;refine eJ (S.out w4 g4) ?_;rintro e w5 ⟨pd,rfl,g5,cy,I,cz⟩;have cc:=aa g4 g5;have cm:NI w w5 pd (x.den:Int):=⟨bk g4.size cy,I,cz⟩;have b5:=B4.out.G g5;have r5:=R4.out.G g5;have bu:=hi9 (bq.out w5 F pd b5 cm);have X:Hid (∀ e C,SetTo w5 F 0 (s:Int) e C→e= .returned (.pointer (some ⟨F,0,none⟩))∧G w C∧NI w C F (s:Int)∧NI w C D (r:Int)):=fun e C h=>by
  obtain⟨a1,a2,a3,-,a5⟩:=h.step cc b5;exact⟨a1,a2,a3,a5 D _ cx r5⟩
 clear S bq cy I cz cm b5 r5 g4 g5 cc R4 B4 cx;go_wp2_with fail;refine eJ bu.out ?_;intro e L J;obtain⟨rfl,g6,b6,r6⟩:=X.out e L J;have B6:Hid (NI w L F (s:Int)):=b6;have R6:Hid (NI w L D (r:Int)):=r6;clear J bu X b6 r6;go_wp2_with fail;have gz:G L (L.alloc (.cells #[.bool false,.slice none 0 0,.bool false,.slice none 0 0] 45)):=(ag _).alloc _;have hz:Rec (L.alloc (.cells #[.bool false,.slice none 0 0,.bool false,.slice none 0 0] 45)) L.heap.size [.bool false,.slice none 0 0,.bool false,.slice none 0 0]:=⟨45,by simp only[World.alloc];exact dt⟩;have dl:w.heap.size≤L.heap.size:=g6.size;generalize L.alloc (.cells #[.bool false,.slice none 0 0,.bool false,.slice none 0 0] 45)=w7 at *;generalize L.heap.size=B at *;have g7:=aa g6 gz;have W:=hi9 (ca.out w7 D F B (R6.out.G gz) (B6.out.G gz) hz);have Y:=hz.lt;have bl:Hid (∀ e C,NormTo w7 B (mkRat r s).num (mkRat r s).den e C→e= .returned (.pointer (some ⟨B,0,none⟩))∧G w C∧B<C.heap.size∧RIs C B (mkRat r s)):=fun e C ⟨a1,a2,a3⟩=>⟨a1,GX.fresh g7 a2 dl,ae Y a2.size,a3⟩;clear ca R6 B6 hz g6 gz g7 Y;refine eJ W.out ?_;intro e E J;obtain⟨rfl,g8,z8,y8⟩:=bl.out e E J;have Y8:Hid (RIs E B (mkRat r s)):=y8;clear J W bl y8;go_wp2_with fail;have cn:=jX E 45;have gm:G E (E.alloc (.cells #[.bool false,.slice none 0 0,.bool false,.slice none 0 0] 45)):=(ag _).alloc _;have k:E.heap.size<(E.alloc (.cells #[.bool false,.slice none 0 0,.bool false,.slice none 0 0] 45)).heap.size:=by simp
 have cr:E.heap.size≤E.heap.size:=az _;generalize E.alloc (.cells #[.bool false,.slice none 0 0,.bool false,.slice none 0 0] 45)=w9 at *;have ap:=hi9 (bi.out w9 E.heap.size B k (dp gm z8) cn (RIs.G Y8.out z8 gm));have bv:Hid (∀ e C,SetRat w9 E.heap.size (mkRat r s*mkRat r s) e C→RetRat E (mkRat r s*mkRat r s) e C):=fun e C h=>SetRat.ret gm cr k h;have ea:Hid (∀ e C,SetRat w9 E.heap.size (mkRat r s*mkRat r s) e C→e= .returned (.pointer (some ⟨E.heap.size,0,none⟩))):=fun e C h=>h.1;clear bi cn cr k gm;refine eJ ap.out ?_;intro e O J;obtain⟨ee,rfl,g10,-,Z,dr⟩:=bv.out e O J;have cd:=aa g8 g10;have an:=hi9 (ao.out O ee cd Z dr);have eb:Hid (RIs O B (mkRat r s)):=RIs.G Y8.out z8 g10;have c:B<O.heap.size:=dp g10 z8;clear ap bv ea J ao dr Y8 z8 g8 g10 Z;go_wp2_with fail;refine eJ an.out ?_;rintro e em ⟨rfl,g11⟩;go_wp2_with fail
 go_ret2
 exact⟨B,by first|rfl|(rw[← ds.out];rfl),aa cd g11,dl,dp g11 c,RIs.G eb.out c g11⟩
end Go.Proofs.YtfnkkkcojnffdaaGreatDoor.EN
