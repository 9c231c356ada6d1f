/- What is proved here: the law on rounded fractions, over this seat's translation.
What is proved here: contracts of package span: Quo, Pow, Root, over this seat's translation.
What is proved here: the greater and the lesser of two finite floats, by the language's max and min and by package math's, over this seat's translation.
What is proved here: contracts of package span: Meet, Root, over this seat's translation.
What is proved here: contract of package span: Root, over this seat's translation.
What is proved here: contract of the reference: SpanOp, sums, differences, products, over this seat's translation.
What is proved here: what holds between the operations of the reference's quotients of spans, over this seat's translation.
What is proved here: contract of the reference: SpanOp, quotients, over this seat's translation.
What is proved here: contracts of the reference: SpanPow, SpanRoot; of the law's helpers: Spans, sp, over this seat's translation.
What is proved here: the program's and the reference's answers on spans are the same, way by way, over this seat's translation.
What is proved here: the closed fact of the law on spans, over this seat's translation. -/
import Derived.Test.YtohcneeihdkfgaaGreatDoorQ1
import Derived.Test.YtohcneeihdkfgaaGreatDoorQ43
import Derived.Test.YtohcneeihdkfgaaGreatDoorQ38
import Derived.Test.YtohcneeihdkfgaaGreatDoorQ6
import Derived.Test.YtohcneeihdkfgaaGreatDoorQ44
import Derived.Test.YtohcneeihdkfgaaGreatDoorQ37
import Derived.Test.YtohcneeihdkfgaaGreatDoorQ28
import Derived.Test.YtohcneeihdkfgaaGreatDoorQ6
import Derived.Test.YtohcneeihdkfgaaGreatDoorQ21
import Derived.Shelf.Strings.BuilderCap
import Derived.Handy
import Derived.Test.YtohcneeihdkfgaaGreatDoorQ37
import Derived.Test.YtohcneeihdkfgaaGreatDoorQ22
import Derived.Test.YtohcneeihdkfgaaGreatDoorQ38
import Derived.Test.YtohcneeihdkfgaaGreatDoorQ37
import Derived.Test.YtohcneeihdkfgaaGreatDoorQ37
import Derived.Test.YtohcneeihdkfgaaGreatDoorQ38
import Derived.Test.YtohcneeihdkfgaaGreatDoorQ37
import Derived.Test.YtohcneeihdkfgaaGreatDoorQ9
import Derived.Test.YtohcneeihdkfgaaGreatDoorQ8
import Derived.Test.YtohcneeihdkfgaaGreatDoorQ42
import Derived.Test.YtohcneeihdkfgaaGreatDoorQ10
import GoSem.Extern.MathDim
import Derived.Test.YtohcneeihdkfgaaGreatDoorQ3
namespace Go.Proofs.YtohcneeihdkfgaaGreatDoor.EN
open Go.ChangeShapes Go.WideShapes Go.ChangeAt Go.RowKit
theorem q5n {V:Nat} (h:V<2047*2^52):FT.v V<2^(64*33):=by
 obtain⟨n,D⟩:∃ n:Nat,n=2098:=⟨_,rfl⟩;have A:FT.v (2047*2^52)=2^n:=by
  obtain⟨k,C⟩:∃ k:Nat,k=2045:=⟨_,rfl⟩;rw[show 2047*2^52=2047*2^52+0 from rfl,FT.v_nor' _ _ eX eX,show 2047-1=1+k from by omega,show n=53+k from by omega,aP,ah 2 1 k,ah 2 53 k,← ar]
 have h1:FT.v V≤2^n:=by rw[← A];exact FT.v_le.2 eX
 obtain⟨m,B⟩:∃ m:Nat,m=64*33:=⟨_,rfl⟩;rw[← B];exact aD h1 (bk eX eX)
/-- A float as so many units. -/
theorem mW {b:Nat} (h:b<2^64) (B:fex b<2047):∃ z:Int,z.natAbs<2^(64*33)∧FQ b=mkRat z (2^1074)∧(z=0↔FT.rung b=0):=by
 have A:=(iW b).1 B;have h1:=(fq_v (FT.neg b) A).1;rw[rW h] at h1;refine⟨_,?_,h1,?_⟩
 ·have:=q5n A;split<;>omega
 ·have C:FT.v (FT.rung b)=0↔FT.rung b=0:=by
   constructor
   ·intro h2;rcases cm (FT.rung b) with h3|h3
    ·exact h3
    ·have:=FT.v_lt h3;omega
   ·intro h2;rw[h2];decide
  split<;>omega
theorem q1j {x y:Int} {E:Nat} (C:0<E) (_:y≠0):mkRat x E/mkRat y E=(x:Rat)/(y:Rat):=by
 have A:mkRat x E=Rat.divInt x E:=rfl;have B:mkRat y E=Rat.divInt y E:=rfl;rw[A,B,Rat.div_def,Rat.inv_divInt,Rat.divInt_mul_divInt,← Rat.divInt_eq_div,dz (E:Int) y];exact Rat.divInt_mul_right eX
theorem q3i {z:Int} (h:z.natAbs<2^(64*33)) {x:Rat} (C:x=mkRat z (2^1074)):QB x 33:=by
 refine kD jc C h ?_;obtain⟨m,A⟩:∃ m:Nat,m=64*33:=⟨_,rfl⟩;obtain⟨n,B⟩:∃ n:Nat,n=1074:=⟨_,rfl⟩;rw[← A,← B];exact bk eX eX
theorem q3h {x y:Int} (A:y≠0) (h1:x.natAbs<2^(64*33)) (h2:y.natAbs<2^(64*33)):QB ((x:Rat)/(y:Rat)) 33:=
 kD eX (qI A) (by split<;>omega) h2
attribute [local go_sem] fu
theorem q5c (w:World) (lo hi lo2 hi2:Nat) (r:Nat×Nat×Int)
  (i:∀ w1,G w w1→Calls Tryz.prog 115 #[.agg #[.float .f64 lo,.float .f64 hi],.agg #[.float .f64 lo2,.float .f64 hi2],.func (.func 120) #[] #[]] w1 (fR w1 r)):
  Calls Tryz.prog 48 #[.agg #[.float .f64 lo,.float .f64 hi],.agg #[.float .f64 lo2,.float .f64 hi2]] w (fR w r):=by
 have S:Hid (∀ w1,G w w1→_):=i;clear i;obtain⟨r1,r2,o⟩:=r;go_enter Tryz.func48,Tryz.ntmps48;go_wp2_with fail;obtain⟨w0,K,g0,m,U,W,X⟩:=gf w [.float .f64 lo,.float .f64 hi] [.float .f64 lo2,.float .f64 hi2] [.float .f64 0,.float .f64 0] 72 72 72;rw[K];clear K;obtain⟨A,B,C,D⟩:=fe U (ad _);obtain⟨E,F,I,J⟩:=fe W (ad _);go_wp2_with fail;refine eW (S.out _ g0) ?_;intro e w1 k;obtain⟨rfl,g1⟩:=k;clear S U W A B C D E F I J;obtain⟨M,N,O,R⟩:=fe X (g1);go_wp2_with fail;have j:Hid (Rec _ (w.heap.size+2) [.float .f64 r1,.float .f64 r2]):=bE (aw X.out (g1));have g9:=dQ j.out (ab g0 g1) eX;generalize (World.setCell (World.setCell w1 ⟨w.heap.size+2,0,none⟩ (.float .f64 r1)) ⟨w.heap.size+2,1,none⟩ (.float .f64 r2))=w9 at *;obtain⟨Y,Z,c,d⟩:=fe j (((ad _)));refine bodyPost_ret (v:= .tuple #[.agg #[.float .f64 r1,.float .f64 r2],.int .i64 o]) (by simp [results,Tryz.results48,go_sem, *]) rfl ?_;exact⟨rfl,g9⟩
/-- What a power of a span comes to. -/
def powV (lo hi:Nat) (n:Int):Nat×Nat×Int:=
 if n<0∨12<n then (0,0,2) else if spE lo hi=0 then outF (minL (FQ lo^n.toNat) (powT (FQ lo) (FQ hi) n.toNat)) (maxL (FQ lo^n.toNat) (powT (FQ lo) (FQ hi) n.toNat)) else (0,0,spE lo hi)
theorem gN {b:Nat} (h1:b<2^64) (h2:fex b<2047):QB (FQ b) 33:=by
 obtain⟨z,q,e,-⟩:=mW h1 h2;exact q3i q e
set_option maxHeartbeats 1000000 in
theorem q0U (w:World) (lo hi:Nat) (n:Int) (D:Tab w) (hl:lo<2^64) (hh:hi<2^64):
  Calls Tryz.prog 51 #[.agg #[.float .f64 lo,.float .f64 hi],.int .i64 n] w (fR w (powV lo hi n)):=by
 obtain⟨r,d⟩:∃ r,r=powV lo hi n:=⟨_,rfl⟩;rw[← d];unfold powV at d;by_cases E:n<0∨12<n
 ·rw[if_pos E] at d;subst d;clear D hl hh;rcases E with E|E
  ·have t1:decide (n<0)=true:=decide_eq_true E;clear E;go_enter Tryz.func51,Tryz.ntmps51;have gA:=et (et (ad w) (.cells #[.float .f64 lo,.float .f64 hi] 72)) (.cells #[.float .f64 0,.float .f64 0] 72);go_wp2_with fail;obtain⟨w0,A,g0,c,R0,R1⟩:=gF w [.float .f64 lo,.float .f64 hi] [.float .f64 0,.float .f64 0] 72 72;rw[A];clear A;obtain⟨J,K,M,N⟩:=fe R1 (ad _);refine bodyPost_ret (v:= .tuple #[.agg #[.float .f64 0,.float .f64 0],.int .i64 2]) (by simp [results,Tryz.results51,go_sem, *]) rfl ?_;exact⟨rfl,g0⟩
  ·have t1:decide (n<0)=false:=decide_eq_false eX;have t2:decide (12<n)=true:=decide_eq_true E;clear E;go_enter Tryz.func51,Tryz.ntmps51;go_wp2_with fail;obtain⟨w0,A,g0,c,R0,R1⟩:=gF w [.float .f64 lo,.float .f64 hi] [.float .f64 0,.float .f64 0] 72 72;rw[A];clear A;obtain⟨J,K,M,N⟩:=fe R1 (ad _);refine bodyPost_ret (v:= .tuple #[.agg #[.float .f64 0,.float .f64 0],.int .i64 2]) (by simp [results,Tryz.results51,go_sem, *]) rfl ?_;exact⟨rfl,g0⟩
 ·rw[if_neg E] at d;obtain⟨k,rfl⟩:∃ k:Nat,n=k:=⟨n.toNat,by omega⟩;rw[dw] at d;have hk:k≤12:=by omega
  have t1:decide ((k:Int)<0)=false:=decide_eq_false eX;have t2:decide ((12:Int)<(k:Int))=false:=decide_eq_false eX;clear E;have HW:Hid (∀ w1 bs,Rec w1 bs [.float .f64 lo,.float .f64 hi]→_):=fun w1 bs h=>rX w1 bs lo hi hl hh h;have HO:Hid (spE lo hi=0→∀ w1,G w w1→_):=fun h w1 g=>ly w1 lo hi (D.G g) hl hh (fA hl hh h).1 (fA hl hh h).2.1;have hq:spE lo hi=0→QB (FQ lo) 33∧QB (FQ hi) 33:=fun h=>⟨gN hl (fA hl hh h).1,gN hh (fA hl hh h).2.1⟩;have HP:Hid (spE lo hi=0→∀ w1 v,G w w1→ES w1 v (FQ lo) (FQ hi)→_):=fun h w1 v g hv=>q4r w1 v _ _ k (D.G g) hk hv (hq h).1 (hq h).2;have C:Hid (spE lo hi=0→∀ w1 v,ES w1 v (minL (FQ lo^k) (powT (FQ lo) (FQ hi) k)) (maxL (FQ lo^k) (powT (FQ lo) (FQ hi) k))→_):=fun h w1 v hv=>by
   have B:=mI hk (hq h).1 (hq h).2;exact q5x w1 v _ _ hv (lG (fun q=>QB q 400) _ _ (B _ bP) (fun y hy=>B y (ch _ hy))) (lF (fun q=>QB q 400) _ _ (B _ bP) (fun y hy=>B y (ch _ hy)))
  clear hq D hl hh hk;generalize minL (FQ lo^k) (powT (FQ lo) (FQ hi) k)=x at *;generalize maxL (FQ lo^k) (powT (FQ lo) (FQ hi) k)=y at *;generalize FQ lo=a at *;generalize FQ hi=b at *;have HR:Hid (r=if spE lo hi=0 then outF x y else (0,0,spE lo hi)):=d;clear d;generalize outF x y=o at *;generalize spE lo hi=e0 at *;obtain⟨r1,r2,r3⟩:=r;go_enter Tryz.func51,Tryz.ntmps51;go_wp2_with fail;obtain⟨w0,A,g0,c,R0,R1⟩:=gF w [.float .f64 lo,.float .f64 hi] [.float .f64 0,.float .f64 0] 72 72;rw[A];clear A;have j:=Rec.new w0 [.float .f64 lo,.float .f64 hi] 72;rw[c] at j;refine eW (HW.out _ _ j) ?_;rintro e w1 ⟨rfl,g1⟩;have I:=ab ((ad w0).alloc (.cells #[.float .f64 lo,.float .f64 hi] 72)) g1;have gw:=ab g0 I;have S0:Hid (Rec w1 w.heap.size _):=aw R0.out I;have S1:Hid (Rec w1 (w.heap.size+1) _):=aw R1.out I;clear j HW g1 R0 R1 c g0 I;by_cases he:e0=0
  ·subst he;have af:Hid (∀ w1,G w w1→_):=HO.out rfl;have ai:Hid (∀ w1 v,G w w1→ES w1 v a b→_):=HP.out rfl;have ag:Hid (∀ w1 v,ES w1 v x y→_):=C.out rfl;have F:Hid (o=(r1,r2,r3)):=by show _=_;rw[HR.out,if_pos rfl]
   clear HO HP C HR;obtain⟨O,R,S,U⟩:=fe S0 (ad _);go_wp2_with fail;clear O R S U S0;refine eW (af.out w1 gw) ?_;intro e w2 m;obtain⟨v,rfl,g2,hv⟩:=m;have HV:Hid (ES w2 v a b):=hv;have i:=ab gw g2;clear hv af;go_wp2_with fail;refine eW (ai.out w2 v i HV.out) ?_;intro e w3 m;obtain⟨v3,rfl,g3,hv⟩:=m;have al:Hid (ES w3 v3 x y):=hv;have bl:=ab i g3;clear hv ai HV;go_wp2_with fail;refine eW (ag.out w3 v3 al.out) ?_;intro e w4 m;have bm:e= .returned (.tuple #[.agg #[.float .f64 r1,.float .f64 r2],.int .i64 r3])∧G w3 w4:=by rw[F.out] at m;exact m
   obtain⟨rfl,g4⟩:=bm;have g14:=ab g2 (ab g3 g4);clear m ag al F g2 g3 g4 i bl;obtain⟨W,X,Y,Z⟩:=fe S1 (g14);go_wp2_with fail;have D:Hid (Rec _ (w.heap.size+1) [.float .f64 r1,.float .f64 r2]):=bE (aw S1.out (g14));have g9:=dQ D.out (ab gw g14) eX;generalize (World.setCell (World.setCell w4 ⟨w.heap.size+1,0,none⟩ (.float .f64 r1)) ⟨w.heap.size+1,1,none⟩ (.float .f64 r2))=w9 at *;obtain⟨am,an,ap,bi⟩:=fe D (((ad _)));refine bodyPost_ret (v:= .tuple #[.agg #[.float .f64 r1,.float .f64 r2],.int .i64 r3]) (by simp [results,Tryz.results51,go_sem, *]) rfl ?_;exact⟨rfl,g9⟩
  ·have k1:(e0==0)=false:=by simpa using he
   have k2:(e0 != 0)=true:=by simpa using he
   have F:Hid ((r1,r2,r3)=(0,0,e0)):=by show _=_;rw[HR.out,if_neg he]
   clear HO HP C HR he S0;obtain⟨W,X,Y,Z⟩:=fe S1 (ad _);go_wp2_with fail;have D:Hid (Rec _ (w.heap.size+1) [.float .f64 0,.float .f64 0]):=bE (aw S1.out (ad _));have g9:=dQ D.out (gw) eX;generalize (World.setCell (World.setCell w1 ⟨w.heap.size+1,0,none⟩ (.float .f64 0)) ⟨w.heap.size+1,1,none⟩ (.float .f64 0))=w9 at *;obtain⟨am,an,ap,bi⟩:=fe D (((ad _)));refine bodyPost_ret (v:= .tuple #[.agg #[.float .f64 0,.float .f64 0],.int .i64 e0]) (by simp [results,Tryz.results51,go_sem, *]) rfl ?_;exact⟨by rw[F.out],g9⟩
end Go.Proofs.YtohcneeihdkfgaaGreatDoor.EN
namespace Go.Proofs.YtohcneeihdkfgaaGreatDoor.EN
open Go.ChangeShapes Go.WideShapes Go.ChangeAt Go.RowKit
attribute [local go_sem] fu
theorem lC {x:Nat} (E:fex x<2047):((FloatKind.f64.decode x== .infinity true)=false∧(FloatKind.f64.decode x== .infinity false)=false)∧(FloatKind.f64.decode x).isNaN=false∧((FloatKind.f64.decode x).isZero=true→fz x=0):=by
 have D:=(iW x).1 E;obtain⟨m,p,C,-,-,F⟩:=FT.read_number (b:=x) (by unfold FT.infR;exact D);have A:FloatKind.f64.decode x= .number (FT.neg x) m p:=C;rw[A];refine⟨⟨rfl,rfl⟩,rfl,fun h=> ?_⟩;have B:FT.rung x=0:=by
  refine F.1 ?_;cases m with
  |zero=>rfl
  |succ m=>exact absurd h (by simp [Ieee.Datum.isZero])
 unfold fz;rw[B,show FT.v 0=0 from by decide];simp
/-- Is m a float of the greater number? -/
def MaxF (x y m:Nat):Prop:=(m=x∨m=y)∧fz x≤fz m∧fz y≤fz m
def MinF (x y m:Nat):Prop:=(m=x∨m=y)∧fz m≤fz x∧fz m≤fz y
theorem q1L {x y:Nat} (A:fex x<2047) (B:fex y<2047):∃ m,Extern.MathDim.pick "math.archMax" false .gt #[.float .f64 x,.float .f64 y]=pure (.float .f64 m)∧MaxF x y m:=by
 obtain⟨⟨I,a2⟩,a3,a4⟩:=lC A;obtain⟨⟨J,C⟩,D,E⟩:=lC B;have F:(FloatKind.f64.decode x).order (FloatKind.f64.decode y)=some (compare (fz x) (fz y)):=jY A B;refine⟨if FloatKind.f64.decode x== .infinity false||FloatKind.f64.decode y== .infinity false then FloatKind.f64.encode (.infinity false)
   else if (FloatKind.f64.decode x).isNaN||(FloatKind.f64.decode y).isNaN then 0x7FF8000000000001
   else if (FloatKind.f64.decode x).isZero&&(FloatKind.f64.decode y).isZero then (if (FloatKind.f64.decode x).neg==false then x else y)
   else if (FloatKind.f64.decode x).order (FloatKind.f64.decode y)==some .gt then x else y,rfl,?_⟩
 simp only[a2,a3,C,D,dI,ax,if_false,F];split
 ·rename_i h
  simp only[aS] at h;have h1:=a4 h.1;have h2:=E h.2;split
  ·exact⟨Or.inl rfl,by omega,by omega⟩
  ·exact⟨Or.inr rfl,by omega,by omega⟩
 ·rcases cx (fz x) (fz y) with h1|h1|h1
  ·rw[bO.2 h1];exact⟨Or.inr rfl,by show fz x≤fz y;omega,by show fz y≤fz y;omega⟩
  ·rw[cV.2 h1];exact⟨Or.inr rfl,by show fz x≤fz y;omega,by show fz y≤fz y;omega⟩
  ·rw[bX.2 h1];exact⟨Or.inl rfl,by show fz x≤fz x;omega,by show fz y≤fz x;omega⟩
theorem q1M {x y:Nat} (A:fex x<2047) (B:fex y<2047):∃ m,Extern.MathDim.pick "math.archMin" true .lt #[.float .f64 x,.float .f64 y]=pure (.float .f64 m)∧MinF x y m:=by
 obtain⟨⟨C,a2⟩,a3,a4⟩:=lC A;obtain⟨⟨D,J⟩,E,F⟩:=lC B;have I:(FloatKind.f64.decode x).order (FloatKind.f64.decode y)=some (compare (fz x) (fz y)):=jY A B;refine⟨if FloatKind.f64.decode x== .infinity true||FloatKind.f64.decode y== .infinity true then FloatKind.f64.encode (.infinity true)
   else if (FloatKind.f64.decode x).isNaN||(FloatKind.f64.decode y).isNaN then 0x7FF8000000000001
   else if (FloatKind.f64.decode x).isZero&&(FloatKind.f64.decode y).isZero then (if (FloatKind.f64.decode x).neg==true then x else y)
   else if (FloatKind.f64.decode x).order (FloatKind.f64.decode y)==some .lt then x else y,rfl,?_⟩
 simp only[C,a3,D,E,dI,ax,if_false,I];split
 ·rename_i h
  simp only[aS] at h;have h1:=a4 h.1;have h2:=F h.2;split
  ·exact⟨Or.inl rfl,by omega,by omega⟩
  ·exact⟨Or.inr rfl,by omega,by omega⟩
 ·rcases cx (fz x) (fz y) with h1|h1|h1
  ·rw[bO.2 h1];exact⟨Or.inl rfl,by show fz x≤fz x;omega,by show fz x≤fz y;omega⟩
  ·rw[cV.2 h1];exact⟨Or.inr rfl,by show fz y≤fz x;omega,by show fz y≤fz y;omega⟩
  ·rw[bX.2 h1];exact⟨Or.inr rfl,by show fz y≤fz x;omega,by show fz y≤fz y;omega⟩
theorem q2d (x y r:Nat) (h:Extern.MathDim.pick "math.archMax" false .gt #[.float .f64 x,.float .f64 y]=pure (.float .f64 r)) (w:World):
  (callFunc 137 #[.float .f64 x,.float .f64 y]).run Tryz.prog w= .ok (.value (.float .f64 r)) w:=by
 rw[run_callFunc_extern Tryz.func137 eZ eZ eZ (e:=Extern.MathDim.pick "math.archMax" false .gt) eZ,h];rfl
theorem q2e (x y r:Nat) (h:Extern.MathDim.pick "math.archMin" true .lt #[.float .f64 x,.float .f64 y]=pure (.float .f64 r)) (w:World):
  (callFunc 139 #[.float .f64 x,.float .f64 y]).run Tryz.prog w= .ok (.value (.float .f64 r)) w:=by
 rw[run_callFunc_extern Tryz.func139 eZ eZ eZ (e:=Extern.MathDim.pick "math.archMin" true .lt) eZ,h];rfl
theorem q1u (x y:Nat) (C:fex x<2047) (D:fex y<2047):∃ m,MaxF x y m∧∀ w:World,Calls Tryz.prog 57 #[.float .f64 x,.float .f64 y] w fun e w'=>e= .returned (.float .f64 m)∧G w w':=by
 obtain⟨m,B,A⟩:=q1L C D;refine⟨m,A,fun w=> ?_⟩;have E:=q2d x y m B;clear C D B A;go_enter Tryz.func57,Tryz.ntmps57;go_wp2;go_ret;exact⟨rfl,ad _⟩
theorem q1v (x y:Nat) (C:fex x<2047) (D:fex y<2047):∃ m,MinF x y m∧∀ w:World,Calls Tryz.prog 58 #[.float .f64 x,.float .f64 y] w fun e w'=>e= .returned (.float .f64 m)∧G w w':=by
 obtain⟨m,B,A⟩:=q1M C D;refine⟨m,A,fun w=> ?_⟩;have E:=q2e x y m B;clear C D B A;go_enter Tryz.func58,Tryz.ntmps58;go_wp2;go_ret;exact⟨rfl,ad _⟩
/-- The language's max and min of two finite floats. -/
theorem q4I {x y:Nat} (C:fex x<2047) (D:fex y<2047):∃ m,MaxF x y m∧∀ (B:Array TypeId) (t:TypeId) (w:World),(Builtin.max_ B t #[.float .f64 x,.float .f64 y]).run Tryz.prog w= .ok (.float .f64 m) w:=by
 have A:=jY C D;rcases cx (fz x) (fz y) with h1|h1|h1
 ·rw[bO.2 h1] at A;exact⟨y,⟨Or.inr rfl,by omega,by omega⟩,fun B t w=>by simp [Builtin.max_,Builtin.max2,A]⟩
 ·rw[cV.2 h1] at A;refine⟨if (FloatKind.f64.decode x).neg then y else x,?_,fun B t w=>by simp [Builtin.max_,Builtin.max2,A]⟩;split
  ·exact⟨Or.inr rfl,by omega,by omega⟩
  ·exact⟨Or.inl rfl,by omega,by omega⟩
 ·rw[bX.2 h1] at A;exact⟨x,⟨Or.inl rfl,by omega,by omega⟩,fun B t w=>by simp [Builtin.max_,Builtin.max2,A]⟩
theorem q4K {x y:Nat} (C:fex x<2047) (D:fex y<2047):∃ m,MinF x y m∧∀ (B:Array TypeId) (t:TypeId) (w:World),(Builtin.min_ B t #[.float .f64 x,.float .f64 y]).run Tryz.prog w= .ok (.float .f64 m) w:=by
 have A:=jY C D;rcases cx (fz x) (fz y) with h1|h1|h1
 ·rw[bO.2 h1] at A;exact⟨x,⟨Or.inl rfl,by omega,by omega⟩,fun B t w=>by simp [Builtin.min_,Builtin.min2,A]⟩
 ·rw[cV.2 h1] at A;refine⟨if (FloatKind.f64.decode x).neg then x else y,?_,fun B t w=>by simp [Builtin.min_,Builtin.min2,A]⟩;split
  ·exact⟨Or.inl rfl,by omega,by omega⟩
  ·exact⟨Or.inr rfl,by omega,by omega⟩
 ·rw[bX.2 h1] at A;exact⟨y,⟨Or.inr rfl,by omega,by omega⟩,fun B t w=>by simp [Builtin.min_,Builtin.min2,A]⟩
end Go.Proofs.YtohcneeihdkfgaaGreatDoor.EN
namespace Go.Proofs.YtohcneeihdkfgaaGreatDoor.EN
open Go.ChangeShapes Go.WideShapes Go.ChangeAt Go.RowKit
attribute [local go_sem] fu
theorem qi {a b c d:Nat} (h:spE2 a b c d=0):spE a b=0∧spE c d=0:=by
 unfold spE2 at h;by_cases k:spE a b=0
 ·rw[if_pos k] at h;exact⟨k,h⟩
 ·rw[if_neg k] at h;exact absurd h k
theorem nN (w:World) (lo hi lo2 hi2:Nat) (hl:lo<2^64) (hh:hi<2^64) (hl2:lo2<2^64) (hh2:hi2<2^64) (h:spE2 lo hi lo2 hi2≠0):
  Calls Tryz.prog 55 #[.agg #[.float .f64 lo,.float .f64 hi],.agg #[.float .f64 lo2,.float .f64 hi2]] w (fR w (0,0,spE2 lo hi lo2 hi2)):=by
 have Y:Hid (∀ w1 W,Rec w1 W [.float .f64 lo,.float .f64 hi,.float .f64 lo2,.float .f64 hi2]→_):=fun w1 W h=>nZ w1 W lo hi lo2 hi2 hl hh hl2 hh2 h;generalize spE2 lo hi lo2 hi2=e0 at *;have k1:(e0==0)=false:=by simpa using h
 have k2:(e0 != 0)=true:=by simpa using h
 clear hl hh hl2 hh2 h;go_enter Tryz.func55,Tryz.ntmps55;go_wp2_with fail;obtain⟨w0,N,g0,X,Z,c,d⟩:=gf w [.float .f64 lo,.float .f64 hi] [.float .f64 lo2,.float .f64 hi2] [.float .f64 0,.float .f64 0] 72 72 72;rw[N];clear N;obtain⟨A,B,C,D⟩:=fe Z (ad _);obtain⟨E,F,I,J⟩:=fe c (ad _);go_wp2_with fail;clear A B C D E F I J;have M:=Rec.new w0 [.float .f64 lo,.float .f64 hi,.float .f64 lo2,.float .f64 hi2] 72;rw[X] at M;refine Calls.mono (P:=Tryz.prog) (Y.out _ _ M) ?_;rintro e w1 ⟨rfl,g1⟩;have K:=ab ((ad w0).alloc (.cells #[.float .f64 lo,.float .f64 hi,.float .f64 lo2,.float .f64 hi2] 72)) g1;clear g1 Y M;clear Z c;obtain⟨O,R,S,U⟩:=fe d (K);go_wp2_with fail;have o:Hid (Rec _ (w.heap.size+2) [.float .f64 0,.float .f64 0]):=bE (aw d.out (K));have g9:=dQ o.out (ab g0 K) eX;generalize (World.setCell (World.setCell w1 ⟨w.heap.size+2,0,none⟩ (.float .f64 0)) ⟨w.heap.size+2,1,none⟩ (.float .f64 0))=w9 at *;obtain⟨i,j,k,m⟩:=fe o (((ad _)));refine bodyPost_ret (v:= .tuple #[.agg #[.float .f64 0,.float .f64 0],.int .i64 e0]) (by simp [results,Tryz.results55,go_sem, *]) rfl ?_;exact⟨rfl,g9⟩
/-- What lies in both of two spans, told by the greater of the lower ends and the lesser of the upper ones. -/
def kW (m1 m2:Nat):Nat×Nat×Int:=if (FloatKind.f64.format.order m1 m2==some .gt)=true then (0,0,9) else (m1,m2,0)
theorem q21 (lo hi lo2 hi2:Nat) (hl:lo<2^64) (hh:hi<2^64) (hl2:lo2<2^64) (hh2:hi2<2^64) (h:spE2 lo hi lo2 hi2=0):
  ∃ m1 m2,MaxF lo lo2 m1∧MinF hi hi2 m2∧∀ w,Calls Tryz.prog 55 #[.agg #[.float .f64 lo,.float .f64 hi],.agg #[.float .f64 lo2,.float .f64 hi2]] w (fR w (kW m1 m2)):=by
 obtain⟨k1,k2⟩:=qi h;obtain⟨f1,f2,-⟩:=fA hl hh k1;obtain⟨f3,f4,-⟩:=fA hl2 hh2 k2;obtain⟨m1,ag,an⟩:=q4I f1 f3;obtain⟨m2,ai,ap⟩:=q4K f2 f4;refine⟨m1,m2,ag,ai,fun w=> ?_⟩;have HW:Hid (∀ w1 bs,Rec w1 bs [.float .f64 lo,.float .f64 hi,.float .f64 lo2,.float .f64 hi2]→_):=fun w1 bs h=>nZ w1 bs lo hi lo2 hi2 hl hh hl2 hh2 h;rw[h] at HW;clear k1 k2 f1 f2 f3 f4 ag ai hl hh hl2 hh2 h;obtain⟨r,hr⟩:∃ r,r=kW m1 m2:=⟨_,rfl⟩;rw[← hr];have HR:Hid (r=kW m1 m2):=hr;clear hr;obtain⟨t,ht⟩:∃ t,(FloatKind.f64.format.order m1 m2==some .gt)=t:=⟨_,rfl⟩;have HT:Hid ((FloatKind.f64.format.order m1 m2==some .gt)=t):=ht;go_enter Tryz.func55,Tryz.ntmps55;go_wp2_with fail;obtain⟨w0,al,g0,am,R0,R1,R2⟩:=gf w [.float .f64 lo,.float .f64 hi] [.float .f64 lo2,.float .f64 hi2] [.float .f64 0,.float .f64 0] 72 72 72;rw[al];clear al;obtain⟨U,W,X,Y⟩:=fe R0 (ad _);obtain⟨Z,c,d,i⟩:=fe R1 (ad _);go_wp2_with fail;clear U W X Y Z c d i;have af:=Rec.new w0 [.float .f64 lo,.float .f64 hi,.float .f64 lo2,.float .f64 hi2] 72;rw[am] at af;refine Calls.mono (P:=Tryz.prog) (HW.out _ _ af) ?_;rintro e w1 ⟨rfl,g1⟩;have K:=ab ((ad w0).alloc (.cells #[.float .f64 lo,.float .f64 hi,.float .f64 lo2,.float .f64 hi2] 72)) g1;clear g1 HW af;have gw:=ab g0 K;have S0:Hid (Rec w1 w.heap.size _):=aw R0.out K;have S1:Hid (Rec w1 (w.heap.size+1) _):=aw R1.out K;have S2:Hid (Rec w1 (w.heap.size+2) _):=aw R2.out K;clear R0 R1 R2 g0 K am;obtain⟨A,B,C,D⟩:=fe S0 (ad _);obtain⟨E,F,I,J⟩:=fe S1 (ad _)
 have M:=et (ad w1) (.cells #[.float .f64 m1,.float .f64 m2] 72);obtain⟨N,O,R,S⟩:=fe S2 M;cases t
 ·have hv:r=(m1,m2,0):=by rw[HR.out];unfold kW;rw[if_neg (by rw[HT.out];decide)]
  subst hv;go_wp2_with fail;have g9:=Rec.g2 (b:=w.heap.size+2) (u:= .float .f64 m1) (v:= .float .f64 m2) (ab gw M) eX;have hT:Hid (Rec _ (w.heap.size+2) [.float .f64 m1,.float .f64 m2]):=bE (aw S2.out M);clear N O R S A B C D E F I J;obtain⟨j,k,m,o⟩:=fe hT (ad _);refine bodyPost_ret (v:= .tuple #[.agg #[.float .f64 m1,.float .f64 m2],.int .i64 0]) (by simp [results,Tryz.results55,go_sem, *]) rfl ?_;exact⟨rfl,g9⟩
 ·have hv:r=(0,0,9):=by rw[HR.out];unfold kW;rw[if_pos HT.out]
  subst hv;go_wp2_with fail;have g9:=Rec.g2 (b:=w.heap.size+2) (u:= .float .f64 0) (v:= .float .f64 0) (ab gw M) eX;have hT:Hid (Rec _ (w.heap.size+2) [.float .f64 0,.float .f64 0]):=bE (aw S2.out M);clear N O R S A B C D E F I J;obtain⟨j,k,m,o⟩:=fe hT (ad _);refine bodyPost_ret (v:= .tuple #[.agg #[.float .f64 0,.float .f64 0],.int .i64 9]) (by simp [results,Tryz.results55,go_sem, *]) rfl ?_;exact⟨rfl,g9⟩
end Go.Proofs.YtohcneeihdkfgaaGreatDoor.EN
namespace Go.Proofs.YtohcneeihdkfgaaGreatDoor.EN
open Go.ChangeShapes Go.WideShapes Go.ChangeAt Go.RowKit
attribute [local go_sem] fu
/-- What the root of a span comes to, where those of its ends are v1 and v2. -/
def kf (lo hi A v2:Nat):Nat×Nat×Int:=if spE lo hi=0 then (if (FloatKind.f64.format.order lo 0==some .lt)=true then (0,0,3) else (A,v2,0)) else (0,0,spE lo hi)
set_option maxHeartbeats 1000000 in
theorem rO (w:World) (lo hi v1 v2:Nat) (J:Tab w) (hl:lo<2^64) (hh:hi<2^64)
  (h1:spE lo hi=0→(FloatKind.f64.format.order lo 0==some .lt)=false→∀ w1 v,QIs w1 v (FQ lo)→Calls Tryz.prog 135 #[v,.int .i64 2] w1 fun r w'=>r= .returned (.tuple #[.float .f64 v1,.int .i64 0])∧G w1 w')
  (h2:spE lo hi=0→(FloatKind.f64.format.order lo 0==some .lt)=false→∀ w1 v,QIs w1 v (FQ hi)→Calls Tryz.prog 135 #[v,.int .i64 3] w1 fun r w'=>r= .returned (.tuple #[.float .f64 v2,.int .i64 0])∧G w1 w'):
  Calls Tryz.prog 53 #[.agg #[.float .f64 lo,.float .f64 hi]] w (fR w (kf lo hi v1 v2)):=by
 obtain⟨r,hr⟩:∃ r,r=kf lo hi v1 v2:=⟨_,rfl⟩;rw[← hr];unfold kf at hr;have HW:Hid (∀ w1 bs,Rec w1 bs [.float .f64 lo,.float .f64 hi]→_):=fun w1 bs h=>rX w1 bs lo hi hl hh h;have HO:Hid (spE lo hi=0→∀ w1,G w w1→_):=fun h w1 g=>ly w1 lo hi (J.G g) hl hh (fA hl hh h).1 (fA hl hh h).2.1;have HR:Hid (r=if spE lo hi=0 then (if (FloatKind.f64.format.order lo 0==some .lt)=true then (0,0,3) else (v1,v2,0)) else (0,0,spE lo hi)):=hr;have H1:Hid (spE lo hi=0→(FloatKind.f64.format.order lo 0==some .lt)=false→∀ w1 v,QIs w1 v (FQ lo)→_):=h1;have H2:Hid (spE lo hi=0→(FloatKind.f64.format.order lo 0==some .lt)=false→∀ w1 v,QIs w1 v (FQ hi)→_):=h2;clear hr J hl hh h1 h2;generalize FQ lo=a at *;generalize FQ hi=b at *;generalize spE lo hi=e0 at *;obtain⟨r1,r2,r3⟩:=r;go_enter Tryz.func53,Tryz.ntmps53;go_wp2_with fail;obtain⟨w0,K,g0,bq,R0,R1⟩:=gF w [.float .f64 lo,.float .f64 hi] [.float .f64 0,.float .f64 0] 72 72;rw[K];clear K;have an:=Rec.new w0 [.float .f64 lo,.float .f64 hi] 72;rw[bq] at an;refine eW (HW.out _ _ an) ?_;rintro e w1 ⟨rfl,g1⟩;have M:=ab ((ad w0).alloc (.cells #[.float .f64 lo,.float .f64 hi] 72)) g1;have gw:=ab g0 M;have S0:Hid (Rec w1 w.heap.size _):=aw R0.out M;have S1:Hid (Rec w1 (w.heap.size+1) _):=aw R1.out M;clear an HW g1 R0 R1 bq g0 M;by_cases he:e0=0
 ·subst he;obtain⟨t,ht⟩:∃ t,(FloatKind.f64.format.order lo 0==some .lt)=t:=⟨_,rfl⟩;have HT:Hid ((FloatKind.f64.format.order lo 0==some .lt)=t):=ht;have ai:Hid (∀ w1,G w w1→_):=HO.out rfl;obtain⟨d,i,j,k⟩:=fe S0 (ad _);cases t
  ·have E:Hid ((r1,r2,r3)=(v1,v2,0)):=by show _=_;rw[HR.out,if_pos rfl,if_neg (by rw[HT.out];decide)]
   have HA:Hid (∀ w1 v,QIs w1 v a→_):=H1.out rfl HT.out;have HB:Hid (∀ w1 v,QIs w1 v b→_):=H2.out rfl HT.out;clear HO HR HT H1 H2;go_wp2_with fail;clear d i j k S0 ht;refine eW (ai.out w1 gw) ?_;intro e w2 hs;obtain⟨v,rfl,g2,hv⟩:=hs;obtain⟨a1,k1,c1,a2,k2,c2,a3,k3,c3,a4,k4,c4,rfl,al,am⟩:=hv;obtain⟨t1,bm⟩:∃ t,t=decide (a.num<0):=⟨_,rfl⟩;obtain⟨t2,bn⟩:∃ t,t=decide (b.num<0):=⟨_,rfl⟩;rw[← bm] at al ⊢;rw[← bn] at am ⊢;clear bm bn;have ap:Hid (QIs w2 (.agg #[.bool t1,.slice a1 k1 c1,.slice a2 k2 c2]) a):=al;have bi:Hid (QIs w2 (.agg #[.bool t2,.slice a3 k3 c3,.slice a4 k4 c4]) b):=am;clear al am ai;go_wp2_with fail;obtain⟨w3,K,g3,bu,RE⟩:=ft w2 [.bool t1,.slice a1 k1 c1,.slice a2 k2 c2,.bool t2,.slice a3 k3 c3,.slice a4 k4 c4] 136;rw[K];clear K bu;generalize w2.heap.size=be at *;refine eW (HA.out w3 _ (QIs.G ap.out g3)) ?_;rintro e w4 ⟨rfl,g4⟩;have bl:Hid (QIs w4 _ b):=QIs.G (QIs.G bi.out g3) g4;clear HA ap bi;obtain⟨N,O,R,S,U,W,X,Y,Z,c,F,I⟩:=cY (aw RE.out (g4));go_wp2_with fail;clear N O R S U W X Y Z c F I RE;refine eW (HB.out w4 _ bl.out) ?_;rintro e w5 ⟨rfl,g5⟩;have g15:=ab g2 (ab g3 (ab g4 g5));clear HB bl g2 g3 g4 g5;obtain⟨A,B,C,D⟩:=fe S1 (g15);go_wp2_with fail;have J:Hid (Rec _ (w.heap.size+1) [.float .f64 v1,.float .f64 v2]):=bE (aw S1.out (g15));have g9:=dQ J.out (ab gw g15) eX;generalize (World.setCell (World.setCell w5 ⟨w.heap.size+1,0,none⟩ (.float .f64 v1)) ⟨w.heap.size+1,1,none⟩ (.float .f64 v2))=w9 at *;obtain⟨m,o,af,ag⟩:=fe J (((ad _)))
   refine bodyPost_ret (v:= .tuple #[.agg #[.float .f64 v1,.float .f64 v2],.int .i64 0]) (by simp [results,Tryz.results53,go_sem, *]) rfl ?_;exact⟨by rw[E.out],g9⟩
  ·have E:Hid ((r1,r2,r3)=(0,0,3)):=by show _=_;rw[HR.out,if_pos rfl,if_pos HT.out]
   clear HO ai HR HT H1 H2;obtain⟨A,B,C,D⟩:=fe S1 (ad _);go_wp2_with fail;have J:Hid (Rec _ (w.heap.size+1) [.float .f64 0,.float .f64 0]):=bE (aw S1.out (ad _));have g9:=dQ J.out (gw) eX;generalize (World.setCell (World.setCell w1 ⟨w.heap.size+1,0,none⟩ (.float .f64 0)) ⟨w.heap.size+1,1,none⟩ (.float .f64 0))=w9 at *;obtain⟨m,o,af,ag⟩:=fe J (((ad _)));refine bodyPost_ret (v:= .tuple #[.agg #[.float .f64 0,.float .f64 0],.int .i64 3]) (by simp [results,Tryz.results53,go_sem, *]) rfl ?_;exact⟨by rw[E.out],g9⟩
 ·have k1:(e0==0)=false:=by simpa using he
  have k2:(e0 != 0)=true:=by simpa using he
  have E:Hid ((r1,r2,r3)=(0,0,e0)):=by show _=_;rw[HR.out,if_neg he]
  clear HO HR he S0 H1 H2;obtain⟨A,B,C,D⟩:=fe S1 (ad _);go_wp2_with fail;have J:Hid (Rec _ (w.heap.size+1) [.float .f64 0,.float .f64 0]):=bE (aw S1.out (ad _));have g9:=dQ J.out (gw) eX;generalize (World.setCell (World.setCell w1 ⟨w.heap.size+1,0,none⟩ (.float .f64 0)) ⟨w.heap.size+1,1,none⟩ (.float .f64 0))=w9 at *;obtain⟨m,o,af,ag⟩:=fe J (((ad _)));refine bodyPost_ret (v:= .tuple #[.agg #[.float .f64 0,.float .f64 0],.int .i64 e0]) (by simp [results,Tryz.results53,go_sem, *]) rfl ?_;exact⟨by rw[E.out],g9⟩
end Go.Proofs.YtohcneeihdkfgaaGreatDoor.EN
namespace Go.Proofs.YtohcneeihdkfgaaGreatDoor.EN
open Go.ChangeShapes Go.WideShapes Go.ChangeAt Go.RowKit
attribute [local go_sem] fu
set_option maxRecDepth 30000 in
set_option maxHeartbeats 4000000 in
theorem kI (w:World) (lo hi lo2 hi2:Nat) (x y:Rat) (hl:lo<2^64) (hh:hi<2^64) (hl2:lo2<2^64) (hh2:hi2<2^64)
  (k:Int) (FN:Nat) (hk:(k=0∧FN=122)∨(k=1∧FN=124)∨(k=2∧FN=125)) (hle:spE2 lo hi lo2 hi2=0→x≤y) (qx:spE2 lo hi lo2 hi2=0→QB x 400) (qy:spE2 lo hi lo2 hi2=0→QB y 400)
  (fv:spE lo hi=0→spE lo2 hi2=0→∀ w1 v u,EW w1 v (FQ lo) (FQ hi)→EW w1 u (FQ lo2) (FQ hi2)→Calls Tryz.prog FN #[v,u] w1 (jK w1 x y))
  (r:Nat×Nat×Int) (hr:r=if spE2 lo hi lo2 hi2=0 then outF x y else (0,0,spE2 lo hi lo2 hi2)):
  Calls Tryz.prog 49 #[.int .i64 k,.agg #[.float .f64 lo,.float .f64 hi],.agg #[.float .f64 lo2,.float .f64 hi2]] w (fR w r):=by
 have H1:Hid (∀ w1:World,_):=fun w1=>gQ w1 lo hi hl hh;have H2:Hid (∀ w1:World,_):=fun w1=>gQ w1 lo2 hi2 hl2 hh2;have ds:Hid (spE lo hi=0→∀ w1:World,_):=fun h w1=>kE w1 lo hi hl hh (fA hl hh h).1 (fA hl hh h).2.1;have an:Hid (spE lo2 hi2=0→∀ w1:World,_):=fun h w1=>kE w1 lo2 hi2 hl2 hh2 (fA hl2 hh2 h).1 (fA hl2 hh2 h).2.1;have dr:Hid (spE lo hi=0→spE lo2 hi2=0→∀ w1 v u,EW w1 v (FQ lo) (FQ hi)→EW w1 u (FQ lo2) (FQ hi2)→Calls Tryz.prog FN #[v,u] w1 (jK w1 x y)):=fv;have am:Hid (spE2 lo hi lo2 hi2=0→∀ w1 v,EW w1 v x y→_):=fun h w1 v hv=>lh w1 v x y hv (hle h) (qx h) (qy h);clear fv hle qx qy;have HR:Hid (r=if spE2 lo hi lo2 hi2=0 then outF x y else (0,0,spE2 lo hi lo2 hi2)):=hr;have HE:Hid (spE2 lo hi lo2 hi2=if spE lo hi=0 then spE lo2 hi2 else spE lo hi):=by show _=_;rfl
 clear hl hh hl2 hh2 hr;generalize FQ lo=a at *;generalize FQ hi=b at *;generalize FQ lo2=c at *;generalize FQ hi2=d at *;generalize outF x y=o at *;generalize spE2 lo hi lo2 hi2=e0 at *;generalize spE lo hi=e1 at *;generalize spE lo2 hi2=e2 at *;obtain⟨r1,r2,r3⟩:=r;go_enter Tryz.func49,Tryz.ntmps49;go_wp2_with fail;obtain⟨w0,hf,g0,hz,R0,R1,R2⟩:=gf w [.float .f64 lo,.float .f64 hi] [.float .f64 lo2,.float .f64 hi2] [.float .f64 0,.float .f64 0] 72 72 72;rw[hf];clear hf;obtain⟨ap,bi,bl,bm⟩:=fe R0 (ad _);go_wp2_with fail;clear ap bi bl bm;refine eW (H1.out _) ?_;rintro e w1 ⟨rfl,g1⟩;clear H1;by_cases M:e1=0
 case neg=>
  have k1:(e1==0)=false:=by simpa using M
  have k2:(e1 != 0)=true:=by simpa using M
  have J:Hid ((r1,r2,r3)=(0,0,e1)):=by show _=_;rw[HR.out,HE.out,if_neg M,if_neg M]
  clear HR HE M H2 ds an R0 R1 dr am;obtain⟨bv,bw,bz,ca⟩:=fe R2 (g1);go_wp2_with fail;have hT:Hid (Rec _ (w.heap.size+2) [.float .f64 0,.float .f64 0]):=bE (aw R2.out (g1));have g9:=dQ hT.out (ab g0 g1) eX;generalize (World.setCell (World.setCell w1 ⟨w.heap.size+2,0,none⟩ (.float .f64 0)) ⟨w.heap.size+2,1,none⟩ (.float .f64 0))=w9 at *;obtain⟨cs,cz,di,dl⟩:=fe hT (((ad _)));refine bodyPost_ret (v:= .tuple #[.agg #[.float .f64 0,.float .f64 0],.int .i64 e1]) (by simp [results,Tryz.results49,go_sem, *]) rfl ?_;exact⟨by rw[J.out],g9⟩
 subst M;have ea:Hid (∀ w1:World,_):=ds.out rfl;have al:Hid (e0=e2):=by show _=_;rw[HE.out,if_pos rfl]
 have N:Hid (e2=0→∀ w1 v u,EW w1 v a b→EW w1 u c d→_):=dr.out rfl;clear dr;clear HE;obtain⟨bn,bq,bs,bu⟩:=fe R1 (g1);go_wp2_with fail;clear bn bq bs bu ds;refine eW (H2.out _) ?_;rintro e w2 ⟨rfl,g2⟩;have g12:=ab g1 g2;clear H2 g1 g2;by_cases ai:e2=0
 case neg=>
  have k1:(e2==0)=false:=by simpa using ai
  have k2:(e2 != 0)=true:=by simpa using ai
  have J:Hid ((r1,r2,r3)=(0,0,e2)):=by show _=_;rw[HR.out,al.out,if_neg ai]
  clear HR al ai an ea R0 R1 N am;obtain⟨bv,bw,bz,ca⟩:=fe R2 (g12);go_wp2_with fail;have hT:Hid (Rec _ (w.heap.size+2) [.float .f64 0,.float .f64 0]):=bE (aw R2.out (g12));have g9:=dQ hT.out (ab g0 g12) eX;generalize (World.setCell (World.setCell w2 ⟨w.heap.size+2,0,none⟩ (.float .f64 0)) ⟨w.heap.size+2,1,none⟩ (.float .f64 0))=w9 at *;obtain⟨cs,cz,di,dl⟩:=fe hT (((ad _)));refine bodyPost_ret (v:= .tuple #[.agg #[.float .f64 0,.float .f64 0],.int .i64 e2]) (by simp [results,Tryz.results49,go_sem, *]) rfl ?_;exact⟨by rw[J.out],g9⟩
 subst ai;have eu:Hid (∀ w1:World,_):=an.out rfl;have ec:e0=0:=al.out;have J:Hid ((r1,r2,r3)=o):=by show _=_;rw[HR.out,if_pos ec]
 have cl:Hid (∀ w1 v u,EW w1 v a b→EW w1 u c d→_):=N.out rfl;have cr:Hid (∀ w1 v,EW w1 v x y→_):=am.out ec;clear N am;subst ec;have S0:Hid (Rec w2 w.heap.size [.float .f64 lo,.float .f64 hi]):=aw R0.out g12;have S1:Hid (Rec w2 (w.heap.size+1) [.float .f64 lo2,.float .f64 hi2]):=aw R1.out g12;have S2:Hid (Rec w2 (w.heap.size+2) [.float .f64 0,.float .f64 0]):=aw R2.out g12;have gw:=ab g0 g12;have he:=g12.size;have ee:w.heap.size+2<w2.heap.size:=by omega
 clear HR al an R0 R1 R2 g0 g12 hz he;go_wp2_with fail;refine q6Z 6 2 [.is (.agg #[.float .f64 lo,.float .f64 hi]),.any (fun v w'=>EW w' v a b),.is (.agg #[.float .f64 lo2,.float .f64 hi2]),.any (fun v w'=>EW w' v c d),.fresh (fun v w'=>NewRec w2 w' v ([.pointer none,.pointer none])),.fresh (fun v w'=>NewRec w2 w' v ([.pointer none,.pointer none]))] [some 24,some 25,some 26,some 27,some 10,some 11] ?_;intro v1 v3 v4 v5 A hA;simp only[fG,Act.put,aq,ay,az] at hA;subst hA;refine⟨?_,?_⟩
 ·skip
  refine eR rfl ?a1 (eR rfl ?a6 (eR rfl ?o1_2 (eR rfl ?a7 (eR rfl ?a8 (eR rfl ?b0 (RN.Eaches.nil))))))
  case a1|o1_2=>
   intro W hW hD K hK;clear hD;have ⟨hp,hq⟩:=rc29 S0 hW;have ⟨ht,hw⟩:=rc29 S1 hW;go_simp;exact hK.out _ _ ⟨_,rfl,ad _,rfl⟩
  ·intro W hW hD K hK;have hc:=hi9 (ea.out W);exact gY
  ·intro W hW hD K hK;have hc:=hi9 (eu.out W);exact gY
  ·intro W hW hD K hK;clear hD;go_simp;exact hK.out _ _ ⟨_,rfl,(ad _).alloc _,⟨_,rfl,hW.size,Rec.new2 _ _ _ _⟩,_,rfl,aI _,by simp⟩
  ·intro W hW hD K hK;clear hD;go_simp;exact hK.out _ _ ⟨_,rfl,(ad _).alloc _,⟨_,rfl,hW.size,Rec.new2 _ _ _ _⟩,_,rfl,aI _,by simp⟩
 intro w3 g3 hH fp;have h1:=q4D v1 1 hH;have h3:=q4D v3 3 hH;have h4:=q4C v4 4 hH;have h5:=q4C v5 5 hH;have dq:v4≠v5:=fp 4 5 _ _ _ _ fk rfl rfl trivial trivial rfl rfl;clear hH fp;obtain⟨bx,rfl,hy,hd⟩:=h4;obtain⟨B,rfl,hx,ha⟩:=h5;obtain⟨C,D,rfl,ga,gd⟩:=h1;obtain⟨E,F,rfl,gg,gm⟩:=h3;have ci:bx≠B:=fun e=>dq (by rw[e]);have RX:Hid (Rec w3 bx [.pointer none,.pointer none]):=hd;have RY:Hid (Rec w3 B [.pointer none,.pointer none]):=ha;have T2:Hid (Rec w3 (w.heap.size+2) [.float .f64 0,.float .f64 0]):=aw S2.out g3;have P1:Hid (PR w3 (.pointer (some ⟨C,0,none⟩)) a):=ga;have P2:Hid (PR w3 (.pointer (some ⟨D,0,none⟩)) b):=gd;have P3:Hid (PR w3 (.pointer (some ⟨E,0,none⟩)) c):=gg;have P4:Hid (PR w3 (.pointer (some ⟨F,0,none⟩)) d):=gm;have fh:=ab gw g3;have ib:w.heap.size+2<bx:=by omega
 have ia:w.heap.size+2<B:=by omega
 have fs:w.heap.size≤bx:=by omega
 have fr:w.heap.size≤B:=by omega
 clear hd ha ga gd gg gm ea eu S0 S1 S2 gw g3 dq hy hx ee;obtain⟨cb,cc,cd,ce⟩:=fe RX (ad _);refine wpAny_ready (rs:=[6]) eZ fX ?_;refine AllReady.cons rfl (fun K hK=> ?_) AllReady.nil;go_simp;refine hK _ _ ?_;clear hK K cb cc cd ce;have k1:PR _ (.pointer (some ⟨C,0,none⟩)) a:=fI (u1:= .pointer (some ⟨C,0,none⟩)) (u2:= .pointer (some ⟨D,0,none⟩)) P1.out RX.out (bS _) (bS _);have k2:PR _ (.pointer (some ⟨D,0,none⟩)) b:=fI (u1:= .pointer (some ⟨C,0,none⟩)) (u2:= .pointer (some ⟨D,0,none⟩)) P2.out RX.out (bS _) (bS _);have k3:PR _ (.pointer (some ⟨E,0,none⟩)) c:=fI (u1:= .pointer (some ⟨C,0,none⟩)) (u2:= .pointer (some ⟨D,0,none⟩)) P3.out RX.out (bS _) (bS _);have k4:PR _ (.pointer (some ⟨F,0,none⟩)) d:=fI (u1:= .pointer (some ⟨C,0,none⟩)) (u2:= .pointer (some ⟨D,0,none⟩)) P4.out RX.out (bS _) (bS _);have k5:Rec _ bx [.pointer (some ⟨C,0,none⟩),.pointer (some ⟨D,0,none⟩)]:=bE RX.out;have k6:=Rec.g2 (b:=bx) (u:= .pointer (some ⟨C,0,none⟩)) (v:= .pointer (some ⟨D,0,none⟩)) fh fs;have k7:Rec ((w3.setCell ⟨bx,0,none⟩ (.pointer (some ⟨C,0,none⟩))).setCell ⟨bx,1,none⟩ (.pointer (some ⟨D,0,none⟩))) B [.pointer none,.pointer none]:=(RY.out.oth (p:=⟨bx,0,none⟩) _ ci).oth (p:=⟨bx,1,none⟩) _ ci;have k8:Rec ((w3.setCell ⟨bx,0,none⟩ (.pointer (some ⟨C,0,none⟩))).setCell ⟨bx,1,none⟩ (.pointer (some ⟨D,0,none⟩))) (w.heap.size+2) [.float .f64 0,.float .f64 0]:=(T2.out.oth (p:=⟨bx,0,none⟩) _ (by show bx≠w.heap.size+2;omega)).oth (p:=⟨bx,1,none⟩) _ (by show bx≠w.heap.size+2;omega)
 generalize (w3.setCell ⟨bx,0,none⟩ (.pointer (some ⟨C,0,none⟩))).setCell ⟨bx,1,none⟩ (.pointer (some ⟨D,0,none⟩))=w4 at *;have ez:Hid (Rec w4 bx [.pointer (some ⟨C,0,none⟩),.pointer (some ⟨D,0,none⟩)]):=k5;have I:Hid (Rec w4 B [.pointer none,.pointer none]):=k7;have T4:Hid (Rec w4 (w.heap.size+2) [.float .f64 0,.float .f64 0]):=k8;have Q1:Hid (PR w4 (.pointer (some ⟨C,0,none⟩)) a):=k1;have Q2:Hid (PR w4 (.pointer (some ⟨D,0,none⟩)) b):=k2;have Q3:Hid (PR w4 (.pointer (some ⟨E,0,none⟩)) c):=k3;have Q4:Hid (PR w4 (.pointer (some ⟨F,0,none⟩)) d):=k4;clear k1 k2 k3 k4 k5 k7 k8 RX RY T2 P1 P2 P3 P4 fh;obtain⟨X,Y,Z,i⟩:=fe I (ad _);refine wpAny_ready (rs:=[7]) eZ fX ?_;refine AllReady.cons rfl (fun K hK=> ?_) AllReady.nil;go_simp;refine hK _ _ ?_;clear hK K X Y Z i;refine wpAny_done eZ ?_ _;have k1:PR _ (.pointer (some ⟨C,0,none⟩)) a:=fI (u1:= .pointer (some ⟨E,0,none⟩)) (u2:= .pointer (some ⟨F,0,none⟩)) Q1.out I.out (bS _) (bS _);have k2:PR _ (.pointer (some ⟨D,0,none⟩)) b:=fI (u1:= .pointer (some ⟨E,0,none⟩)) (u2:= .pointer (some ⟨F,0,none⟩)) Q2.out I.out (bS _) (bS _);have k3:PR _ (.pointer (some ⟨E,0,none⟩)) c:=fI (u1:= .pointer (some ⟨E,0,none⟩)) (u2:= .pointer (some ⟨F,0,none⟩)) Q3.out I.out (bS _) (bS _);have k4:PR _ (.pointer (some ⟨F,0,none⟩)) d:=fI (u1:= .pointer (some ⟨E,0,none⟩)) (u2:= .pointer (some ⟨F,0,none⟩)) Q4.out I.out (bS _) (bS _);have k5:Rec _ B [.pointer (some ⟨E,0,none⟩),.pointer (some ⟨F,0,none⟩)]:=bE I.out
 have ho:=Rec.g2 (b:=B) (u:= .pointer (some ⟨E,0,none⟩)) (v:= .pointer (some ⟨F,0,none⟩)) k6 fr;have k7:Rec ((w4.setCell ⟨B,0,none⟩ (.pointer (some ⟨E,0,none⟩))).setCell ⟨B,1,none⟩ (.pointer (some ⟨F,0,none⟩))) bx [.pointer (some ⟨C,0,none⟩),.pointer (some ⟨D,0,none⟩)]:=(ez.out.oth (p:=⟨B,0,none⟩) _ (bZ ci)).oth (p:=⟨B,1,none⟩) _ (bZ ci);have k8:Rec ((w4.setCell ⟨B,0,none⟩ (.pointer (some ⟨E,0,none⟩))).setCell ⟨B,1,none⟩ (.pointer (some ⟨F,0,none⟩))) (w.heap.size+2) [.float .f64 0,.float .f64 0]:=(T4.out.oth (p:=⟨B,0,none⟩) _ (by show B≠w.heap.size+2;omega)).oth (p:=⟨B,1,none⟩) _ (by show B≠w.heap.size+2;omega);generalize (w4.setCell ⟨B,0,none⟩ (.pointer (some ⟨E,0,none⟩))).setCell ⟨B,1,none⟩ (.pointer (some ⟨F,0,none⟩))=w5 at *;have fa:Hid (Rec w5 bx [.pointer (some ⟨C,0,none⟩),.pointer (some ⟨D,0,none⟩)]):=k7;have fb:Hid (Rec w5 B [.pointer (some ⟨E,0,none⟩),.pointer (some ⟨F,0,none⟩)]):=k5;have T5:Hid (Rec w5 (w.heap.size+2) [.float .f64 0,.float .f64 0]):=k8;have em:Hid (EW w5 (.agg #[.pointer (some ⟨C,0,none⟩),.pointer (some ⟨D,0,none⟩)]) a b):=⟨C,D,rfl,k1,k2⟩;have ep:Hid (EW w5 (.agg #[.pointer (some ⟨E,0,none⟩),.pointer (some ⟨F,0,none⟩)]) c d):=⟨E,F,rfl,k3,k4⟩;clear k1 k2 k3 k4 k5 k6 k7 k8 ez I T4 Q1 Q2 Q3 Q4;rcases hk with ⟨rfl,rfl⟩|⟨rfl,rfl⟩|⟨rfl,rfl⟩
 all_goals
  obtain⟨O,R,S,U⟩:=fe fa (ad _);obtain⟨j,m,af,ag⟩:=fe fb (ad _);go_wp2_with fail;clear O R S U j m af ag fa fb;refine eW (cl.out w5 _ _ em.out ep.out) ?_;intro e w6 hs;obtain⟨v,rfl,g6,hv⟩:=hs;have HV:Hid (EW w6 v x y):=hv;clear hv cl em ep;go_wp2_with fail;refine eW (cr.out w6 v HV.out) ?_;intro e w7 hs;have ee:e= .returned (.tuple #[.agg #[.float .f64 r1,.float .f64 r2],.int .i64 r3])∧G w6 w7:=by rw[← J.out] at hs;exact hs
  obtain⟨rfl,g7⟩:=ee;have eb:=ab g6 g7;clear hs cr HV J g6 g7;obtain⟨hg,hj,hm,hn⟩:=fe T5 (eb);go_wp2_with fail;have hT:Hid (Rec _ (w.heap.size+2) [.float .f64 r1,.float .f64 r2]):=bE (aw T5.out (eb));have g9:=dQ hT.out (ab ho eb) eX;generalize (World.setCell (World.setCell w7 ⟨w.heap.size+2,0,none⟩ (.float .f64 r1)) ⟨w.heap.size+2,1,none⟩ (.float .f64 r2))=w9 at *;obtain⟨cs,cz,di,dl⟩:=fe hT (((ad _)));refine bodyPost_ret (v:= .tuple #[.agg #[.float .f64 r1,.float .f64 r2],.int .i64 r3]) (by simp [results,Tryz.results49,go_sem, *]) rfl ?_;exact⟨rfl,g9⟩
theorem q1X (w:World) (lo hi lo2 hi2:Nat) (x y:Rat) (hl:lo<2^64) (hh:hi<2^64) (hl2:lo2<2^64) (hh2:hi2<2^64)
  (A:x=FQ lo+FQ lo2∧y=FQ hi+FQ hi2) (hle:spE2 lo hi lo2 hi2=0→x≤y) (D:spE2 lo hi lo2 hi2=0→QB x 400) (E:spE2 lo hi lo2 hi2=0→QB y 400)
  (r:Nat×Nat×Int) (C:r=if spE2 lo hi lo2 hi2=0 then outF x y else (0,0,spE2 lo hi lo2 hi2)):
  Calls Tryz.prog 49 #[.int .i64 0,.agg #[.float .f64 lo,.float .f64 hi],.agg #[.float .f64 lo2,.float .f64 hi2]] w (fR w r):=by
 have B:spE lo hi=0→spE lo2 hi2=0→(QB (FQ lo) 80∧QB (FQ hi) 80)∧QB (FQ lo2) 80∧QB (FQ hi2) 80:=fun h1 h2=>
  ⟨⟨(gN hl (fA hl hh h1).1).mono eX,(gN hh (fA hl hh h1).2.1).mono eX⟩,(gN hl2 (fA hl2 hh2 h2).1).mono eX,(gN hh2 (fA hl2 hh2 h2).2.1).mono eX⟩
 refine kI w lo hi lo2 hi2 x y hl hh hl2 hh2 0 _ (Or.inl ⟨rfl,rfl⟩) hle D E (fun h1 h2 w1 v u hv hu=> ?_) r C;rw[A.1,A.2];exact q1Q w1 v u _ _ _ _ 80 eX hv hu (B h1 h2).1.1 (B h1 h2).1.2 (B h1 h2).2.1 (B h1 h2).2.2
theorem q1Y (w:World) (lo hi lo2 hi2:Nat) (x y:Rat) (hl:lo<2^64) (hh:hi<2^64) (hl2:lo2<2^64) (hh2:hi2<2^64)
  (A:x=FQ lo-FQ hi2∧y=FQ hi-FQ lo2) (hle:spE2 lo hi lo2 hi2=0→x≤y) (D:spE2 lo hi lo2 hi2=0→QB x 400) (E:spE2 lo hi lo2 hi2=0→QB y 400)
  (r:Nat×Nat×Int) (C:r=if spE2 lo hi lo2 hi2=0 then outF x y else (0,0,spE2 lo hi lo2 hi2)):
  Calls Tryz.prog 49 #[.int .i64 1,.agg #[.float .f64 lo,.float .f64 hi],.agg #[.float .f64 lo2,.float .f64 hi2]] w (fR w r):=by
 have B:spE lo hi=0→spE lo2 hi2=0→(QB (FQ lo) 80∧QB (FQ hi) 80)∧QB (FQ lo2) 80∧QB (FQ hi2) 80:=fun h1 h2=>
  ⟨⟨(gN hl (fA hl hh h1).1).mono eX,(gN hh (fA hl hh h1).2.1).mono eX⟩,(gN hl2 (fA hl2 hh2 h2).1).mono eX,(gN hh2 (fA hl2 hh2 h2).2.1).mono eX⟩
 refine kI w lo hi lo2 hi2 x y hl hh hl2 hh2 1 _ (Or.inr (Or.inl ⟨rfl,rfl⟩)) hle D E (fun h1 h2 w1 v u hv hu=> ?_) r C;rw[A.1,A.2];exact q0d w1 v u _ _ _ _ 80 eX hv hu (B h1 h2).1.1 (B h1 h2).1.2 (B h1 h2).2.1 (B h1 h2).2.2
theorem q1Z (w:World) (lo hi lo2 hi2:Nat) (x y:Rat) (hl:lo<2^64) (hh:hi<2^64) (hl2:lo2<2^64) (hh2:hi2<2^64)
  (A:x=minL (FQ lo*FQ lo2) [FQ lo*FQ hi2,FQ hi*FQ lo2,FQ hi*FQ hi2]∧y=maxL (FQ lo*FQ lo2) [FQ lo*FQ hi2,FQ hi*FQ lo2,FQ hi*FQ hi2]) (hle:spE2 lo hi lo2 hi2=0→x≤y) (D:spE2 lo hi lo2 hi2=0→QB x 400) (E:spE2 lo hi lo2 hi2=0→QB y 400)
  (r:Nat×Nat×Int) (C:r=if spE2 lo hi lo2 hi2=0 then outF x y else (0,0,spE2 lo hi lo2 hi2)):
  Calls Tryz.prog 49 #[.int .i64 2,.agg #[.float .f64 lo,.float .f64 hi],.agg #[.float .f64 lo2,.float .f64 hi2]] w (fR w r):=by
 have B:spE lo hi=0→spE lo2 hi2=0→(QB (FQ lo) 80∧QB (FQ hi) 80)∧QB (FQ lo2) 80∧QB (FQ hi2) 80:=fun h1 h2=>
  ⟨⟨(gN hl (fA hl hh h1).1).mono eX,(gN hh (fA hl hh h1).2.1).mono eX⟩,(gN hl2 (fA hl2 hh2 h2).1).mono eX,(gN hh2 (fA hl2 hh2 h2).2.1).mono eX⟩
 refine kI w lo hi lo2 hi2 x y hl hh hl2 hh2 2 _ (Or.inr (Or.inr ⟨rfl,rfl⟩)) hle D E (fun h1 h2 w1 v u hv hu=> ?_) r C;rw[A.1,A.2];exact q0f w1 v u _ _ _ _ hv hu (B h1 h2).1.1 (B h1 h2).1.2 (B h1 h2).2.1 (B h1 h2).2.2
end Go.Proofs.YtohcneeihdkfgaaGreatDoor.EN
namespace Go.Proofs.YtohcneeihdkfgaaGreatDoor.EN
open Go.ChangeShapes Go.WideShapes Go.ChangeAt Go.RowKit
attribute [local go_sem] fu
theorem PR.flt {w:World} {v:Value} {q:Rat} {bz:Nat} {x y:Nat} {u1 u2:Value} (h:PR w v q) (r:Rec w bz [.float .f64 x,.float .f64 y]):PR (put2 w bz u1 u2) v q:=by
 obtain⟨p,e,h1,h2⟩:=h;have g:GX bz w (put2 w bz u1 u2):=((GX.of (ad w)).set u1).set u2;have A:p≠bz:=by
  intro e;subst e;obtain⟨n,v,a,⟨c1,-,-,-⟩,-⟩:=h2.2;rw[r.cell] at c1;cases c1
 have hl:∀ z∈[Value.float .f64 x,.float .f64 y],∀ k i,z≠ .int k i:=by
  intro z B k i;simp only[cP,eA,or_false] at B;rcases B with rfl|rfl<;>(intro e;cases e)
 exact⟨p,e,aj h1 g.size,pO h2.1 h1 A r hl g,pO h2.2 h1 A r hl g⟩
theorem PSL.flt {w:World} {b bz:Nat} {l:List Rat} {x y:Nat} {u1 u2:Value} (h:PSL w b l) (r:Rec w bz [.float .f64 x,.float .f64 y]):PSL (put2 w bz u1 u2) b l:=
 ⟨by simpa [put2,World.setCell] using h.1,fun i hi=>by
  obtain⟨p,h1,h2⟩:=h.2 i hi;have A:b≠bz:=by
   rintro rfl;rw[r.cell] at h1;rcases(show i=0∨i=1∨2≤i by omega) with rfl|rfl|hi2
   ·cases h1
   ·cases h1
   ·rw[bo (by simpa using hi2)] at h1;cases h1
  refine⟨p,?_,h2.flt r⟩;unfold put2;rw[World.cell?_setCell_other _ _ _ _ (by intro e;injection e with B;exact A B.symm),World.cell?_setCell_other _ _ _ _ (by intro e;injection e with B;exact A B.symm)];exact h1⟩
/-- What is known of the values of the operations. -/
def KQ (bx A C D E F:Nat) (I J K M x y:Rat) (r1 r2:Nat) (B:Int):Nat→Value→World→Prop
 |0,v,_=>v= .pointer (some ⟨bx,0,none⟩)|1,v,_=>v= .pointer (some ⟨C,0,none⟩)|2,v,_=>v= .pointer (some ⟨A,0,none⟩)|3,v,_=>v= .pointer (some ⟨E,0,none⟩)|4,v,w=>PR w v I
 |5,v,_=>v= .pointer (some ⟨bx,0,none⟩)|6,v,_=>v= .pointer (some ⟨C,0,none⟩)|7,v,_=>v= .pointer (some ⟨A,1,none⟩)|8,v,_=>v= .pointer (some ⟨F,0,none⟩)|9,v,w=>PR w v J
 |10,v,_=>v= .pointer (some ⟨bx,1,none⟩)|11,v,_=>v= .pointer (some ⟨D,0,none⟩)|12,v,_=>v= .pointer (some ⟨A,0,none⟩)|13,v,_=>v= .pointer (some ⟨E,0,none⟩)|14,v,w=>PR w v K
 |15,v,_=>v= .pointer (some ⟨bx,1,none⟩)|16,v,_=>v= .pointer (some ⟨D,0,none⟩)|17,v,_=>v= .pointer (some ⟨A,1,none⟩)|18,v,_=>v= .pointer (some ⟨F,0,none⟩)|19,v,w=>PR w v M
 |20,v,w=>PSV w v 4 [I,J,K,M]|21,v,w=>EW w v x y|22,v,_=>v= .tuple #[.agg #[.float .f64 r1,.float .f64 r2],.int .i64 B]|23,v,_=>v= .agg #[.float .f64 r1,.float .f64 r2]|24,v,_=>v= .int .i64 B|26,v,_=>v= .int .i64 B|_,_,_=>True
theorem KQ.last {bx D A B E F:Nat} {I J K M x y:Rat} {r1 r2:Nat} {N:Int} {j:Nat} {v:Value} {w w':World} (C:∀ v q,PR w v q→PR w' v q) (R:∀ b l,PSL w b l→PSL w' b l) (h:KQ bx D A B E F I J K M x y r1 r2 N j v w):KQ bx D A B E F I J K M x y r1 r2 N j v w':=by
 revert h;unfold KQ;split<;>(first|exact fun h=>h|exact C _ _|(rintro⟨O,e,h⟩;exact⟨O,e,R _ _ h⟩)|(rintro⟨A,B,e,h1,h2⟩;exact⟨A,B,e,C _ _ h1,C _ _ h2⟩))
theorem KQ.g {bx A B C D E:Nat} {F I J K x y:Rat} {r1 r2:Nat} {M:Int} {w w':World} (g:G w w'):∀ j u,KQ bx A B C D E F I J K x y r1 r2 M j u w→KQ bx A B C D E F I J K x y r1 r2 M j u w':=fun _ _ h=>h.last (fun _ _ k=>k.G g) (fun _ _ k=>k.G g)
theorem KQ.put {bx A B C D E:Nat} {F I J K x y:Rat} {r1 r2:Nat} {M:Int} {w:World} {bz s t:Nat} {u1 u2:Value} (r:Rec w bz [.float .f64 s,.float .f64 t]):∀ j u,KQ bx A B C D E F I J K x y r1 r2 M j u w→KQ bx A B C D E F I J K x y r1 r2 M j u (put2 w bz u1 u2):=fun _ _ h=>h.last (fun _ _ k=>k.flt r) (fun _ _ k=>k.flt r)
/-- The same, with the ratios that are there. -/
def SJ (T:Nat→Value→World→Prop) (wE w1:World) (bz s:Nat) (z y:List Value) (L:Nat→Bool) (f:Nat→Value) (w:World):Prop:=SI T wE w1 bz s z y L f w∧∀ v q,PR w1 v q→PR w v q
section
variable {T:Nat→Value→World→Prop} {wE w1 w w':World} {bz s:Nat} {z y:List Value} {L:Nat→Bool} {f:Nat→Value}
theorem SJ.step (h:SJ T wE w1 bz s z y L f w) (i:Nat) (v:Value) (A:i≠s) (g:G w w') (hl:∀ j u,T j u w→T j u w') (hv:T i v w'):SJ T wE w1 bz s z y (upd L i true) (upd f i v) w':=
 ⟨SI.step h.1 i v A g hl hv,fun v q k=>(h.2 v q k).G g⟩
theorem SJ.wr {A B:Nat} {y1 C:Value} (h:SJ T wE w1 bz s [.float .f64 A,.float .f64 B] [y1,C] L f w) (v:Value) (D:L s=false) (hle:wE.heap.size≤bz) (hl:Rec w bz [.float .f64 A,.float .f64 B]→∀ j u,T j u w→T j u (put2 w bz y1 C)) (hv:∀ v w,T s v w):SJ T wE w1 bz s [.float .f64 A,.float .f64 B] [y1,C] (upd L s true) (upd f s v) (put2 w bz y1 C):=by
 refine⟨SI.wr h.1 v D hle hl hv,fun v q k=>(h.2 v q k).flt (x:=A) (y:=B) ?_⟩;rcases h.1.blk with ⟨-,k⟩|⟨k,-⟩
 ·exact k
 ·rw[D] at k;cases k
end
end Go.Proofs.YtohcneeihdkfgaaGreatDoor.EN
namespace Go.Proofs.YtohcneeihdkfgaaGreatDoor.EN
open Go.ChangeShapes Go.WideShapes Go.ChangeAt Go.RowKit
attribute [local go_sem] fu
set_option maxRecDepth 30000 in
set_option maxHeartbeats 4000000 in
theorem q20 (w:World) (lo hi lo2 hi2:Nat) (x y:Rat) (hl:lo<2^64) (hh:hi<2^64) (hl2:lo2<2^64) (hh2:hi2<2^64)
  (ag:x=minL (FQ lo/FQ lo2) [FQ lo/FQ hi2,FQ hi/FQ lo2,FQ hi/FQ hi2]∧y=maxL (FQ lo/FQ lo2) [FQ lo/FQ hi2,FQ hi/FQ lo2,FQ hi/FQ hi2])
  (q1:FQ lo2≠0→spE lo hi=0→spE lo2 hi2=0→QB (FQ lo/FQ lo2) 200∧QB (FQ hi/FQ lo2) 200) (q2:FQ hi2≠0→spE lo hi=0→spE lo2 hi2=0→QB (FQ lo/FQ hi2) 200∧QB (FQ hi/FQ hi2) 200)
  (r:Nat×Nat×Int) (hr:r=if spE2 lo hi lo2 hi2=0 then (if has0 (FQ lo2) (FQ hi2)=true then (0,0,5) else outF x y) else (0,0,spE2 lo hi lo2 hi2)):
  Calls Tryz.prog 49 #[.int .i64 3,.agg #[.float .f64 lo,.float .f64 hi],.agg #[.float .f64 lo2,.float .f64 hi2]] w (fR w r):=by
 have H1:Hid (∀ w1:World,_):=fun w1=>gQ w1 lo hi hl hh;have H2:Hid (∀ w1:World,_):=fun w1=>gQ w1 lo2 hi2 hl2 hh2;have hx:Hid (spE lo hi=0→∀ w1:World,_):=fun h w1=>kE w1 lo hi hl hh (fA hl hh h).1 (fA hl hh h).2.1;have cz:Hid (spE lo2 hi2=0→∀ w1:World,_):=fun h w1=>kE w1 lo2 hi2 hl2 hh2 (fA hl2 hh2 h).1 (fA hl2 hh2 h).2.1;have hq:spE lo hi=0→spE lo2 hi2=0→(QB (FQ lo) 80∧QB (FQ hi) 80)∧QB (FQ lo2) 80∧QB (FQ hi2) 80:=fun h1 h2=>
  ⟨⟨(gN hl (fA hl hh h1).1).mono eX,(gN hh (fA hl hh h1).2.1).mono eX⟩,(gN hl2 (fA hl2 hh2 h2).1).mono eX,(gN hh2 (fA hl2 hh2 h2).2.1).mono eX⟩
 have m:spE lo2 hi2=0→has0 (FQ lo2) (FQ hi2)=false→FQ lo2≠0∧FQ hi2≠0:=fun h1 h2=>ka h2 (fA hl2 hh2 h1).2.2;have HZ:Hid (∀ w1 v,EW w1 v (FQ lo2) (FQ hi2)→_):=fun w1 v hv=>oO w1 v (FQ lo2) (FQ hi2) hv;have ho:Hid (spE lo hi=0→spE lo2 hi2=0→has0 (FQ lo2) (FQ hi2)=false→(∀ w1 u v,PR w1 u (FQ lo)→PR w1 v (FQ lo2)→Calls Tryz.prog 128 #[u,v] w1 (RetP w1 (FQ lo/FQ lo2)))∧(∀ w1 u v,PR w1 u (FQ lo)→PR w1 v (FQ hi2)→Calls Tryz.prog 128 #[u,v] w1 (RetP w1 (FQ lo/FQ hi2)))∧
   (∀ w1 u v,PR w1 u (FQ hi)→PR w1 v (FQ lo2)→Calls Tryz.prog 128 #[u,v] w1 (RetP w1 (FQ hi/FQ lo2)))∧∀ w1 u v,PR w1 u (FQ hi)→PR w1 v (FQ hi2)→Calls Tryz.prog 128 #[u,v] w1 (RetP w1 (FQ hi/FQ hi2))):=fun h1 h2 h3=>
  ⟨fun w1 u v k1 k2=>mJ w1 u v _ _ 80 eX (hq h1 h2).1.1 (hq h1 h2).2.1 (m h2 h3).1 k1 k2,fun w1 u v k1 k2=>mJ w1 u v _ _ 80 eX (hq h1 h2).1.1 (hq h1 h2).2.2 (m h2 h3).2 k1 k2,
   fun w1 u v k1 k2=>mJ w1 u v _ _ 80 eX (hq h1 h2).1.2 (hq h1 h2).2.1 (m h2 h3).1 k1 k2,fun w1 u v k1 k2=>mJ w1 u v _ _ 80 eX (hq h1 h2).1.2 (hq h1 h2).2.2 (m h2 h3).2 k1 k2⟩
 have ai:spE lo hi=0→spE lo2 hi2=0→has0 (FQ lo2) (FQ hi2)=false→∀ t∈[FQ lo/FQ lo2,FQ lo/FQ hi2,FQ hi/FQ lo2,FQ hi/FQ hi2],QB t 200:=fun h1 h2 h3=>
  qb4 (q1 (m h2 h3).1 h1 h2).1 (q2 (m h2 h3).2 h1 h2).1 (q1 (m h2 h3).1 h1 h2).2 (q2 (m h2 h3).2 h1 h2).2
 have am:Hid (spE lo hi=0→spE lo2 hi2=0→has0 (FQ lo2) (FQ hi2)=false→∀ w1 bq,PSL w1 bq [FQ lo/FQ lo2,FQ lo/FQ hi2,FQ hi/FQ lo2,FQ hi/FQ hi2]→Calls Tryz.prog 127 #[.slice (some ⟨bq,0,none⟩) 4 4] w1 (jK w1 x y)):=fun h1 h2 h3 w1 bq h=>by
  rw[ag.1,ag.2];exact sC w1 bq _ [FQ lo/FQ hi2,FQ hi/FQ lo2,FQ hi/FQ hi2] 3 4 200 eX rfl eX eX eX h (ai h1 h2 h3)
 have ap:Hid (spE lo hi=0→spE lo2 hi2=0→has0 (FQ lo2) (FQ hi2)=false→∀ w1 v,EW w1 v x y→_):=fun h1 h2 h3 w1 v hv=>lh w1 v x y hv (by rw[ag.1,ag.2];exact lf _ _)
  (by rw[ag.1];exact(lG (fun q=>QB q 200) _ _ (ai h1 h2 h3 _ bP) (fun t ht=>ai h1 h2 h3 t (ch _ ht))).mono eX) (by rw[ag.2];exact(lF (fun q=>QB q 200) _ _ (ai h1 h2 h3 _ bP) (fun t ht=>ai h1 h2 h3 t (ch _ ht))).mono eX)
 clear hq ag q1 q2 m ai;have HR:Hid (r=if spE2 lo hi lo2 hi2=0 then (if has0 (FQ lo2) (FQ hi2)=true then (0,0,5) else outF x y) else (0,0,spE2 lo hi lo2 hi2)):=hr;have HE:Hid (spE2 lo hi lo2 hi2=if spE lo hi=0 then spE lo2 hi2 else spE lo hi):=by show _=_;rfl
 clear hl hh hl2 hh2 hr;generalize FQ lo=a at *;generalize FQ hi=b at *;generalize FQ lo2=c at *;generalize FQ hi2=d at *;generalize outF x y=o at *;generalize spE2 lo hi lo2 hi2=e0 at *;generalize spE lo hi=U at *;generalize spE lo2 hi2=e2 at *;obtain⟨r1,r2,r3⟩:=r;go_enter Tryz.func49,Tryz.ntmps49;go_wp2_with fail;obtain⟨w0,nc,g0,pe,R0,R1,R2⟩:=gf w [.float .f64 lo,.float .f64 hi] [.float .f64 lo2,.float .f64 hi2] [.float .f64 0,.float .f64 0] 72 72 72;rw[nc];clear nc;obtain⟨di,dl,dq,dr⟩:=fe R0 (ad _);go_wp2_with fail;clear di dl dq dr;refine eW (H1.out _) ?_;rintro e w1 ⟨rfl,g1⟩;clear H1;by_cases al:U=0
 case neg=>
  have k1:(U==0)=false:=by simpa using al
  have k2:(U != 0)=true:=by simpa using al
  have Y:Hid ((r1,r2,r3)=(0,0,U)):=by show _=_;rw[HR.out,HE.out,if_neg al,if_neg al]
  clear HR HE al H2 hx cz R0 R1 ho am ap HZ;obtain⟨ep,eu,ez,fa⟩:=fe R2 (g1);go_wp2_with fail;have hT:Hid (Rec _ (w.heap.size+2) [.float .f64 0,.float .f64 0]):=bE (aw R2.out (g1));have g9:=dQ hT.out (ab g0 g1) eX;generalize (World.setCell (World.setCell w1 ⟨w.heap.size+2,0,none⟩ (.float .f64 0)) ⟨w.heap.size+2,1,none⟩ (.float .f64 0))=w9 at *;obtain⟨hf,hg,hj,hk⟩:=fe hT (((ad _)));refine bodyPost_ret (v:= .tuple #[.agg #[.float .f64 0,.float .f64 0],.int .i64 U]) (by simp [results,Tryz.results49,go_sem, *]) rfl ?_;exact⟨by rw[Y.out],g9⟩
 subst al;have hy:Hid (∀ w1:World,_):=hx.out rfl;have ci:Hid (e0=e2):=by show _=_;rw[HE.out,if_pos rfl]
 have hp:Hid (e2=0→has0 c d=false→_):=ho.out rfl;have an:Hid (e2=0→has0 c d=false→∀ w1 bq,PSL w1 bq [a/c,a/d,b/c,b/d]→_):=am.out rfl;have bm:Hid (e2=0→has0 c d=false→∀ w1 v,EW w1 v x y→_):=ap.out rfl;clear ho am ap;clear HE;obtain⟨ds,ec,ee,em⟩:=fe R1 (g1);go_wp2_with fail;clear ds ec ee em hx;refine eW (H2.out _) ?_;rintro e w2 ⟨rfl,g2⟩;have g12:=ab g1 g2;clear H2 g1 g2;by_cases ce:e2=0
 case neg=>
  have k1:(e2==0)=false:=by simpa using ce
  have k2:(e2 != 0)=true:=by simpa using ce
  have Y:Hid ((r1,r2,r3)=(0,0,e2)):=by show _=_;rw[HR.out,ci.out,if_neg ce]
  clear HR ci ce cz hy R0 R1 hp an bm HZ;obtain⟨ep,eu,ez,fa⟩:=fe R2 (g12);go_wp2_with fail;have hT:Hid (Rec _ (w.heap.size+2) [.float .f64 0,.float .f64 0]):=bE (aw R2.out (g12));have g9:=dQ hT.out (ab g0 g12) eX;generalize (World.setCell (World.setCell w2 ⟨w.heap.size+2,0,none⟩ (.float .f64 0)) ⟨w.heap.size+2,1,none⟩ (.float .f64 0))=w9 at *;obtain⟨hf,hg,hj,hk⟩:=fe hT (((ad _)));refine bodyPost_ret (v:= .tuple #[.agg #[.float .f64 0,.float .f64 0],.int .i64 e2]) (by simp [results,Tryz.results49,go_sem, *]) rfl ?_;exact⟨by rw[Y.out],g9⟩
 subst ce;have jp:Hid (∀ w1:World,_):=cz.out rfl;have lb:e0=0:=ci.out;have Y:Hid ((r1,r2,r3)=if has0 c d=true then (0,0,5) else o):=by show _=_;rw[HR.out,if_pos lb]
 have cl:Hid (has0 c d=false→_):=hp.out rfl;have gm:Hid (has0 c d=false→∀ w1 bq,PSL w1 bq [a/c,a/d,b/c,b/d]→_):=an.out rfl;have bi:Hid (has0 c d=false→∀ w1 v,EW w1 v x y→_):=bm.out rfl;clear hp an bm;subst lb;have S0:Hid (Rec w2 w.heap.size [.float .f64 lo,.float .f64 hi]):=aw R0.out g12;have S1:Hid (Rec w2 (w.heap.size+1) [.float .f64 lo2,.float .f64 hi2]):=aw R1.out g12;have S2:Hid (Rec w2 (w.heap.size+2) [.float .f64 0,.float .f64 0]):=aw R2.out g12;have gw:=ab g0 g12;have ms:=g12.size;have pb:w.heap.size+2<w2.heap.size:=by omega
 clear HR ci cz R0 R1 R2 g0 g12 pe ms;go_wp2_with fail;refine q6Z 6 2 [.is (.agg #[.float .f64 lo,.float .f64 hi]),.any (fun v w'=>EW w' v a b),.is (.agg #[.float .f64 lo2,.float .f64 hi2]),.any (fun v w'=>EW w' v c d),.fresh (fun v w'=>NewRec w2 w' v ([.pointer none,.pointer none])),.fresh (fun v w'=>NewRec w2 w' v ([.pointer none,.pointer none]))] [some 24,some 25,some 26,some 27,some 10,some 11] ?_;intro v1 v3 v4 v5 A I;simp only[fG,Act.put,aq,ay,az] at I;subst I;refine⟨?_,?_⟩
 ·skip
  refine eR rfl ?a1 (eR rfl ?a6 (eR rfl ?o1_2 (eR rfl ?a7 (eR rfl ?a8 (eR rfl ?b0 (RN.Eaches.nil))))))
  case a1|o1_2=>
   intro W hW hD K hK;clear hD;have ⟨ol,oo⟩:=rc29 S0 hW;have ⟨ov,ox⟩:=rc29 S1 hW;go_simp;exact hK.out _ _ ⟨_,rfl,ad _,rfl⟩
  ·intro W hW hD K hK;have hc:=hi9 (hy.out W);exact gY
  ·intro W hW hD K hK;have hc:=hi9 (jp.out W);exact gY
  ·intro W hW hD K hK;clear hD;go_simp;exact hK.out _ _ ⟨_,rfl,(ad _).alloc _,⟨_,rfl,hW.size,Rec.new2 _ _ _ _⟩,_,rfl,aI _,by simp⟩
  ·intro W hW hD K hK;clear hD;go_simp;exact hK.out _ _ ⟨_,rfl,(ad _).alloc _,⟨_,rfl,hW.size,Rec.new2 _ _ _ _⟩,_,rfl,aI _,by simp⟩
 intro w3 g3 hH la;have h1:=q4D v1 1 hH;have h3:=q4D v3 3 hH;have h4:=q4C v4 4 hH;have h5:=q4C v5 5 hH;have hm:v4≠v5:=la 4 5 _ _ _ _ fk rfl rfl trivial trivial rfl rfl;clear hH la;obtain⟨bx,rfl,pa,mn⟩:=h4;obtain⟨M,rfl,oy,lw⟩:=h5;obtain⟨N,O,rfl,li,lk⟩:=h1;obtain⟨R,S,rfl,lm,ls⟩:=h3;have gg:bx≠M:=fun e=>hm (by rw[e]);have RX:Hid (Rec w3 bx [.pointer none,.pointer none]):=mn;have RY:Hid (Rec w3 M [.pointer none,.pointer none]):=lw;have T2:Hid (Rec w3 (w.heap.size+2) [.float .f64 0,.float .f64 0]):=aw S2.out g3;have P1:Hid (PR w3 (.pointer (some ⟨N,0,none⟩)) a):=li;have P2:Hid (PR w3 (.pointer (some ⟨O,0,none⟩)) b):=lk;have P3:Hid (PR w3 (.pointer (some ⟨R,0,none⟩)) c):=lm;have P4:Hid (PR w3 (.pointer (some ⟨S,0,none⟩)) d):=ls;have kx:=ab gw g3;have pm:w.heap.size+2<bx:=by omega
 have pi:w.heap.size+2<M:=by omega
 have lg:w.heap.size≤bx:=by omega
 have lc:w.heap.size≤M:=by omega
 clear mn lw li lk lm ls hy jp S0 S1 S2 gw g3 hm pa oy pb;obtain⟨fb,fh,fp,fr⟩:=fe RX (ad _);refine wpAny_ready (rs:=[6]) eZ fX ?_;refine AllReady.cons rfl (fun K hK=> ?_) AllReady.nil;go_simp;refine hK _ _ ?_;clear hK K fb fh fp fr;have k1:PR _ (.pointer (some ⟨N,0,none⟩)) a:=fI (u1:= .pointer (some ⟨N,0,none⟩)) (u2:= .pointer (some ⟨O,0,none⟩)) P1.out RX.out (bS _) (bS _);have k2:PR _ (.pointer (some ⟨O,0,none⟩)) b:=fI (u1:= .pointer (some ⟨N,0,none⟩)) (u2:= .pointer (some ⟨O,0,none⟩)) P2.out RX.out (bS _) (bS _);have k3:PR _ (.pointer (some ⟨R,0,none⟩)) c:=fI (u1:= .pointer (some ⟨N,0,none⟩)) (u2:= .pointer (some ⟨O,0,none⟩)) P3.out RX.out (bS _) (bS _);have k4:PR _ (.pointer (some ⟨S,0,none⟩)) d:=fI (u1:= .pointer (some ⟨N,0,none⟩)) (u2:= .pointer (some ⟨O,0,none⟩)) P4.out RX.out (bS _) (bS _);have k5:Rec _ bx [.pointer (some ⟨N,0,none⟩),.pointer (some ⟨O,0,none⟩)]:=bE RX.out;have k6:=Rec.g2 (b:=bx) (u:= .pointer (some ⟨N,0,none⟩)) (v:= .pointer (some ⟨O,0,none⟩)) kx lg;have k7:Rec ((w3.setCell ⟨bx,0,none⟩ (.pointer (some ⟨N,0,none⟩))).setCell ⟨bx,1,none⟩ (.pointer (some ⟨O,0,none⟩))) M [.pointer none,.pointer none]:=(RY.out.oth (p:=⟨bx,0,none⟩) _ gg).oth (p:=⟨bx,1,none⟩) _ gg;have k8:Rec ((w3.setCell ⟨bx,0,none⟩ (.pointer (some ⟨N,0,none⟩))).setCell ⟨bx,1,none⟩ (.pointer (some ⟨O,0,none⟩))) (w.heap.size+2) [.float .f64 0,.float .f64 0]:=(T2.out.oth (p:=⟨bx,0,none⟩) _ (by show bx≠w.heap.size+2;omega)).oth (p:=⟨bx,1,none⟩) _ (by show bx≠w.heap.size+2;omega)
 generalize (w3.setCell ⟨bx,0,none⟩ (.pointer (some ⟨N,0,none⟩))).setCell ⟨bx,1,none⟩ (.pointer (some ⟨O,0,none⟩))=w4 at *;have kb:Hid (Rec w4 bx [.pointer (some ⟨N,0,none⟩),.pointer (some ⟨O,0,none⟩)]):=k5;have af:Hid (Rec w4 M [.pointer none,.pointer none]):=k7;have T4:Hid (Rec w4 (w.heap.size+2) [.float .f64 0,.float .f64 0]):=k8;have Q1:Hid (PR w4 (.pointer (some ⟨N,0,none⟩)) a):=k1;have Q2:Hid (PR w4 (.pointer (some ⟨O,0,none⟩)) b):=k2;have Q3:Hid (PR w4 (.pointer (some ⟨R,0,none⟩)) c):=k3;have Q4:Hid (PR w4 (.pointer (some ⟨S,0,none⟩)) d):=k4;clear k1 k2 k3 k4 k5 k7 k8 RX RY T2 P1 P2 P3 P4 kx;obtain⟨bu,bv,bw,bz⟩:=fe af (ad _);refine wpAny_ready (rs:=[7]) eZ fX ?_;refine AllReady.cons rfl (fun K hK=> ?_) AllReady.nil;go_simp;refine hK _ _ ?_;clear hK K bu bv bw bz;refine wpAny_done eZ ?_ _;have k1:PR _ (.pointer (some ⟨N,0,none⟩)) a:=fI (u1:= .pointer (some ⟨R,0,none⟩)) (u2:= .pointer (some ⟨S,0,none⟩)) Q1.out af.out (bS _) (bS _);have k2:PR _ (.pointer (some ⟨O,0,none⟩)) b:=fI (u1:= .pointer (some ⟨R,0,none⟩)) (u2:= .pointer (some ⟨S,0,none⟩)) Q2.out af.out (bS _) (bS _);have k3:PR _ (.pointer (some ⟨R,0,none⟩)) c:=fI (u1:= .pointer (some ⟨R,0,none⟩)) (u2:= .pointer (some ⟨S,0,none⟩)) Q3.out af.out (bS _) (bS _);have k4:PR _ (.pointer (some ⟨S,0,none⟩)) d:=fI (u1:= .pointer (some ⟨R,0,none⟩)) (u2:= .pointer (some ⟨S,0,none⟩)) Q4.out af.out (bS _) (bS _);have k5:Rec _ M [.pointer (some ⟨R,0,none⟩),.pointer (some ⟨S,0,none⟩)]:=bE af.out
 have ib:=Rec.g2 (b:=M) (u:= .pointer (some ⟨R,0,none⟩)) (v:= .pointer (some ⟨S,0,none⟩)) k6 lc;have k7:Rec ((w4.setCell ⟨M,0,none⟩ (.pointer (some ⟨R,0,none⟩))).setCell ⟨M,1,none⟩ (.pointer (some ⟨S,0,none⟩))) bx [.pointer (some ⟨N,0,none⟩),.pointer (some ⟨O,0,none⟩)]:=(kb.out.oth (p:=⟨M,0,none⟩) _ (bZ gg)).oth (p:=⟨M,1,none⟩) _ (bZ gg);have k8:Rec ((w4.setCell ⟨M,0,none⟩ (.pointer (some ⟨R,0,none⟩))).setCell ⟨M,1,none⟩ (.pointer (some ⟨S,0,none⟩))) (w.heap.size+2) [.float .f64 0,.float .f64 0]:=(T4.out.oth (p:=⟨M,0,none⟩) _ (by show M≠w.heap.size+2;omega)).oth (p:=⟨M,1,none⟩) _ (by show M≠w.heap.size+2;omega);generalize (w4.setCell ⟨M,0,none⟩ (.pointer (some ⟨R,0,none⟩))).setCell ⟨M,1,none⟩ (.pointer (some ⟨S,0,none⟩))=w5 at *;have Z:Hid (Rec w5 bx [.pointer (some ⟨N,0,none⟩),.pointer (some ⟨O,0,none⟩)]):=k7;have X:Hid (Rec w5 M [.pointer (some ⟨R,0,none⟩),.pointer (some ⟨S,0,none⟩)]):=k5;have T5:Hid (Rec w5 (w.heap.size+2) [.float .f64 0,.float .f64 0]):=k8;have hw:Hid (EW w5 (.agg #[.pointer (some ⟨N,0,none⟩),.pointer (some ⟨O,0,none⟩)]) a b):=⟨N,O,rfl,k1,k2⟩;have cs:Hid (EW w5 (.agg #[.pointer (some ⟨R,0,none⟩),.pointer (some ⟨S,0,none⟩)]) c d):=⟨R,S,rfl,k3,k4⟩;clear k1 k2 k3 k4 k5 k6 k7 k8 kb af T4 Q1 Q2 Q3 Q4;obtain⟨ca,cb,cc,cd⟩:=fe X (ad _);go_wp2_with fail;clear ca cb cc cd;refine eW (HZ.out w5 _ cs.out) ?_;rintro e w6 ⟨rfl,g6⟩;clear HZ;obtain⟨z,hz⟩:∃ z,z=has0 c d:=⟨_,rfl⟩;rw[← hz];rw[← hz] at Y cl
 have bl:Hid (z=false→∀ w1 v,EW w1 v x y→Calls Tryz.prog 123 #[v] w1 (fR w1 o)):=by rw[hz];exact bi.out
 have ia:Hid (z=false→∀ w1 bq,PSL w1 bq [a/c,a/d,b/c,b/d]→Calls Tryz.prog 127 #[.slice (some ⟨bq,0,none⟩) 4 4] w1 (jK w1 x y)):=by rw[hz];exact gm.out
 clear hz bi gm;cases z
 case true=>
  have cr:Hid ((r1,r2,r3)=(0,0,5)):=by show _=_;rw[Y.out,if_pos rfl]
  clear Y cl bl ia hw cs Z X;obtain⟨np,nr,nx,nz⟩:=fe T5 (g6);go_wp2_with fail;have hT:Hid (Rec _ (w.heap.size+2) [.float .f64 0,.float .f64 0]):=bE (aw T5.out (g6));have g9:=dQ hT.out (ab ib g6) eX;generalize (World.setCell (World.setCell w6 ⟨w.heap.size+2,0,none⟩ (.float .f64 0)) ⟨w.heap.size+2,1,none⟩ (.float .f64 0))=w9 at *;obtain⟨hf,hg,hj,hk⟩:=fe hT (((ad _)));refine bodyPost_ret (v:= .tuple #[.agg #[.float .f64 0,.float .f64 0],.int .i64 5]) (by simp [results,Tryz.results49,go_sem, *]) rfl ?_;exact⟨by rw[cr.out],g9⟩
 have cr:Hid ((r1,r2,r3)=o):=by show _=_;rw[Y.out,if_neg fk]
 have bn:=hi9 (cl.out rfl);have he:Hid (∀ w1 v,EW w1 v x y→Calls Tryz.prog 123 #[v] w1 (fR w1 o)):=bl.out rfl;have ha:Hid (∀ w1 bq,PSL w1 bq [a/c,a/d,b/c,b/d]→Calls Tryz.prog 127 #[.slice (some ⟨bq,0,none⟩) 4 4] w1 (jK w1 x y)):=ia.out rfl;have hd:Hid (∀ w1 v,EW w1 v x y→Calls Tryz.prog 123 #[v] w1 (fR w1 (r1,r2,r3))):=by show ∀ w1 v,_→_;rw[cr.out];exact he.out
 have ii:Hid (∀ w1 u v,PR w1 u a→PR w1 v c→Calls Tryz.prog 128 #[u,v] w1 (RetP w1 (a/c))):=bn.out.1;have io:Hid (∀ w1 u v,PR w1 u a→PR w1 v d→Calls Tryz.prog 128 #[u,v] w1 (RetP w1 (a/d))):=bn.out.2.1;have it:Hid (∀ w1 u v,PR w1 u b→PR w1 v c→Calls Tryz.prog 128 #[u,v] w1 (RetP w1 (b/c))):=bn.out.2.2.1;have jj:Hid (∀ w1 u v,PR w1 u b→PR w1 v d→Calls Tryz.prog 128 #[u,v] w1 (RetP w1 (b/d))):=bn.out.2.2.2;clear cl bn Y cr bl he ia;have ih:=hi9 ha;clear ha;generalize a/c=q1 at *;generalize a/d=q2 at *;generalize b/c=q3 at *;generalize b/d=q4 at *;have kk:Hid (Rec w6 bx [.pointer (some ⟨N,0,none⟩),.pointer (some ⟨O,0,none⟩)]):=aw Z.out g6;have kp:Hid (Rec w6 M [.pointer (some ⟨R,0,none⟩),.pointer (some ⟨S,0,none⟩)]):=aw X.out g6;have T6:Hid (Rec w6 (w.heap.size+2) [.float .f64 0,.float .f64 0]):=aw T5.out g6;have pc:=EW.G hw.out g6;have pd:=EW.G cs.out g6;obtain⟨rr,rv,ea,k1,k2⟩:=pc;obtain⟨sa,sb,eb,k3,k4⟩:=pd;have ks:=congrArg (fun v=>match v with| .agg l=>l.toList|_=>[]) ea;have kw:=congrArg (fun v=>match v with| .agg l=>l.toList|_=>[]) eb;simp only[ef,Value.pointer.injEq,cN,Addr.mk.injEq,and_true] at ks kw;obtain⟨rfl,rfl⟩:=ks;obtain⟨rfl,rfl⟩:=kw;have V1:Hid (PR w6 (.pointer (some ⟨N,0,none⟩)) a):=k1;have V2:Hid (PR w6 (.pointer (some ⟨O,0,none⟩)) b):=k2;have V3:Hid (PR w6 (.pointer (some ⟨R,0,none⟩)) c):=k3;have V4:Hid (PR w6 (.pointer (some ⟨S,0,none⟩)) d):=k4;have ky:=ab ib g6;clear k1 k2 k3 k4 ea eb hw cs Z X T5 ib g6;have Z:=kk;have X:=kp;clear kk kp;go_wp2_with fail
 refine RV.region_inv 27 0 #[true,true,true,true,true,true,true,true,true,true,true,true,true,true,true,true,true,true,true,true,true,true,true,true,true,true,true] [some 56,some 57,some 58,some 59,some 60,some 61,some 62,some 63,some 64,some 65,some 66,some 67,some 68,some 69,some 70,some 71,some 72,some 73,some 74,some 75,some 76,some 77,some 78,some 79,some 80,none,some 7] (SJ (KQ bx M N O R S q1 q2 q3 q4 x y r1 r2 r3) w w6 (w.heap.size+2) 25 [.float .f64 0,.float .f64 0] [.float .f64 r1,.float .f64 r2]) eZ eZ rfl eZ eZ ?_ ?_
 ·intro f;exact⟨⟨G.drew ky,fun b l k _=>k.G (ad _).drew,fun j h=>(by cases h),Or.inl ⟨rfl,T6.out.G (ad _).drew⟩⟩,fun v q k=>k.G (ad _).drew⟩
 ·intro A I;simp only[List.range,List.range.loop,du,eH,fG,Act.put,aq,ay,az] at I;refine⟨?_,?_⟩
  ·skip
   refine aC rfl ?_ ?_
   ·intro L f W B J hD K hK;rw[I f] at hK ⊢;go_simp;exact hK.out _ _ ⟨_,rfl,SJ.step B 0 _ fk (ad _) (KQ.g (ad _)) rfl⟩
   refine aC rfl ?_ ?_
   ·intro L f W B J hD K hK;rw[I f] at hK ⊢;have e0:f 0= .pointer (some ⟨bx,0,none⟩):=B.1.held 0 (hD 0 eZ);rw[e0] at hK ⊢;clear e0 hD;have RR:Hid (Rec W bx [.pointer (some ⟨N,0,none⟩),.pointer (some ⟨O,0,none⟩)]):=B.1.oth _ _ Z.out eX;obtain⟨C,D,E,F⟩:=fe RR (ad _);go_simp;exact hK.out _ _ ⟨_,rfl,SJ.step B 1 _ fk (ad _) (KQ.g (ad _)) rfl⟩
   refine aC rfl ?_ ?_
   ·intro L f W B J hD K hK;rw[I f] at hK ⊢;go_simp;exact hK.out _ _ ⟨_,rfl,SJ.step B 2 _ fk (ad _) (KQ.g (ad _)) rfl⟩
   refine aC rfl ?_ ?_
   ·intro L f W B J hD K hK;rw[I f] at hK ⊢;have e0:f 2= .pointer (some ⟨M,0,none⟩):=B.1.held 2 (hD 2 eZ);rw[e0] at hK ⊢;clear e0 hD;have RR:Hid (Rec W M [.pointer (some ⟨R,0,none⟩),.pointer (some ⟨S,0,none⟩)]):=B.1.oth _ _ X.out eX;obtain⟨C,D,E,F⟩:=fe RR (ad _);go_simp;exact hK.out _ _ ⟨_,rfl,SJ.step B 3 _ fk (ad _) (KQ.g (ad _)) rfl⟩
   refine aC rfl ?_ ?_
   ·intro L f W B J hD K hK;rw[I f] at hK ⊢;have U:f 1= .pointer (some ⟨N,0,none⟩):=B.1.held 1 (hD 1 eZ);have e3:f 3= .pointer (some ⟨R,0,none⟩):=B.1.held 3 (hD 3 eZ);rw[U,e3] at hK ⊢;clear U e3 hD;go_simp;go_wp2_with (go_at_call 128;refine eW (ii.out W _ _ (B.2 _ _ V1.out) (B.2 _ _ V3.out)) ?_;intro e w9 hs;obtain⟨u9,rfl,g9,i⟩:=hs);exact hK.out _ _ ⟨_,rfl,SJ.step B 4 _ fk g9 (KQ.g g9) i⟩
   refine aC rfl ?_ ?_
   ·intro L f W B J hD K hK;rw[I f] at hK ⊢;go_simp;exact hK.out _ _ ⟨_,rfl,SJ.step B 5 _ fk (ad _) (KQ.g (ad _)) rfl⟩
   refine aC rfl ?_ ?_
   ·intro L f W B J hD K hK;rw[I f] at hK ⊢;have e0:f 5= .pointer (some ⟨bx,0,none⟩):=B.1.held 5 (hD 5 eZ);rw[e0] at hK ⊢;clear e0 hD;have RR:Hid (Rec W bx [.pointer (some ⟨N,0,none⟩),.pointer (some ⟨O,0,none⟩)]):=B.1.oth _ _ Z.out eX;obtain⟨C,D,E,F⟩:=fe RR (ad _);go_simp;exact hK.out _ _ ⟨_,rfl,SJ.step B 6 _ fk (ad _) (KQ.g (ad _)) rfl⟩
   refine aC rfl ?_ ?_
   ·intro L f W B J hD K hK;rw[I f] at hK ⊢;go_simp;exact hK.out _ _ ⟨_,rfl,SJ.step B 7 _ fk (ad _) (KQ.g (ad _)) rfl⟩
   refine aC rfl ?_ ?_
   ·intro L f W B J hD K hK;rw[I f] at hK ⊢;have e0:f 7= .pointer (some ⟨M,1,none⟩):=B.1.held 7 (hD 7 eZ);rw[e0] at hK ⊢;clear e0 hD;have RR:Hid (Rec W M [.pointer (some ⟨R,0,none⟩),.pointer (some ⟨S,0,none⟩)]):=B.1.oth _ _ X.out eX;obtain⟨C,D,E,F⟩:=fe RR (ad _);go_simp;exact hK.out _ _ ⟨_,rfl,SJ.step B 8 _ fk (ad _) (KQ.g (ad _)) rfl⟩
   refine aC rfl ?_ ?_
   ·intro L f W B J hD K hK;rw[I f] at hK ⊢;have U:f 6= .pointer (some ⟨N,0,none⟩):=B.1.held 6 (hD 6 eZ);have e3:f 8= .pointer (some ⟨S,0,none⟩):=B.1.held 8 (hD 8 eZ);rw[U,e3] at hK ⊢;clear U e3 hD;go_simp;go_wp2_with (go_at_call 128;refine eW (io.out W _ _ (B.2 _ _ V1.out) (B.2 _ _ V4.out)) ?_;intro e w9 hs;obtain⟨u9,rfl,g9,i⟩:=hs);exact hK.out _ _ ⟨_,rfl,SJ.step B 9 _ fk g9 (KQ.g g9) i⟩
   refine aC rfl ?_ ?_
   ·intro L f W B J hD K hK;rw[I f] at hK ⊢;go_simp;exact hK.out _ _ ⟨_,rfl,SJ.step B 10 _ fk (ad _) (KQ.g (ad _)) rfl⟩
   refine aC rfl ?_ ?_
   ·intro L f W B J hD K hK;rw[I f] at hK ⊢;have e0:f 10= .pointer (some ⟨bx,1,none⟩):=B.1.held 10 (hD 10 eZ);rw[e0] at hK ⊢;clear e0 hD;have RR:Hid (Rec W bx [.pointer (some ⟨N,0,none⟩),.pointer (some ⟨O,0,none⟩)]):=B.1.oth _ _ Z.out eX;obtain⟨C,D,E,F⟩:=fe RR (ad _);go_simp;exact hK.out _ _ ⟨_,rfl,SJ.step B 11 _ fk (ad _) (KQ.g (ad _)) rfl⟩
   refine aC rfl ?_ ?_
   ·intro L f W B J hD K hK;rw[I f] at hK ⊢;go_simp;exact hK.out _ _ ⟨_,rfl,SJ.step B 12 _ fk (ad _) (KQ.g (ad _)) rfl⟩
   refine aC rfl ?_ ?_
   ·intro L f W B J hD K hK;rw[I f] at hK ⊢;have e0:f 12= .pointer (some ⟨M,0,none⟩):=B.1.held 12 (hD 12 eZ);rw[e0] at hK ⊢;clear e0 hD;have RR:Hid (Rec W M [.pointer (some ⟨R,0,none⟩),.pointer (some ⟨S,0,none⟩)]):=B.1.oth _ _ X.out eX;obtain⟨C,D,E,F⟩:=fe RR (ad _);go_simp;exact hK.out _ _ ⟨_,rfl,SJ.step B 13 _ fk (ad _) (KQ.g (ad _)) rfl⟩
   refine aC rfl ?_ ?_
   ·intro L f W B J hD K hK;rw[I f] at hK ⊢;have U:f 11= .pointer (some ⟨O,0,none⟩):=B.1.held 11 (hD 11 eZ);have e3:f 13= .pointer (some ⟨R,0,none⟩):=B.1.held 13 (hD 13 eZ);rw[U,e3] at hK ⊢;clear U e3 hD;go_simp;go_wp2_with (go_at_call 128;refine eW (it.out W _ _ (B.2 _ _ V2.out) (B.2 _ _ V3.out)) ?_;intro e w9 hs;obtain⟨u9,rfl,g9,i⟩:=hs);exact hK.out _ _ ⟨_,rfl,SJ.step B 14 _ fk g9 (KQ.g g9) i⟩
   refine aC rfl ?_ ?_
   ·intro L f W B J hD K hK;rw[I f] at hK ⊢;go_simp;exact hK.out _ _ ⟨_,rfl,SJ.step B 15 _ fk (ad _) (KQ.g (ad _)) rfl⟩
   refine aC rfl ?_ ?_
   ·intro L f W B J hD K hK;rw[I f] at hK ⊢;have e0:f 15= .pointer (some ⟨bx,1,none⟩):=B.1.held 15 (hD 15 eZ);rw[e0] at hK ⊢;clear e0 hD;have RR:Hid (Rec W bx [.pointer (some ⟨N,0,none⟩),.pointer (some ⟨O,0,none⟩)]):=B.1.oth _ _ Z.out eX;obtain⟨C,D,E,F⟩:=fe RR (ad _);go_simp;exact hK.out _ _ ⟨_,rfl,SJ.step B 16 _ fk (ad _) (KQ.g (ad _)) rfl⟩
   refine aC rfl ?_ ?_
   ·intro L f W B J hD K hK;rw[I f] at hK ⊢;go_simp;exact hK.out _ _ ⟨_,rfl,SJ.step B 17 _ fk (ad _) (KQ.g (ad _)) rfl⟩
   refine aC rfl ?_ ?_
   ·intro L f W B J hD K hK;rw[I f] at hK ⊢;have e0:f 17= .pointer (some ⟨M,1,none⟩):=B.1.held 17 (hD 17 eZ);rw[e0] at hK ⊢;clear e0 hD;have RR:Hid (Rec W M [.pointer (some ⟨R,0,none⟩),.pointer (some ⟨S,0,none⟩)]):=B.1.oth _ _ X.out eX;obtain⟨C,D,E,F⟩:=fe RR (ad _);go_simp;exact hK.out _ _ ⟨_,rfl,SJ.step B 18 _ fk (ad _) (KQ.g (ad _)) rfl⟩
   refine aC rfl ?_ ?_
   ·intro L f W B J hD K hK;rw[I f] at hK ⊢;have U:f 16= .pointer (some ⟨O,0,none⟩):=B.1.held 16 (hD 16 eZ);have e3:f 18= .pointer (some ⟨S,0,none⟩):=B.1.held 18 (hD 18 eZ);rw[U,e3] at hK ⊢;clear U e3 hD;go_simp;go_wp2_with (go_at_call 128;refine eW (jj.out W _ _ (B.2 _ _ V2.out) (B.2 _ _ V4.out)) ?_;intro e w9 hs;obtain⟨u9,rfl,g9,i⟩:=hs);exact hK.out _ _ ⟨_,rfl,SJ.step B 19 _ fk g9 (KQ.g g9) i⟩
   refine aC rfl ?_ ?_
   ·intro L f W B J hD K hK;rw[I f] at hK ⊢;have j4:PR W (f 4) q1:=B.1.held 4 (hD 4 eZ);have j9:PR W (f 9) q2:=B.1.held 9 (hD 9 eZ);have ni:PR W (f 14) q3:=B.1.held 14 (hD 14 eZ);have nl:PR W (f 19) q4:=B.1.held 19 (hD 19 eZ);obtain⟨s1,U,ob⟩:=ik j4;obtain⟨s2,e2,oe⟩:=ik j9;obtain⟨s3,e3,oi⟩:=ik ni;obtain⟨s4,e4,oj⟩:=ik nl;rw[U,e2,e3,e4] at hK ⊢;clear U e2 e3 e4 j4 j9 ni nl hD;go_simp;exact hK.out _ _ ⟨_,rfl,SJ.step B 20 _ fk ((ad W).alloc _) (KQ.g ((ad W).alloc _)) ⟨_,rfl,rk ob oe oi oj⟩⟩
   refine aC rfl ?_ ?_
   ·intro L f W B J hD K hK;rw[I f] at hK ⊢;have pf:PSV W (f 20) 4 [q1,q2,q3,q4]:=B.1.held 20 (hD 20 eZ);obtain⟨bq,U,hq⟩:=pf;rw[U] at hK ⊢;clear U hD;go_simp;go_wp2_with (go_at_call 127;refine eW (ih.out W bq hq) ?_;intro e w9 hs;obtain⟨u9,rfl,g9,i⟩:=hs);exact hK.out _ _ ⟨_,rfl,SJ.step B 21 _ fk g9 (KQ.g g9) i⟩
   refine aC rfl ?_ ?_
   ·intro L f W B J hD K hK;rw[I f] at hK ⊢;have ph:EW W (f 21) x y:=B.1.held 21 (hD 21 eZ);generalize f 21=v21 at *;clear hD;go_simp;go_wp2_with (go_at_call 123;refine eW (hd.out W v21 ph) ?_;intro e w9 hs;obtain⟨rfl,g9⟩:=hs);exact hK.out _ _ ⟨_,rfl,SJ.step B 22 _ fk g9 (KQ.g g9) rfl⟩
   refine aC rfl ?_ ?_
   ·intro L f W B J hD K hK;rw[I f] at hK ⊢;have bs:f 22= .tuple #[.agg #[.float .f64 r1,.float .f64 r2],.int .i64 r3]:=B.1.held 22 (hD 22 eZ);rw[bs] at hK ⊢;clear bs hD;go_simp;exact hK.out _ _ ⟨_,rfl,SJ.step B 23 _ fk (ad _) (KQ.g (ad _)) rfl⟩
   refine aC rfl ?_ ?_
   ·intro L f W B J hD K hK;rw[I f] at hK ⊢;have bs:f 22= .tuple #[.agg #[.float .f64 r1,.float .f64 r2],.int .i64 r3]:=B.1.held 22 (hD 22 eZ);rw[bs] at hK ⊢;clear bs hD;go_simp;exact hK.out _ _ ⟨_,rfl,SJ.step B 24 _ fk (ad _) (KQ.g (ad _)) rfl⟩
   refine aC rfl ?_ ?_
   ·intro L f W B J hD K hK;rw[I f] at hK ⊢;have e4:f 23= .agg #[.float .f64 r1,.float .f64 r2]:=B.1.held 23 (hD 23 eZ);have mp:Rec W (w.heap.size+2) [.float .f64 0,.float .f64 0]:=by
     rcases B.1.blk with ⟨-,k⟩|⟨k,-⟩
     ·exact k
     ·rw[J] at k;cases k
    have RZ:Hid (Rec W (w.heap.size+2) [.float .f64 0,.float .f64 0]):=mp;have hn:=SJ.wr B undef J (Nat.le_add_right _ 2) (fun r=>KQ.put r) (fun _ _=>trivial);unfold put2 at hn;have oa:=hi9 hn;rw[e4] at hK ⊢;clear hD hn B e4 mp;obtain⟨fs,fv,ga,gd⟩:=fe RZ (ad _);go_simp;exact hK.out _ _ ⟨_,rfl,oa.out⟩
   refine aC rfl ?_ ?_
   ·intro L f W B J hD K hK;rw[I f] at hK ⊢;have kq:f 24= .int .i64 r3:=B.1.held 24 (hD 24 eZ);rw[kq] at hK ⊢;clear kq hD;go_simp;exact hK.out _ _ ⟨_,rfl,SJ.step B 26 _ fk (ad _) (KQ.g (ad _)) rfl⟩
   exact RV.Ones.nil
  ·skip
   intro f L w7 B J;have kr:f 26= .int .i64 r3:=B.1.held 26 (J 26 fk);have mm:Rec w7 (w.heap.size+2) [.float .f64 r1,.float .f64 r2]:=by
    rcases B.1.blk with ⟨k,-⟩|⟨-,k⟩
    ·rw[J 25 fk] at k;cases k
    ·exact k
   have RZ:=hi9 mm;have g9:=B.1.g;rw[I f,kr];generalize f 0=qm,f 1=qs,f 2=qx,f 3=qy,f 4=qz,f 5=ra,f 6=rb,f 7=rc,f 8=rn,f 9=rp,f 10=pn,f 11=po,f 12=pp,f 13=pq,f 14=pr,f 15=ps,f 16=pt,f 17=pu,f 18=pv,f 19=px,f 20=py,f 21=pz,f 22=qa,f 23=qb,f 24=qc,f 25=qd at *;clear B J I kr mm Z X T6 V1 V2 V3 V4 ii io it jj ih hd ky;refine wpAny_done eZ ?_ _;obtain⟨fs,fv,ga,gd⟩:=fe RZ (ad _);go_wp2_with fail;refine bodyPost_ret (v:= .tuple #[.agg #[.float .f64 r1,.float .f64 r2],.int .i64 r3]) (by simp [results,Tryz.results49,go_sem, *]) rfl ?_;exact⟨rfl,g9⟩
end Go.Proofs.YtohcneeihdkfgaaGreatDoor.EN
namespace Go.Proofs.YtohcneeihdkfgaaGreatDoor.EN
open Go.ChangeShapes Go.WideShapes Go.ChangeAt Go.RowKit
attribute [local go_sem] fu
set_option maxHeartbeats 1000000 in
theorem q3r (w:World) (lo hi:Nat) (n:Int) (hl:lo<2^64) (hh:hi<2^64):
  Calls Tryz.prog 52 #[.agg #[.float .f64 lo,.float .f64 hi],.int .i64 n] w (fR w (powV lo hi n)):=by
 obtain⟨r,i⟩:∃ r,r=powV lo hi n:=⟨_,rfl⟩;rw[← i];unfold powV at i;by_cases D:n<0∨12<n
 ·rw[if_pos D] at i;subst i;clear hl hh;rcases D with D|D
  ·have t1:decide (n<0)=true:=decide_eq_true D;clear D;go_enter Tryz.func52,Tryz.ntmps52;go_wp2_with fail;obtain⟨w0,A,g0,m,R0,R1⟩:=gF w [.float .f64 lo,.float .f64 hi] [.float .f64 0,.float .f64 0] 72 72;rw[A];clear A;obtain⟨M,N,O,R⟩:=fe R1 (ad _);refine bodyPost_ret (v:= .tuple #[.agg #[.float .f64 0,.float .f64 0],.int .i64 2]) (by simp [results,Tryz.results52,go_sem, *]) rfl ?_;exact⟨rfl,g0⟩
  ·have t1:decide (n<0)=false:=decide_eq_false eX;have t2:decide (12<n)=true:=decide_eq_true D;clear D;go_enter Tryz.func52,Tryz.ntmps52;go_wp2_with fail;obtain⟨w0,A,g0,m,R0,R1⟩:=gF w [.float .f64 lo,.float .f64 hi] [.float .f64 0,.float .f64 0] 72 72;rw[A];clear A;obtain⟨M,N,O,R⟩:=fe R1 (ad _);refine bodyPost_ret (v:= .tuple #[.agg #[.float .f64 0,.float .f64 0],.int .i64 2]) (by simp [results,Tryz.results52,go_sem, *]) rfl ?_;exact⟨rfl,g0⟩
 ·rw[if_neg D] at i;obtain⟨k,rfl⟩:∃ k:Nat,n=k:=⟨n.toNat,by omega⟩;rw[dw] at i;have hk:k≤12:=by omega
  have t1:decide ((k:Int)<0)=false:=decide_eq_false eX;have t2:decide ((12:Int)<(k:Int))=false:=decide_eq_false eX;clear D;have HW:Hid (∀ w1:World,_):=fun w1=>gQ w1 lo hi hl hh;have HO:Hid (spE lo hi=0→∀ w1:World,_):=fun h w1=>kE w1 lo hi hl hh (fA hl hh h).1 (fA hl hh h).2.1;have hq:spE lo hi=0→QB (FQ lo) 33∧QB (FQ hi) 33:=fun h=>⟨gN hl (fA hl hh h).1,gN hh (fA hl hh h).2.1⟩;have HP:Hid (spE lo hi=0→∀ w1 v,EW w1 v (FQ lo) (FQ hi)→_):=fun h w1 v hv=>q0e w1 v _ _ k hk hv (hq h).1 (hq h).2;have C:Hid (spE lo hi=0→∀ w1 v,EW w1 v (minL (FQ lo^k) (powT (FQ lo) (FQ hi) k)) (maxL (FQ lo^k) (powT (FQ lo) (FQ hi) k))→_):=fun h w1 v hv=>by
   have B:=mI hk (hq h).1 (hq h).2;exact lh w1 v _ _ hv (lf _ _) (lG (fun q=>QB q 400) _ _ (B _ bP) (fun y hy=>B y (ch _ hy))) (lF (fun q=>QB q 400) _ _ (B _ bP) (fun y hy=>B y (ch _ hy)))
  clear hq hl hh hk;generalize minL (FQ lo^k) (powT (FQ lo) (FQ hi) k)=x at *;generalize maxL (FQ lo^k) (powT (FQ lo) (FQ hi) k)=y at *;generalize FQ lo=a at *;generalize FQ hi=b at *;have HR:Hid (r=if spE lo hi=0 then outF x y else (0,0,spE lo hi)):=i;clear i;generalize outF x y=o at *;generalize spE lo hi=e0 at *;obtain⟨r1,r2,r3⟩:=r;go_enter Tryz.func52,Tryz.ntmps52;go_wp2_with fail;obtain⟨w0,A,g0,m,R0,R1⟩:=gF w [.float .f64 lo,.float .f64 hi] [.float .f64 0,.float .f64 0] 72 72;rw[A];clear A;obtain⟨F,I,J,K⟩:=fe R0 (ad _);go_wp2_with fail;clear F I J K;refine eW (HW.out _) ?_;rintro e w1 ⟨rfl,g1⟩;have gw:=ab g0 g1;have S0:Hid (Rec w1 w.heap.size [.float .f64 lo,.float .f64 hi]):=aw R0.out g1;have S1:Hid (Rec w1 (w.heap.size+1) [.float .f64 0,.float .f64 0]):=aw R1.out g1;clear HW g1 R0 R1 m g0;by_cases he:e0=0
  ·subst he;have af:Hid (∀ w1:World,_):=HO.out rfl;have ai:Hid (∀ w1 v,EW w1 v a b→_):=HP.out rfl;have ag:Hid (∀ w1 v,EW w1 v x y→_):=C.out rfl;have E:Hid (o=(r1,r2,r3)):=by show _=_;rw[HR.out,if_pos rfl]
   clear HO HP C HR;obtain⟨S,U,W,X⟩:=fe S0 (ad _);go_wp2_with fail;clear S U W X S0;refine eW (af.out w1) ?_;intro e w2 j;obtain⟨v,rfl,g2,hv⟩:=j;have HV:Hid (EW w2 v a b):=hv;clear hv af;go_wp2_with fail;refine eW (ai.out w2 v HV.out) ?_;intro e w3 j;obtain⟨v3,rfl,g3,hv⟩:=j;have al:Hid (EW w3 v3 x y):=hv;clear hv ai HV;go_wp2_with fail;refine eW (ag.out w3 v3 al.out) ?_;intro e w4 j;have bl:e= .returned (.tuple #[.agg #[.float .f64 r1,.float .f64 r2],.int .i64 r3])∧G w3 w4:=by rw[E.out] at j;exact j
   obtain⟨rfl,g4⟩:=bl;have g14:=ab g2 (ab g3 g4);clear j ag al E g2 g3 g4;obtain⟨Y,Z,c,d⟩:=fe S1 (g14);go_wp2_with fail;have hT:Hid (Rec _ (w.heap.size+1) [.float .f64 r1,.float .f64 r2]):=bE (aw S1.out (g14));have g9:=dQ hT.out (ab gw g14) eX;generalize (World.setCell (World.setCell w4 ⟨w.heap.size+1,0,none⟩ (.float .f64 r1)) ⟨w.heap.size+1,1,none⟩ (.float .f64 r2))=w9 at *;obtain⟨am,an,ap,bi⟩:=fe hT (((ad _)));refine bodyPost_ret (v:= .tuple #[.agg #[.float .f64 r1,.float .f64 r2],.int .i64 r3]) (by simp [results,Tryz.results52,go_sem, *]) rfl ?_;exact⟨rfl,g9⟩
  ·have k1:(e0==0)=false:=by simpa using he
   have k2:(e0 != 0)=true:=by simpa using he
   have E:Hid ((r1,r2,r3)=(0,0,e0)):=by show _=_;rw[HR.out,if_neg he]
   clear HO HP C HR he S0;obtain⟨Y,Z,c,d⟩:=fe S1 (ad _);go_wp2_with fail;have hT:Hid (Rec _ (w.heap.size+1) [.float .f64 0,.float .f64 0]):=bE (aw S1.out (ad _));have g9:=dQ hT.out (gw) eX;generalize (World.setCell (World.setCell w1 ⟨w.heap.size+1,0,none⟩ (.float .f64 0)) ⟨w.heap.size+1,1,none⟩ (.float .f64 0))=w9 at *;obtain⟨am,an,ap,bi⟩:=fe hT (((ad _)));refine bodyPost_ret (v:= .tuple #[.agg #[.float .f64 0,.float .f64 0],.int .i64 e0]) (by simp [results,Tryz.results52,go_sem, *]) rfl ?_;exact⟨by rw[E.out],g9⟩
set_option maxRecDepth 20000 in
set_option maxHeartbeats 2000000 in
theorem oN (w:World) (lo hi B C:Nat) (hl:lo<2^64) (hh:hi<2^64)
  (h1:spE lo hi=0→(FloatKind.f64.format.order lo 0==some .lt)=false→∀ w1 u,PR w1 u (FQ lo)→Calls Tryz.prog 136 #[u,.int .i64 2] w1 fun r w'=>r= .returned (.float .f64 B)∧G w1 w')
  (h2:spE lo hi=0→(FloatKind.f64.format.order lo 0==some .lt)=false→∀ w1 u,PR w1 u (FQ hi)→Calls Tryz.prog 136 #[u,.int .i64 3] w1 fun r w'=>r= .returned (.float .f64 C)∧G w1 w'):
  Calls Tryz.prog 54 #[.agg #[.float .f64 lo,.float .f64 hi]] w (fR w (kf lo hi B C)):=by
 obtain⟨r,hr⟩:∃ r,r=kf lo hi B C:=⟨_,rfl⟩;rw[← hr];unfold kf at hr;have HW:Hid (∀ w1:World,_):=fun w1=>gQ w1 lo hi hl hh;have HA:Hid (spE lo hi=0→∀ w1,Calls Tryz.prog 38 #[.float .f64 lo] w1 (RetP w1 (FQ lo))):=fun h w1=>by rw[ko hl (fA hl hh h).1];exact lj w1 lo hl (fA hl hh h).1
 have HB:Hid (spE lo hi=0→∀ w1,Calls Tryz.prog 38 #[.float .f64 hi] w1 (RetP w1 (FQ hi))):=fun h w1=>by rw[ko hh (fA hl hh h).2.1];exact lj w1 hi hh (fA hl hh h).2.1
 have HR:Hid (r=if spE lo hi=0 then (if (FloatKind.f64.format.order lo 0==some .lt)=true then (0,0,3) else (B,C,0)) else (0,0,spE lo hi)):=hr;have H1:Hid (spE lo hi=0→(FloatKind.f64.format.order lo 0==some .lt)=false→∀ w1 u,PR w1 u (FQ lo)→_):=h1;have H2:Hid (spE lo hi=0→(FloatKind.f64.format.order lo 0==some .lt)=false→∀ w1 u,PR w1 u (FQ hi)→_):=h2;clear hr hl hh h1 h2;generalize FQ lo=a at *;generalize FQ hi=b at *;generalize spE lo hi=e0 at *;obtain⟨r1,r2,r3⟩:=r;go_enter Tryz.func54,Tryz.ntmps54;go_wp2_with fail;obtain⟨w0,ai,g0,ap,R0,R1⟩:=gF w [.float .f64 lo,.float .f64 hi] [.float .f64 0,.float .f64 0] 72 72;rw[ai];clear ai;obtain⟨E,F,I,J⟩:=fe R0 (ad _);go_wp2_with fail;clear E F I J;refine eW (HW.out _) ?_;rintro e w1 ⟨rfl,g1⟩;have gw:=ab g0 g1;have S0:Hid (Rec w1 w.heap.size [.float .f64 lo,.float .f64 hi]):=aw R0.out g1;have S1:Hid (Rec w1 (w.heap.size+1) [.float .f64 0,.float .f64 0]):=aw R1.out g1;clear HW g1 R0 R1 ap g0;by_cases he:e0=0
 ·subst he;obtain⟨t,ht⟩:∃ t,(FloatKind.f64.format.order lo 0==some .lt)=t:=⟨_,rfl⟩;have HT:Hid ((FloatKind.f64.format.order lo 0==some .lt)=t):=ht;have af:Hid (∀ w1:World,_):=HA.out rfl;have ag:Hid (∀ w1:World,_):=HB.out rfl;obtain⟨M,N,O,R⟩:=fe S0 (ad _);cases t
  ·have D:Hid ((r1,r2,r3)=(B,C,0)):=by show _=_;rw[HR.out,if_pos rfl,if_neg (by rw[HT.out];decide)]
   have HX:Hid (∀ w1 u,PR w1 u a→_):=H1.out rfl HT.out;have HY:Hid (∀ w1 u,PR w1 u b→_):=H2.out rfl HT.out;clear HA HB HR HT H1 H2;go_wp2_with fail;clear M N O R ht;refine jU 9 2 [.is (.pointer (some ⟨w.heap.size,0,none⟩)),.is (.float .f64 lo),.any (fun v w'=>PR w' v a),.is (.float .f64 B),.is (.pointer (some ⟨w.heap.size,1,none⟩)),.is (.float .f64 hi),.any (fun v w'=>PR w' v b),.is (.float .f64 C),.is (.agg #[.float .f64 B,.float .f64 C])] [some 15,some 16,some 17,some 18,some 19,some 20,some 21,some 22,some 23] ?_;intro v2 v6 A hA;simp only[fG,Act.put,aq,ay,az] at hA;subst hA;refine⟨?_,?_⟩
   ·skip
    refine aa rfl ?a1 (aa rfl ?a6 (aa rfl ?a8 (aa rfl ?b0 (aa rfl ?a7 (aa rfl ?o1_5 (aa rfl ?b1 (aa rfl ?b2 (aa rfl ?o1_8 (bN)))))))))
    case a1|a7|o1_8=>
     exact jX
    case a6|o1_5=>
     intro W hW hD K hK;clear hD;have ⟨am,an⟩:=rc29 S0 hW;go_simp;exact hK.out _ _ ⟨_,rfl,ad _,rfl⟩
    ·intro W hW hD K hK;have hc:=hi9 (af.out W);exact gY
    ·intro W hW hD K hK;have h2:=gZ v2 2 hD;have hc:=hi9 (HX.out W v2 h2);exact sj
    ·intro W hW hD K hK;have hc:=hi9 (ag.out W);exact gY
    ·intro W hW hD K hK;have h6:=gZ v6 6 hD;have hc:=hi9 (HY.out W v6 h6);exact sj
   intro w5 g5 hH;clear hH;have S5:Hid (Rec w5 (w.heap.size+1) [.float .f64 0,.float .f64 0]):=aw S1.out g5;have al:=ab gw g5;clear af ag HX HY S0 S1 gw g5;obtain⟨Z,c,d,i⟩:=fe S5 (ad _);refine wpAny_ready (rs:=[9]) eZ fX ?_;refine AllReady.cons rfl (fun K hK=> ?_) AllReady.nil;go_simp;refine hK _ _ ?_;clear hK K Z c d i;refine wpAny_ready (rs:=[10]) eZ fX ?_;refine AllReady.cons rfl (fun K hK=> ?_) AllReady.nil;go_simp;refine hK _ _ ?_;clear hK K;refine wpAny_done eZ ?_ _;go_wp2_with fail;have hT:Hid (Rec _ (w.heap.size+1) [.float .f64 B,.float .f64 C]):=bE (aw S5.out (ad _));have g9:=dQ hT.out (al) eX;generalize (World.setCell (World.setCell w5 ⟨w.heap.size+1,0,none⟩ (.float .f64 B)) ⟨w.heap.size+1,1,none⟩ (.float .f64 C))=w9 at *;obtain⟨j,k,m,o⟩:=fe hT (((ad _)));refine bodyPost_ret (v:= .tuple #[.agg #[.float .f64 B,.float .f64 C],.int .i64 0]) (by simp [results,Tryz.results54,go_sem, *]) rfl ?_;exact⟨by rw[D.out],g9⟩
  ·have D:Hid ((r1,r2,r3)=(0,0,3)):=by show _=_;rw[HR.out,if_pos rfl,if_pos HT.out]
   clear HA HB af ag HR HT H1 H2;obtain⟨S,U,X,Y⟩:=fe S1 (ad _);go_wp2_with fail;have hT:Hid (Rec _ (w.heap.size+1) [.float .f64 0,.float .f64 0]):=bE (aw S1.out (ad _));have g9:=dQ hT.out (gw) eX;generalize (World.setCell (World.setCell w1 ⟨w.heap.size+1,0,none⟩ (.float .f64 0)) ⟨w.heap.size+1,1,none⟩ (.float .f64 0))=w9 at *;obtain⟨j,k,m,o⟩:=fe hT (((ad _)));refine bodyPost_ret (v:= .tuple #[.agg #[.float .f64 0,.float .f64 0],.int .i64 3]) (by simp [results,Tryz.results54,go_sem, *]) rfl ?_;exact⟨by rw[D.out],g9⟩
 ·have k1:(e0==0)=false:=by simpa using he
  have k2:(e0 != 0)=true:=by simpa using he
  have D:Hid ((r1,r2,r3)=(0,0,e0)):=by show _=_;rw[HR.out,if_neg he]
  clear HA HB HR he S0 H1 H2;obtain⟨S,U,X,Y⟩:=fe S1 (ad _);go_wp2_with fail;have hT:Hid (Rec _ (w.heap.size+1) [.float .f64 0,.float .f64 0]):=bE (aw S1.out (ad _));have g9:=dQ hT.out (gw) eX;generalize (World.setCell (World.setCell w1 ⟨w.heap.size+1,0,none⟩ (.float .f64 0)) ⟨w.heap.size+1,1,none⟩ (.float .f64 0))=w9 at *;obtain⟨j,k,m,o⟩:=fe hT (((ad _)));refine bodyPost_ret (v:= .tuple #[.agg #[.float .f64 0,.float .f64 0],.int .i64 e0]) (by simp [results,Tryz.results54,go_sem, *]) rfl ?_;exact⟨by rw[D.out],g9⟩
theorem kG (w:World) (a b c d:Nat) (h1:(FloatKind.f64.format.order a c==some .eq)=true) (h2:(FloatKind.f64.format.order b d==some .eq)=true):
  Calls Tryz.prog 50 #[.agg #[.float .f64 a,.float .f64 b],.agg #[.float .f64 c,.float .f64 d]] w fun e w'=>e= .returned (.bool true)∧G w w':=by
 have O:Hid (∀ w1:World,_):=fun w1=>rH w1 a c h1;have R:Hid (∀ w1:World,_):=fun w1=>rH w1 b d h2;clear h1 h2;go_enter Tryz.func50,Tryz.ntmps50;go_wp2_with fail;obtain⟨w0,K,g0,S,M,N⟩:=gF w [.float .f64 a,.float .f64 b] [.float .f64 c,.float .f64 d] 72 72;rw[K];clear K;obtain⟨A,B,C,D⟩:=fe M (ad _);obtain⟨E,F,I,J⟩:=fe N (ad _);go_wp2_with fail;clear A B C D E F I J;refine eW (O.out _) ?_;rintro e w1 ⟨rfl,g1⟩;obtain⟨A,B,C,D⟩:=fe M (g1);obtain⟨E,F,I,J⟩:=fe N (g1);go_wp2_with fail;clear A B C D E F I J;refine eW (R.out _) ?_;rintro e U ⟨rfl,g2⟩;go_wp2_with fail;go_ret;exact⟨rfl,ab g0 (ab g1 g2)⟩
theorem q0K (w:World) (a b:Nat):Calls Tryz.prog 56 #[.float .f64 a,.float .f64 b] w fun e w'=>e= .returned (.agg #[.float .f64 a,.float .f64 b])∧G w w':=by
 go_enter Tryz.func56,Tryz.ntmps56;go_wp2_with fail;have E:Hid (Rec (w.alloc (.cells #[.float .f64 a,.float .f64 b] 72)) w.heap.size [.float .f64 a,.float .f64 b]):=Rec.new2 w _ _ _;have g0:G w (w.alloc (.cells #[.float .f64 a,.float .f64 b] 72)):=(ad w).alloc _;generalize w.alloc (.cells #[.float .f64 a,.float .f64 b] 72)=w0 at *;obtain⟨A,B,C,D⟩:=fe E (ad _);refine bodyPost_ret (v:= .agg #[.float .f64 a,.float .f64 b]) (by simp [results,Tryz.results56,go_sem, *]) rfl ?_;exact⟨rfl,g0⟩
end Go.Proofs.YtohcneeihdkfgaaGreatDoor.EN
namespace Go.Proofs.YtohcneeihdkfgaaGreatDoor.EN
open Go.ChangeShapes Go.WideShapes Go.ChangeAt Go.RowKit
theorem pZ {x y:Rat} {K L:Nat} (A:QB x K) (B:QB y L):QB (x-y) (K+L+1):=by
 rw[Rat.sub_eq_add_neg];refine nE A ?_;obtain⟨h1,h2⟩:=B;exact⟨by rw[show (-y).num= -y.num from rfl,Int.natAbs_neg];exact h1,h2⟩
/-- A span of floats that are the same as themselves. -/
def okSp (r:Nat×Nat×Int):Prop:=(FloatKind.f64.format.order r.1 r.1==some .eq)=true∧(FloatKind.f64.format.order r.2.1 r.2.1==some .eq)=true
theorem fex0:fex 0<2047:=by decide
theorem nA {r:Nat×Nat×Int} (h1:fex r.1<2047) (h2:fex r.2.1<2047):okSp r:=⟨pG h1 h1 rfl,pG h2 h2 rfl⟩
theorem nB (x y:Rat):okSp (outF x y):=by
 unfold outF;split
 ·rename_i h;exact nA h.1 h.2
 ·exact nA fex0 fex0
theorem iB (c:Int):okSp (0,0,c):=nA fex0 fex0
theorem iL {p:Prop} [Decidable p] {r s:Nat×Nat×Int} (h1:okSp r) (h2:okSp s):okSp (if p then r else s):=by
 split
 ·exact h1
 ·exact h2
theorem kN {a b:Nat} (I:a<2^64) (hb:b<2^64) (D:fex a<2047) (E:fex b<2047) (F:FQ b≠0):QB (FQ a/FQ b) 200:=by
 obtain⟨O,J,C,-⟩:=mW I D;obtain⟨M,K,A,N⟩:=mW hb E;have B:M≠0:=fun h=>F (by rw[A,h];exact uz_eq_zero.2 rfl);rw[C,A,q1j jc B];exact(q3h B J K).mono eX
section
variable {lo hi lo2 hi2:Nat} (hl:lo<2^64) (hh:hi<2^64) (hl2:lo2<2^64) (hh2:hi2<2^64)
include hl hh hl2 hh2
theorem iy (h:spE2 lo hi lo2 hi2=0):(QB (FQ lo) 80∧QB (FQ hi) 80)∧(QB (FQ lo2) 80∧QB (FQ hi2) 80)∧FQ lo≤FQ hi∧FQ lo2≤FQ hi2:=by
 obtain⟨h1,h2⟩:=qi h;have A:=fA hl hh h1;have B:=fA hl2 hh2 h2;exact⟨⟨(gN hl A.1).mono eX,(gN hh A.2.1).mono eX⟩,⟨(gN hl2 B.1).mono eX,(gN hh2 B.2.1).mono eX⟩,A.2.2,B.2.2⟩
/-- What two spans come to by a way that ends in x and y. -/
def opR (lo hi lo2 hi2:Nat) (x y:Rat):Nat×Nat×Int:=if spE2 lo hi lo2 hi2=0 then outF x y else (0,0,spE2 lo hi lo2 hi2)
theorem q2b (w:World) (A:Tab w):Calls Tryz.prog 45 #[.agg #[.float .f64 lo,.float .f64 hi],.agg #[.float .f64 lo2,.float .f64 hi2]] w (fR w (opR lo hi lo2 hi2 (FQ lo+FQ lo2) (FQ hi+FQ hi2))):=by
 refine q5a w lo hi lo2 hi2 _ _ rfl fun w1 bd g B=>qg w1 lo hi lo2 hi2 _ bd B (FQ lo+FQ lo2) (FQ hi+FQ hi2) 0 (A.G g) hl hh hl2 hh2 (fun E v u g2 C D h=> ?_) (fun _ _=>by kernel_rfl) rfl (fun h=> ?_) (fun h=> ?_) _ ?_
 ·have q:=iy hl hh hl2 hh2 h;exact q4p E v u _ _ _ _ 80 eX eX (A.G (ab g g2)) C D q.1.1 q.1.2 q.2.1.1 q.2.1.2
 ·have q:=iy hl hh hl2 hh2 h;exact(nE q.1.1 q.2.1.1).mono eX
 ·have q:=iy hl hh hl2 hh2 h;exact(nE q.1.2 q.2.1.2).mono eX
 ·unfold opR;rw[if_pos rfl]
theorem q45 (w:World):Calls Tryz.prog 49 #[.int .i64 0,.agg #[.float .f64 lo,.float .f64 hi],.agg #[.float .f64 lo2,.float .f64 hi2]] w (fR w (opR lo hi lo2 hi2 (FQ lo+FQ lo2) (FQ hi+FQ hi2))):=by
 refine q1X w lo hi lo2 hi2 _ _ hl hh hl2 hh2 ⟨rfl,rfl⟩ (fun h=> ?_) (fun h=> ?_) (fun h=> ?_) _ rfl
 ·have q:=iy hl hh hl2 hh2 h;exact q2a q.2.2.1 q.2.2.2
 ·have q:=iy hl hh hl2 hh2 h;exact(nE q.1.1 q.2.1.1).mono eX
 ·have q:=iy hl hh hl2 hh2 h;exact(nE q.1.2 q.2.1.2).mono eX
theorem q3P (w:World) (A:Tab w):Calls Tryz.prog 46 #[.agg #[.float .f64 lo,.float .f64 hi],.agg #[.float .f64 lo2,.float .f64 hi2]] w (fR w (opR lo hi lo2 hi2 (FQ lo-FQ hi2) (FQ hi-FQ lo2))):=by
 refine q5d w lo hi lo2 hi2 _ _ rfl fun w1 bd g B=>qg w1 lo hi lo2 hi2 _ bd B (FQ lo-FQ hi2) (FQ hi-FQ lo2) 0 (A.G g) hl hh hl2 hh2 (fun E v u g2 C D h=> ?_) (fun _ _=>by kernel_rfl) rfl (fun h=> ?_) (fun h=> ?_) _ ?_
 ·have q:=iy hl hh hl2 hh2 h;exact q4t E v u _ _ _ _ 80 eX eX (A.G (ab g g2)) C D q.1.1 q.1.2 q.2.1.1 q.2.1.2
 ·have q:=iy hl hh hl2 hh2 h;exact(pZ q.1.1 q.2.1.2).mono eX
 ·have q:=iy hl hh hl2 hh2 h;exact(pZ q.1.2 q.2.1.1).mono eX
 ·unfold opR;rw[if_pos rfl]
theorem q5g (w:World):Calls Tryz.prog 49 #[.int .i64 1,.agg #[.float .f64 lo,.float .f64 hi],.agg #[.float .f64 lo2,.float .f64 hi2]] w (fR w (opR lo hi lo2 hi2 (FQ lo-FQ hi2) (FQ hi-FQ lo2))):=by
 refine q1Y w lo hi lo2 hi2 _ _ hl hh hl2 hh2 ⟨rfl,rfl⟩ (fun h=> ?_) (fun h=> ?_) (fun h=> ?_) _ rfl
 ·have q:=iy hl hh hl2 hh2 h;exact q3O q.2.2.1 q.2.2.2
 ·have q:=iy hl hh hl2 hh2 h;exact(pZ q.1.1 q.2.1.2).mono eX
 ·have q:=iy hl hh hl2 hh2 h;exact(pZ q.1.2 q.2.1.1).mono eX
def r8 (lo hi lo2 hi2:Nat):Rat:=minL (FQ lo*FQ lo2) [FQ lo*FQ hi2,FQ hi*FQ lo2,FQ hi*FQ hi2]
def r7 (lo hi lo2 hi2:Nat):Rat:=maxL (FQ lo*FQ lo2) [FQ lo*FQ hi2,FQ hi*FQ lo2,FQ hi*FQ hi2]
theorem pS (h:spE2 lo hi lo2 hi2=0):QB (r8 lo hi lo2 hi2) 400∧QB (r7 lo hi lo2 hi2) 400:=by
 have q:=iy hl hh hl2 hh2 h;have k:=qb4 (iU q.1.1 q.2.1.1) (iU q.1.1 q.2.1.2) (iU q.1.2 q.2.1.1) (iU q.1.2 q.2.1.2);exact⟨(lG (fun q=>QB q (80+80)) _ _ (k _ bP) (fun t A=>k t (ch _ A))).mono eX,(lF (fun q=>QB q (80+80)) _ _ (k _ bP) (fun t A=>k t (ch _ A))).mono eX⟩
theorem r9 (w:World) (A:Tab w):Calls Tryz.prog 47 #[.agg #[.float .f64 lo,.float .f64 hi],.agg #[.float .f64 lo2,.float .f64 hi2]] w (fR w (opR lo hi lo2 hi2 (r8 lo hi lo2 hi2) (r7 lo hi lo2 hi2))):=by
 refine q5b w lo hi lo2 hi2 _ _ rfl fun w1 bd g B=>qg w1 lo hi lo2 hi2 _ bd B (r8 lo hi lo2 hi2) (r7 lo hi lo2 hi2) 0 (A.G g) hl hh hl2 hh2 (fun E v u g2 C D h=> ?_) (fun _ _=>by kernel_rfl) rfl (fun h=>(pS hl hh hl2 hh2 h).1) (fun h=>(pS hl hh hl2 hh2 h).2) _ ?_
 ·have q:=iy hl hh hl2 hh2 h;exact q4q E v u _ _ _ _ (A.G (ab g g2)) C D q.1.1 q.1.2 q.2.1.1 q.2.1.2
 ·unfold opR;rw[if_pos rfl]
theorem q4M (w:World):Calls Tryz.prog 49 #[.int .i64 2,.agg #[.float .f64 lo,.float .f64 hi],.agg #[.float .f64 lo2,.float .f64 hi2]] w (fR w (opR lo hi lo2 hi2 (r8 lo hi lo2 hi2) (r7 lo hi lo2 hi2))):=
 q1Z w lo hi lo2 hi2 _ _ hl hh hl2 hh2 ⟨rfl,rfl⟩ (fun _=>lf _ _) (fun h=>(pS hl hh hl2 hh2 h).1) (fun h=>(pS hl hh hl2 hh2 h).2) _ rfl
/-- What the quotient of two spans comes to. -/
def quoR (lo hi lo2 hi2:Nat):Nat×Nat×Int:=if spE2 lo hi lo2 hi2=0 then (if has0 (FQ lo2) (FQ hi2)=true then (0,0,5) else outF (minL (FQ lo/FQ lo2) [FQ lo/FQ hi2,FQ hi/FQ lo2,FQ hi/FQ hi2]) (maxL (FQ lo/FQ lo2) [FQ lo/FQ hi2,FQ hi/FQ lo2,FQ hi/FQ hi2])) else (0,0,spE2 lo hi lo2 hi2)
theorem qe (h:spE2 lo hi lo2 hi2=0):(FQ lo2≠0→QB (FQ lo/FQ lo2) 200∧QB (FQ hi/FQ lo2) 200)∧(FQ hi2≠0→QB (FQ lo/FQ hi2) 200∧QB (FQ hi/FQ hi2) 200):=by
 obtain⟨h1,h2⟩:=qi h;have B:=fA hl hh h1;have C:=fA hl2 hh2 h2;exact⟨fun A=>⟨kN hl hl2 B.1 C.1 A,kN hh hl2 B.2.1 C.1 A⟩,fun A=>⟨kN hl hh2 B.1 C.2.1 A,kN hh hh2 B.2.1 C.2.1 A⟩⟩
theorem ru (w:World) (E:Tab w):Calls Tryz.prog 48 #[.agg #[.float .f64 lo,.float .f64 hi],.agg #[.float .f64 lo2,.float .f64 hi2]] w (fR w (quoR lo hi lo2 hi2)):=by
 have F:QB 0 400:=by have A:QB 0 1:=by unfold QB;decide
                     exact A.mono fk
 have B:spE2 lo hi lo2 hi2=0→has0 (FQ lo2) (FQ hi2)=false→∀ t∈[FQ lo/FQ lo2,FQ lo/FQ hi2,FQ hi/FQ lo2,FQ hi/FQ hi2],QB t 200:=fun h A=>by
  have q:=iy hl hh hl2 hh2 h;have C:=ka A q.2.2.2;have k:=qe hl hh hl2 hh2 h;exact qb4 (k.1 C.1).1 (k.2 C.2).1 (k.1 C.1).2 (k.2 C.2).2
 refine q5c w lo hi lo2 hi2 _ fun w1 g=>q4W w1 lo hi lo2 hi2 (nH (FQ lo) (FQ hi) (FQ lo2) (FQ hi2)) (nG (FQ lo) (FQ hi) (FQ lo2) (FQ hi2)) (if has0 (FQ lo2) (FQ hi2)=true then 5 else 0) (E.G g) hl hh hl2 hh2 (fun K v u g2 I J h=> ?_) (fun h=> ?_) (fun h=> ?_) _ ?_
 ·have q:=iy hl hh hl2 hh2 h;have k:=qe hl hh hl2 hh2 h;exact q4s K v u _ _ _ _ (E.G (ab g g2)) I J q.1.1 q.1.2 q.2.1.1 q.2.1.2 q.2.2.2 (fun n=>(k.1 n).1) (fun n=>(k.2 n).1) (fun n=>(k.1 n).2) (fun n=>(k.2 n).2)
 ·unfold nH;by_cases A:has0 (FQ lo2) (FQ hi2)=true
  ·rw[if_pos A];exact F
  ·rw[if_neg A];have k:=B h (by simpa using A);exact(lG (fun q=>QB q 200) _ _ (k _ bP) (fun t D=>k t (ch _ D))).mono eX
 ·unfold nG;by_cases A:has0 (FQ lo2) (FQ hi2)=true
  ·rw[if_pos A];exact F
  ·rw[if_neg A];have k:=B h (by simpa using A);exact(lF (fun q=>QB q 200) _ _ (k _ bP) (fun t D=>k t (ch _ D))).mono eX
 ·unfold quoR nH nG;by_cases A:has0 (FQ lo2) (FQ hi2)=true
  ·simp only[if_pos A];rfl
  ·simp only[if_neg A];rfl
theorem q4U (w:World):Calls Tryz.prog 49 #[.int .i64 3,.agg #[.float .f64 lo,.float .f64 hi],.agg #[.float .f64 lo2,.float .f64 hi2]] w (fR w (quoR lo hi lo2 hi2)):=by
 have k:spE lo hi=0→spE lo2 hi2=0→spE2 lo hi lo2 hi2=0:=fun h1 h2=>by unfold spE2;rw[if_pos h1];exact h2
 exact q20 w lo hi lo2 hi2 _ _ hl hh hl2 hh2 ⟨rfl,rfl⟩ (fun n h1 h2=>(qe hl hh hl2 hh2 (k h1 h2)).1 n) (fun n h1 h2=>(qe hl hh hl2 hh2 (k h1 h2)).2 n) _ rfl
end
theorem pV (lo hi lo2 hi2:Nat) (x y:Rat):okSp (opR lo hi lo2 hi2 x y):=iL (nB _ _) (iB _)
theorem q35 (lo hi lo2 hi2:Nat):okSp (quoR lo hi lo2 hi2):=iL (iL (iB _) (nB _ _)) (iB _)
theorem q34 (lo hi:Nat) (n:Int):okSp (powV lo hi n):=iL (iB _) (iL (nB _ _) (iB _))
/-- A root, by the program and by the reference. -/
theorem oP (m:Int) (O:m=1∨m=2∨m=3∨m=4) (x:Rat) (X:0≤x.num) (hb:QB x 80):∃ D:Nat,(FloatKind.f64.format.order D D==some .eq)=true∧
  (∀ w1 v,QIs w1 v x→Calls Tryz.prog 135 #[v,.int .i64 m] w1 fun r w'=>r= .returned (.tuple #[.float .f64 D,.int .i64 0])∧G w1 w')∧
  ∀ w1 u,PR w1 u x→Calls Tryz.prog 136 #[u,.int .i64 m] w1 fun e w'=>e= .returned (.float .f64 D)∧G w1 w':=by
 obtain⟨E,I⟩:∃ E:Nat,E=2^1074:=⟨_,rfl⟩;obtain⟨F,H,S,N,T,s,C⟩:=q4Z x I;have A:∀ w1 u,PR w1 u x→Calls Tryz.prog 136 #[u,.int .i64 m] w1 fun e w'=>e= .returned (.float .f64 (iG m E x.num.natAbs x.den T))∧G w1 w':=fun w1 u hu=>q3v w1 u x m X hb O I C hu;have hle:iG m E x.num.natAbs x.den T≤2047*2^52:=by
  have:=C.t1;unfold iG;split<;>omega
 have B:(FloatKind.f64.format.order (iG m E x.num.natAbs x.den T) (iG m E x.num.natAbs x.den T)==some .eq)=true:=by
  rw[FT.eq_self];have:=(q3a hle).2.2;rw[this];rfl
 rcases Int.lt_or_le 0 x.num with h|h
 ·obtain⟨W,M,Z⟩:=q5p x 80 eX eX h hb I;have K:W=T:=M.uniq C.at_;subst K;exact⟨_,B,fun w1 v hv=>Z w1 v m O hv,A⟩
 ·have c:x=0:=cI.1 eX;subst c;have Y:N=0:=by rw[C.n,show (0:Rat).num.natAbs=0 from rfl,bL,Nat.zero_div]
  have J:S=0:=by
   have:=C.r1;rw[Y] at this;rcases cm S with k|k
   ·exact k
   ·have:=aM k k;omega
  have U:=C.tz J;have d:il E (0:Rat).num.natAbs (0:Rat).den T=0:=C.z.2 ⟨by rw[J];simp,by rw[U,J,show FT.v 0=0 from by decide,bL]⟩;have R:iG m E (0:Rat).num.natAbs (0:Rat).den T=0:=by rw[lY (Or.inl d),U]
  rw[R] at A B;exact⟨0,B,fun w1 v hv=>qp w1 v m O hv,A⟩
theorem q1l {b:Nat} (h:b<2^64) (D:fex b<2047) (B:(FloatKind.f64.format.order b 0==some .lt)=false):0≤FQ b:=by
 have e:=jY D fex0;have E:fz 0=0:=by decide
 rw[E] at e;rw[ko h D];have F:0≤fz b:=by
  rcases Int.lt_or_le (fz b) 0 with k|k
  ·rw[e,bO.2 k] at B;cases B
  ·exact k
 have h2:=q3W (fz b) 0;have h3:Uz 0=0:=uz_eq_zero.2 rfl;rw[h3,Int.sub_zero] at h2;refine Rat.not_lt.1 fun A=> ?_;have C:=sgC_lt.2 A;unfold sgC at C;rw[h2,eU] at C;omega
theorem q0i (lo hi:Nat) (hl:lo<2^64) (hh:hi<2^64):∃ A v2,okSp (kf lo hi A v2)∧(∀ w,Tab w→Calls Tryz.prog 53 #[.agg #[.float .f64 lo,.float .f64 hi]] w (fR w (kf lo hi A v2)))∧
  ∀ w,Calls Tryz.prog 54 #[.agg #[.float .f64 lo,.float .f64 hi]] w (fR w (kf lo hi A v2)):=by
 by_cases h:spE lo hi=0∧(FloatKind.f64.format.order lo 0==some .lt)=false
 ·obtain⟨h1,h2⟩:=h;have k:=fA hl hh h1;have n1:=q1l hl k.1 h2;have F:0≤FQ hi:=Rat.le_trans n1 k.2.2;have num:∀ x:Rat,0≤x→0≤x.num:=fun x h=>by
   rcases Int.lt_or_le x.num 0 with k|k
   ·have:=num_sign_neg.1 (eU.2 k);exact absurd h (Rat.not_le.2 this)
   ·exact k
  obtain⟨A,I,C,D⟩:=oP 2 eX (FQ lo) (num _ n1) ((gN hl k.1).mono eX);obtain⟨v2,J,a2,E⟩:=oP 3 eX (FQ hi) (num _ F) ((gN hh k.2.1).mono eX);exact⟨A,v2,iL (iL (iB _) ⟨I,J⟩) (iB _),fun w B=>rO w lo hi A v2 B hl hh (fun _ _=>C) (fun _ _=>a2),fun w=>oN w lo hi A v2 hl hh (fun _ _=>D) (fun _ _=>E)⟩
 ·exact⟨0,0,iL (iL (iB _) (iB 0)) (iB _),fun w B=>rO w lo hi 0 0 B hl hh (fun h1 h2=>absurd ⟨h1,h2⟩ h) (fun h1 h2=>absurd ⟨h1,h2⟩ h),fun w=>oN w lo hi 0 0 hl hh (fun h1 h2=>absurd ⟨h1,h2⟩ h) (fun h1 h2=>absurd ⟨h1,h2⟩ h)⟩
end Go.Proofs.YtohcneeihdkfgaaGreatDoor.EN
namespace Go.Proofs.YtohcneeihdkfgaaGreatDoor.EN
open Go.ChangeShapes Go.WideShapes Go.ChangeAt Go.RowKit
attribute [local go_sem] fu
theorem jN (u v:Nat) (w:World):(Op.equalIn 9999 22 (.float .f64 u) (.float .f64 v)).run Tryz.prog w= .ok (FloatKind.f64.format.order u v==some .eq) w:=by kernel_rfl
section
attribute [local go_sem] fE fN
set_option maxRecDepth 100000 in
/-- The neighbour of a float above 0, on the way to a greater one. -/
theorem q1H (x y:Nat) (w:World) (n1:FT.nan x=false) (C:FT.nan y=false) (D:(FloatKind.f64.format.order x y==some .eq)=false) (E:(FloatKind.f64.format.order x 0==some .eq)=false)
  (F:(FloatKind.f64.format.order y x==some .gt)=true) (I:(FloatKind.f64.format.order x 0==some .gt)=true) (J:(x:Int)<9223372036854775807):
  Calls Tryz.prog 60 #[.float .f64 x,.float .f64 y] w fun e w'=>e= .returned (.float .f64 (x+1))∧G w w':=by
 have A:Hid (∀ w1:World,_):=fun w1=>iJ x w1;have B:Hid (∀ w1:World,_):=fun w1=>iJ y w1;rw[n1] at A;rw[C] at B;clear n1 C;go_enter Tryz.func60,Tryz.ntmps60;go_wp2_with fail;refine eW (A.out _) ?_;rintro e w1 ⟨rfl,g1⟩;go_wp2_with fail;refine eW (B.out _) ?_;rintro e K ⟨rfl,g2⟩;go_wp2;go_ret;exact⟨iF eX,ab g1 g2⟩
end
theorem q3Y:opR 13830554455654793216 4611686018427387904 4613937818241073152 4616189618054758400 (r8 13830554455654793216 4611686018427387904 4613937818241073152 4616189618054758400) (r7 13830554455654793216 4611686018427387904 4613937818241073152 4616189618054758400)=(13839561654909534208,4620693217682128896,0):=by decide+kernel
theorem q3Z:powV 13837309855095848960 4611686018427387904 2=(0,4621256167635550208,0):=by decide+kernel
theorem q40:quoR 4607182418800017408 4607182418800017408 4613937818241073152 4613937818241073152=(4599676419421066581,4599676419421066582,0):=by decide+kernel
set_option maxRecDepth 30000 in
set_option maxHeartbeats 4000000 in
theorem q6J (w:World) (hT:Tab w):Calls Tryz.prog 42 #[] w fun e w'=>e= .returned (.bool true)∧G w w':=by
 have J:Hid (∀ (w1:World) (a b:Nat),_):=fun w1 a b=>q0K w1 a b;have HM:Hid (∀ w1,G w w1→Calls Tryz.prog 47 #[.agg #[.float .f64 13830554455654793216,.float .f64 4611686018427387904],.agg #[.float .f64 4613937818241073152,.float .f64 4616189618054758400]] w1 fun e w'=>e= .returned (.tuple #[.agg #[.float .f64 13839561654909534208,.float .f64 4620693217682128896],.int .i64 0])∧G w1 w'):=fun w1 g=>by
  have k:=r9 (lo:=13830554455654793216) (hi:=4611686018427387904) (lo2:=4613937818241073152) (hi2:=4616189618054758400) fk fk fk fk w1 (hT.G g);rw[q3Y] at k;exact k
 have HP:Hid (∀ w1,G w w1→Calls Tryz.prog 51 #[.agg #[.float .f64 13837309855095848960,.float .f64 4611686018427387904],.int .i64 2] w1 fun e w'=>e= .returned (.tuple #[.agg #[.float .f64 0,.float .f64 4621256167635550208],.int .i64 0])∧G w1 w'):=fun w1 g=>by
  have k:=q0U w1 13837309855095848960 4611686018427387904 2 (hT.G g) fk fk;rw[q3Z] at k;exact k
 have HQ:Hid (∀ w1,G w w1→Calls Tryz.prog 48 #[.agg #[.float .f64 4607182418800017408,.float .f64 4607182418800017408],.agg #[.float .f64 4613937818241073152,.float .f64 4613937818241073152]] w1 fun e w'=>e= .returned (.tuple #[.agg #[.float .f64 4599676419421066581,.float .f64 4599676419421066582],.int .i64 0])∧G w1 w'):=fun w1 g=>by
  have k:=ru (lo:=4607182418800017408) (hi:=4607182418800017408) (lo2:=4613937818241073152) (hi2:=4613937818241073152) fk fk fk fk w1 (hT.G g);rw[q40] at k;exact k
 clear hT;go_enter Tryz.func42,Tryz.ntmps42;go_wp2_with fail;refine eW (J.out _ _ _) ?_;rintro e w1 ⟨rfl,g1⟩;go_wp2_with fail;refine eW (J.out _ _ _) ?_;rintro e w2 ⟨rfl,g2⟩;have E:=ab g1 g2;clear g1 g2;go_wp2_with fail;refine eW (HM.out _ E) ?_;rintro e w3 ⟨rfl,g3⟩;have Y:=ab E g3;clear E g3 HM;go_wp2_with fail;obtain⟨w4,A,g4,cb,R1⟩:=ft w3 [.float .f64 13839561654909534208,.float .f64 4620693217682128896] 72;rw[A];clear A cb;have Z:=ab Y g4;generalize w3.heap.size=ba at *;clear Y g4;refine eW (J.out _ _ _) ?_;rintro e w5 ⟨rfl,g5⟩;have F:=ab Z g5;have K:Hid (Rec w5 ba _):=aw R1.out g5;clear Z g5 R1;go_wp2_with fail;refine eW (HP.out _ F) ?_;rintro e w6 ⟨rfl,g6⟩;have c:=ab F g6;have M:Hid (Rec w6 ba _):=aw K.out g6;clear F g6 K HP;go_wp2_with fail;obtain⟨w7,A,g7,cc,R2⟩:=ft w6 [.float .f64 0,.float .f64 4621256167635550208] 72;rw[A];clear A cc;have d:=ab c g7;have N:Hid (Rec w7 ba _):=aw M.out g7;generalize w6.heap.size=bb at *;clear c g7 M;refine eW (J.out _ _ _) ?_;rintro e w8 ⟨rfl,g8⟩;go_wp2_with fail;refine eW (J.out _ _ _) ?_;rintro e w9 ⟨rfl,g9⟩;have B:=ab g8 g9;have I:=ab d B;have O:Hid (Rec w9 ba _):=aw N.out B;have S:Hid (Rec w9 bb _):=aw R2.out B;clear d B g8 g9 N R2;go_wp2_with fail;refine eW (HQ.out _ I) ?_;rintro e C ⟨rfl,g10⟩;have D:=ab I g10;have R:Hid (Rec C ba _):=aw O.out g10;have U:Hid (Rec C bb _):=aw S.out g10;clear I g10 O S HQ;go_wp2_with fail;obtain⟨m,A,g11,j,R3⟩:=ft C [.float .f64 4599676419421066581,.float .f64 4599676419421066582] 72;rw[A];clear A j
 have X:=ab D g11;have S1:Hid (Rec m ba [.float .f64 13839561654909534208,.float .f64 4620693217682128896]):=aw R.out g11;have S2:Hid (Rec m bb [.float .f64 0,.float .f64 4621256167635550208]):=aw U.out g11;generalize C.heap.size=bc at *;clear D g11 R U;have bq:Hid (∀ w1:World,Calls Tryz.prog 60 #[.float .f64 4599676419421066581,.float .f64 4607182418800017408] w1 fun e w'=>e= .returned (.float .f64 4599676419421066582)∧G w1 w'):=fun w1=>by
  have k:=q1H 4599676419421066581 4607182418800017408 w1 (by decide+kernel) (by decide+kernel) (by decide+kernel) (by decide+kernel) (by decide+kernel) (by decide+kernel) eX;exact k
 obtain⟨al,am,an,ap⟩:=fe S1 (ad _);obtain⟨bi,bl,bm,bn⟩:=fe S2 (ad _);obtain⟨o,af,ag,ai⟩:=fe R3 (ad _);have q1:∀ w,(Op.equalIn 9999 22 (.float .f64 13839561654909534208) (.float .f64 13839561654909534208)).run Tryz.prog w= .ok true w:=fun w=>by rw[jN];congr 1
 have q2:∀ w,(Op.equalIn 9999 22 (.float .f64 4620693217682128896) (.float .f64 4620693217682128896)).run Tryz.prog w= .ok true w:=fun w=>by rw[jN];congr 1
 have q3:∀ w,(Op.equalIn 9999 22 (.float .f64 0) (.float .f64 0)).run Tryz.prog w= .ok true w:=fun w=>by rw[jN];congr 1
 have q4:∀ w,(Op.equalIn 9999 22 (.float .f64 4621256167635550208) (.float .f64 4621256167635550208)).run Tryz.prog w= .ok true w:=fun w=>by rw[jN];congr 1
 have q5:∀ w,(Op.equalIn 9999 22 (.float .f64 4599676419421066581) (.float .f64 4599676419421066581)).run Tryz.prog w= .ok true w:=fun w=>by rw[jN];congr 1
 have q6:∀ w,(Op.equalIn 9999 22 (.float .f64 4599676419421066582) (.float .f64 4599676419421066582)).run Tryz.prog w= .ok true w:=fun w=>by rw[jN];congr 1
 have l1:=S1.out.lt;have l2:=S2.out.lt;have l3:=R3.out.lt;refine fq eZ eZ ?_;intro W hW;have bs:=iP (w:=W) ⟨ba,0,none⟩ (.float .f64 13839561654909534208);have bu:=iP (w:=W) ⟨ba,1,none⟩ (.float .f64 4620693217682128896);have bv:=iP (w:=W) ⟨bb,0,none⟩ (.float .f64 0);have bw:=iP (w:=W) ⟨bb,1,none⟩ (.float .f64 4621256167635550208);have bz:=iP (w:=W) ⟨bc,0,none⟩ (.float .f64 4599676419421066581);have ca:=iP (w:=W) ⟨bc,1,none⟩ (.float .f64 4599676419421066582);clear hW
 repeat (go_big_quiet_step ((first|(go_at_call 56;exact iC (J.out _ _ _))|(go_at_call 60;exact iC (bq.out _)))))
 refine wpQuiet_nil ?_;clear bs bu bv bw bz ca;intro cd i;clear q1 q2 q3 q4 q5 q6;go_wp2_with fail;go_ret;exact⟨rfl,ab X i⟩
end Go.Proofs.YtohcneeihdkfgaaGreatDoor.EN
