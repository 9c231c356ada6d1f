/- What is proved here: contracts of the reference: Round of 0, a half, the top power of two; products and comparisons of fractions over one base, over this seat's translation.
What is proved here: the reference's root of a fraction that isn't below 0, over this seat's translation.
What is proved here: the pieces of the reference's root, as its walk asks for them, over this seat's translation.
What is proved here: fractions rounded by the program and by the reference are the same float; what is rounded outwards stays in order; checks of spans, over this seat's translation.
What is proved here: contracts of package ends: Of, Add, Sub, hasZero, Out, over this seat's translation.
What is proved here: contracts of the reference: spans of ratios: WOf, plus, minus, zero, Outwards; quo, whole, raise, over this seat's translation.
What is proved here: contracts of slices.MinFunc and MaxFunc of fractions, and of package ends' around, over this seat's translation.
What is proved here: contract of the reference: hull, over this seat's translation.
What is proved here: contracts of package ends: around, corners, Mul, Quo, over this seat's translation.
What is proved here: contracts of package ends: Quo and its way, Pow and its way, over this seat's translation. -/
import Derived.Test.YtohcneeihdkfgaaGreatDoorQ1
import Derived.Test.YtohcneeihdkfgaaGreatDoorQ3
import Derived.Test.YtohcneeihdkfgaaGreatDoorQ8
import Derived.Test.YtohcneeihdkfgaaGreatDoorQ34
import Derived.Test.YtohcneeihdkfgaaGreatDoorQ38
import Derived.Test.YtohcneeihdkfgaaGreatDoorQ40
import Derived.Test.YtohcneeihdkfgaaGreatDoorQ36
import Derived.Test.YtohcneeihdkfgaaGreatDoorQ39
import Derived.Test.YtohcneeihdkfgaaGreatDoorQ9
import Derived.Test.YtohcneeihdkfgaaGreatDoorQ37
import Derived.Test.YtohcneeihdkfgaaGreatDoorQ37
import Derived.Test.YtohcneeihdkfgaaGreatDoorQ10
import Derived.Test.YtohcneeihdkfgaaGreatDoorQ28
namespace Go.Proofs.YtohcneeihdkfgaaGreatDoor.EN
open Go.ChangeShapes Go.WideShapes Go.ChangeAt Go.RowKit
attribute [local go_sem] fE fN
theorem rG (w:World) (u:Value) (m:Int) (hu:PR w u 0):
  Calls Tryz.prog 202 #[u,.int .i64 m] w fun e F=>e= .returned (.float .f64 0)∧G w F:=by
 obtain⟨b,rfl,hb,A⟩:=hu;have E:=hi9 (pJ w b _ A);have C:Hid (∀ B,G w B→_):=fun B g=>mN B b 0 _ (A.G hb g);rw[show (0:Int).sign=0 from rfl] at C;clear A;go_enter Tryz.func202,Tryz.ntmps202;go_wp2_with fail;refine eW E.out ?_;rintro e I ⟨K,rfl,D⟩;go_wp2_with fail;refine eW (C.out I D) ?_;rintro e J ⟨rfl,gb⟩;go_wp2_with fail;go_ret;exact⟨rfl,ab D gb⟩
theorem q5T (w:World):Calls Tryz.prog 213 #[.int .i64 1,.int .i64 2] w (RetP w (mkRat 1 2)):=by
 have Y:Hid (∀ B z q p,Rec B z [.bool false,.slice none 0 0,.bool false,.slice none 0 0]→q<B.heap.size→IntIs B q 0 1→p<B.heap.size→IntIs B p 0 2→
   Calls Tryz.prog 61 #[.pointer (some ⟨z,0,none⟩),.pointer (some ⟨q,0,none⟩),.pointer (some ⟨p,0,none⟩)] B (SetRat B z (mkRat 1 2))):=fun B z q p m k U j hi=>by
  have h:=kH B z q 0 p 0 1 2 1 eX fk fk fk k j m U hi;rw[show ((1:Int):Rat)/((2:Int):Rat)=mkRat 1 2 from by decide+kernel] at h;exact h
 generalize mkRat 1 2=y at *;go_enter Tryz.func213,Tryz.ntmps213;go_wp2_with fail;have N:=q0O w 45;have J:=(ad w).alloc (.cells #[.bool false,.slice none 0 0,.bool false,.slice none 0 0] 45);have W:w.heap.size≤w.heap.size:=aI _;generalize w.alloc (.cells #[.bool false,.slice none 0 0,.bool false,.slice none 0 0] 45)=B at *;have F:Hid (Rec B w.heap.size [.bool false,.slice none 0 0,.bool false,.slice none 0 0]):=N;clear N;refine eW (gW B 1 eX) ?_;intro e X h;obtain⟨q,rfl,D,-,E,M⟩:=h;have Z:Hid (IntIs X q 0 1):=M;have I:=ab J D;have C:Hid (Rec X w.heap.size [.bool false,.slice none 0 0,.bool false,.slice none 0 0]):=aw F.out D;clear M F J D;go_wp2_with fail;refine eW (gW X 2 eX) ?_;intro e w3 h;obtain⟨p,rfl,A,-,K,L⟩:=h;have S:=ab I A;have O:=(aw C.out A).lt;have c:=hi9 (Y.out w3 w.heap.size q p (aw C.out A) (de A E) (df Z.out E A) K L);clear Y K L I A C Z E;go_wp2_with fail;refine eW c.out ?_;intro e w4 d;obtain⟨r,rfl,o,k2,s,i⟩:=SetRat.ret S W O d;have R:Hid (RIs w4 r y):=i;clear d i c;go_wp2_with fail;go_ret;exact⟨_,rfl,o,r,rfl,s,R.out⟩
theorem q3S (w:World):Calls Tryz.prog 212 #[.int .i64 1024] w (RetP w (mkRat ((2^1024:Nat):Int) 1)):=by
 obtain⟨n,B⟩:∃ n:Nat,n=1024:=⟨_,rfl⟩;have h:=q6a (n:Int) eX eX w;rw[show (n:Int).toNat=n from rfl,show (-(n:Int)).toNat=0 from by omega,cf] at h;rw[show ((1024:Int))=(n:Int) from by omega,← B];generalize 2^n=P at *;refine h.mono ?_;rintro e E ⟨p,rfl,g,-,C,D⟩;refine⟨_,rfl,g,p,rfl,C,?_⟩;have A:mkRat (P:Int) 1=((P:Int):Rat):=Rat.mkRat_one (P:Int);unfold RIs;rw[A];exact D
theorem q0w {x y:Rat} {a c:Int} {B D:Nat} (C:0<B) (E:0<D) (F:x=mkRat a B) (I:y=mkRat c D):(x.num*y.den-y.num*x.den).sign=(a*D-c*B).sign:=by
 rw[s9 C F];have h1:=mk_cross E I;have h3:(a*y.den-y.num*B)*(D:Int)=y.den*(a*D-c*B):=by
  rw[cO,dW,show y.num*(B:Int)*D=y.num*D*B from by ac_rfl,← h1]
  congr 1<;>ac_rfl
 have A:=congrArg Int.sign h3;rw[dZ,dZ,bg (show (0:Int)<D by omega),bg (show (0:Int)<y.den by have:=y.den_pos;omega),cU,dV] at A;exact A
theorem mG {x y:Rat} {a c:Int} {B D:Nat} (A:x=mkRat a B) (C:y=mkRat c D):x*y=mkRat (a*c) (B*D):=by
 rw[A,C,Rat.mkRat_mul_mkRat]
theorem pR {x y:Rat} {a c:Int} {B:Nat} (D:0<B) (A:x=mkRat a B) (C:y=mkRat c B):x+y=mkRat (a+c) B:=by
 rw[A,C,Rat.mkRat_add_mkRat _ _ eX eX,← Int.add_mul];exact Rat.mkRat_mul_right eX
end Go.Proofs.YtohcneeihdkfgaaGreatDoor.EN
namespace Go.Proofs.YtohcneeihdkfgaaGreatDoor.EN
open Go.ChangeShapes Go.WideShapes Go.ChangeAt Go.RowKit
attribute [local go_sem] fE fN
/-- What the reference's root rests on. -/
structure RootSet (q:Rat) (E F H S N T:Nat) (s:Rat):Prop where
 e0:0<E
 f0:0<F
 h2:F=2*H
 w:Whole q.num.natAbs q.den E F S
 n:N=q.num.natAbs*(E*F*(E*F))/q.den
 r1:S*S≤N
 r2:N<(S+1)*(S+1)
 sr:s=mkRat (S:Int) (E*F)
 t1:T<2047*2^52
 at_:RootAt E q.num.natAbs q.den T
 z:il E q.num.natAbs q.den T=0↔S*S*q.den=q.num.natAbs*(E*E)*(F*F)∧FT.v T*F=S
 l:il E q.num.natAbs q.den T≠0→il E q.num.natAbs q.den T=if S<(FT.v T+FT.v (T+1))*H then 1 else if S=(FT.v T+FT.v (T+1))*H∧S*S*q.den=q.num.natAbs*(E*E)*(F*F) then 2 else 3
 x:E*F=2^1200
 tz:S=0→T=0
 tn:S≠0→T=tV s.num.natAbs s.den
theorem q4Z (q:Rat) {E:Nat} (J:E=2^1074):∃ F H S N T s,RootSet q E F H S N T s:=by
 obtain⟨n,j⟩:∃ n:Nat,n=125:=⟨_,rfl⟩;obtain⟨S,C,D⟩:=q0V (q.num.natAbs*(E*2^(n+1)*(E*2^(n+1)))/q.den);have K:0<E:=by rw[J];exact(by obtain⟨i,L⟩:∃ n:Nat,n=1074:=⟨_,rfl⟩;rw[← L];exact ae i)
 have Y:E*2^(n+1)=2^1200:=by
  obtain⟨k,W⟩:∃ k:Nat,k=1074:=⟨_,rfl⟩;rw[J,← W,← ah]
  congr 1
  omega
 have U:0<2^n:=ae n;have M:2^(n+1)=2*2^n:=by rw[bH,aJ]
 generalize 2^(n+1)=F at *;generalize 2^n=H at *;have B:0<F:=by omega
 have R:Whole q.num.natAbs q.den E F S:=q25 q.den_pos rfl C D;obtain⟨s,O⟩:∃ s,s=mkRat (S:Int) (E*F):=⟨_,rfl⟩;obtain⟨T,A⟩:∃ T,T=if S=0 then 0 else tV s.num.natAbs s.den:=⟨_,rfl⟩;have X:T<2047*2^52∧FT.v T*F≤S∧(T+1<2047*2^52→S<FT.v (T+1)*F):=by
  by_cases I:S=0
  ·rw[if_pos I] at A;rw[A,I,show FT.v 0=0 from by decide,show FT.v (0+1)=1 from by decide];exact⟨by omega,by omega,fun _=>by omega⟩
  ·rw[if_neg I] at A;rw[A];exact q5Y J B O I
 obtain⟨t1,t2,t3⟩:=X;obtain⟨Z,c,d⟩:=q51 q.den_pos M U R t1 t2 t3;exact⟨F,H,S,_,T,s,K,B,M,R,rfl,C,D,O,t1,Z,c,d,Y,fun h=>by rw[A,if_pos h],fun h=>by rw[A,if_neg h]⟩
theorem lY {m:Int} {E A B T:Nat} (h:il E A B T=0∨m=2∨m=4):iG m E A B T=T:=by
 unfold iG;rw[if_neg,aP];rintro⟨h1,h2⟩;rcases h with h|rfl|rfl
 ·exact h1 h
 ·unfold onw at h2;simp at h2
 ·unfold onw at h2;simp at h2
theorem q3w {E A B T:Nat} (h:il E A B T≠0):iG 3 E A B T=T+1:=by
 unfold iG;rw[if_pos ⟨h,by unfold onw;simp⟩]
theorem q0h {E A B T:Nat} (h:il E A B T≠0):iG 1 E A B T=if il E A B T=3∨(il E A B T=2∧T%2=1) then T+1 else T:=by
 unfold iG onw;generalize il E A B T=l at *;by_cases h3:l=3∨(l=2∧T%2=1)
 ·rw[if_pos h3,if_pos];refine⟨h,?_⟩;rcases h3 with rfl|⟨rfl,C⟩
  ·simp
  ·simp [C]
 ·rw[if_neg h3,if_neg]
  ·rfl
  ·rintro⟨-,C⟩;apply h3;simp at C;exact C
end Go.Proofs.YtohcneeihdkfgaaGreatDoor.EN
namespace Go.Proofs.YtohcneeihdkfgaaGreatDoor.EN
open Go.ChangeShapes Go.WideShapes Go.ChangeAt Go.RowKit
attribute [local go_sem] fE fN
theorem q0M {q:Rat} (A:0≤q.num):q.num=(q.num.natAbs:Int):=by omega
theorem q58 {q:Rat} {E F H S N T:Nat} {s:Rat} (h:RootSet q E F H S N T s) (R:QB q 80):q.num.natAbs*(E*F*(E*F))<2^(32*235)∧N<2^(32*235)∧S<2^(32*235)∧E*F<2^(32*235)∧QB s 80∧QB (s*s) 160:=by
 obtain⟨k,M⟩:∃ k:Nat,k=1200:=⟨_,rfl⟩;obtain⟨m8,J⟩:∃ n:Nat,n=32*235:=⟨_,rfl⟩;obtain⟨m9,O⟩:∃ n:Nat,n=16*235:=⟨_,rfl⟩;obtain⟨U,A⟩:∃ n:Nat,n=64*80:=⟨_,rfl⟩;obtain⟨W,B⟩:∃ n:Nat,n=64*160:=⟨_,rfl⟩;rw[← J];have D:=h.x;rw[← M] at D;have C:=R.1;rw[← A] at C;have h1:q.num.natAbs*(E*F*(E*F))<2^m8:=by
  rw[D,← ah];refine aj (av C (ae _)) ?_;rw[← ah];exact ao eX eX
 have h2:N<2^m8:=by
  rw[h.n];exact aD (aX _ _) h1
 have h3:S*S<2^m8:=aD h.r1 h2;have K:S<2^m9:=by
  apply q3M;rw[← ah,show m9+m9=m8 from by omega];exact h3
 have L:E*F<2^m8:=by
  rw[D];exact bk eX eX
 have I:0<E*F:=aM h.e0 h.f0;refine⟨h1,h2,aD (Nat.le_mul_self S) h3,L,?_,?_⟩
 ·refine kD I h.sr ?_ ?_
  ·rw[← A,aA];exact aj K (ao eX eX)
  ·rw[← A,D];exact bk eX eX
 ·refine kD (aM I I) (mG h.sr h.sr) ?_ ?_
  ·rw[← B,← aG,aA];exact aj h3 (ao eX eX)
  ·rw[← B,D,← ah];exact bk eX eX
/-- Three comparisons. -/
theorem q2o {q:Rat} {E F H S N T:Nat} {s:Rat} (h:RootSet q E F H S N T s) (B:0≤q.num):((s*s).num*q.den-q.num*(s*s).den).sign=0↔S*S*q.den=q.num.natAbs*(E*E)*(F*F):=by
 have A:0<E*F:=aM h.e0 h.f0;rw[s9 (aM A A) (mG h.sr h.sr),eL];have e:q.num.natAbs*(E*E)*(F*F)=q.num.natAbs*(E*F*(E*F)):=by ac_rfl
 rw[e,q0M B,aA,← aG,← aG,← aG];omega
theorem q4b {q:Rat} {E F H S N T:Nat} {s x:Rat} (h:RootSet q E F H S N T s) (A:x=mkRat (FT.v T:Int) E):(x.num*s.den-s.num*x.den).sign=0↔FT.v T*F=S:=by
 rw[q0w h.e0 (aM h.e0 h.f0) A h.sr,eL];have e:FT.v T*(E*F)=FT.v T*F*E:=by ac_rfl
 rw[← aG,← aG,e];have h1:=dK (b:=FT.v T*F) (c:=S) (bQ.1 h.e0);omega
theorem q4c {q:Rat} {E F H S N T:Nat} {s x y:Rat} (h:RootSet q E F H S N T s) (D:x=mkRat (FT.v T:Int) E) (I:y=mkRat (FT.v (T+1):Int) E):
  ((s.num*((x+y)*mkRat 1 2).den-((x+y)*mkRat 1 2).num*s.den).sign<0↔S<(FT.v T+FT.v (T+1))*H)∧((s.num*((x+y)*mkRat 1 2).den-((x+y)*mkRat 1 2).num*s.den).sign=0↔S=(FT.v T+FT.v (T+1))*H):=by
 rw[q0w (aM h.e0 h.f0) (aM h.e0 eX) h.sr (mG (pR h.e0 D I) rfl),eU,eL,cU,← Int.natCast_add,← aG,← aG];have B:S*(E*2)=S*(2*E):=by ac_rfl
 have C:(FT.v T+FT.v (T+1))*(E*F)=(FT.v T+FT.v (T+1))*H*(2*E):=by rw[h.h2];ac_rfl
 rw[B,C];have A:0<2*E:=by have:=h.e0;omega
 have h1:=dK (b:=S) (c:=(FT.v T+FT.v (T+1))*H) (bQ.1 A);have h2:=dF (b:=S) (c:=(FT.v T+FT.v (T+1))*H) A;omega
theorem q6b {E T:Nat} (J:E=2^1074) (N:T<2047*2^52) {x y:Rat} (F:x=mkRat (FT.v T:Int) E) (I:y=mkRat (FT.v (T+1):Int) E):QB x 80∧QB y 80∧QB (x+y) 80∧QB ((x+y)*mkRat 1 2) 80:=by
 have A:0<E:=by rw[J];exact(by obtain⟨M,D⟩:∃ n:Nat,n=1074:=⟨_,rfl⟩;rw[← D];exact ae M)
 obtain⟨n,O⟩:∃ n:Nat,n=2098:=⟨_,rfl⟩;have C:FT.v (2047*2^52)=2^n:=by
  obtain⟨k,K⟩:∃ k:Nat,k=2045:=⟨_,rfl⟩;rw[show 2047*2^52=2047*2^52+0 from rfl,FT.v_nor' _ _ eX eX,show 2047-1=1+k from by omega,show n=53+k from by omega,aP,ah 2 1 k,ah 2 53 k,← ar]
 have h1:FT.v T≤2^n:=by rw[← C];exact FT.v_le.2 eX
 have h2:FT.v (T+1)≤2^n:=by rw[← C];exact FT.v_le.2 eX
 have h3:2^n+2^n<2^(64*80):=by
  obtain⟨m8,B⟩:∃ n:Nat,n=64*80:=⟨_,rfl⟩;rw[← Nat.two_mul,← dT,← B];exact bk eX eX
 have L:E*2<2^(64*80):=by
  obtain⟨k,K⟩:∃ k:Nat,k=1074:=⟨_,rfl⟩;obtain⟨m8,B⟩:∃ n:Nat,n=64*80:=⟨_,rfl⟩;rw[J,← K,← bH,← B];exact bk eX eX
 refine⟨kD A F ?_ eX,kD A I ?_ eX,kD A (pR A F I) ?_ eX,kD (aM A eX) (mG (pR A F I) rfl) ?_ L⟩
 ·rw[aA];omega
 ·rw[aA];omega
 ·rw[← Int.natCast_add,aA];omega
 ·rw[cU,← Int.natCast_add,aA];omega
theorem q6F {E:Nat} (D:E=2^1074):mkRat ((2^1024:Nat):Int) 1=mkRat (FT.v (2047*2^52):Int) E:=by
 obtain⟨k,J⟩:∃ k:Nat,k=2045:=⟨_,rfl⟩;obtain⟨a,F⟩:∃ a:Nat,a=1024:=⟨_,rfl⟩;obtain⟨b,hb⟩:∃ b:Nat,b=1074:=⟨_,rfl⟩;have A:E≠0:=by rw[D];exact bQ.1 (by obtain⟨I,B⟩:∃ n:Nat,n=1074:=⟨_,rfl⟩;rw[← B];exact ae I)
 have C:FT.v (2047*2^52)=2^a*E:=by
  rw[D,← hb,← ah,show 2047*2^52=2047*2^52+0 from rfl,FT.v_nor' _ _ eX eX,show 2047-1=1+k from by omega,show a+b=53+k from by omega,aP,ah 2 1 k,ah 2 53 k,← ar]
 rw[C,← F];generalize 2^a=P;rw[ev eX A,aG,Int.natCast_one,cU]
theorem q3n (w:World) {V E:Nat} (D:E=2^1074) (h:V<2047*2^52):Calls Tryz.prog 38 #[.float .f64 V] w (RetP w (mkRat (FT.v V:Int) E)):=by
 obtain⟨A,B⟩:=fq_v false h;rw[show FT.wrd false V=V from rfl] at A B;simp only[ax,if_false] at A;rw[← D] at A;have C:V<2^64:=by omega
 rw[← A,ko C B];exact lj w _ C B
theorem q3y (w:World) (u:Value) {q:Rat} {E F H S N T:Nat} {s:Rat} (h:RootSet q E F H S N T s) (J:QB s 80) (hu:PR w u s):
  Calls Tryz.prog 202 #[u,.int .i64 2] w fun e K=>e= .returned (.float .f64 T)∧G w K:=by
 have I:0<E*F:=aM h.e0 h.f0;by_cases C:S=0
 ·have D:s=0:=by rw[h.sr,C];exact Rat.zero_mkRat _
  rw[h.tz C];rw[D] at hu;exact rG w u 2 hu
 ·have L:=mk_cross I h.sr;have B:0<s.num:=by
   rcases Int.lt_or_le 0 s.num with h1|h1
   ·exact h1
   ·have M:s.num*((E*F:Nat):Int)≤0:=Int.mul_nonpos_of_nonpos_of_nonneg h1 eX;have O:0<(S:Int)*(s.den:Int):=Int.mul_pos eX (by have:=s.den_pos;omega);omega
  have k:=rD w u s 2 B (J.mono eX) eX hu;have A:decide (s.num<0)=false:=decide_eq_false eX;have e:rdW 2 s=T:=by
   unfold rdW;rw[A,mM,h.tn C,if_neg fX];rfl
  rw[e] at k;exact k
end Go.Proofs.YtohcneeihdkfgaaGreatDoor.EN
namespace Go.Proofs.YtohcneeihdkfgaaGreatDoor.EN
open Go.ChangeShapes Go.WideShapes Go.ChangeAt Go.RowKit
/-- A fraction rounded in a mode. -/
def rdF (m:Int) (q:Rat):Nat:=if q=0 then 0 else rdW m q
theorem jl (m:Int) (q:Rat):rdF m q<2^64∧FT.rung (rdF m q)≤2047*2^52:=by
 unfold rdF;by_cases A:q=0
 ·rw[if_pos A];exact⟨by omega,by show (0:Nat)%2^63≤_;omega⟩
 ·rw[if_neg A];have B:q.num.natAbs≠0:=fun h1=>A (cI.1 eX);have h:=ry m (decide (q.num<0)) B q.den_nz;unfold rdW;exact⟨FT.wrd_lt _ _ eX,by rw[FT.wrd_rung _ _ eX];exact h⟩
theorem q30 (w:World) (v:Value) (q:Rat) (m:Int) (B:m=1∨m=2∨m=3∨m=4) (C:QIs w v q) (hb:QB q 400):
  Calls Tryz.prog 59 #[v,.int .i64 m] w fun r D=>r= .returned (.tuple #[.float .f64 (rdF m q),.int .i64 0])∧G w D:=by
 unfold rdF;by_cases A:q=0
 ·subst A;rw[if_pos rfl];exact pK w v m B C
 ·rw[if_neg A];exact q4w w v q m 400 eX eX B C A hb
theorem rC (w:World) (u:Value) (q:Rat) (m:Int) (A:m=1∨m=2∨m=3∨m=4) (hb:QB q 400) (hu:PR w u q):
  Calls Tryz.prog 202 #[u,.int .i64 m] w fun e C=>e= .returned (.float .f64 (rdF m q))∧G w C:=by
 unfold rdF;rcases cx q.num 0 with h|h|h
 ·rw[if_neg (by rintro rfl;exact absurd h fk)];exact q3x w u q m h hb A hu
 ·have B:q=0:=cI.1 h;subst B;rw[if_pos rfl];exact rG w u m hu
 ·rw[if_neg (by rintro rfl;exact absurd h fk)];exact rD w u q m h hb A hu
theorem q0A {b:Nat} (h:FT.rung b≤2047*2^52):FT.rung b=FT.infR↔¬ fex b<2047:=by
 have:=iW b;unfold FT.infR;omega
theorem q0C:FQ 0=0:=by decide+kernel
theorem q3o {q:Rat} (h:fex (rdF 2 q)<2047):FQ (rdF 2 q)≤q:=by
 unfold rdF at h ⊢;by_cases A:q=0
 ·subst A;rw[if_pos rfl,q0C];exact Rat.le_refl
 ·rw[if_neg A] at h ⊢;have D:q.num.natAbs≠0:=fun h1=>A (cI.1 eX);have E:=ry 2 (decide (q.num<0)) D q.den_nz;have C:=(iW _).1 h;unfold rdW at h C ⊢;rw[FT.wrd_rung _ _ eX] at C;have k:=q4n A C;exact Rat.not_lt.1 fun B=>by
   have:=sgC_gt.2 B;unfold sgC at this;omega
theorem q6l {q:Rat} (h:fex (rdF 3 q)<2047):q≤FQ (rdF 3 q):=by
 unfold rdF at h ⊢;by_cases A:q=0
 ·subst A;rw[if_pos rfl,q0C];exact Rat.le_refl
 ·rw[if_neg A] at h ⊢;have D:q.num.natAbs≠0:=fun h1=>A (cI.1 eX);have E:=ry 3 (decide (q.num<0)) D q.den_nz;have C:=(iW _).1 h;unfold rdW at h C ⊢;rw[FT.wrd_rung _ _ eX] at C;have k:=q72 A C;exact Rat.not_lt.1 fun B=>by
   have:=sgC_lt.2 B;unfold sgC at this;omega
/-- Finite floats in order, as fractions. -/
theorem q5u {x y:Nat} (B:x<2^64) (C:y<2^64) (fx:fex x<2047) (fy:fex y<2047):FQ x≤FQ y↔(FloatKind.f64.format.order x y==some .gt)=false:=by
 have e:sgC (FQ x) (FQ y)=(fz x-fz y).sign:=by
  rw[ko B fx,ko C fy];exact q3W _ _
 have A:FQ x≤FQ y↔¬ 0<sgC (FQ x) (FQ y):=by
  rw[sgC_gt];exact Rat.not_lt.symm
 rw[A,e,jY fx fy,Int.sign_pos_iff];rcases cx (fz x) (fz y) with h|h|h
 ·rw[bO.2 h];exact⟨fun _=>rfl,fun _=>by omega⟩
 ·rw[cV.2 h];exact⟨fun _=>rfl,fun _=>by omega⟩
 ·rw[bX.2 h];exact⟨fun k=>absurd eX k,fun k=>by cases k⟩
theorem q1J {a b:Rat} (A:a≤b) (h1:fex (rdF 2 a)<2047) (h2:fex (rdF 3 b)<2047):(FloatKind.f64.format.order (rdF 2 a) (rdF 3 b)==some .gt)=false:=
 (q5u (jl 2 a).1 (jl 3 b).1 h1 h2).1 (Rat.le_trans (q3o h1) (Rat.le_trans A (q6l h2)))
/-- What is wrong with a span of floats. -/
def spE (lo hi:Nat):Int:=if fex lo<2047∧fex hi<2047 then (if (FloatKind.f64.format.order lo hi==some .gt)=true then 3 else 0) else 4
theorem fA {lo hi:Nat} (h1:lo<2^64) (h2:hi<2^64) (h:spE lo hi=0):fex lo<2047∧fex hi<2047∧FQ lo≤FQ hi:=by
 unfold spE at h;by_cases A:fex lo<2047∧fex hi<2047
 ·rw[if_pos A] at h;refine⟨A.1,A.2,(q5u h1 h2 A.1 A.2).2 ?_⟩;by_cases B:(FloatKind.f64.format.order lo hi==some .gt)=true
  ·rw[if_pos B] at h;cases h
  ·simpa using B
 ·rw[if_neg A] at h;cases h
theorem q0S (w:World) (b:Nat) (h:b<2^64):Calls Tryz.prog 114 #[.float .f64 b] w fun e D=>e= .returned (.bool (decide (fex b<2047)))∧G w D:=by
 have e:decide (fex b<2047)=decide (¬ FT.nan b=true∧¬ FT.rung b=FT.infR):=by
  refine decide_eq_decide.2 ?_;have:=iW b;unfold FT.nan FT.infR;rw[decide_eq_true_iff];omega
 rw[e];have C:Hid (∀ A:World,_):=fun A=>iJ b A;have B:Hid (∀ A:World,_):=fun A=>jg b A h;clear e h;generalize FT.nan b=n at *;obtain⟨i,hi⟩:∃ i,i=decide (FT.rung b=FT.infR):=⟨_,rfl⟩;rw[← hi] at B;have e:decide (¬ n=true∧¬ FT.rung b=FT.infR)=(!n&& !i):=by rw[hi];cases n<;>simp
 rw[e];clear e hi;go_enter Tryz.func114,Tryz.ntmps114;go_wp2_with fail;refine eW (C.out _) ?_;rintro e A ⟨rfl,g1⟩;cases n
 ·go_wp2_with fail;refine eW (B.out _) ?_;rintro e E ⟨rfl,g2⟩;go_wp2_with fail;go_ret;exact⟨by simp,ab g1 g2⟩
 ·go_wp2_with fail;go_ret;exact⟨by simp,g1⟩
theorem kS (w:World) (lo hi:Nat) (M:lo<2^64) (L:hi<2^64):Calls Tryz.prog 43 #[.agg #[.float .f64 lo,.float .f64 hi]] w fun e U=>e= .returned (.int .i64 (spE lo hi))∧G w U:=by
 have N:Hid (∀ E:World,_):=fun E=>q0S E lo M;have O:Hid (∀ E:World,_):=fun E=>q0S E hi L;clear M L;go_enter Tryz.func43,Tryz.ntmps43;go_wp2_with fail;obtain⟨w0,I,g0,S,J⟩:=ft w [.float .f64 lo,.float .f64 hi] 72;rw[I];clear I;obtain⟨A,B,C,D⟩:=fe J (ad _);go_wp2_with fail;refine eW (N.out _) ?_;rintro e E ⟨rfl,g1⟩;clear A B C D;obtain⟨A,B,C,D⟩:=fe J (g1);by_cases h1:fex lo<2047
 ·rw[decide_eq_true h1];go_wp2_with fail;refine eW (O.out _) ?_;rintro e W ⟨rfl,g2⟩;clear A B C D;obtain⟨A,B,C,D⟩:=fe J (ab g1 g2);by_cases h2:fex hi<2047
  ·rw[decide_eq_true h2];obtain⟨t,K⟩:∃ t,t=(FloatKind.f64.format.order lo hi==some .gt):=⟨_,rfl⟩;have F:Hid (spE lo hi=if t=true then 3 else 0):=by show _=_;unfold spE;rw[if_pos ⟨h1,h2⟩,K]
   have R:=K.symm;clear K h1 h2;cases t
   all_goals
    go_wp2_with fail;go_ret;exact⟨by rw[F.out];rfl,ab g0 (ab g1 g2)⟩
  ·rw[decide_eq_false h2];have F:Hid (spE lo hi=4):=by show _=_;unfold spE;rw[if_neg (fun h=>h2 h.2)]
   clear h1 h2;go_wp2_with fail;go_ret;exact⟨by rw[F.out];rfl,ab g0 (ab g1 g2)⟩
 ·rw[decide_eq_false h1];have F:Hid (spE lo hi=4):=by show _=_;unfold spE;rw[if_neg (fun h=>h1 h.1)]
  clear h1;go_wp2_with fail;go_ret;exact⟨by rw[F.out];rfl,ab g0 g1⟩
theorem gQ (w:World) (lo hi:Nat) (M:lo<2^64) (L:hi<2^64):Calls Tryz.prog 44 #[.agg #[.float .f64 lo,.float .f64 hi]] w fun e U=>e= .returned (.int .i64 (spE lo hi))∧G w U:=by
 have N:Hid (∀ E:World,_):=fun E=>mw E lo M;have O:Hid (∀ E:World,_):=fun E=>mw E hi L;clear M L;go_enter Tryz.func44,Tryz.ntmps44;go_wp2_with fail;obtain⟨w0,I,g0,S,J⟩:=ft w [.float .f64 lo,.float .f64 hi] 72;rw[I];clear I;obtain⟨A,B,C,D⟩:=fe J (ad _);go_wp2_with fail;refine eW (N.out _) ?_;rintro e E ⟨rfl,g1⟩;clear A B C D;obtain⟨A,B,C,D⟩:=fe J (g1);by_cases h1:fex lo<2047
 ·rw[decide_eq_true h1];go_wp2_with fail;refine eW (O.out _) ?_;rintro e W ⟨rfl,g2⟩;clear A B C D;obtain⟨A,B,C,D⟩:=fe J (ab g1 g2);by_cases h2:fex hi<2047
  ·rw[decide_eq_true h2];obtain⟨t,K⟩:∃ t,t=(FloatKind.f64.format.order lo hi==some .gt):=⟨_,rfl⟩;have F:Hid (spE lo hi=if t=true then 3 else 0):=by show _=_;unfold spE;rw[if_pos ⟨h1,h2⟩,K]
   have R:=K.symm;clear K h1 h2;cases t
   all_goals
    go_wp2_with fail;go_ret;exact⟨by rw[F.out];rfl,ab g0 (ab g1 g2)⟩
  ·rw[decide_eq_false h2];have F:Hid (spE lo hi=4):=by show _=_;unfold spE;rw[if_neg (fun h=>h2 h.2)]
   clear h1 h2;go_wp2_with fail;go_ret;exact⟨by rw[F.out];rfl,ab g0 (ab g1 g2)⟩
 ·rw[decide_eq_false h1];have F:Hid (spE lo hi=4):=by show _=_;unfold spE;rw[if_neg (fun h=>h1 h.1)]
  clear h1;go_wp2_with fail;go_ret;exact⟨by rw[F.out];rfl,ab g0 g1⟩
attribute [local go_sem] fu
theorem ly (w:World) (lo hi:Nat) (hT:Tab w) (hl:lo<2^64) (hh:hi<2^64) (fl:fex lo<2047) (fh:fex hi<2047):
  Calls Tryz.prog 131 #[.agg #[.float .f64 lo,.float .f64 hi]] w (kj w (FQ lo) (FQ hi)):=by
 have H1:Hid (∀ I,G w I→Calls Tryz.prog 36 #[.float .f64 lo] I (od I (FQ lo) 0)):=fun I g=>of_c I lo (hT.G g) hl fl;have H2:Hid (∀ I,G w I→Calls Tryz.prog 36 #[.float .f64 hi] I (od I (FQ hi) 0)):=fun I g=>of_c I hi (hT.G g) hh fh;generalize FQ lo=a at *;generalize FQ hi=b at *;clear hT hl hh fl fh;go_enter Tryz.func131,Tryz.ntmps131;go_wp2_with fail;obtain⟨w0,E,g0,ds,R0,R1⟩:=gF w [.float .f64 lo,.float .f64 hi] [.bool false,.slice none 0 0,.slice none 0 0,.bool false,.slice none 0 0,.slice none 0 0] 72 136;rw[E];clear E;obtain⟨A,B,C,D⟩:=fe R0 (ad _);go_wp2_with fail;refine eW (H1.out _ g0) ?_;intro e I hs;obtain⟨v,rfl,g1,hv⟩:=hs;obtain⟨L,R,c1,a2,S,M,rfl,F⟩:=gl hv;obtain⟨t1,bq⟩:∃ t,t=decide (a.num<0):=⟨_,rfl⟩;rw[← bq] at F ⊢;clear bq;have ap:Hid (QIs I (.agg #[.bool t1,.slice L R c1,.slice a2 S M]) a):=F;have bm:=ab g0 g1;clear hv F A B C D H1;obtain⟨A,B,C,D⟩:=fe R0 ((et g1 (.cells #[.bool t1,.slice L R c1,.slice a2 S M] 29)));go_wp2_with fail;clear A B C D;obtain⟨w2,E,g2,cc,S0⟩:=ft I [.bool t1,.slice L R c1,.slice a2 S M] 29;rw[E];clear E;have bi:Hid (QIs w2 (.agg #[.bool t1,.slice L R c1,.slice a2 S M]) a):=QIs.G ap.out g2;have bn:=ab bm g2;have T1:Hid (Rec w2 (w.heap.size+1) _):=aw (aw R1.out g1) g2;generalize I.heap.size=bx at *;clear ap g2 bm g1 R0 R1;refine eW (H2.out _ bn) ?_;intro e w3 hs;obtain⟨v,rfl,g3,hv⟩:=hs;obtain⟨a3,U,N,a4,W,O,rfl,F⟩:=gl hv;obtain⟨t2,bs⟩:∃ t,t=decide (b.num<0):=⟨_,rfl⟩;rw[← bs] at F ⊢;clear bs
 have bl:Hid (QIs w3 (.agg #[.bool t2,.slice a3 U N,.slice a4 W O]) b):=F;clear hv F H2;obtain⟨X,Y,Z,c,d,i⟩:=fL S0 ((et g3 (.cells #[.bool t2,.slice a3 U N,.slice a4 W O] 29)));obtain⟨j,k,m,o,s,y,af,ag,ai,al,J,K⟩:=cY (aw T1.out (et g3 (.cells #[.bool t2,.slice a3 U N,.slice a4 W O] 29)));go_wp2_with fail;clear X Y Z c d i j k m o s y af ag ai al J K;obtain⟨w4,E,g4,cd,S1⟩:=ft w3 [.bool t2,.slice a3 U N,.slice a4 W O] 29;rw[E];clear E;have bw:Hid (QIs w4 (.agg #[.bool t1,.slice L R c1,.slice a2 S M]) a):=QIs.G (QIs.G bi.out g3) g4;have bz:Hid (QIs w4 (.agg #[.bool t2,.slice a3 U N,.slice a4 W O]) b):=QIs.G bl.out g4;have g24:=ab g3 g4;clear bi bl g3 g4 S0 S1 cc cd;have bu:=bw;have bv:=bz;have am:QIs _ _ (a):=ek (u1:= .bool t1) (u2:= .slice L R c1) (u3:= .slice a2 S M) (u4:= .bool t2) (u5:= .slice a3 U N) (u6:= .slice a4 W O) bu.out (aw T1.out (g24)) fm;have an:QIs _ _ (b):=ek (u1:= .bool t1) (u2:= .slice L R c1) (u3:= .slice a2 S M) (u4:= .bool t2) (u5:= .slice a3 U N) (u6:= .slice a4 W O) bv.out (aw T1.out (g24)) fm;have hT:Hid (Rec _ (w.heap.size+1) [.bool t1,.slice L R c1,.slice a2 S M,.bool t2,.slice a3 U N,.slice a4 W O]):=Rec.set6 (aw T1.out (g24));have g9:=Rec.h6 hT.out (ab bn g24) eX
 generalize (World.setCell (World.setCell (World.setCell (World.setCell (World.setCell (World.setCell w4 ⟨w.heap.size+1,0,none⟩ (.bool t1)) ⟨w.heap.size+1,1,none⟩ (.slice L R c1)) ⟨w.heap.size+1,2,none⟩ (.slice a2 S M)) ⟨w.heap.size+1,3,none⟩ (.bool t2)) ⟨w.heap.size+1,4,none⟩ (.slice a3 U N)) ⟨w.heap.size+1,5,none⟩ (.slice a4 W O))=w9 at *;obtain⟨ce,ci,cl,cr,cs,cz,di,dl,dq,dr,ca,cb⟩:=cY (aw hT.out ((ad _)));refine bodyPost_ret (v:= .agg #[.bool t1,.slice L R c1,.slice a2 S M,.bool t2,.slice a3 U N,.slice a4 W O]) (by simp [results,Tryz.results131,go_sem, *]) rfl ?_;exact⟨_,rfl,g9,jy am an⟩
set_option maxRecDepth 20000 in
theorem q4p (w:World) (v u:Value) (a b c d:Rat) (K:Nat) (hK:K≤40000) (bs:1≤K) (hT:Tab w) (hv:ES w v a b) (hu:ES w u c d) (qa:QB a K) (qb:QB b K) (qc:QB c K) (qd:QB d K):
  Calls Tryz.prog 117 #[v,u] w (kj w (a+c) (b+d)):=by
 obtain⟨a1,k1,c1,a2,k2,c2,a3,k3,c3,a4,k4,c4,rfl,di,dl⟩:=hv;obtain⟨a5,k5,c5,a6,k6,c6,a7,k7,c7,a8,k8,c8,rfl,cs,cz⟩:=hu;have bl:Hid (∀ Z,G w Z→_):=fun Z g=>q3g Z _ _ a c K hK bs (hT.G g) (di.G g) (cs.G g) qa qc;have bm:Hid (∀ Z,G w Z→_):=fun Z g=>q3g Z _ _ b d K hK bs (hT.G g) (dl.G g) (cz.G g) qb qd;clear di dl cs cz qa qb qc qd hT;generalize decide (a.num<0)=t1 at *;generalize decide (b.num<0)=t2 at *;generalize decide (c.num<0)=t3 at *;generalize decide (d.num<0)=t4 at *;generalize a+c=x at *;generalize b+d=y at *;go_enter Tryz.func117,Tryz.ntmps117;go_wp2_with fail;obtain⟨w0,dq,g0,gd,R0,R1,R2⟩:=gf w [.bool t1,.slice a1 k1 c1,.slice a2 k2 c2,.bool t2,.slice a3 k3 c3,.slice a4 k4 c4] [.bool t3,.slice a5 k5 c5,.slice a6 k6 c6,.bool t4,.slice a7 k7 c7,.slice a8 k8 c8] [.bool false,.slice none 0 0,.slice none 0 0,.bool false,.slice none 0 0,.slice none 0 0] 136 136 136;rw[dq];clear dq;refine jU 11 1 [.is (.pointer (some ⟨w.heap.size,0,none⟩)),.is (.agg #[.bool t1,.slice a1 k1 c1,.slice a2 k2 c2]),.is (.pointer (some ⟨w.heap.size+1,0,none⟩)),.is (.agg #[.bool t3,.slice a5 k5 c5,.slice a6 k6 c6]),.any (fun v w'=>QIs w' v (x)),.is (.pointer (some ⟨w.heap.size,3,none⟩)),.is (.agg #[.bool t2,.slice a3 k3 c3,.slice a4 k4 c4]),.is (.pointer (some ⟨w.heap.size+1,3,none⟩)),.is (.agg #[.bool t4,.slice a7 k7 c7,.slice a8 k8 c8]),.any (fun v w'=>QIs w' v (y)),.any (fun v w'=>ES w' v x y)] [some 5,some 6,some 7,some 8,some 9,some 10,some 11,some 12,some 13,some 14,some 15] ?_
 intro v4 v9 ep A hA;simp only[fG,Act.put,aq,ay,az] at hA;subst hA;refine⟨?_,?_⟩
 ·skip
  refine aa rfl ?b0 (aa rfl ?b1 (aa rfl ?b2 (aa rfl ?b3 (aa rfl ?b7 (aa rfl ?b4 (aa rfl ?b5 (aa rfl ?o1_7 (aa rfl ?o1_8 (aa rfl ?b8 (aa rfl ?b6 (bN)))))))))))
  case b0|b2|b4|o1_7=>
   exact jX
  case b1|b3|b5|o1_8=>
   intro W i hD K hK;clear hD;have B:=cY (aw R0.out i);have j:=B.1;have k:=B.2.1;have m:=B.2.2.1;have o:=B.2.2.2.1;have s:=B.2.2.2.2.1;have e:=B.2.2.2.2.2.1;clear B;have C:=cY (aw R1.out i);have af:=C.1;have ag:=C.2.1;have ai:=C.2.2.1;have al:=C.2.2.2.1;have am:=C.2.2.2.2.1;have an:=C.2.2.2.2.2.1;clear C;go_simp;exact hK.out _ _ ⟨_,rfl,ad _,rfl⟩
  ·intro W i hD K hK;have hc:=hi9 (bl.out W (ab g0 i));exact gY
  ·intro W i hD K hK;have hc:=hi9 (bm.out W (ab g0 i));exact gY
  ·intro W i hD K hK;have h4:=gZ v4 4 hD;have h9:=gZ v9 9 hD;clear hD;have B:=cY (aw R0.out i);have j:=B.1;have k:=B.2.1;have m:=B.2.2.1;have o:=B.2.2.2.1;have s:=B.2.2.2.2.1;have e:=B.2.2.2.2.2.1;clear B;have C:=cY (aw R1.out i);have af:=C.1;have ag:=C.2.1;have ai:=C.2.2.1;have al:=C.2.2.2.1;have am:=C.2.2.2.2.1;have an:=C.2.2.2.2.2.1;clear C;obtain⟨p1,p2,p3,p4,p5,p6,rfl,eb⟩:=gl h4;obtain⟨q1,q2,q3,q4,q5,q6,rfl,ec⟩:=gl h9;go_simp;exact hK.out _ _ ⟨_,rfl,ad _,jy eb ec⟩
 intro Z g1 hH;have ea:=jG ep 10 hH;clear hH;clear bl bm R0 R1;obtain⟨D,O,J,E,R,L,F,S,M,I,U,N,rfl,cl,cr⟩:=ea;generalize decide ((x).num<0)=X at *;generalize decide ((y).num<0)=Y at *;have dr:Hid (QIs Z (.agg #[.bool X,.slice D O J,.slice E R L]) (x)):=cl;have ds:Hid (QIs Z (.agg #[.bool Y,.slice F S M,.slice I U N]) (y)):=cr;clear cl cr;obtain⟨bu,bv,bw,bz,ca,cb,cc,cd,ce,ci,ap,bi⟩:=cY (aw R2.out (g1));refine wpAny_ready (rs:=[11]) eZ fX ?_;refine AllReady.cons rfl (fun K hK=> ?_) AllReady.nil;go_simp;refine hK _ _ ?_;clear hK K bu bv bw bz ca cb cc cd ce ci ap bi;refine wpAny_done eZ ?_ _;have bn:QIs _ _ (x):=ek (u1:= .bool X) (u2:= .slice D O J) (u3:= .slice E R L) (u4:= .bool Y) (u5:= .slice F S M) (u6:= .slice I U N) dr.out (aw R2.out (g1)) fm;have bq:QIs _ _ (y):=ek (u1:= .bool X) (u2:= .slice D O J) (u3:= .slice E R L) (u4:= .bool Y) (u5:= .slice F S M) (u6:= .slice I U N) ds.out (aw R2.out (g1)) fm;go_wp2_with fail;have hT:Hid (Rec _ (w.heap.size+2) [.bool X,.slice D O J,.slice E R L,.bool Y,.slice F S M,.slice I U N]):=Rec.set6 (aw R2.out (g1));have g9:=Rec.h6 hT.out (ab g0 g1) eX;generalize (World.setCell (World.setCell (World.setCell (World.setCell (World.setCell (World.setCell Z ⟨w.heap.size+2,0,none⟩ (.bool X)) ⟨w.heap.size+2,1,none⟩ (.slice D O J)) ⟨w.heap.size+2,2,none⟩ (.slice E R L)) ⟨w.heap.size+2,3,none⟩ (.bool Y)) ⟨w.heap.size+2,4,none⟩ (.slice F S M)) ⟨w.heap.size+2,5,none⟩ (.slice I U N))=w9 at *
 obtain⟨eu,ez,fa,fb,fh,fp,fr,fs,fv,ga,ee,em⟩:=cY (aw hT.out ((ad _)));refine bodyPost_ret (v:= .agg #[.bool X,.slice D O J,.slice E R L,.bool Y,.slice F S M,.slice I U N]) (by simp [results,Tryz.results117,go_sem, *]) rfl ?_;exact⟨_,rfl,g9,jy bn bq⟩
set_option maxRecDepth 20000 in
theorem q4t (w:World) (v u:Value) (a b c d:Rat) (K:Nat) (hK:K≤40000) (bs:1≤K) (hT:Tab w) (hv:ES w v a b) (hu:ES w u c d) (qa:QB a K) (qb:QB b K) (qc:QB c K) (qd:QB d K):
  Calls Tryz.prog 118 #[v,u] w (kj w (a-d) (b-c)):=by
 obtain⟨a1,k1,c1,a2,k2,c2,a3,k3,c3,a4,k4,c4,rfl,di,dl⟩:=hv;obtain⟨a5,k5,c5,a6,k6,c6,a7,k7,c7,a8,k8,c8,rfl,cs,cz⟩:=hu;have bl:Hid (∀ Z,G w Z→_):=fun Z g=>q3m Z _ _ a d K hK bs (hT.G g) (di.G g) (cz.G g) qa qd;have bm:Hid (∀ Z,G w Z→_):=fun Z g=>q3m Z _ _ b c K hK bs (hT.G g) (dl.G g) (cs.G g) qb qc;clear di dl cs cz qa qb qc qd hT;generalize decide (a.num<0)=t1 at *;generalize decide (b.num<0)=t2 at *;generalize decide (c.num<0)=t3 at *;generalize decide (d.num<0)=t4 at *;generalize a-d=x at *;generalize b-c=y at *;go_enter Tryz.func118,Tryz.ntmps118;go_wp2_with fail;obtain⟨w0,dq,g0,gd,R0,R1,R2⟩:=gf w [.bool t1,.slice a1 k1 c1,.slice a2 k2 c2,.bool t2,.slice a3 k3 c3,.slice a4 k4 c4] [.bool t3,.slice a5 k5 c5,.slice a6 k6 c6,.bool t4,.slice a7 k7 c7,.slice a8 k8 c8] [.bool false,.slice none 0 0,.slice none 0 0,.bool false,.slice none 0 0,.slice none 0 0] 136 136 136;rw[dq];clear dq;refine jU 11 1 [.is (.pointer (some ⟨w.heap.size,0,none⟩)),.is (.agg #[.bool t1,.slice a1 k1 c1,.slice a2 k2 c2]),.is (.pointer (some ⟨w.heap.size+1,3,none⟩)),.is (.agg #[.bool t4,.slice a7 k7 c7,.slice a8 k8 c8]),.any (fun v w'=>QIs w' v (x)),.is (.pointer (some ⟨w.heap.size,3,none⟩)),.is (.agg #[.bool t2,.slice a3 k3 c3,.slice a4 k4 c4]),.is (.pointer (some ⟨w.heap.size+1,0,none⟩)),.is (.agg #[.bool t3,.slice a5 k5 c5,.slice a6 k6 c6]),.any (fun v w'=>QIs w' v (y)),.any (fun v w'=>ES w' v x y)] [some 5,some 6,some 7,some 8,some 9,some 10,some 11,some 12,some 13,some 14,some 15] ?_
 intro v4 v9 ep A hA;simp only[fG,Act.put,aq,ay,az] at hA;subst hA;refine⟨?_,?_⟩
 ·skip
  refine aa rfl ?b0 (aa rfl ?b1 (aa rfl ?b2 (aa rfl ?b3 (aa rfl ?b7 (aa rfl ?b4 (aa rfl ?b5 (aa rfl ?o2_7 (aa rfl ?o2_8 (aa rfl ?b8 (aa rfl ?b6 (bN)))))))))))
  case b0|b2|b4|o2_7=>
   exact jX
  case b1|b3|b5|o2_8=>
   intro W i hD K hK;clear hD;have B:=cY (aw R0.out i);have j:=B.1;have k:=B.2.1;have m:=B.2.2.1;have o:=B.2.2.2.1;have s:=B.2.2.2.2.1;have e:=B.2.2.2.2.2.1;clear B;have C:=cY (aw R1.out i);have af:=C.1;have ag:=C.2.1;have ai:=C.2.2.1;have al:=C.2.2.2.1;have am:=C.2.2.2.2.1;have an:=C.2.2.2.2.2.1;clear C;go_simp;exact hK.out _ _ ⟨_,rfl,ad _,rfl⟩
  ·intro W i hD K hK;have hc:=hi9 (bl.out W (ab g0 i));exact gY
  ·intro W i hD K hK;have hc:=hi9 (bm.out W (ab g0 i));exact gY
  ·intro W i hD K hK;have h4:=gZ v4 4 hD;have h9:=gZ v9 9 hD;clear hD;have B:=cY (aw R0.out i);have j:=B.1;have k:=B.2.1;have m:=B.2.2.1;have o:=B.2.2.2.1;have s:=B.2.2.2.2.1;have e:=B.2.2.2.2.2.1;clear B;have C:=cY (aw R1.out i);have af:=C.1;have ag:=C.2.1;have ai:=C.2.2.1;have al:=C.2.2.2.1;have am:=C.2.2.2.2.1;have an:=C.2.2.2.2.2.1;clear C;obtain⟨p1,p2,p3,p4,p5,p6,rfl,eb⟩:=gl h4;obtain⟨q1,q2,q3,q4,q5,q6,rfl,ec⟩:=gl h9;go_simp;exact hK.out _ _ ⟨_,rfl,ad _,jy eb ec⟩
 intro Z g1 hH;have ea:=jG ep 10 hH;clear hH;clear bl bm R0 R1;obtain⟨D,O,J,E,R,L,F,S,M,I,U,N,rfl,cl,cr⟩:=ea;generalize decide ((x).num<0)=X at *;generalize decide ((y).num<0)=Y at *;have dr:Hid (QIs Z (.agg #[.bool X,.slice D O J,.slice E R L]) (x)):=cl;have ds:Hid (QIs Z (.agg #[.bool Y,.slice F S M,.slice I U N]) (y)):=cr;clear cl cr;obtain⟨bu,bv,bw,bz,ca,cb,cc,cd,ce,ci,ap,bi⟩:=cY (aw R2.out (g1));refine wpAny_ready (rs:=[11]) eZ fX ?_;refine AllReady.cons rfl (fun K hK=> ?_) AllReady.nil;go_simp;refine hK _ _ ?_;clear hK K bu bv bw bz ca cb cc cd ce ci ap bi;refine wpAny_done eZ ?_ _;have bn:QIs _ _ (x):=ek (u1:= .bool X) (u2:= .slice D O J) (u3:= .slice E R L) (u4:= .bool Y) (u5:= .slice F S M) (u6:= .slice I U N) dr.out (aw R2.out (g1)) fm;have bq:QIs _ _ (y):=ek (u1:= .bool X) (u2:= .slice D O J) (u3:= .slice E R L) (u4:= .bool Y) (u5:= .slice F S M) (u6:= .slice I U N) ds.out (aw R2.out (g1)) fm;go_wp2_with fail;have hT:Hid (Rec _ (w.heap.size+2) [.bool X,.slice D O J,.slice E R L,.bool Y,.slice F S M,.slice I U N]):=Rec.set6 (aw R2.out (g1));have g9:=Rec.h6 hT.out (ab g0 g1) eX;generalize (World.setCell (World.setCell (World.setCell (World.setCell (World.setCell (World.setCell Z ⟨w.heap.size+2,0,none⟩ (.bool X)) ⟨w.heap.size+2,1,none⟩ (.slice D O J)) ⟨w.heap.size+2,2,none⟩ (.slice E R L)) ⟨w.heap.size+2,3,none⟩ (.bool Y)) ⟨w.heap.size+2,4,none⟩ (.slice F S M)) ⟨w.heap.size+2,5,none⟩ (.slice I U N))=w9 at *
 obtain⟨eu,ez,fa,fb,fh,fp,fr,fs,fv,ga,ee,em⟩:=cY (aw hT.out ((ad _)));refine bodyPost_ret (v:= .agg #[.bool X,.slice D O J,.slice E R L,.bool Y,.slice F S M,.slice I U N]) (by simp [results,Tryz.results118,go_sem, *]) rfl ?_;exact⟨_,rfl,g9,jy bn bq⟩
/-- Does 0 lie between? -/
def has0 (a b:Rat):Bool:=decide (a.num.sign≤0)&&decide (0≤b.num.sign)
theorem oC (w:World) (v:Value) (a b:Rat) (hv:ES w v a b):
  Calls Tryz.prog 199 #[v] w fun e w'=>e= .returned (.bool (has0 a b))∧G w w':=by
 obtain⟨Z,m,c1,a2,o,c,a3,s,d,a4,y,i,rfl,R,S⟩:=hv;have X:Hid (∀ O,G w O→_):=fun O g=>kd O _ a (R.G g);have Y:Hid (∀ O,G w O→_):=fun O g=>kd O _ b (S.G g);unfold has0;clear R S;generalize decide (a.num<0)=t1 at *;generalize decide (b.num<0)=t2 at *;generalize a.num.sign=s1 at *;generalize b.num.sign=s2 at *;go_enter Tryz.func199,Tryz.ntmps199;go_wp2_with fail;obtain⟨w0,U,g0,j,W⟩:=ft w [.bool t1,.slice Z m c1,.slice a2 o c,.bool t2,.slice a3 s d,.slice a4 y i] 136;rw[U];clear U;obtain⟨C,D,E,F,I,J,K,L,M,N,A,B⟩:=cY (aw W.out (ad _));go_wp2_with fail;refine eW (X.out _ g0) ?_;rintro e O ⟨rfl,g1⟩;clear C D E F I J K L M N A B;obtain⟨C,D,E,F,I,J,K,L,M,N,A,B⟩:=cY (aw W.out (g1));obtain⟨z1,k⟩:∃ z,decide (s1≤0)=z:=⟨_,rfl⟩;cases z1
 ·go_wp2_with fail;go_ret;exact⟨by simp_all<;>omega,ab g0 g1⟩
 ·go_wp2_with fail;refine eW (Y.out _ (ab g0 g1)) ?_;rintro e w2 ⟨rfl,g2⟩;clear C D E F I J K L M N A B;go_wp2_with fail;go_ret;exact⟨by simp_all,ab g0 (ab g1 g2)⟩
/-- A span of fractions, rounded outwards. -/
def outF (a b:Rat):Nat×Nat×Int:=if fex (rdF 2 a)<2047∧fex (rdF 3 b)<2047 then (rdF 2 a,rdF 3 b,0) else (0,0,3)
/-- A call hands back a span of floats and a code. -/
def fR (w:World) (r:Nat×Nat×Int) (e:Ending) (A:World):Prop:=e= .returned (.tuple #[.agg #[.float .f64 r.1,.float .f64 r.2.1],.int .i64 r.2.2])∧G w A
theorem q5x (w:World) (v:Value) (a b:Rat) (hv:ES w v a b) (qa:QB a 400) (qb:QB b 400):
  Calls Tryz.prog 133 #[v] w (fR w (outF a b)):=by
 obtain⟨a1,k1,c1,a2,k2,c2,a3,k3,c3,a4,k4,c4,rfl,al,am⟩:=hv;have H1:Hid (∀ R,G w R→_):=fun R g=>q30 R _ a 2 eX (al.G g) qa;have H2:Hid (∀ R,G w R→_):=fun R g=>q30 R _ b 3 eX (am.G g) qb;have f1:=jl 2 a;have f2:=jl 3 b;have H3:Hid (∀ R,Calls Tryz.prog 101 #[.float .f64 (rdF 2 a),.int .i64 0] R fun e w'=>e= .returned (.bool (!decide (fex (rdF 2 a)<2047)))∧G R w'):=fun R=>by
  have k:=jg (rdF 2 a) R f1.1;rw[decide_eq_decide.2 (q0A f1.2),decide_not] at k;exact k
 have H4:Hid (∀ R,Calls Tryz.prog 101 #[.float .f64 (rdF 3 b),.int .i64 0] R fun e w'=>e= .returned (.bool (!decide (fex (rdF 3 b)<2047)))∧G R w'):=fun R=>by
  have k:=jg (rdF 3 b) R f2.1;rw[decide_eq_decide.2 (q0A f2.2),decide_not] at k;exact k
 unfold outF;clear al am qa qb f1 f2;generalize decide (a.num<0)=t1 at *;generalize decide (b.num<0)=t2 at *;generalize rdF 2 a=D at *;generalize rdF 3 b=U at *;obtain⟨y1,af⟩:∃ y,y=decide (fex D<2047):=⟨_,rfl⟩;obtain⟨y2,ag⟩:∃ y,y=decide (fex U<2047):=⟨_,rfl⟩;rw[← af] at H3;rw[← ag] at H4;have ai:(if fex D<2047∧fex U<2047 then (D,U,(0:Int)) else (0,0,3))=if (y1&&y2)=true then (D,U,(0:Int)) else (0,0,3):=by
  rw[af,ag];by_cases h1:fex D<2047<;>by_cases h2:fex U<2047<;>simp [h1,h2]
 rw[ai];obtain⟨r,hr⟩:∃ r,r=if (y1&&y2)=true then (D,U,(0:Int)) else (0,0,3):=⟨_,rfl⟩;rw[← hr];have s:Hid (r=if (y1&&y2)=true then (D,U,(0:Int)) else (0,0,3)):=hr;clear af ag ai hr;go_enter Tryz.func133,Tryz.ntmps133;go_wp2_with fail;obtain⟨w0,an,g0,ap,R0,R1⟩:=gF w [.bool t1,.slice a1 k1 c1,.slice a2 k2 c2,.bool t2,.slice a3 k3 c3,.slice a4 k4 c4] [.float .f64 0,.float .f64 0] 136 72;rw[an];clear an;obtain⟨C,E,F,I,J,K,L,M,N,O,A,B⟩:=cY (aw R0.out (ad _));go_wp2_with fail;refine eW (H1.out _ g0) ?_;rintro e R ⟨rfl,g1⟩;clear C E F I J K L M N O A B;obtain⟨C,E,F,I,J,K,L,M,N,O,A,B⟩:=cY (aw R0.out (g1));go_wp2_with fail;refine eW (H2.out _ (ab g0 g1)) ?_;rintro e w2 ⟨rfl,g2⟩;clear C E F I J K L M N O A B;go_wp2_with fail;refine eW (H3.out _) ?_;rintro e w3 ⟨rfl,g3⟩;have c:=ab g1 (ab g2 g3);clear g1 g2 g3;cases y1
 ·skip
  obtain⟨S,W,X,Y⟩:=fe R1 (c);go_wp2_with fail;have o:Hid (Rec _ (w.heap.size+1) [.float .f64 0,.float .f64 0]):=bE (aw R1.out (c));have g9:=dQ o.out (ab g0 c) eX;generalize (World.setCell (World.setCell w3 ⟨w.heap.size+1,0,none⟩ (.float .f64 0)) ⟨w.heap.size+1,1,none⟩ (.float .f64 0))=w9 at *;obtain⟨d,i,j,m⟩:=fe o (((ad _)));refine bodyPost_ret (v:= .tuple #[.agg #[.float .f64 0,.float .f64 0],.int .i64 3]) (by simp [results,Tryz.results133,go_sem, *]) rfl ?_;exact⟨by rw[s.out];rfl,g9⟩
 ·go_wp2_with fail;refine eW (H4.out _) ?_;rintro e w4 ⟨rfl,g4⟩;have Z:=ab c g4;clear c g4;cases y2
  ·skip
   obtain⟨S,W,X,Y⟩:=fe R1 (Z);go_wp2_with fail;have o:Hid (Rec _ (w.heap.size+1) [.float .f64 0,.float .f64 0]):=bE (aw R1.out (Z));have g9:=dQ o.out (ab g0 Z) eX;generalize (World.setCell (World.setCell w4 ⟨w.heap.size+1,0,none⟩ (.float .f64 0)) ⟨w.heap.size+1,1,none⟩ (.float .f64 0))=w9 at *;obtain⟨d,i,j,m⟩:=fe o (((ad _)));refine bodyPost_ret (v:= .tuple #[.agg #[.float .f64 0,.float .f64 0],.int .i64 3]) (by simp [results,Tryz.results133,go_sem, *]) rfl ?_;exact⟨by rw[s.out];rfl,g9⟩
  ·skip
   obtain⟨S,W,X,Y⟩:=fe R1 (Z);go_wp2_with fail;have o:Hid (Rec _ (w.heap.size+1) [.float .f64 D,.float .f64 U]):=bE (aw R1.out (Z));have g9:=dQ o.out (ab g0 Z) eX;generalize (World.setCell (World.setCell w4 ⟨w.heap.size+1,0,none⟩ (.float .f64 D)) ⟨w.heap.size+1,1,none⟩ (.float .f64 U))=w9 at *;obtain⟨d,i,j,m⟩:=fe o (((ad _)));refine bodyPost_ret (v:= .tuple #[.agg #[.float .f64 D,.float .f64 U],.int .i64 0]) (by simp [results,Tryz.results133,go_sem, *]) rfl ?_;exact⟨by rw[s.out];rfl,g9⟩
end Go.Proofs.YtohcneeihdkfgaaGreatDoor.EN
namespace Go.Proofs.YtohcneeihdkfgaaGreatDoor.EN
open Go.ChangeShapes Go.WideShapes Go.ChangeAt Go.RowKit
attribute [local go_sem] fu
/-- A span of two pointers to ratios. -/
def EW (w:World) (v:Value) (x y:Rat):Prop:=∃ A B,v= .agg #[.pointer (some ⟨A,0,none⟩),.pointer (some ⟨B,0,none⟩)]∧PR w (.pointer (some ⟨A,0,none⟩)) x∧PR w (.pointer (some ⟨B,0,none⟩)) y
theorem EW.G {w A:World} {v:Value} {x y:Rat} (h:EW w v x y) (g:G w A):EW A v x y:=by
 obtain⟨B,C,e,h1,h2⟩:=h;exact⟨B,C,e,h1.G g,h2.G g⟩
def jK (w:World) (x y:Rat) (e:Ending) (A:World):Prop:=∃ v,e= .returned v∧G w A∧EW A v x y
theorem ik {w:World} {v:Value} {q:Rat} (h:PR w v q):∃ p,v= .pointer (some ⟨p,0,none⟩)∧PR w (.pointer (some ⟨p,0,none⟩)) q:=by
 have A:=h;obtain⟨p,e,-,-⟩:=h;exact⟨p,e,by rw[← e];exact A⟩
theorem fI {w:World} {v:Value} {q:Rat} {b:Nat} {x y u1 u2:Value} (h:PR w v q) (r:Rec w b [x,y]) (A:isP x) (B:isP y):PR ((w.setCell ⟨b,0,none⟩ u1).setCell ⟨b,1,none⟩ u2) v q:=by
 have h1:PR (w.setCell ⟨b,0,none⟩ u1) v q:=h.other (r.cell 0) A;exact h1.other (u:=y) ((r.set 0 u1).cell 1) B
set_option maxRecDepth 20000 in
theorem kE (w:World) (lo hi:Nat) (s:lo<2^64) (o:hi<2^64) (fl:fex lo<2047) (j:fex hi<2047):
  Calls Tryz.prog 121 #[.agg #[.float .f64 lo,.float .f64 hi]] w (jK w (FQ lo) (FQ hi)):=by
 have y:Hid (∀ D,Calls Tryz.prog 38 #[.float .f64 lo] D (RetP D (FQ lo))):=fun D=>by rw[ko s fl];exact lj D lo s fl
 have e:Hid (∀ D,Calls Tryz.prog 38 #[.float .f64 hi] D (RetP D (FQ hi))):=fun D=>by rw[ko o j];exact lj D hi o j
 generalize FQ lo=a at *;generalize FQ hi=b at *;clear s o fl j;go_enter Tryz.func121,Tryz.ntmps121;go_wp2_with fail;obtain⟨w0,X,g0,am,i,Z⟩:=gF w [.float .f64 lo,.float .f64 hi] [.pointer none,.pointer none] 72 139;rw[X];clear X;refine jU 7 1 [.is (.pointer (some ⟨w.heap.size,0,none⟩)),.is (.float .f64 lo),.any (fun v Y=>PR Y v a),.is (.pointer (some ⟨w.heap.size,1,none⟩)),.is (.float .f64 hi),.any (fun v Y=>PR Y v b),.any (fun v Y=>EW Y v a b)] [some 3,some 4,some 5,some 6,some 7,some 8,some 9] ?_;intro v2 v5 v6 A hA;simp only[fG,Act.put,aq,ay,az] at hA;subst hA;refine⟨?_,?_⟩
 ·skip
  refine aa rfl ?a1 (aa rfl ?a6 (aa rfl ?a7 (aa rfl ?o1_3 (aa rfl ?o1_4 (aa rfl ?a8 (aa rfl ?b0 (bN)))))))
  case a1|o1_3=>
   exact jX
  case a6|o1_4=>
   intro W R hD K hK;clear hD;have ⟨E,F⟩:=rc29 i R;go_simp;exact hK.out _ _ ⟨_,rfl,ad _,rfl⟩
  ·intro W R hD K hK;have hc:=hi9 (y.out W);exact gY
  ·intro W R hD K hK;have hc:=hi9 (e.out W);exact gY
  ·intro W R hD K hK;have h2:=gZ v2 2 hD;have h5:=gZ v5 5 hD;clear hD;have ⟨E,F⟩:=rc29 i R;obtain⟨q1,rfl,k⟩:=ik h2;obtain⟨q2,rfl,m⟩:=ik h5;go_simp;exact hK.out _ _ ⟨_,rfl,ad _,_,_,rfl,k,m⟩
 intro D g1 hH;have h6:=jG v6 6 hH;clear hH;clear y e i;obtain⟨B,C,rfl,S,U⟩:=h6;have c:Hid (PR D (.pointer (some ⟨B,0,none⟩)) (a)):=S;have d:Hid (PR D (.pointer (some ⟨C,0,none⟩)) (b)):=U;clear S U;obtain⟨L,M,N,O⟩:=fe Z (g1);refine wpAny_ready (rs:=[7]) eZ fX ?_;refine AllReady.cons rfl (fun K hK=> ?_) AllReady.nil;go_simp;refine hK _ _ ?_;clear hK K L M N O;refine wpAny_done eZ ?_ _;have I:PR _ _ (a):=fI (u1:= .pointer (some ⟨B,0,none⟩)) (u2:= .pointer (some ⟨C,0,none⟩)) c.out (aw Z.out (g1)) (bS _) (bS _);have J:PR _ _ (b):=fI (u1:= .pointer (some ⟨B,0,none⟩)) (u2:= .pointer (some ⟨C,0,none⟩)) d.out (aw Z.out (g1)) (bS _) (bS _);go_wp2_with fail;have hT:Hid (Rec _ (w.heap.size+1) [.pointer (some ⟨B,0,none⟩),.pointer (some ⟨C,0,none⟩)]):=bE (aw Z.out (g1));have g9:=dQ hT.out (ab g0 g1) eX;generalize (World.setCell (World.setCell D ⟨w.heap.size+1,0,none⟩ (.pointer (some ⟨B,0,none⟩))) ⟨w.heap.size+1,1,none⟩ (.pointer (some ⟨C,0,none⟩)))=w9 at *;obtain⟨af,ag,ai,al⟩:=fe hT (((ad _)));refine bodyPost_ret (v:= .agg #[.pointer (some ⟨B,0,none⟩),.pointer (some ⟨C,0,none⟩)]) (by simp [results,Tryz.results121,go_sem, *]) rfl ?_;exact⟨_,rfl,g9,_,_,rfl,I,J⟩
set_option maxRecDepth 20000 in
theorem q1Q (w:World) (v u:Value) (a b c d:Rat) (K:Nat) (hK:K≤40000) (hv:EW w v a b) (hu:EW w u c d) (qa:QB a K) (qb:QB b K) (qc:QB c K) (qd:QB d K):
  Calls Tryz.prog 122 #[v,u] w (jK w (a+c) (b+d)):=by
 obtain⟨p1,p2,rfl,m,o⟩:=hv;obtain⟨p3,p4,rfl,j,k⟩:=hu;have M:Hid (∀ D,G w D→_):=fun D g=>q38 D _ _ a c K hK qa qc (m.G g) (j.G g);have N:Hid (∀ D,G w D→_):=fun D g=>q38 D _ _ b d K hK qb qd (o.G g) (k.G g);clear m o j k qa qb qc qd;generalize a+c=x at *;generalize b+d=y at *;go_enter Tryz.func122,Tryz.ntmps122;go_wp2_with fail;obtain⟨w0,s,g0,bn,R0,R1,R2⟩:=gf w [.pointer (some ⟨p1,0,none⟩),.pointer (some ⟨p2,0,none⟩)] [.pointer (some ⟨p3,0,none⟩),.pointer (some ⟨p4,0,none⟩)] [.pointer none,.pointer none] 139 139 139;rw[s];clear s;refine jU 11 1 [.is (.pointer (some ⟨w.heap.size,0,none⟩)),.is (.pointer (some ⟨p1,0,none⟩)),.is (.pointer (some ⟨w.heap.size+1,0,none⟩)),.is (.pointer (some ⟨p3,0,none⟩)),.any (fun v e=>PR e v x),.is (.pointer (some ⟨w.heap.size,1,none⟩)),.is (.pointer (some ⟨p2,0,none⟩)),.is (.pointer (some ⟨w.heap.size+1,1,none⟩)),.is (.pointer (some ⟨p4,0,none⟩)),.any (fun v e=>PR e v y),.any (fun v e=>EW e v x y)] [some 5,some 6,some 7,some 8,some 9,some 10,some 11,some 12,some 13,some 14,some 15] ?_;intro v4 v9 an A hA;simp only[fG,Act.put,aq,ay,az] at hA;subst hA;refine⟨?_,?_⟩
 ·skip
  refine aa rfl ?a1 (aa rfl ?a6 (aa rfl ?a7 (aa rfl ?a8 (aa rfl ?b3 (aa rfl ?b0 (aa rfl ?b1 (aa rfl ?o2_7 (aa rfl ?o2_8 (aa rfl ?b4 (aa rfl ?b2 (bN)))))))))))
  case a1|a7|b0|o2_7=>
   exact jX
  case a6|a8|b1|o2_8=>
   intro W E hD K hK;clear hD;have ⟨F,I⟩:=rc29 R0 E;have ⟨J,L⟩:=rc29 R1 E;go_simp;exact hK.out _ _ ⟨_,rfl,ad _,rfl⟩
  ·intro W E hD K hK;have hc:=hi9 (M.out W (ab g0 E));exact gY
  ·intro W E hD K hK;have hc:=hi9 (N.out W (ab g0 E));exact gY
  ·intro W E hD K hK;have h4:=gZ v4 4 hD;have h9:=gZ v9 9 hD;clear hD;have ⟨F,I⟩:=rc29 R0 E;have ⟨J,L⟩:=rc29 R1 E;obtain⟨q1,rfl,al⟩:=ik h4;obtain⟨q2,rfl,am⟩:=ik h9;go_simp;exact hK.out _ _ ⟨_,rfl,ad _,_,_,rfl,al,am⟩
 intro D g1 hH;have ai:=jG an 10 hH;clear hH;clear M N R0 R1;obtain⟨B,C,rfl,Z,i⟩:=ai;have af:Hid (PR D (.pointer (some ⟨B,0,none⟩)) (x)):=Z;have ag:Hid (PR D (.pointer (some ⟨C,0,none⟩)) (y)):=i;clear Z i;obtain⟨S,U,X,Y⟩:=fe R2 (g1);refine wpAny_ready (rs:=[11]) eZ fX ?_;refine AllReady.cons rfl (fun K hK=> ?_) AllReady.nil;go_simp;refine hK _ _ ?_;clear hK K S U X Y;refine wpAny_done eZ ?_ _;have O:PR _ _ (x):=fI (u1:= .pointer (some ⟨B,0,none⟩)) (u2:= .pointer (some ⟨C,0,none⟩)) af.out (aw R2.out (g1)) (bS _) (bS _);have R:PR _ _ (y):=fI (u1:= .pointer (some ⟨B,0,none⟩)) (u2:= .pointer (some ⟨C,0,none⟩)) ag.out (aw R2.out (g1)) (bS _) (bS _);go_wp2_with fail;have hT:Hid (Rec _ (w.heap.size+2) [.pointer (some ⟨B,0,none⟩),.pointer (some ⟨C,0,none⟩)]):=bE (aw R2.out (g1));have g9:=dQ hT.out (ab g0 g1) eX;generalize (World.setCell (World.setCell D ⟨w.heap.size+2,0,none⟩ (.pointer (some ⟨B,0,none⟩))) ⟨w.heap.size+2,1,none⟩ (.pointer (some ⟨C,0,none⟩)))=w9 at *;obtain⟨ap,bi,bl,bm⟩:=fe hT (((ad _)));refine bodyPost_ret (v:= .agg #[.pointer (some ⟨B,0,none⟩),.pointer (some ⟨C,0,none⟩)]) (by simp [results,Tryz.results122,go_sem, *]) rfl ?_;exact⟨_,rfl,g9,_,_,rfl,O,R⟩
set_option maxRecDepth 20000 in
theorem q0d (w:World) (v u:Value) (a b c d:Rat) (K:Nat) (hK:K≤40000) (hv:EW w v a b) (hu:EW w u c d) (qa:QB a K) (qb:QB b K) (qc:QB c K) (qd:QB d K):
  Calls Tryz.prog 124 #[v,u] w (jK w (a-d) (b-c)):=by
 obtain⟨p1,p2,rfl,m,o⟩:=hv;obtain⟨p3,p4,rfl,j,k⟩:=hu;have M:Hid (∀ D,G w D→_):=fun D g=>q3d D _ _ a d K hK qa qd (m.G g) (k.G g);have N:Hid (∀ D,G w D→_):=fun D g=>q3d D _ _ b c K hK qb qc (o.G g) (j.G g);clear m o j k qa qb qc qd;generalize a-d=x at *;generalize b-c=y at *;go_enter Tryz.func124,Tryz.ntmps124;go_wp2_with fail;obtain⟨w0,s,g0,bn,R0,R1,R2⟩:=gf w [.pointer (some ⟨p1,0,none⟩),.pointer (some ⟨p2,0,none⟩)] [.pointer (some ⟨p3,0,none⟩),.pointer (some ⟨p4,0,none⟩)] [.pointer none,.pointer none] 139 139 139;rw[s];clear s;refine jU 11 1 [.is (.pointer (some ⟨w.heap.size,0,none⟩)),.is (.pointer (some ⟨p1,0,none⟩)),.is (.pointer (some ⟨w.heap.size+1,1,none⟩)),.is (.pointer (some ⟨p4,0,none⟩)),.any (fun v e=>PR e v x),.is (.pointer (some ⟨w.heap.size,1,none⟩)),.is (.pointer (some ⟨p2,0,none⟩)),.is (.pointer (some ⟨w.heap.size+1,0,none⟩)),.is (.pointer (some ⟨p3,0,none⟩)),.any (fun v e=>PR e v y),.any (fun v e=>EW e v x y)] [some 5,some 6,some 7,some 8,some 9,some 10,some 11,some 12,some 13,some 14,some 15] ?_;intro v4 v9 an A hA;simp only[fG,Act.put,aq,ay,az] at hA;subst hA;refine⟨?_,?_⟩
 ·skip
  refine aa rfl ?a1 (aa rfl ?a6 (aa rfl ?a7 (aa rfl ?a8 (aa rfl ?b3 (aa rfl ?b0 (aa rfl ?b1 (aa rfl ?o3_7 (aa rfl ?o3_8 (aa rfl ?b4 (aa rfl ?b2 (bN)))))))))))
  case a1|a7|b0|o3_7=>
   exact jX
  case a6|a8|b1|o3_8=>
   intro W E hD K hK;clear hD;have ⟨F,I⟩:=rc29 R0 E;have ⟨J,L⟩:=rc29 R1 E;go_simp;exact hK.out _ _ ⟨_,rfl,ad _,rfl⟩
  ·intro W E hD K hK;have hc:=hi9 (M.out W (ab g0 E));exact gY
  ·intro W E hD K hK;have hc:=hi9 (N.out W (ab g0 E));exact gY
  ·intro W E hD K hK;have h4:=gZ v4 4 hD;have h9:=gZ v9 9 hD;clear hD;have ⟨F,I⟩:=rc29 R0 E;have ⟨J,L⟩:=rc29 R1 E;obtain⟨q1,rfl,al⟩:=ik h4;obtain⟨q2,rfl,am⟩:=ik h9;go_simp;exact hK.out _ _ ⟨_,rfl,ad _,_,_,rfl,al,am⟩
 intro D g1 hH;have ai:=jG an 10 hH;clear hH;clear M N R0 R1;obtain⟨B,C,rfl,Z,i⟩:=ai;have af:Hid (PR D (.pointer (some ⟨B,0,none⟩)) (x)):=Z;have ag:Hid (PR D (.pointer (some ⟨C,0,none⟩)) (y)):=i;clear Z i;obtain⟨S,U,X,Y⟩:=fe R2 (g1);refine wpAny_ready (rs:=[11]) eZ fX ?_;refine AllReady.cons rfl (fun K hK=> ?_) AllReady.nil;go_simp;refine hK _ _ ?_;clear hK K S U X Y;refine wpAny_done eZ ?_ _;have O:PR _ _ (x):=fI (u1:= .pointer (some ⟨B,0,none⟩)) (u2:= .pointer (some ⟨C,0,none⟩)) af.out (aw R2.out (g1)) (bS _) (bS _);have R:PR _ _ (y):=fI (u1:= .pointer (some ⟨B,0,none⟩)) (u2:= .pointer (some ⟨C,0,none⟩)) ag.out (aw R2.out (g1)) (bS _) (bS _);go_wp2_with fail;have hT:Hid (Rec _ (w.heap.size+2) [.pointer (some ⟨B,0,none⟩),.pointer (some ⟨C,0,none⟩)]):=bE (aw R2.out (g1));have g9:=dQ hT.out (ab g0 g1) eX;generalize (World.setCell (World.setCell D ⟨w.heap.size+2,0,none⟩ (.pointer (some ⟨B,0,none⟩))) ⟨w.heap.size+2,1,none⟩ (.pointer (some ⟨C,0,none⟩)))=w9 at *;obtain⟨ap,bi,bl,bm⟩:=fe hT (((ad _)));refine bodyPost_ret (v:= .agg #[.pointer (some ⟨B,0,none⟩),.pointer (some ⟨C,0,none⟩)]) (by simp [results,Tryz.results124,go_sem, *]) rfl ?_;exact⟨_,rfl,g9,_,_,rfl,O,R⟩
theorem oO (w:World) (v:Value) (a b:Rat) (hv:EW w v a b):
  Calls Tryz.prog 126 #[v] w fun e W=>e= .returned (.bool (has0 a b))∧G w W:=by
 obtain⟨R,S,rfl,F,I⟩:=hv;have L:Hid (∀ E,G w E→_):=fun E g=>mK E _ a (F.G g);have M:Hid (∀ E,G w E→_):=fun E g=>mK E _ b (I.G g);unfold has0;clear F I;generalize a.num.sign=U at *;generalize b.num.sign=Y at *;go_enter Tryz.func126,Tryz.ntmps126;go_wp2_with fail;obtain⟨w0,J,g0,N,K⟩:=ft w [.pointer (some ⟨R,0,none⟩),.pointer (some ⟨S,0,none⟩)] 139;rw[J];clear J;obtain⟨A,B,C,D⟩:=fe K (ad _);go_wp2_with fail;refine eW (L.out _ g0) ?_;rintro e E ⟨rfl,g1⟩;clear A B C D;obtain⟨A,B,C,D⟩:=fe K (g1);obtain⟨X,O⟩:∃ z,decide (U≤0)=z:=⟨_,rfl⟩;cases X
 ·go_wp2_with fail;go_ret;exact⟨by simp_all<;>omega,ab g0 g1⟩
 ·go_wp2_with fail;refine eW (M.out _ (ab g0 g1)) ?_;rintro e Z ⟨rfl,g2⟩;clear A B C D;go_wp2_with fail;go_ret;exact⟨by simp_all,ab g0 (ab g1 g2)⟩
theorem mJ (w:World) (u v:Value) (x y:Rat) (K:Nat) (Y:K≤40000) (U:QB x K) (W:QB y K) (L:y≠0) (hu:PR w u x) (hv:PR w v y):Calls Tryz.prog 128 #[u,v] w (RetP w (x/y)):=by
 obtain⟨bx,rfl,A,O⟩:=hu;obtain⟨X,rfl,B,R⟩:=hv;have J:Hid (∀ D p,G w D→Rec D p [.bool false,.slice none 0 0,.bool false,.slice none 0 0]→_):=fun D p g M=>q6h D p bx X x y K Y U W L M.lt (de g A) (de g B) M (O.G A g) (R.G B g);generalize x/y=q at *;clear U W O R L;go_enter Tryz.func128,Tryz.ntmps128;go_wp2_with fail;obtain⟨w0,C,g0,c,F⟩:=ft w [.bool false,.slice none 0 0,.bool false,.slice none 0 0] 45;rw[C];clear C;have I:=F.out.lt;refine eW (J.out w0 w.heap.size g0 F.out) ?_;intro e D N;have Z:=SetRat.ret g0 (aI _) I N;obtain⟨p,rfl,d,j,i,S⟩:=Z;have E:=hi9 S;clear S N J F;go_wp2_with fail;go_ret;exact⟨_,rfl,d,p,rfl,i,E.out⟩
theorem rl (w:World) (n:Int) (A: -9223372036854775808≤n∧n≤9223372036854775807):Calls Tryz.prog 208 #[.int .i64 n] w (RetP w (n:Rat)):=by
 have D:=hi9 (q2W w n A);clear A;go_enter Tryz.func208,Tryz.ntmps208;go_wp2_with fail;refine eW D.out ?_;rintro e J ⟨r,rfl,E,I,F,B⟩;have C:=hi9 B;clear B;go_wp2_with fail;go_ret;exact⟨_,rfl,E,r,rfl,F,C.out⟩
end Go.Proofs.YtohcneeihdkfgaaGreatDoor.EN
namespace Go.Proofs.YtohcneeihdkfgaaGreatDoor.EN
open Go.ChangeShapes Go.WideShapes Go.ChangeAt Go.RowKit
/-- Block b begins with these fractions. -/
def QSl (w:World) (b:Nat) (l:List Rat):Prop:=b<w.heap.size∧∀ i,i<l.length→QAt w b (i*3) (l.getD i 0)
theorem QSl.G {w A:World} {b:Nat} {l:List Rat} (h:QSl w b l) (g:G w A):QSl A b l:=
 ⟨aj h.1 g.size,fun i hi=>(h.2 i hi).G h.1 g⟩
theorem pY {l:List Rat} {K i:Nat} (h:∀ y∈l,QB y K) (hi:i<l.length):QB (l.getD i 0) K:=by
 rw[ak,aQ hi];exact h _ (List.getElem_mem hi)
theorem lS {l:List Rat} {i:Nat} (hi:i<l.length):l.drop i=l.getD i 0::l.drop (i+1):=by
 rw[List.drop_eq_getElem_cons hi,ak,aQ hi];rfl
theorem q3f {w:World} {t:Bool} {a A:Option Addr} {k c B c':Nat} {q:Rat} (h:QIs w (.agg #[.bool t,.slice a k c,.slice A B c']) q):t=decide (q.num<0):=by
 obtain⟨_,_,_,_,_,_,e,h1,h2⟩:=h;simp only[Value.agg.injEq,Array.mk.injEq,ef,Value.slice.injEq,and_true,Value.bool.injEq] at e;exact e.1
theorem rm {w:World} {b A:Nat} {l:List Rat} {x y z u1 u2 u3:Value} (h:QSl w b l) (B:b≠A) (r:Rec w A [x,y,z]) (F:iK x) (I:iK y) (J:iK z):
  QSl (((w.setCell ⟨A,0,none⟩ u1).setCell ⟨A,1,none⟩ u2).setCell ⟨A,2,none⟩ u3) b l:=by
 refine⟨by simpa [World.setCell] using h.1,fun i hi=> ?_⟩;obtain⟨t,a,k,c,E,K,c',L,M,N,O⟩:=h.2 i hi;have D:∀ j,(((w.setCell ⟨A,0,none⟩ u1).setCell ⟨A,1,none⟩ u2).setCell ⟨A,2,none⟩ u3).cell? ⟨b,j,none⟩=w.cell? ⟨b,j,none⟩:=fun j=>by
  rw[World.cell?_setCell_other _ _ _ _ (by intro e;injection e with C;exact B C.symm),World.cell?_setCell_other _ _ _ _ (by intro e;injection e with C;exact B C.symm),World.cell?_setCell_other _ _ _ _ (by intro e;injection e with C;exact B C.symm)]
 exact⟨t,a,k,c,E,K,c',by rw[D];exact L,by rw[D];exact M,by rw[D];exact N,QIs.set3 O r F I J⟩
set_option maxHeartbeats 2000000 in
theorem q1A (w:World) (bx:Nat) (x:Rat) (l:List Rat) (n c0 K:Nat) (hK:K≤100000) (hn:n=(x::l).length) (fv:n≤100) (hl:QSl w bx (x::l)) (qb:∀ y∈x::l,QB y K):
  Calls Tryz.prog 257 #[.slice (some ⟨bx,0,none⟩) n c0,.func (.func 24) #[] #[]] w (RetQ w (minL x l)):=by
 have HL:Hid (QSl w bx (x::l)):=hl;have hb:=hl.1;obtain⟨t,a,k,c,a',k',c',q1,q2,q3,hv⟩:=hl.2 0 fX;have hv:QIs w (.agg #[.bool t,.slice a k c,.slice a' k' c']) x:=hv;have HN:Hid (n=(x::l).length):=hn;have fs:n=l.length+1:=hn;have t1:decide ((n:Int)<1)=false:=decide_eq_false eX;have ii:(0:Int)<(n:Int):=by omega
 have ht:(n:Int)≤100:=by omega
 have ih:1≤n:=by omega
 clear hl hn fs fv;go_enter Tryz.func257,Tryz.ntmps257;go_wp2_with fail;obtain⟨w0,o,g0,C,R0⟩:=ft w [.bool false,.slice none 0 0,.slice none 0 0] 29;rw[o];clear o;have cs:=G.cell (p:=⟨bx,0*3,none⟩) g0 hb q1;have cz:=G.cell (p:=⟨bx,0*3+1,none⟩) g0 hb q2;have di:=G.cell (p:=⟨bx,0*3+2,none⟩) g0 hb q3;simp only[bL,aK] at cs cz di;clear q1 q2 q3;go_wp2_with fail;clear cs cz di;obtain⟨w1,o,g1,hd,S0⟩:=ft w0 [.bool t,.slice a k c,.slice a' k' c'] 29;rw[o];clear o;have bz:Hid (QSl w1 bx (x::l)):=QSl.G (QSl.G HL.out g0) g1;have cc:Hid (QIs w1 (.agg #[.bool t,.slice a k c,.slice a' k' c']) x):=QIs.G (QIs.G hv g0) g1;have R1:Hid (Rec w1 w.heap.size _):=aw R0.out g1;have cr:=ab g0 g1;rw[C] at S0;have fr:w.heap.size≤w.heap.size+1:=by omega
 have ib:w.heap.size<w.heap.size+1:=by omega
 clear g0 g1 R0 HL hv C hd;generalize w.heap.size+1=B at *;go_wp2_with fail
 go_loopw [6] (fun vi wr=>∃ (i:Nat) (m:Rat) (s:Bool) (d e d' E:Nat) (u u':Option Addr),1≤i∧i≤n∧vi= .int .i64 i∧QB m K∧minL m ((x::l).drop i)=minL x l∧Rec wr B [.bool s,.slice u d e,.slice u' d' E]∧QIs wr (.agg #[.bool s,.slice u d e,.slice u' d' E]) m∧QSl wr bx (x::l)∧G w wr∧Rec wr w.heap.size [.bool false,.slice none 0 0,.slice none 0 0]) (fun vi _=>(n-intOf vi).toNat)
 case atStart=>exact⟨1,x,t,k,c,k',c',a,a',by omega,by omega,rfl,qb x bP,rfl,S0.out,cc.out,bz.out,cr,R1.out⟩
 case round=>
  obtain⟨i,m,s,d,e,d',E,u,u',hx,ia,rfl,al,L,bi,dq,bq,hG,dl⟩:=hrel;have HR:Hid (Rec wr B [.bool s,.slice u d e,.slice u' d' E]):=bi;have J:Hid (Rec wr w.heap.size [.bool false,.slice none 0 0,.slice none 0 0]):=dl;have O:Hid (QIs wr (.agg #[.bool s,.slice u d e,.slice u' d' E]) m):=dq;have ag:Hid (QSl wr bx (x::l)):=bq;clear bi dq dl S0 cc bz R1 cr;by_cases j:i<n
  ·have bn:i<(x::l).length:=by rw[← HN.out];exact j
   have tt:decide (i<n)=true:=decide_eq_true j;obtain⟨t5,p5,j5,d5,p6,j6,d6,c1,c2,c3,bv⟩:=bq.2 i bn;have bs:=pY qb bn;rw[lS bn] at L;have ap:minL (if sgC ((x::l).getD i 0) m<0 then (x::l).getD i 0 else m) ((x::l).drop (i+1))=minL x l:=L;clear L;generalize (x::l).getD i 0=y at *;have HC:Hid (∀ w1,G wr w1→_):=fun w1 g=>q3j w1 _ _ y m K hK (bv.G g) (O.out.G g) bs al;have HY:Hid (QIs wr (.agg #[.bool t5,.slice p5 j5 d5,.slice p6 j6 d6]) y):=bv;have af:=hi9 ap;have ez:Hid (QB y K):=bs;have eu:Hid (QB m K):=al;obtain⟨z,hz⟩:∃ z,z=(y.num*m.den-m.num*y.den).sign:=⟨_,rfl⟩;have HZ:Hid (z=sgC y m):=hz;rw[← hz] at HC;have hy:i*3+2<n*3:=by omega
   have hw:(0:Int)≤i:=by omega
   clear bq bv ap bs al hz;have F:=ag.out.1;go_wp2_with fail;refine jU 8 0 [.is (.func (.func 24) #[] #[]),.is (.slice (some ⟨bx,0,none⟩) n c0),.is (.int .i64 i),.is (.pointer (some ⟨bx,i*3,none⟩)),.is (.agg #[.bool t5,.slice p5 j5 d5,.slice p6 j6 d6]),.is (.agg #[.bool s,.slice u d e,.slice u' d' E]),.is (.int .i64 z),.is (.bool (decide (z<0)))] [some 20,some 21,some 22,some 23,some 24,some 25,some 26,some 27] ?_;intro A hA;simp only[fG,Act.put,aq,ay,az] at hA;subst hA;refine⟨?_,?_⟩
   ·skip
    refine aa rfl ?a1 (aa rfl ?a6 (aa rfl ?a7 (aa rfl ?a8 (aa rfl ?b0 (aa rfl ?o1_5 (aa rfl ?b1 (aa rfl ?o1_7 (bN))))))))
    case a1|a6|a7|a8|o1_7=>
     exact jX
    case b0|o1_5=>
     intro W hW hD K hK;clear hD;have ⟨fb,fh,fp⟩:=rc39 HR hW;have io:=l5 ⟨bx,i*3,none⟩ (.bool t5) hW;have it:=l5 ⟨bx,i*3+1,none⟩ (.slice p5 j5 d5) hW;have jj:=l5 ⟨bx,i*3+2,none⟩ (.slice p6 j6 d6) hW;go_simp;exact hK.out _ _ ⟨_,rfl,ad _,rfl⟩
    ·intro W hW hD K hK;have hc:=hi9 (HC.out W hW);exact sj
   intro w3 g3 hH;clear hH;refine wpAny_done eZ ?_ _;have ce:=G.cell (p:=⟨bx,i*3,none⟩) g3 F c1;have ci:=G.cell (p:=⟨bx,i*3+1,none⟩) g3 F c2;have cl:=G.cell (p:=⟨bx,i*3+2,none⟩) g3 F c3;have bw:Hid (G w w3):=ab hG g3;have I:Hid (Rec w3 B _):=aw HR.out g3;have N:Hid (Rec w3 w.heap.size _):=aw J.out g3;have an:Hid (QIs w3 _ m):=QIs.G O.out g3;have cd:Hid (QIs w3 _ y):=QIs.G HY.out g3;have M:Hid (QSl w3 bx (x::l)):=QSl.G ag.out g3;clear c1 c2 c3 HR J O ag hG g3 HC HY F;obtain⟨tz,bu⟩:∃ tz,decide (z<0)=tz:=⟨_,rfl⟩;rw[bu];have ai:Hid (decide (z<0)=tz):=bu;clear bu;cases tz
   ·skip
    have C:=of_decide_eq_false ai.out;have D:minL m ((x::l).drop (i+1))=minL x l:=by
     have k:=af.out
     rwa[if_neg (by rw[← HZ.out];exact C)] at k
    have bl:=hi9 D;clear C D af HZ ai ce ci cl;go_wp2_with fail
    go_roundw
    case rel=>exact⟨i+1,m,s,d,e,d',E,u,u',by omega,by omega,by go_num,eu.out,bl.out,I.out,an.out,M.out,bw.out,N.out⟩
    case measure=>simp only[intOf];omega
   ·skip
    have C:=of_decide_eq_true ai.out;have D:minL y ((x::l).drop (i+1))=minL x l:=by
     have k:=af.out
     rwa[if_pos (by rw[← HZ.out];exact C)] at k
    have bl:=hi9 D;clear C D af HZ ai;obtain⟨R,S,U,X,Y,Z⟩:=fL I (ad _);go_wp2_with fail;have ga:QIs _ _ y:=QIs.set3 (u1:= .bool t5) (u2:= .slice p5 j5 d5) (u3:= .slice p6 j6 d6) cd.out I.out trivial trivial trivial;have gd:Rec _ B [.bool t5,.slice p5 j5 d5,.slice p6 j6 d6]:=eC I.out;have gg:=Rec.g3 (b:=B) (u:= .bool t5) (v:= .slice p5 j5 d5) (x:= .slice p6 j6 d6) bw.out fr;have gm:Rec (((w3.setCell ⟨B,0,none⟩ (.bool t5)).setCell ⟨B,1,none⟩ (.slice p5 j5 d5)).setCell ⟨B,2,none⟩ (.slice p6 j6 d6)) w.heap.size _:=((N.out.oth (p:=⟨B,0,none⟩) _ (by show B≠w.heap.size;omega)).oth (p:=⟨B,1,none⟩) _ (by show B≠w.heap.size;omega)).oth (p:=⟨B,2,none⟩) _ (by show B≠w.heap.size;omega);have ha:QSl (((w3.setCell ⟨B,0,none⟩ (.bool t5)).setCell ⟨B,1,none⟩ (.slice p5 j5 d5)).setCell ⟨B,2,none⟩ (.slice p6 j6 d6)) bx (x::l):=rm M.out eX I.out trivial trivial trivial;generalize ((w3.setCell ⟨B,0,none⟩ (.bool t5)).setCell ⟨B,1,none⟩ (.slice p5 j5 d5)).setCell ⟨B,2,none⟩ (.slice p6 j6 d6)=w4 at *;clear R S U X Y Z ce ci cl cd I N an M;go_wp2_with fail
    go_roundw
    case rel=>exact⟨i+1,y,t5,j5,d5,j6,d6,p5,p6,by omega,by omega,by go_num,ez.out,bl.out,gd,ga,ha,gg,gm⟩
    case measure=>simp only[intOf];omega
  ·obtain rfl:i=n:=by omega
   have tt:decide (i<i)=false:=decide_eq_false (Nat.lt_irrefl _);have D:m=minL x l:=by
    rw[aR (by rw[← HN.out];exact aI _)] at L;exact L
   subst D;clear L al j;have am:=O.out;have fa:Hid (s=decide ((minL x l).num<0)):=q3f am;clear O ag;obtain⟨dr,ds,ea,eb,ec,ee⟩:=fL HR (ad _);have em:Hid (Num wr (.slice u d e) (minL x l).num.natAbs):=oL am;have ep:Hid (Num wr (.slice u' d' E) (iw (minL x l).den)):=oK am;clear am;obtain⟨hm,ho,hp,hq,hr,hs⟩:=fL J (((ad _)));have ca:Num _ _ _:=fC (u1:= .bool s) (u2:= .slice u d e) (u3:= .slice u' d' E) em.out (aw J.out (ad _)) trivial trivial trivial;have cb:Num _ _ _:=fC (u1:= .bool s) (u2:= .slice u d e) (u3:= .slice u' d' E) ep.out (aw J.out (ad _)) trivial trivial trivial;go_wp2_with fail;have hT:Hid (Rec _ (w.heap.size) [.bool s,.slice u d e,.slice u' d' E]):=eC (aw J.out (ad _));have g9:=Rec.h3 hT.out (hG) eX;generalize (World.setCell (World.setCell (World.setCell wr ⟨w.heap.size,0,none⟩ (.bool s)) ⟨w.heap.size,1,none⟩ (.slice u d e)) ⟨w.heap.size,2,none⟩ (.slice u' d' E))=w9 at *;obtain⟨he,hf,hg,hh,hj,hk⟩:=fL hT (((ad _)));refine bodyPost_ret (v:= .agg #[.bool s,.slice u d e,.slice u' d' E]) (by simp [results,Tryz.results257,go_sem, *]) rfl ?_;exact⟨_,rfl,g9,u,d,e,u',d',E,by rw[← fa.out],ca,cb⟩
set_option maxHeartbeats 2000000 in
theorem q1x (w:World) (bx:Nat) (x:Rat) (l:List Rat) (n c0 K:Nat) (hK:K≤100000) (hn:n=(x::l).length) (fv:n≤100) (hl:QSl w bx (x::l)) (qb:∀ y∈x::l,QB y K):
  Calls Tryz.prog 258 #[.slice (some ⟨bx,0,none⟩) n c0,.func (.func 24) #[] #[]] w (RetQ w (maxL x l)):=by
 have HL:Hid (QSl w bx (x::l)):=hl;have hb:=hl.1;obtain⟨t,a,k,c,a',k',c',q1,q2,q3,hv⟩:=hl.2 0 fX;have hv:QIs w (.agg #[.bool t,.slice a k c,.slice a' k' c']) x:=hv;have HN:Hid (n=(x::l).length):=hn;have fs:n=l.length+1:=hn;have t1:decide ((n:Int)<1)=false:=decide_eq_false eX;have ii:(0:Int)<(n:Int):=by omega
 have ht:(n:Int)≤100:=by omega
 have ih:1≤n:=by omega
 clear hl hn fs fv;go_enter Tryz.func258,Tryz.ntmps258;go_wp2_with fail;obtain⟨w0,o,g0,C,R0⟩:=ft w [.bool false,.slice none 0 0,.slice none 0 0] 29;rw[o];clear o;have cs:=G.cell (p:=⟨bx,0*3,none⟩) g0 hb q1;have cz:=G.cell (p:=⟨bx,0*3+1,none⟩) g0 hb q2;have di:=G.cell (p:=⟨bx,0*3+2,none⟩) g0 hb q3;simp only[bL,aK] at cs cz di;clear q1 q2 q3;go_wp2_with fail;clear cs cz di;obtain⟨w1,o,g1,hd,S0⟩:=ft w0 [.bool t,.slice a k c,.slice a' k' c'] 29;rw[o];clear o;have bz:Hid (QSl w1 bx (x::l)):=QSl.G (QSl.G HL.out g0) g1;have cc:Hid (QIs w1 (.agg #[.bool t,.slice a k c,.slice a' k' c']) x):=QIs.G (QIs.G hv g0) g1;have R1:Hid (Rec w1 w.heap.size _):=aw R0.out g1;have cr:=ab g0 g1;rw[C] at S0;have fr:w.heap.size≤w.heap.size+1:=by omega
 have ib:w.heap.size<w.heap.size+1:=by omega
 clear g0 g1 R0 HL hv C hd;generalize w.heap.size+1=B at *;go_wp2_with fail
 go_loopw [6] (fun vi wr=>∃ (i:Nat) (m:Rat) (s:Bool) (d e d' E:Nat) (u u':Option Addr),1≤i∧i≤n∧vi= .int .i64 i∧QB m K∧maxL m ((x::l).drop i)=maxL x l∧Rec wr B [.bool s,.slice u d e,.slice u' d' E]∧QIs wr (.agg #[.bool s,.slice u d e,.slice u' d' E]) m∧QSl wr bx (x::l)∧G w wr∧Rec wr w.heap.size [.bool false,.slice none 0 0,.slice none 0 0]) (fun vi _=>(n-intOf vi).toNat)
 case atStart=>exact⟨1,x,t,k,c,k',c',a,a',by omega,by omega,rfl,qb x bP,rfl,S0.out,cc.out,bz.out,cr,R1.out⟩
 case round=>
  obtain⟨i,m,s,d,e,d',E,u,u',hx,ia,rfl,al,L,bi,dq,bq,hG,dl⟩:=hrel;have HR:Hid (Rec wr B [.bool s,.slice u d e,.slice u' d' E]):=bi;have J:Hid (Rec wr w.heap.size [.bool false,.slice none 0 0,.slice none 0 0]):=dl;have O:Hid (QIs wr (.agg #[.bool s,.slice u d e,.slice u' d' E]) m):=dq;have ag:Hid (QSl wr bx (x::l)):=bq;clear bi dq dl S0 cc bz R1 cr;by_cases j:i<n
  ·have bn:i<(x::l).length:=by rw[← HN.out];exact j
   have tt:decide (i<n)=true:=decide_eq_true j;obtain⟨t5,p5,j5,d5,p6,j6,d6,c1,c2,c3,bv⟩:=bq.2 i bn;have bs:=pY qb bn;rw[lS bn] at L;have ap:maxL (if 0<sgC ((x::l).getD i 0) m then (x::l).getD i 0 else m) ((x::l).drop (i+1))=maxL x l:=L;clear L;generalize (x::l).getD i 0=y at *;have HC:Hid (∀ w1,G wr w1→_):=fun w1 g=>q3j w1 _ _ y m K hK (bv.G g) (O.out.G g) bs al;have HY:Hid (QIs wr (.agg #[.bool t5,.slice p5 j5 d5,.slice p6 j6 d6]) y):=bv;have af:=hi9 ap;have ez:Hid (QB y K):=bs;have eu:Hid (QB m K):=al;obtain⟨z,hz⟩:∃ z,z=(y.num*m.den-m.num*y.den).sign:=⟨_,rfl⟩;have HZ:Hid (z=sgC y m):=hz;rw[← hz] at HC;have hy:i*3+2<n*3:=by omega
   have hw:(0:Int)≤i:=by omega
   clear bq bv ap bs al hz;have F:=ag.out.1;go_wp2_with fail;refine jU 8 0 [.is (.func (.func 24) #[] #[]),.is (.slice (some ⟨bx,0,none⟩) n c0),.is (.int .i64 i),.is (.pointer (some ⟨bx,i*3,none⟩)),.is (.agg #[.bool t5,.slice p5 j5 d5,.slice p6 j6 d6]),.is (.agg #[.bool s,.slice u d e,.slice u' d' E]),.is (.int .i64 z),.is (.bool (decide (0<z)))] [some 20,some 21,some 22,some 23,some 24,some 25,some 26,some 27] ?_;intro A hA;simp only[fG,Act.put,aq,ay,az] at hA;subst hA;refine⟨?_,?_⟩
   ·skip
    refine aa rfl ?a1 (aa rfl ?a6 (aa rfl ?a7 (aa rfl ?a8 (aa rfl ?b0 (aa rfl ?o5_5 (aa rfl ?b1 (aa rfl ?o5_7 (bN))))))))
    case a1|a6|a7|a8|o5_7=>
     exact jX
    case b0|o5_5=>
     intro W hW hD K hK;clear hD;have ⟨fb,fh,fp⟩:=rc39 HR hW;have io:=l5 ⟨bx,i*3,none⟩ (.bool t5) hW;have it:=l5 ⟨bx,i*3+1,none⟩ (.slice p5 j5 d5) hW;have jj:=l5 ⟨bx,i*3+2,none⟩ (.slice p6 j6 d6) hW;go_simp;exact hK.out _ _ ⟨_,rfl,ad _,rfl⟩
    ·intro W hW hD K hK;have hc:=hi9 (HC.out W hW);exact sj
   intro w3 g3 hH;clear hH;refine wpAny_done eZ ?_ _;have ce:=G.cell (p:=⟨bx,i*3,none⟩) g3 F c1;have ci:=G.cell (p:=⟨bx,i*3+1,none⟩) g3 F c2;have cl:=G.cell (p:=⟨bx,i*3+2,none⟩) g3 F c3;have bw:Hid (G w w3):=ab hG g3;have I:Hid (Rec w3 B _):=aw HR.out g3;have N:Hid (Rec w3 w.heap.size _):=aw J.out g3;have an:Hid (QIs w3 _ m):=QIs.G O.out g3;have cd:Hid (QIs w3 _ y):=QIs.G HY.out g3;have M:Hid (QSl w3 bx (x::l)):=QSl.G ag.out g3;clear c1 c2 c3 HR J O ag hG g3 HC HY F;obtain⟨tz,bu⟩:∃ tz,decide (0<z)=tz:=⟨_,rfl⟩;rw[bu];have ai:Hid (decide (0<z)=tz):=bu;clear bu;cases tz
   ·skip
    have C:=of_decide_eq_false ai.out;have D:maxL m ((x::l).drop (i+1))=maxL x l:=by
     have k:=af.out
     rwa[if_neg (by rw[← HZ.out];exact C)] at k
    have bl:=hi9 D;clear C D af HZ ai ce ci cl;go_wp2_with fail
    go_roundw
    case rel=>exact⟨i+1,m,s,d,e,d',E,u,u',by omega,by omega,by go_num,eu.out,bl.out,I.out,an.out,M.out,bw.out,N.out⟩
    case measure=>simp only[intOf];omega
   ·skip
    have C:=of_decide_eq_true ai.out;have D:maxL y ((x::l).drop (i+1))=maxL x l:=by
     have k:=af.out
     rwa[if_pos (by rw[← HZ.out];exact C)] at k
    have bl:=hi9 D;clear C D af HZ ai;obtain⟨R,S,U,X,Y,Z⟩:=fL I (ad _);go_wp2_with fail;have ga:QIs _ _ y:=QIs.set3 (u1:= .bool t5) (u2:= .slice p5 j5 d5) (u3:= .slice p6 j6 d6) cd.out I.out trivial trivial trivial;have gd:Rec _ B [.bool t5,.slice p5 j5 d5,.slice p6 j6 d6]:=eC I.out;have gg:=Rec.g3 (b:=B) (u:= .bool t5) (v:= .slice p5 j5 d5) (x:= .slice p6 j6 d6) bw.out fr;have gm:Rec (((w3.setCell ⟨B,0,none⟩ (.bool t5)).setCell ⟨B,1,none⟩ (.slice p5 j5 d5)).setCell ⟨B,2,none⟩ (.slice p6 j6 d6)) w.heap.size _:=((N.out.oth (p:=⟨B,0,none⟩) _ (by show B≠w.heap.size;omega)).oth (p:=⟨B,1,none⟩) _ (by show B≠w.heap.size;omega)).oth (p:=⟨B,2,none⟩) _ (by show B≠w.heap.size;omega);have ha:QSl (((w3.setCell ⟨B,0,none⟩ (.bool t5)).setCell ⟨B,1,none⟩ (.slice p5 j5 d5)).setCell ⟨B,2,none⟩ (.slice p6 j6 d6)) bx (x::l):=rm M.out eX I.out trivial trivial trivial;generalize ((w3.setCell ⟨B,0,none⟩ (.bool t5)).setCell ⟨B,1,none⟩ (.slice p5 j5 d5)).setCell ⟨B,2,none⟩ (.slice p6 j6 d6)=w4 at *;clear R S U X Y Z ce ci cl cd I N an M;go_wp2_with fail
    go_roundw
    case rel=>exact⟨i+1,y,t5,j5,d5,j6,d6,p5,p6,by omega,by omega,by go_num,ez.out,bl.out,gd,ga,ha,gg,gm⟩
    case measure=>simp only[intOf];omega
  ·obtain rfl:i=n:=by omega
   have tt:decide (i<i)=false:=decide_eq_false (Nat.lt_irrefl _);have D:m=maxL x l:=by
    rw[aR (by rw[← HN.out];exact aI _)] at L;exact L
   subst D;clear L al j;have am:=O.out;have fa:Hid (s=decide ((maxL x l).num<0)):=q3f am;clear O ag;obtain⟨dr,ds,ea,eb,ec,ee⟩:=fL HR (ad _);have em:Hid (Num wr (.slice u d e) (maxL x l).num.natAbs):=oL am;have ep:Hid (Num wr (.slice u' d' E) (iw (maxL x l).den)):=oK am;clear am;obtain⟨hm,ho,hp,hq,hr,hs⟩:=fL J (((ad _)));have ca:Num _ _ _:=fC (u1:= .bool s) (u2:= .slice u d e) (u3:= .slice u' d' E) em.out (aw J.out (ad _)) trivial trivial trivial;have cb:Num _ _ _:=fC (u1:= .bool s) (u2:= .slice u d e) (u3:= .slice u' d' E) ep.out (aw J.out (ad _)) trivial trivial trivial;go_wp2_with fail;have hT:Hid (Rec _ (w.heap.size) [.bool s,.slice u d e,.slice u' d' E]):=eC (aw J.out (ad _));have g9:=Rec.h3 hT.out (hG) eX;generalize (World.setCell (World.setCell (World.setCell wr ⟨w.heap.size,0,none⟩ (.bool s)) ⟨w.heap.size,1,none⟩ (.slice u d e)) ⟨w.heap.size,2,none⟩ (.slice u' d' E))=w9 at *;obtain⟨he,hf,hg,hh,hj,hk⟩:=fL hT (((ad _)));refine bodyPost_ret (v:= .agg #[.bool s,.slice u d e,.slice u' d' E]) (by simp [results,Tryz.results258,go_sem, *]) rfl ?_;exact⟨_,rfl,g9,u,d,e,u',d',E,by rw[← fa.out],ca,cb⟩
/-- Block b begins with pointers to these ratios. -/
def PSL (w:World) (b:Nat) (l:List Rat):Prop:=b<w.heap.size∧∀ i,i<l.length→∃ p,w.cell? ⟨b,i,none⟩=some (.pointer (some ⟨p,0,none⟩))∧PR w (.pointer (some ⟨p,0,none⟩)) (l.getD i 0)
theorem PSL.G {w A:World} {b:Nat} {l:List Rat} (h:PSL w b l) (g:G w A):PSL A b l:=
 ⟨aj h.1 g.size,fun i hi=>by
  obtain⟨p,h1,h2⟩:=h.2 i hi;exact⟨p,g.cell h.1 h1,h2.G g⟩⟩
theorem PSL.set {w:World} {b A k:Nat} {l:List Rat} {x u:Value} (h:PSL w b l) (B:b≠A) (D:w.cell? ⟨A,k,none⟩=some x) (E:isP x):PSL (w.setCell ⟨A,k,none⟩ u) b l:=
 ⟨by simpa [World.setCell] using h.1,fun i hi=>by
  obtain⟨p,h1,h2⟩:=h.2 i hi;refine⟨p,?_,h2.other D E⟩;rw[World.cell?_setCell_other _ _ _ _ (by intro e;injection e with C;exact B C.symm)];exact h1⟩
set_option maxRecDepth 20000 in
set_option maxHeartbeats 4000000 in
theorem sC (w:World) (N:Nat) (x:Rat) (l:List Rat) (m c0 K:Nat) (hK:K≤40000) (hm:m=l.length) (kq:m≤100) (hc:m+1≤c0) (lc:2≤c0) (hl:PSL w N (x::l)) (qb:∀ y∈x::l,QB y K):
  Calls Tryz.prog 127 #[.slice (some ⟨N,0,none⟩) (m+1) c0] w (jK w (minL x l) (maxL x l)):=by
 have HL:Hid (PSL w N (x::l)):=hl;have kp:=hl.1;obtain⟨I,q1,fa⟩:=hl.2 0 fX;have fa:PR w (.pointer (some ⟨I,0,none⟩)) x:=fa;have hq:Hid (PR w (.pointer (some ⟨I,0,none⟩)) x):=fa;have HM:Hid (m=l.length):=hm;have lb:(m:Int)≤100:=by omega
 have lg:(c0=1)=False:=eq_false eX;clear hl fa hm kq;go_enter Tryz.func127,Tryz.ntmps127;go_wp2_with fail;obtain⟨w0,it,g0,kr,R0⟩:=ft w [.pointer none,.pointer none] 139;rw[it];clear it;have kb:=G.cell (p:=⟨N,0,none⟩) g0 kp q1;have ht:N<w0.heap.size:=by omega
 clear q1;refine jU 8 1 [.is (.slice (some ⟨N,0,none⟩) (m+1) c0),.is (.pointer (some ⟨N,0,none⟩)),.is (.pointer (some ⟨I,0,none⟩)),.is (.slice (some ⟨N,0,none⟩) (m+1) c0),.is (.pointer (some ⟨N,0,none⟩)),.is (.pointer (some ⟨I,0,none⟩)),.is (.agg #[.pointer (some ⟨I,0,none⟩),.pointer (some ⟨I,0,none⟩)]),.any (fun v w'=>NewRec w0 w' v ([.pointer none,.pointer none]))] [some 6,some 7,some 8,some 9,some 10,some 11,some 12,some 3] ?_;intro v7 A hA;simp only[fG,Act.put,aq,ay,az] at hA;subst hA;refine⟨?_,?_⟩
 ·skip
  refine aa rfl ?a1 (aa rfl ?a6 (aa rfl ?a7 (aa rfl ?a8 (aa rfl ?b0 (aa rfl ?o1_5 (aa rfl ?o1_6 (aa rfl ?b1 (bN))))))))
  case a1|a6|a8|b0|o1_6=>
   exact jX
  case a7|o1_5=>
   intro W hW hD K hK;clear hD;have li:=l5 ⟨N,0,none⟩ (.pointer (some ⟨I,0,none⟩)) hW;go_simp;exact hK.out _ _ ⟨_,rfl,ad _,rfl⟩
  ·intro W hW hD K hK;clear hD;go_simp;exact hK.out _ _ ⟨_,rfl,(ad _).alloc _,_,rfl,hW.size,Rec.new2 _ _ _ _⟩
 intro w1 g1 hH;have h7:=jG v7 7 hH;clear hH;obtain⟨C,rfl,hw,ii⟩:=h7;have RN:Hid (Rec w1 C [.pointer none,.pointer none]):=ii;have hr:Hid (PR w1 (.pointer (some ⟨I,0,none⟩)) x):=PR.G (PR.G hq.out g0) g1;have hk:Hid (PSL w1 N (x::l)):=PSL.G (PSL.G HL.out g0) g1;have R1:Hid (Rec w1 w.heap.size _):=aw R0.out g1;have hs:=ab g0 g1;have eu:w.heap.size≤C:=by omega
 have la:w.heap.size<C:=by omega
 have he:N≠C:=by omega
 clear ii HL hq R0 g0 g1 kb ht;obtain⟨fb,fh,fp,fr⟩:=fe RN (((ad _)));refine wpAny_ready (rs:=[8]) eZ fX ?_;refine AllReady.cons rfl (fun K hK=> ?_) AllReady.nil;go_simp;refine hK _ _ ?_;clear hK K fb fh fp fr;refine wpAny_done eZ ?_ _;have k1:PR _ (.pointer (some ⟨I,0,none⟩)) x:=fI (u1:= .pointer (some ⟨I,0,none⟩)) (u2:= .pointer (some ⟨I,0,none⟩)) hr.out RN.out (bS _) (bS _);have k2:PSL ((w1.setCell ⟨C,0,none⟩ (.pointer (some ⟨I,0,none⟩))).setCell ⟨C,1,none⟩ (.pointer (some ⟨I,0,none⟩))) N (x::l):=(hk.out.set (u:= .pointer (some ⟨I,0,none⟩)) he (RN.out.cell 0) (bS _)).set (x:= .pointer none) he ((RN.out.set 0 (.pointer (some ⟨I,0,none⟩))).cell 1) (bS _);have k3:Rec _ C [.pointer (some ⟨I,0,none⟩),.pointer (some ⟨I,0,none⟩)]:=bE RN.out;have k4:=Rec.g2 (b:=C) (u:= .pointer (some ⟨I,0,none⟩)) (v:= .pointer (some ⟨I,0,none⟩)) hs eu;have k5:Rec ((w1.setCell ⟨C,0,none⟩ (.pointer (some ⟨I,0,none⟩))).setCell ⟨C,1,none⟩ (.pointer (some ⟨I,0,none⟩))) w.heap.size [.pointer none,.pointer none]:=(R1.out.oth (p:=⟨C,0,none⟩) _ (by show C≠w.heap.size;omega)).oth (p:=⟨C,1,none⟩) _ (by show C≠w.heap.size;omega);generalize (w1.setCell ⟨C,0,none⟩ (.pointer (some ⟨I,0,none⟩))).setCell ⟨C,1,none⟩ (.pointer (some ⟨I,0,none⟩))=w2 at *;have gd:Hid (PR w2 (.pointer (some ⟨I,0,none⟩)) x):=k1;have hg:Hid (PSL w2 N (x::l)):=k2;have hh:Hid (Rec w2 C [.pointer (some ⟨I,0,none⟩),.pointer (some ⟨I,0,none⟩)]):=k3;have hj:Hid (Rec w2 w.heap.size [.pointer none,.pointer none]):=k5
 clear k1 k2 k3 k5 RN hr hk R1 hs kr hw;go_wp2_with fail
 go_loopw [16] (fun vi wr=>∃ (i pl d:Nat) (mn mx:Rat),i≤m∧vi= .int .i64 i∧QB mn K∧QB mx K∧minL mn (l.drop i)=minL x l∧maxL mx (l.drop i)=maxL x l∧Rec wr C [.pointer (some ⟨pl,0,none⟩),.pointer (some ⟨d,0,none⟩)]∧PR wr (.pointer (some ⟨pl,0,none⟩)) mn∧PR wr (.pointer (some ⟨d,0,none⟩)) mx∧PSL wr N (x::l)∧Rec wr w.heap.size [.pointer none,.pointer none]∧G w wr) (fun vi _=>(m-intOf vi).toNat)
 case atStart=>exact⟨0,I,I,x,x,by omega,rfl,qb x bP,qb x bP,rfl,rfl,hh.out,gd.out,gd.out,hg.out,hj.out,k4⟩
 case round=>
  obtain⟨i,pl,d,mn,mx,hi,rfl,ia,ib,ce,ci,ga,hx,hz,ez,io,hG⟩:=hrel;have HR:Hid (Rec wr C [.pointer (some ⟨pl,0,none⟩),.pointer (some ⟨d,0,none⟩)]):=ga;have HN:Hid (PR wr (.pointer (some ⟨pl,0,none⟩)) mn):=hx;have HX:Hid (PR wr (.pointer (some ⟨d,0,none⟩)) mx):=hz;have gm:Hid (PSL wr N (x::l)):=ez;have cd:Hid (Rec wr w.heap.size [.pointer none,.pointer none]):=io;have ec:Hid (QB mn K):=ia;have cs:Hid (QB mx K):=ib;clear ga hx hz io gd hg hh hj k4 ia ib;by_cases hd:i<m
  ·have ha:i<l.length:=by rw[← HM.out];exact hd
   have tt:decide (i<m)=true:=decide_eq_true hd;have hex:=ez.2 (i+1) (by simp;exact ha);rw[List.getD_cons_succ] at hex;obtain⟨B,c1,hp⟩:=hex;have ih:=pY (fun y hy=>qb y (ch _ hy)) ha;rw[lS ha] at ce ci;have fs:minL (if sgC (l.getD i 0) mn<0 then l.getD i 0 else mn) (l.drop (i+1))=minL x l:=ce;have fv:maxL (if 0<sgC (l.getD i 0) mx then l.getD i 0 else mx) (l.drop (i+1))=maxL x l:=ci;clear ce ci;generalize l.getD i 0=y at *;have HY:Hid (PR wr (.pointer (some ⟨B,0,none⟩)) y):=hp;have eb:=hi9 fs;have ai:=hi9 fv;have bi:Hid (QB y K):=ih;obtain⟨z1,k⟩:∃ z,z=sgC y mn:=⟨_,rfl⟩;obtain⟨z2,E⟩:∃ z,z=sgC y mx:=⟨_,rfl⟩;have hf:Hid (Calls Tryz.prog 25 #[.pointer (some ⟨B,0,none⟩),.pointer (some ⟨pl,0,none⟩)] wr fun e w'=>e= .returned (.int .i64 z1)∧G wr w'):=by rw[k];exact jB wr _ _ y mn K hK bi.out ec.out HY.out HN.out
   have ep:Hid (z1=sgC y mn):=k;have j:Hid (z2=sgC y mx):=E;have kk:wr.cell? ⟨N,1+i,none⟩=some (.pointer (some ⟨B,0,none⟩)):=by rw[cR];exact c1
   clear ez hp fs fv ih k E;obtain⟨bz,ca,cb,cc⟩:=fe HR (ad _);go_wp2_with fail;refine Calls.mono (P:=Tryz.prog) hf.out ?_;rintro e o ⟨rfl,g3⟩;have am:Hid (Rec o C [.pointer (some ⟨pl,0,none⟩),.pointer (some ⟨d,0,none⟩)]):=aw HR.out g3;have gg:Hid (PR o (.pointer (some ⟨pl,0,none⟩)) mn):=PR.G HN.out g3;have ee:Hid (PR o (.pointer (some ⟨d,0,none⟩)) mx):=PR.G HX.out g3;have em:Hid (PR o (.pointer (some ⟨B,0,none⟩)) y):=PR.G HY.out g3;have bu:Hid (PSL o N (x::l)):=PSL.G gm.out g3;have bv:Hid (Rec o w.heap.size [.pointer none,.pointer none]):=aw cd.out g3;have ea:Hid (G w o):=ab hG g3;clear hf bz ca cb cc HR HN HX HY gm cd hG g3 c1 kk;by_cases k:z1<0
   ·have q1:(z1<0)=True:=eq_true k;have D:=eb.out;rw[if_pos (by rw[← ep.out];exact k)] at D;have ag:=hi9 D;clear D eb ep k;have e1:PR (o.setCell ⟨C,0,none⟩ (.pointer (some ⟨B,0,none⟩))) (.pointer (some ⟨d,0,none⟩)) mx:=ee.out.other (am.out.cell 0) (bS _);have e2:PR (o.setCell ⟨C,0,none⟩ (.pointer (some ⟨B,0,none⟩))) (.pointer (some ⟨B,0,none⟩)) y:=em.out.other (am.out.cell 0) (bS _);have e3:PSL (o.setCell ⟨C,0,none⟩ (.pointer (some ⟨B,0,none⟩))) N (x::l):=bu.out.set he (am.out.cell 0) (bS _);have e4:Rec (o.setCell ⟨C,0,none⟩ (.pointer (some ⟨B,0,none⟩))) C [.pointer (some ⟨B,0,none⟩),.pointer (some ⟨d,0,none⟩)]:=am.out.set 0 (.pointer (some ⟨B,0,none⟩));have e5:Rec (o.setCell ⟨C,0,none⟩ (.pointer (some ⟨B,0,none⟩))) w.heap.size [.pointer none,.pointer none]:=bv.out.oth (p:=⟨C,0,none⟩) (.pointer (some ⟨B,0,none⟩)) (by show C≠w.heap.size;omega);have e6:G w (o.setCell ⟨C,0,none⟩ (.pointer (some ⟨B,0,none⟩))):=ea.out.setCell (p:=⟨C,0,none⟩) eu (.pointer (some ⟨B,0,none⟩));have bm:=hi9 e4;have cr:=hi9 e2;have bn:=hi9 e1;have bq:=hi9 e2;have al:=hi9 e3;have an:=hi9 e5;have af:=hi9 e6;have cl:Hid (∀ w4,G (o.setCell ⟨C,0,none⟩ (.pointer (some ⟨B,0,none⟩))) w4→Calls Tryz.prog 25 #[.pointer (some ⟨B,0,none⟩),.pointer (some ⟨d,0,none⟩)] w4 fun e w'=>e= .returned (.int .i64 z2)∧G w4 w'):=fun w4 g=>by rw[j.out];exact jB w4 _ _ y mx K hK bi.out cs.out (PR.G bq.out g) (PR.G bn.out g)
    have s:Hid (G (o.setCell ⟨C,0,none⟩ (.pointer (some ⟨B,0,none⟩))) (o.setCell ⟨C,0,none⟩ (.pointer (some ⟨B,0,none⟩)))):=ad _;clear e1 e2 e3 e4 e5 e6 gg ee em bu bv ea;obtain⟨dl,dq,dr,ds⟩:=fe am (ad _);obtain⟨O,R,S,U⟩:=fe bm (ad _);go_wp2_with fail;clear dl dq dr ds am;refine Calls.mono (P:=Tryz.prog) (cl.out _ s.out) ?_;rintro e w5 ⟨rfl,g5⟩;have bs:=ab af.out g5;have F:Hid (Rec w5 C [.pointer (some ⟨B,0,none⟩),.pointer (some ⟨d,0,none⟩)]):=aw bm.out g5;have ap:Hid (PR w5 (.pointer (some ⟨B,0,none⟩)) y):=PR.G cr.out g5;have cz:Hid (PR w5 (.pointer (some ⟨d,0,none⟩)) mx):=PR.G bn.out g5;have di:Hid (PR w5 (.pointer (some ⟨B,0,none⟩)) y):=PR.G bq.out g5;have L:Hid (PSL w5 N (x::l)):=PSL.G al.out g5;have M:Hid (Rec w5 w.heap.size [.pointer none,.pointer none]):=aw an.out g5;clear cl s g5 O R S U bm cr bn bq al an af;by_cases E:0<z2
    ·have q2:(0<z2)=True:=eq_true E;have D:=ai.out;rw[if_pos (by rw[← j.out];exact E)] at D;have J:=hi9 D;clear D ai j E;obtain⟨X,Y,Z,c⟩:=fe F (ad _);go_wp2_with fail;have k1:PR _ (.pointer (some ⟨B,0,none⟩)) y:=ap.out.other (u':= .pointer (some ⟨B,0,none⟩)) (F.out.cell 1) (bS _);have k2:PR _ (.pointer (some ⟨B,0,none⟩)) y:=di.out.other (u':= .pointer (some ⟨B,0,none⟩)) (F.out.cell 1) (bS _);have k3:PSL (w5.setCell ⟨C,1,none⟩ (.pointer (some ⟨B,0,none⟩))) N (x::l):=L.out.set (u:= .pointer (some ⟨B,0,none⟩)) eX (F.out.cell 1) (bS _);have k4:Rec _ C [.pointer (some ⟨B,0,none⟩),.pointer (some ⟨B,0,none⟩)]:=F.out.set 1 (.pointer (some ⟨B,0,none⟩));have k5:Rec _ w.heap.size [.pointer none,.pointer none]:=M.out.oth (p:=⟨C,1,none⟩) (.pointer (some ⟨B,0,none⟩)) (by show C≠w.heap.size;omega);have k6:G w _:=bs.setCell (p:=⟨C,1,none⟩) eu (.pointer (some ⟨B,0,none⟩));generalize w5.setCell ⟨C,1,none⟩ (.pointer (some ⟨B,0,none⟩))=w6 at *;clear F ap cz di L M bs X Y Z c
     go_roundw
     case rel=>exact⟨i+1,B,B,y,y,by omega,by go_num,bi.out,bi.out,ag.out,J.out,k4,k1,k2,k3,k5,k6⟩
     case measure=>simp only[intOf];omega
    ·have q2:(0<z2)=False:=eq_false E;have D:=ai.out;rw[if_neg (by rw[← j.out];exact E)] at D;have J:=hi9 D;clear D ai j E;go_wp2_with fail
     go_roundw
     case rel=>exact⟨i+1,B,d,y,mx,by omega,by go_num,bi.out,cs.out,ag.out,J.out,F.out,ap.out,cz.out,L.out,M.out,bs⟩
     case measure=>simp only[intOf];omega
   ·have q1:(z1<0)=False:=eq_false k;have D:=eb.out;rw[if_neg (by rw[← ep.out];exact k)] at D;have ag:=hi9 D;clear D eb ep k;have bm:=am;have cr:=gg;have bn:=ee;have bq:=em;have al:=bu;have an:=bv;have af:=ea;have cl:Hid (∀ w4,G o w4→Calls Tryz.prog 25 #[.pointer (some ⟨B,0,none⟩),.pointer (some ⟨d,0,none⟩)] w4 fun e w'=>e= .returned (.int .i64 z2)∧G w4 w'):=fun w4 g=>by rw[j.out];exact jB w4 _ _ y mx K hK bi.out cs.out (PR.G bq.out g) (PR.G bn.out g)
    have s:Hid (G o o):=ad _;clear gg ee em bu bv ea am;obtain⟨O,R,S,U⟩:=fe bm (ad _);go_wp2_with fail;refine Calls.mono (P:=Tryz.prog) (cl.out _ s.out) ?_;rintro e w5 ⟨rfl,g5⟩;have bs:=ab af.out g5;have F:Hid (Rec w5 C [.pointer (some ⟨pl,0,none⟩),.pointer (some ⟨d,0,none⟩)]):=aw bm.out g5;have ap:Hid (PR w5 (.pointer (some ⟨pl,0,none⟩)) mn):=PR.G cr.out g5;have cz:Hid (PR w5 (.pointer (some ⟨d,0,none⟩)) mx):=PR.G bn.out g5;have di:Hid (PR w5 (.pointer (some ⟨B,0,none⟩)) y):=PR.G bq.out g5;have L:Hid (PSL w5 N (x::l)):=PSL.G al.out g5;have M:Hid (Rec w5 w.heap.size [.pointer none,.pointer none]):=aw an.out g5;clear cl s g5 O R S U bm cr bn bq al an af;by_cases E:0<z2
    ·have q2:(0<z2)=True:=eq_true E;have D:=ai.out;rw[if_pos (by rw[← j.out];exact E)] at D;have J:=hi9 D;clear D ai j E;obtain⟨X,Y,Z,c⟩:=fe F (ad _);go_wp2_with fail;have k1:PR _ (.pointer (some ⟨pl,0,none⟩)) mn:=ap.out.other (u':= .pointer (some ⟨B,0,none⟩)) (F.out.cell 1) (bS _);have k2:PR _ (.pointer (some ⟨B,0,none⟩)) y:=di.out.other (u':= .pointer (some ⟨B,0,none⟩)) (F.out.cell 1) (bS _);have k3:PSL (w5.setCell ⟨C,1,none⟩ (.pointer (some ⟨B,0,none⟩))) N (x::l):=L.out.set (u:= .pointer (some ⟨B,0,none⟩)) eX (F.out.cell 1) (bS _);have k4:Rec _ C [.pointer (some ⟨pl,0,none⟩),.pointer (some ⟨B,0,none⟩)]:=F.out.set 1 (.pointer (some ⟨B,0,none⟩));have k5:Rec _ w.heap.size [.pointer none,.pointer none]:=M.out.oth (p:=⟨C,1,none⟩) (.pointer (some ⟨B,0,none⟩)) (by show C≠w.heap.size;omega);have k6:G w _:=bs.setCell (p:=⟨C,1,none⟩) eu (.pointer (some ⟨B,0,none⟩));generalize w5.setCell ⟨C,1,none⟩ (.pointer (some ⟨B,0,none⟩))=w6 at *;clear F ap cz di L M bs X Y Z c
     go_roundw
     case rel=>exact⟨i+1,pl,B,mn,y,by omega,by go_num,ec.out,bi.out,ag.out,J.out,k4,k1,k2,k3,k5,k6⟩
     case measure=>simp only[intOf];omega
    ·have q2:(0<z2)=False:=eq_false E;have D:=ai.out;rw[if_neg (by rw[← j.out];exact E)] at D;have J:=hi9 D;clear D ai j E;go_wp2_with fail
     go_roundw
     case rel=>exact⟨i+1,pl,d,mn,mx,by omega,by go_num,ec.out,cs.out,ag.out,J.out,F.out,ap.out,cz.out,L.out,M.out,bs⟩
     case measure=>simp only[intOf];omega
  ·obtain rfl:i=m:=by omega
   have tt:decide (i<i)=false:=decide_eq_false (Nat.lt_irrefl _);rw[aR (by rw[← HM.out];exact aI _)] at ce ci;have e1:mn=minL x l:=ce;have e2:mx=maxL x l:=ci;subst e1;subst e2;clear ce ci hd ez gm ec cs;obtain⟨bz,ca,cb,cc⟩:=fe HR (ad _);have jj:=HN;have jp:=HX;obtain⟨fb,fh,fp,fr⟩:=fe cd (((ad _)));have hn:PR _ _ (minL x l):=fI (u1:= .pointer (some ⟨pl,0,none⟩)) (u2:= .pointer (some ⟨d,0,none⟩)) jj.out (aw cd.out (ad _)) (bS _) (bS _);have ho:PR _ _ (maxL x l):=fI (u1:= .pointer (some ⟨pl,0,none⟩)) (u2:= .pointer (some ⟨d,0,none⟩)) jp.out (aw cd.out (ad _)) (bS _) (bS _);go_wp2_with fail;have hT:Hid (Rec _ (w.heap.size) [.pointer (some ⟨pl,0,none⟩),.pointer (some ⟨d,0,none⟩)]):=bE (aw cd.out (ad _));have g9:=dQ hT.out (hG) eX;generalize (World.setCell (World.setCell wr ⟨w.heap.size,0,none⟩ (.pointer (some ⟨pl,0,none⟩))) ⟨w.heap.size,1,none⟩ (.pointer (some ⟨d,0,none⟩)))=w9 at *;obtain⟨ks,kw,kx,ky⟩:=fe hT (((ad _)));refine bodyPost_ret (v:= .agg #[.pointer (some ⟨pl,0,none⟩),.pointer (some ⟨d,0,none⟩)]) (by simp [results,Tryz.results127,go_sem, *]) rfl ?_;exact⟨_,rfl,g9,_,_,rfl,hn,ho⟩
theorem qw (w:World) (bx:Nat) (x:Rat) (l:List Rat) (n j K:Nat) (hK:K≤100000) (hn:n=(x::l).length) (E:n≤100) (hl:QSl w bx (x::l)) (qb:∀ y∈x::l,QB y K):
  Calls Tryz.prog 206 #[.slice (some ⟨bx,0,none⟩) n j] w (kj w (minL x l) (maxL x l)):=by
 have H1:Hid (∀ B,G w B→_):=fun B g=>q1A B bx x l n j K hK hn E (hl.G g) qb;have H2:Hid (∀ B,G w B→_):=fun B g=>q1x B bx x l n j K hK hn E (hl.G g) qb;clear hl qb hn E;generalize minL x l=a at *;generalize maxL x l=b at *;go_enter Tryz.func206,Tryz.ntmps206;go_wp2_with fail;obtain⟨w0,X,g0,ce,Y⟩:=ft w [.bool false,.slice none 0 0,.slice none 0 0,.bool false,.slice none 0 0,.slice none 0 0] 136;rw[X];clear X;refine eW (H1.out _ g0) ?_;intro e B hs;obtain⟨v,rfl,g1,hv⟩:=hs;obtain⟨C,F,c1,a2,I,D,rfl,A⟩:=gl hv;obtain⟨t1,U⟩:∃ t,t=decide (a.num<0):=⟨_,rfl⟩;rw[← U] at A ⊢;clear U;have S:Hid (QIs B (.agg #[.bool t1,.slice C F c1,.slice a2 I D]) a):=A;have k:=ab g0 g1;clear hv A H1;go_wp2_with fail;refine eW (H2.out _ k) ?_;intro e w2 hs;obtain⟨v,rfl,g2,hv⟩:=hs;obtain⟨a3,M,J,a4,N,L,rfl,A⟩:=gl hv;obtain⟨t2,W⟩:∃ t,t=decide (b.num<0):=⟨_,rfl⟩;rw[← W] at A ⊢;clear W;have d:Hid (QIs w2 (.agg #[.bool t1,.slice C F c1,.slice a2 I D]) a):=QIs.G S.out g2;have i:Hid (QIs w2 (.agg #[.bool t2,.slice a3 M J,.slice a4 N L]) b):=A;have g12:=ab g1 g2;clear hv A S H2 g1 g2;have Z:=d;have c:=i;obtain⟨bq,bs,bu,bv,bw,bz,ca,cb,cc,cd,s,af⟩:=cY (aw Y.out ((g12)));have O:QIs _ _ (a):=ek (u1:= .bool t1) (u2:= .slice C F c1) (u3:= .slice a2 I D) (u4:= .bool t2) (u5:= .slice a3 M J) (u6:= .slice a4 N L) Z.out (aw Y.out (g12)) fm;have R:QIs _ _ (b):=ek (u1:= .bool t1) (u2:= .slice C F c1) (u3:= .slice a2 I D) (u4:= .bool t2) (u5:= .slice a3 M J) (u6:= .slice a4 N L) c.out (aw Y.out (g12)) fm;go_wp2_with fail
 have hT:Hid (Rec _ (w.heap.size) [.bool t1,.slice C F c1,.slice a2 I D,.bool t2,.slice a3 M J,.slice a4 N L]):=Rec.set6 (aw Y.out (g12));have g9:=Rec.h6 hT.out (ab g0 g12) eX;generalize (World.setCell (World.setCell (World.setCell (World.setCell (World.setCell (World.setCell w2 ⟨w.heap.size,0,none⟩ (.bool t1)) ⟨w.heap.size,1,none⟩ (.slice C F c1)) ⟨w.heap.size,2,none⟩ (.slice a2 I D)) ⟨w.heap.size,3,none⟩ (.bool t2)) ⟨w.heap.size,4,none⟩ (.slice a3 M J)) ⟨w.heap.size,5,none⟩ (.slice a4 N L))=w9 at *;obtain⟨ag,ai,al,am,an,ap,bi,bl,bm,bn,m,o⟩:=cY (aw hT.out ((ad _)));refine bodyPost_ret (v:= .agg #[.bool t1,.slice C F c1,.slice a2 I D,.bool t2,.slice a3 M J,.slice a4 N L]) (by simp [results,Tryz.results206,go_sem, *]) rfl ?_;exact⟨_,rfl,g9,jy O R⟩
theorem q3l {w:World} {e:TypeId} {t1 t2 t3 t4:Bool} {B a2 a3 a4 a5 C D E:Option Addr} {O R S U W X Y Z c1 F I J K L M N:Nat} {p q r s:Rat}
  (h1:QIs w (.agg #[.bool t1,.slice B O c1,.slice a2 R F]) p) (h2:QIs w (.agg #[.bool t2,.slice a3 S I,.slice a4 U J]) q) (h3:QIs w (.agg #[.bool t3,.slice a5 W K,.slice C X L]) r) (c:QIs w (.agg #[.bool t4,.slice D Y M,.slice E Z N]) s):
  QSl (w.alloc (.cells #[.bool t1,.slice B O c1,.slice a2 R F,.bool t2,.slice a3 S I,.slice a4 U J,.bool t3,.slice a5 W K,.slice C X L,.bool t4,.slice D Y M,.slice E Z N] e)) w.heap.size [p,q,r,s]:=by
 have A:=Rec.new w [.bool t1,.slice B O c1,.slice a2 R F,.bool t2,.slice a3 S I,.slice a4 U J,.bool t3,.slice a5 W K,.slice C X L,.bool t4,.slice D Y M,.slice E Z N] e;have g:=(ad w).alloc (.cells #[.bool t1,.slice B O c1,.slice a2 R F,.bool t2,.slice a3 S I,.slice a4 U J,.bool t3,.slice a5 W K,.slice C X L,.bool t4,.slice D Y M,.slice E Z N] e);refine⟨A.lt,fun i hi=> ?_⟩;have d:i<4:=hi;rcases(show i=0∨i=1∨i=2∨i=3 by omega) with rfl|rfl|rfl|rfl
 ·exact⟨t1,B,O,c1,a2,R,F,A.cell 0,A.cell 1,A.cell 2,h1.G g⟩
 ·exact⟨t2,a3,S,I,a4,U,J,A.cell 3,A.cell 4,A.cell 5,h2.G g⟩
 ·exact⟨t3,a5,W,K,C,X,L,A.cell 6,A.cell 7,A.cell 8,h3.G g⟩
 ·exact⟨t4,D,Y,M,E,Z,N,A.cell 9,A.cell 10,A.cell 11,c.G g⟩
theorem qb4 {p q r s:Rat} {K:Nat} (h1:QB p K) (h2:QB q K) (h3:QB r K) (B:QB s K):∀ y∈[p,q,r,s],QB y K:=by
 intro y A;simp only[cP,eA,or_false] at A;rcases A with rfl|rfl|rfl|rfl<;>assumption
/-- A slice of fractions that fills a block. -/
def QSV (w:World) (v:Value) (n:Nat) (l:List Rat):Prop:=∃ A,v= .slice (some ⟨A,0,none⟩) n n∧QSl w A l
theorem QSV.G {w A:World} {v:Value} {n:Nat} {l:List Rat} (h:QSV w v n l) (g:G w A):QSV A v n l:=by
 obtain⟨B,e,h⟩:=h;exact⟨B,e,h.G g⟩
set_option maxRecDepth 30000 in
set_option maxHeartbeats 4000000 in
theorem om (w:World) (v u:Value) (a b c d:Rat) (FR:Nat) (op:Rat→Rat→Rat) (K:Nat) (I:K≤100000) (hv:ES w v a b) (hu:ES w u c d)
  (o:∀ D v1 v2 x y,G w D→(x=a∨x=b)→(y=c∨y=d)→QIs D v1 x→QIs D v2 y→Calls Tryz.prog FR #[v1,v2] D (RetQ D (op x y))) (hE:∀ args w,(callFunc FR args).run Tryz.prog w= .ok (.enter FR args) w)
  (q1:QB (op a c) K) (q2:QB (op a d) K) (q3:QB (op b c) K) (q4:QB (op b d) K):
  Calls Tryz.prog 198 #[v,u,.func (.func FR) #[] #[]] w (kj w (minL (op a c) [op a d,op b c,op b d]) (maxL (op a c) [op a d,op b c,op b d])):=by
 obtain⟨a1,k1,c1,a2,k2,c2,a3,k3,c3,a4,k4,c4,rfl,cb,cc⟩:=hv;obtain⟨a5,k5,c5,a6,k6,c6,a7,k7,c7,a8,k8,c8,rfl,bz,ca⟩:=hu;have ce:Hid (∀ D,G w D→_):=fun D g=>o D _ _ a c g (Or.inl rfl) (Or.inl rfl) (cb.G g) (bz.G g);have ci:Hid (∀ D,G w D→_):=fun D g=>o D _ _ a d g (Or.inl rfl) (Or.inr rfl) (cb.G g) (ca.G g);have cl:Hid (∀ D,G w D→_):=fun D g=>o D _ _ b c g (Or.inr rfl) (Or.inl rfl) (cc.G g) (bz.G g);have cr:Hid (∀ D,G w D→_):=fun D g=>o D _ _ b d g (Or.inr rfl) (Or.inr rfl) (cc.G g) (ca.G g);have HE:Hid (∀ args w,(callFunc FR args).run Tryz.prog w= .ok (.enter FR args) w):=hE;clear o cb cc bz ca hE;generalize op a c=p at *;generalize op a d=q at *;generalize op b c=r at *;generalize op b d=s at *;have cd:Hid (∀ D bq,QSl D bq [p,q,r,s]→Calls Tryz.prog 206 #[.slice (some ⟨bq,0,none⟩) 4 4] D (kj D (minL p [q,r,s]) (maxL p [q,r,s]))):=fun D bq h=>qw D bq p [q,r,s] 4 4 K I rfl eX h (qb4 q1 q2 q3 q4);clear q1 q2 q3 q4;generalize decide (a.num<0)=t1 at *;generalize decide (b.num<0)=t2 at *;generalize decide (c.num<0)=t3 at *;generalize decide (d.num<0)=t4 at *;generalize minL p [q,r,s]=x at *;generalize maxL p [q,r,s]=y at *;go_enter Tryz.func198,Tryz.ntmps198;go_wp2_with fail;obtain⟨w0,ez,g0,ht,R0,R1,R2⟩:=gf w [.bool t1,.slice a1 k1 c1,.slice a2 k2 c2,.bool t2,.slice a3 k3 c3,.slice a4 k4 c4] [.bool t3,.slice a5 k5 c5,.slice a6 k6 c6,.bool t4,.slice a7 k7 c7,.slice a8 k8 c8] [.bool false,.slice none 0 0,.slice none 0 0,.bool false,.slice none 0 0,.slice none 0 0] 136 136 136;rw[ez]
 clear ez;refine jU 26 1 [.is (.func (.func FR) #[] #[]),.is (.pointer (some ⟨w.heap.size,0,none⟩)),.is (.agg #[.bool t1,.slice a1 k1 c1,.slice a2 k2 c2]),.is (.pointer (some ⟨w.heap.size+1,0,none⟩)),.is (.agg #[.bool t3,.slice a5 k5 c5,.slice a6 k6 c6]),.any (fun v w'=>QIs w' v (p)),.is (.func (.func FR) #[] #[]),.is (.pointer (some ⟨w.heap.size,0,none⟩)),.is (.agg #[.bool t1,.slice a1 k1 c1,.slice a2 k2 c2]),.is (.pointer (some ⟨w.heap.size+1,3,none⟩)),.is (.agg #[.bool t4,.slice a7 k7 c7,.slice a8 k8 c8]),.any (fun v w'=>QIs w' v (q)),.is (.func (.func FR) #[] #[]),.is (.pointer (some ⟨w.heap.size,3,none⟩)),.is (.agg #[.bool t2,.slice a3 k3 c3,.slice a4 k4 c4]),.is (.pointer (some ⟨w.heap.size+1,0,none⟩)),.is (.agg #[.bool t3,.slice a5 k5 c5,.slice a6 k6 c6]),.any (fun v w'=>QIs w' v (r)),.is (.func (.func FR) #[] #[]),.is (.pointer (some ⟨w.heap.size,3,none⟩)),.is (.agg #[.bool t2,.slice a3 k3 c3,.slice a4 k4 c4]),.is (.pointer (some ⟨w.heap.size+1,3,none⟩)),.is (.agg #[.bool t4,.slice a7 k7 c7,.slice a8 k8 c8]),.any (fun v w'=>QIs w' v (s)),.any (fun v w'=>QSV w' v 4 [p,q,r,s]),.any (fun v w'=>ES w' v x y)] [some 7,some 8,some 9,some 10,some 11,some 12,some 13,some 14,some 15,some 16,some 17,some 18,some 19,some 20,some 21,some 22,some 23,some 24,some 25,some 26,some 27,some 28,some 29,some 30,some 31,some 32] ?_;intro v5 hd he hf v24 v25 A hA;simp only[fG,Act.put,aq,ay,az] at hA;subst hA;refine⟨?_,?_⟩
 ·skip
  refine aa rfl ?bA (aa rfl ?bB (aa rfl ?bT (aa rfl ?bY (aa rfl ?c0 (aa rfl ?e7 (aa rfl ?c9 (aa rfl ?cF (aa rfl ?cH (aa rfl ?e1 (aa rfl ?b0 (aa rfl ?e2 (aa rfl ?b1 (aa rfl ?b2 (aa rfl ?b3 (aa rfl ?b4 (aa rfl ?b5 (aa rfl ?e3 (aa rfl ?b6 (aa rfl ?b7 (aa rfl ?b8 (aa rfl ?o1_21 (aa rfl ?o1_22 (aa rfl ?e4 (aa rfl ?e5 (aa rfl ?e6 (bN))))))))))))))))))))))))))
  case bA|bB|bY|c9|cF|e1|b1|b2|b4|b6|b7|o1_21=>
   exact jX
  case bT|c0|cH|b0|b3|b5|b8|o1_22=>
   intro W J F K I;clear F;have B:=cY (aw R0.out J);have af:=B.1;have ag:=B.2.1;have ai:=B.2.2.1;have al:=B.2.2.2.1;have am:=B.2.2.2.2.1;have an:=B.2.2.2.2.2.1;clear B;have C:=cY (aw R1.out J);have ap:=C.1;have bi:=C.2.1;have bl:=C.2.2.1;have bm:=C.2.2.2.1;have bn:=C.2.2.2.2.1;have bs:=C.2.2.2.2.2.1;clear C;go_simp;exact I.out _ _ ⟨_,rfl,ad _,rfl⟩
  ·intro W J F K I;clear F;have bw:=HE.out #[.agg #[.bool t1,.slice a1 k1 c1,.slice a2 k2 c2],.agg #[.bool t3,.slice a5 k5 c5,.slice a6 k6 c6]] W;go_simp;go_wp2_with (refine eW (ce.out W (ab g0 J)) ?_;intro e w9 hs;obtain⟨u9,rfl,g9,E⟩:=hs);exact I.out _ _ ⟨_,rfl,g9,E⟩
  ·intro W J F K I;clear F;have bw:=HE.out #[.agg #[.bool t1,.slice a1 k1 c1,.slice a2 k2 c2],.agg #[.bool t4,.slice a7 k7 c7,.slice a8 k8 c8]] W;go_simp;go_wp2_with (refine eW (ci.out W (ab g0 J)) ?_;intro e w9 hs;obtain⟨u9,rfl,g9,E⟩:=hs);exact I.out _ _ ⟨_,rfl,g9,E⟩
  ·intro W J F K I;clear F;have bw:=HE.out #[.agg #[.bool t2,.slice a3 k3 c3,.slice a4 k4 c4],.agg #[.bool t3,.slice a5 k5 c5,.slice a6 k6 c6]] W;go_simp;go_wp2_with (refine eW (cl.out W (ab g0 J)) ?_;intro e w9 hs;obtain⟨u9,rfl,g9,E⟩:=hs);exact I.out _ _ ⟨_,rfl,g9,E⟩
  ·intro W J F K I;clear F;have bw:=HE.out #[.agg #[.bool t2,.slice a3 k3 c3,.slice a4 k4 c4],.agg #[.bool t4,.slice a7 k7 c7,.slice a8 k8 c8]] W;go_simp;go_wp2_with (refine eW (cr.out W (ab g0 J)) ?_;intro e w9 hs;obtain⟨u9,rfl,g9,E⟩:=hs);exact I.out _ _ ⟨_,rfl,g9,E⟩
  ·intro W J F K I;have h5:=gZ v5 5 F;have fp:=gZ hd 11 F;have fr:=gZ he 17 F;have fv:=gZ hf 23 F;clear F;have B:=cY (aw R0.out J);have af:=B.1;have ag:=B.2.1;have ai:=B.2.2.1;have al:=B.2.2.2.1;have am:=B.2.2.2.2.1;have an:=B.2.2.2.2.2.1;clear B;have C:=cY (aw R1.out J);have ap:=C.1;have bi:=C.2.1;have bl:=C.2.2.1;have bm:=C.2.2.2.1;have bn:=C.2.2.2.2.1;have bs:=C.2.2.2.2.2.1;clear C;obtain⟨p1,p2,p3,p4,p5,p6,rfl,fh⟩:=gl h5;obtain⟨q1,q2,q3,q4,q5,q6,rfl,fs⟩:=gl fp;obtain⟨r1,r2,r3,r4,r5,r6,rfl,gg⟩:=gl fr;obtain⟨s1,s2,s3,s4,s5,s6,rfl,gm⟩:=gl fv;go_simp;exact I.out _ _ ⟨_,rfl,(ad _).alloc _,_,rfl,q3l fh fs gg gm⟩
  ·intro W J F K I;have ga:=gZ v24 24 F;clear F;have B:=cY (aw R0.out J);have af:=B.1;have ag:=B.2.1;have ai:=B.2.2.1;have al:=B.2.2.2.1;have am:=B.2.2.2.2.1;have an:=B.2.2.2.2.2.1;clear B;have C:=cY (aw R1.out J);have ap:=C.1;have bi:=C.2.1;have bl:=C.2.2.1;have bm:=C.2.2.2.1;have bn:=C.2.2.2.2.1;have bs:=C.2.2.2.2.2.1;clear C;obtain⟨bq,rfl,hq⟩:=ga;go_simp;go_wp2_with (go_at_call 206;refine eW (cd.out W bq hq) ?_;intro e w9 hs;obtain⟨u9,rfl,g9,E⟩:=hs);exact I.out _ _ ⟨_,rfl,g9,E⟩
 intro D g1 hH;have gd:=jG v25 25 hH;clear hH;clear ce ci cl cr HE cd R0 R1;obtain⟨L,Y,R,M,Z,S,N,i,U,O,j,X,rfl,ep,eu⟩:=gd;generalize decide ((x).num<0)=k at *;generalize decide ((y).num<0)=m at *;have fa:Hid (QIs D (.agg #[.bool k,.slice L Y R,.slice M Z S]) (x)):=ep;have fb:Hid (QIs D (.agg #[.bool m,.slice N i U,.slice O j X]) (y)):=eu;clear ep eu;obtain⟨di,dl,dq,dr,ds,ea,eb,ec,ee,em,bu,bv⟩:=cY (aw R2.out (g1));refine wpAny_ready (rs:=[26]) eZ fX ?_;refine AllReady.cons rfl (fun K I=> ?_) AllReady.nil;go_simp;refine I _ _ ?_;clear I K di dl dq dr ds ea eb ec ee em bu bv;refine wpAny_done eZ ?_ _;have cs:QIs _ _ (x):=ek (u1:= .bool k) (u2:= .slice L Y R) (u3:= .slice M Z S) (u4:= .bool m) (u5:= .slice N i U) (u6:= .slice O j X) fa.out (aw R2.out (g1)) fm;have cz:QIs _ _ (y):=ek (u1:= .bool k) (u2:= .slice L Y R) (u3:= .slice M Z S) (u4:= .bool m) (u5:= .slice N i U) (u6:= .slice O j X) fb.out (aw R2.out (g1)) fm;go_wp2_with fail;have hT:Hid (Rec _ (w.heap.size+2) [.bool k,.slice L Y R,.slice M Z S,.bool m,.slice N i U,.slice O j X]):=Rec.set6 (aw R2.out (g1));have g9:=Rec.h6 hT.out (ab g0 g1) eX;generalize (World.setCell (World.setCell (World.setCell (World.setCell (World.setCell (World.setCell D ⟨w.heap.size+2,0,none⟩ (.bool k)) ⟨w.heap.size+2,1,none⟩ (.slice L Y R)) ⟨w.heap.size+2,2,none⟩ (.slice M Z S)) ⟨w.heap.size+2,3,none⟩ (.bool m)) ⟨w.heap.size+2,4,none⟩ (.slice N i U)) ⟨w.heap.size+2,5,none⟩ (.slice O j X))=w9 at *
 obtain⟨hg,hh,hj,hk,hl,hm,hn,ho,hp,hr,ha,hc⟩:=cY (aw hT.out ((ad _)));refine bodyPost_ret (v:= .agg #[.bool k,.slice L Y R,.slice M Z S,.bool m,.slice N i U,.slice O j X]) (by simp [results,Tryz.results198,go_sem, *]) rfl ?_;exact⟨_,rfl,g9,jy cs cz⟩
theorem q4q (w:World) (v u:Value) (a b c d:Rat) (hT:Tab w) (hv:ES w v a b) (hu:ES w u c d) (qa:QB a 80) (qb:QB b 80) (qc:QB c 80) (qd:QB d 80):
  Calls Tryz.prog 119 #[v,u] w (kj w (minL (a*c) [a*d,b*c,b*d]) (maxL (a*c) [a*d,b*c,b*d])):=by
 have HC:Hid (∀ w1,G w w1→_):=fun w1 g=>om w1 v u a b c d 18 (fun x y=>x*y) (80+80) eX (hv.G g) (hu.G g)
  (fun w2 v1 v2 x y g2 hx hy k1 k2=>q09 w2 v1 v2 x y 80 eX eX (hT.G (ab g g2)) k1 k2 (by rcases hx with rfl|rfl<;>assumption) (by rcases hy with rfl|rfl<;>assumption)) (fun _ _=>by kernel_rfl)
  (iU qa qc) (iU qa qd) (iU qb qc) (iU qb qd)
 obtain⟨a1,k1,c1,a2,k2,c2,a3,k3,c3,a4,k4,c4,rfl,-,-⟩:=hv;obtain⟨a5,k5,c5,a6,k6,c6,a7,k7,c7,a8,k8,c8,rfl,-,-⟩:=hu;clear qa qb qc qd hT;generalize decide (a.num<0)=t1 at *;generalize decide (b.num<0)=t2 at *;generalize decide (c.num<0)=t3 at *;generalize decide (d.num<0)=t4 at *;generalize minL (a*c) [a*d,b*c,b*d]=x at *;generalize maxL (a*c) [a*d,b*c,b*d]=y at *;go_enter Tryz.func119,Tryz.ntmps119;go_wp2_with fail;obtain⟨w0,bz,g0,fp,R0,R1,R2⟩:=gf w [.bool t1,.slice a1 k1 c1,.slice a2 k2 c2,.bool t2,.slice a3 k3 c3,.slice a4 k4 c4] [.bool t3,.slice a5 k5 c5,.slice a6 k6 c6,.bool t4,.slice a7 k7 c7,.slice a8 k8 c8] [.bool false,.slice none 0 0,.slice none 0 0,.bool false,.slice none 0 0,.slice none 0 0] 136 136 136;rw[bz];clear bz;obtain⟨Y,Z,i,j,k,m,o,s,af,ag,S,U⟩:=cY (aw R0.out (ad _));obtain⟨ai,al,am,an,ap,bi,bl,bm,bn,bq,W,X⟩:=cY (aw R1.out (ad _));go_wp2_with fail;refine eW (HC.out _ g0) ?_;intro e w1 hs;obtain⟨v,rfl,g1,hv⟩:=hs;clear HC Y Z i j k m o s af ag S U ai al am an ap bi bl bm bn bq W X R0 R1;obtain⟨A,K,E,B,L,F,C,M,I,D,N,J,rfl,bv,bw⟩:=hv;generalize decide ((x).num<0)=O at *;generalize decide ((y).num<0)=R at *;have ca:Hid (QIs w1 (.agg #[.bool O,.slice A K E,.slice B L F]) (x)):=bv;have cb:Hid (QIs w1 (.agg #[.bool R,.slice C M I,.slice D N J]) (y)):=bw;clear bv bw;obtain⟨eb,ec,ee,em,ep,eu,ez,fa,fb,fh,ce,ci⟩:=cY (aw R2.out ((g1)))
 have bs:QIs _ _ (x):=ek (u1:= .bool O) (u2:= .slice A K E) (u3:= .slice B L F) (u4:= .bool R) (u5:= .slice C M I) (u6:= .slice D N J) ca.out (aw R2.out (g1)) fm;have bu:QIs _ _ (y):=ek (u1:= .bool O) (u2:= .slice A K E) (u3:= .slice B L F) (u4:= .bool R) (u5:= .slice C M I) (u6:= .slice D N J) cb.out (aw R2.out (g1)) fm;go_wp2_with fail;have hT:Hid (Rec _ (w.heap.size+2) [.bool O,.slice A K E,.slice B L F,.bool R,.slice C M I,.slice D N J]):=Rec.set6 (aw R2.out (g1));have g9:=Rec.h6 hT.out (ab g0 g1) eX;generalize (World.setCell (World.setCell (World.setCell (World.setCell (World.setCell (World.setCell w1 ⟨w.heap.size+2,0,none⟩ (.bool O)) ⟨w.heap.size+2,1,none⟩ (.slice A K E)) ⟨w.heap.size+2,2,none⟩ (.slice B L F)) ⟨w.heap.size+2,3,none⟩ (.bool R)) ⟨w.heap.size+2,4,none⟩ (.slice C M I)) ⟨w.heap.size+2,5,none⟩ (.slice D N J))=w9 at *;obtain⟨cl,cr,cs,cz,di,dl,dq,dr,ds,ea,cc,cd⟩:=cY (aw hT.out ((ad _)));refine bodyPost_ret (v:= .agg #[.bool O,.slice A K E,.slice B L F,.bool R,.slice C M I,.slice D N J]) (by simp [results,Tryz.results119,go_sem, *]) rfl ?_;exact⟨_,rfl,g9,jy bs bu⟩
theorem q6e (w:World) (v u:Value) (x y:Rat) (K:Nat) (hK:K≤100000) (bn:1≤K) (hT:Tab w) (hx:QIs w v x) (hy:QIs w u y) (bx:QB x K) (ap:QB y K) (h0:y≠0):
  Calls Tryz.prog 200 #[v,u] w (RetQ w (x/y)):=by
 have HQ:Hid (∀ s,G w s→Calls Tryz.prog 31 #[v,u] s (od s (x/y) 0)):=fun s g=>by
  have k:=q6d s v u x y K hK bn (hT.G g) (hx.G g) (hy.G g) bx ap;rw[if_neg h0,if_neg h0] at k;exact k
 obtain⟨a1,k1,c1,a2,k2,c2,rfl,-,-⟩:=hx;obtain⟨a3,k3,c3,a4,k4,c4,rfl,-,-⟩:=hy;clear bx ap hT h0;generalize decide (x.num<0)=t1 at *;generalize decide (y.num<0)=t2 at *;generalize x/y=z at *;go_enter Tryz.func200,Tryz.ntmps200;go_wp2_with fail;obtain⟨w0,D,g0,cb,R0,R1,R2⟩:=gf w [.bool t1,.slice a1 k1 c1,.slice a2 k2 c2] [.bool t2,.slice a3 k3 c3,.slice a4 k4 c4] [.bool false,.slice none 0 0,.slice none 0 0] 29 29 29;rw[D];clear D;obtain⟨J,L,M,N,O,R⟩:=fL R0 (ad _);obtain⟨S,U,W,X,Y,Z⟩:=fL R1 (ad _);go_wp2_with fail;refine Calls.mono (P:=Tryz.prog) (HQ.out _ g0) ?_;intro e s hs;obtain⟨v,rfl,g1,hv⟩:=hs;obtain⟨a5,E,B,A,F,C,rfl,ag⟩:=gl hv;obtain⟨t3,af⟩:∃ t,t=decide (z.num<0):=⟨_,rfl⟩;rw[← af] at ag ⊢;have bm:Hid (t3=decide (z.num<0)):=af;have an:Hid (QIs s (.agg #[.bool t3,.slice a5 E B,.slice A F C]) z):=ag;clear hv ag af J L M N O R S U W X Y Z HQ;obtain⟨c,d,i,j,m,o⟩:=fL R2 ((et g1 (.cells #[.bool t3,.slice a5 E B,.slice A F C] 29)));go_wp2_with fail;clear c d i j m o;obtain⟨w2,D,g2,bq,S0⟩:=ft s [.bool t3,.slice a5 E B,.slice A F C] 29;rw[D];clear D;have ai:QIs w2 (.agg #[.bool t3,.slice a5 E B,.slice A F C]) z:=QIs.G an.out g2;have I:=ab g1 g2;clear an g1 g2 S0 bq;have bi:Hid (Num w2 (.slice a5 E B) (z).num.natAbs):=oL ai;have bl:Hid (Num w2 (.slice A F C) (iw (z).den)):=oK ai;clear ai;have al:Num _ _ _:=fC (u1:= .bool t3) (u2:= .slice a5 E B) (u3:= .slice A F C) bi.out (aw R2.out (I)) trivial trivial trivial
 have am:Num _ _ _:=fC (u1:= .bool t3) (u2:= .slice a5 E B) (u3:= .slice A F C) bl.out (aw R2.out (I)) trivial trivial trivial;have hT:Hid (Rec _ (w.heap.size+2) [.bool t3,.slice a5 E B,.slice A F C]):=eC (aw R2.out (I));have g9:=Rec.h3 hT.out (ab g0 I) eX;generalize (World.setCell (World.setCell (World.setCell w2 ⟨w.heap.size+2,0,none⟩ (.bool t3)) ⟨w.heap.size+2,1,none⟩ (.slice a5 E B)) ⟨w.heap.size+2,2,none⟩ (.slice A F C))=w9 at *;obtain⟨bs,bu,bv,bw,bz,ca⟩:=fL hT (((ad _)));refine bodyPost_ret (v:= .agg #[.bool t3,.slice a5 E B,.slice A F C]) (by simp [results,Tryz.results200,go_sem, *]) rfl ?_;exact⟨_,rfl,g9,a5,E,B,A,F,C,by rw[← bm.out],al,am⟩
theorem num_sign_neg {q:Rat}:q.num.sign<0↔q<0:=by rw[eU,Rat.lt_iff];simp
theorem num_sign_pos {q:Rat}:0<q.num.sign↔0<q:=by rw[Int.sign_pos_iff,Rat.lt_iff];simp
theorem ka {c d:Rat} (h:has0 c d=false) (A:c≤d):c≠0∧d≠0:=by
 unfold has0 at h;rcases Int.lt_or_le 0 c.num.sign with h1|h1
 ·have h2:=num_sign_pos.1 h1;constructor<;>grind
 ·rw[decide_eq_true h1,Bool.true_and] at h;have h2:=of_decide_eq_false h;have h3:=num_sign_neg.1 (show d.num.sign<0 by omega);constructor<;>grind
def nH (a b c d:Rat):Rat:=if has0 c d=true then 0 else minL (a/c) [a/d,b/c,b/d]
def nG (a b c d:Rat):Rat:=if has0 c d=true then 0 else maxL (a/c) [a/d,b/c,b/d]
theorem q4s (w:World) (v u:Value) (a b c d:Rat) (hT:Tab w) (hv:ES w v a b) (hu:ES w u c d) (qa:QB a 80) (qb:QB b 80) (qc:QB c 80) (qd:QB d 80) (o:c≤d)
  (q1:c≠0→QB (a/c) 200) (q2:d≠0→QB (a/d) 200) (q3:c≠0→QB (b/c) 200) (q4:d≠0→QB (b/d) 200):
  Calls Tryz.prog 120 #[v,u] w (RetESE w (nH a b c d) (nG a b c d) (if has0 c d=true then 5 else 0)):=by
 have HZ:Hid (∀ w1,G w w1→_):=fun w1 g=>oC w1 u c d (hu.G g);have HC:Hid (has0 c d=false→∀ w1,G w w1→_):=fun h0 w1 g=>om w1 v u a b c d 200 (fun x y=>x/y) 200 eX (hv.G g) (hu.G g)
  (fun w2 v1 v2 x y g2 hx hy k1 k2=>q6e w2 v1 v2 x y 80 eX eX (hT.G (ab g g2)) k1 k2 (by rcases hx with rfl|rfl<;>assumption) (by rcases hy with rfl|rfl<;>assumption) (by
   have k:=ka h0 o;rcases hy with rfl|rfl
   ·exact k.1
   ·exact k.2)) (fun _ _=>by kernel_rfl)
  (q1 (ka h0 o).1) (q2 (ka h0 o).2) (q3 (ka h0 o).1) (q4 (ka h0 o).2)
 obtain⟨a1,k1,c1,a2,k2,c2,a3,k3,c3,a4,k4,c4,rfl,-,-⟩:=hv;obtain⟨a5,k5,c5,a6,k6,c6,a7,k7,c7,a8,k8,c8,rfl,-,-⟩:=hu;obtain⟨X,hX⟩:∃ X,X=nH a b c d:=⟨_,rfl⟩;obtain⟨Y,hY⟩:∃ Y,Y=nG a b c d:=⟨_,rfl⟩;obtain⟨E,hE⟩:∃ E:Int,E=if has0 c d=true then 5 else 0:=⟨_,rfl⟩;rw[← hX,← hY,← hE];have ce:Hid (has0 c d=true→X=0∧Y=0∧E=5):=fun h=>⟨by rw[hX];unfold nH;rw[if_pos h],by rw[hY];unfold nG;rw[if_pos h],by rw[hE,if_pos h]⟩;have ci:Hid (has0 c d=false→minL (a/c) [a/d,b/c,b/d]=X∧maxL (a/c) [a/d,b/c,b/d]=Y∧E=0):=fun h=>⟨by rw[hX];unfold nH;rw[if_neg (by rw[h];decide)],by rw[hY];unfold nG;rw[if_neg (by rw[h];decide)],by rw[hE,if_neg (by rw[h];decide)]⟩;clear hX hY hE qa qb qc qd hT q1 q2 q3 q4 o;generalize decide (a.num<0)=t1 at *;generalize decide (b.num<0)=t2 at *;generalize decide (c.num<0)=t3 at *;generalize decide (d.num<0)=t4 at *;generalize minL (a/c) [a/d,b/c,b/d]=x at *;generalize maxL (a/c) [a/d,b/c,b/d]=y at *;generalize has0 c d=z at *;go_enter Tryz.func120,Tryz.ntmps120;go_wp2_with fail;obtain⟨w0,ha,g0,hc,R0,R1,R2⟩:=gf w [.bool t1,.slice a1 k1 c1,.slice a2 k2 c2,.bool t2,.slice a3 k3 c3,.slice a4 k4 c4] [.bool t3,.slice a5 k5 c5,.slice a6 k6 c6,.bool t4,.slice a7 k7 c7,.slice a8 k8 c8] [.bool false,.slice none 0 0,.slice none 0 0,.bool false,.slice none 0 0,.slice none 0 0] 136 136 136;rw[ha];clear ha;obtain⟨C,D,F,I,J,K,L,M,N,O,A,B⟩:=cY (aw R1.out (ad _));go_wp2_with fail;refine Calls.mono (P:=Tryz.prog) (HZ.out _ g0) ?_;rintro e w1 ⟨rfl,g1⟩;clear HZ C D F I J K L M N O A B;cases z
 ·obtain⟨e1,e2,e3⟩:=ci.out rfl;subst e1;subst e2;subst e3;have di:=hi9 (HC.out rfl w1 (ab g0 g1));clear ce ci HC;obtain⟨bm,bn,bq,bs,bu,bv,bw,bz,ca,cb,bi,bl⟩:=cY (aw R0.out (g1));obtain⟨C,D,F,I,J,K,L,M,N,O,A,B⟩:=cY (aw R1.out (g1));go_wp2_with fail;clear bm bn bq bs bu bv bw bz ca cb bi bl C D F I J K L M N O A B;refine Calls.mono (P:=Tryz.prog) di.out ?_;intro e w2 hs;obtain⟨v,rfl,g2,hv⟩:=hs;have g12:=ab g1 g2;clear di R0 R1 g1 g2;obtain⟨R,s,Z,S,af,i,U,ag,j,W,ai,m,rfl,gg,gm⟩:=hv;generalize decide ((x).num<0)=al at *;generalize decide ((y).num<0)=am at *;have cc:Hid (QIs w2 (.agg #[.bool al,.slice R s Z,.slice S af i]) (x)):=gg;have cd:Hid (QIs w2 (.agg #[.bool am,.slice U ag j,.slice W ai m]) (y)):=gm;clear gg gm;obtain⟨ez,fa,fb,fh,fp,fr,fs,fv,ga,gd,cs,cz⟩:=cY (aw R2.out ((g12)));have an:QIs _ _ (x):=ek (u1:= .bool al) (u2:= .slice R s Z) (u3:= .slice S af i) (u4:= .bool am) (u5:= .slice U ag j) (u6:= .slice W ai m) cc.out (aw R2.out (g12)) fm;have ap:QIs _ _ (y):=ek (u1:= .bool al) (u2:= .slice R s Z) (u3:= .slice S af i) (u4:= .bool am) (u5:= .slice U ag j) (u6:= .slice W ai m) cd.out (aw R2.out (g12)) fm;go_wp2_with fail;have hT:Hid (Rec _ (w.heap.size+2) [.bool al,.slice R s Z,.slice S af i,.bool am,.slice U ag j,.slice W ai m]):=Rec.set6 (aw R2.out (g12));have g9:=Rec.h6 hT.out (ab g0 g12) eX
  generalize (World.setCell (World.setCell (World.setCell (World.setCell (World.setCell (World.setCell w2 ⟨w.heap.size+2,0,none⟩ (.bool al)) ⟨w.heap.size+2,1,none⟩ (.slice R s Z)) ⟨w.heap.size+2,2,none⟩ (.slice S af i)) ⟨w.heap.size+2,3,none⟩ (.bool am)) ⟨w.heap.size+2,4,none⟩ (.slice U ag j)) ⟨w.heap.size+2,5,none⟩ (.slice W ai m))=w9 at *;obtain⟨dq,dr,ds,ea,eb,ec,ee,em,ep,eu,cl,cr⟩:=cY (aw hT.out ((ad _)));refine bodyPost_ret (v:= .tuple #[.agg #[.bool al,.slice R s Z,.slice S af i,.bool am,.slice U ag j,.slice W ai m],.int .i64 0]) (by simp [results,Tryz.results120,go_sem, *]) rfl ?_;exact⟨_,rfl,g9,jy an ap⟩
 ·obtain⟨e1,e2,e3⟩:=ce.out rfl;subst e1;subst e2;subst e3;clear ce ci HC R0 R1;have dl:Hid (QIs w1 (.agg #[.bool false,.slice none 0 0,.slice none 0 0]) 0):=pX w1;have cc:=dl;have cd:=dl;obtain⟨ez,fa,fb,fh,fp,fr,fs,fv,ga,gd,cs,cz⟩:=cY (aw R2.out ((g1)));have an:QIs _ _ (0):=ek (u1:= .bool false) (u2:= .slice none 0 0) (u3:= .slice none 0 0) (u4:= .bool false) (u5:= .slice none 0 0) (u6:= .slice none 0 0) cc.out (aw R2.out (g1)) fm;have ap:QIs _ _ (0):=ek (u1:= .bool false) (u2:= .slice none 0 0) (u3:= .slice none 0 0) (u4:= .bool false) (u5:= .slice none 0 0) (u6:= .slice none 0 0) cd.out (aw R2.out (g1)) fm;go_wp2_with fail;have hT:Hid (Rec _ (w.heap.size+2) [.bool false,.slice none 0 0,.slice none 0 0,.bool false,.slice none 0 0,.slice none 0 0]):=Rec.set6 (aw R2.out (g1));have g9:=Rec.h6 hT.out (ab g0 g1) eX;generalize (World.setCell (World.setCell (World.setCell (World.setCell (World.setCell (World.setCell w1 ⟨w.heap.size+2,0,none⟩ (.bool false)) ⟨w.heap.size+2,1,none⟩ (.slice none 0 0)) ⟨w.heap.size+2,2,none⟩ (.slice none 0 0)) ⟨w.heap.size+2,3,none⟩ (.bool false)) ⟨w.heap.size+2,4,none⟩ (.slice none 0 0)) ⟨w.heap.size+2,5,none⟩ (.slice none 0 0))=w9 at *;obtain⟨dq,dr,ds,ea,eb,ec,ee,em,ep,eu,cl,cr⟩:=cY (aw hT.out ((ad _)));refine bodyPost_ret (v:= .tuple #[.agg #[.bool false,.slice none 0 0,.slice none 0 0,.bool false,.slice none 0 0,.slice none 0 0],.int .i64 5]) (by simp [results,Tryz.results120,go_sem, *]) rfl ?_;exact⟨_,rfl,g9,jy an ap⟩
end Go.Proofs.YtohcneeihdkfgaaGreatDoor.EN
