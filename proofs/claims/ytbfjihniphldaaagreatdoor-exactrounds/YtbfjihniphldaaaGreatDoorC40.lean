/- What is proved here: contracts of the reference: Round of 0, a half, the top power of two; products and comparisons of fractions over one base, over this seat's translation.
What is proved here: the reference's root of a fraction that isn't below 0, over this seat's translation.
What is proved here: the pieces of the reference's root, as its walk asks for them, over this seat's translation. -/
import Derived.Test.YtbfjihniphldaaaGreatDoorC14
import Derived.Test.YtbfjihniphldaaaGreatDoorC33
import Derived.Test.YtbfjihniphldaaaGreatDoorC37
import Derived.Test.YtbfjihniphldaaaGreatDoorC39
import Derived.Test.YtbfjihniphldaaaGreatDoorC35
import Derived.Test.YtbfjihniphldaaaGreatDoorC38
namespace Go.Proofs.YtbfjihniphldaaaGreatDoor.EN
open Go.ChangeShapes Go.WideShapes Go.ChangeAt Go.RowKit
attribute [local go_sem] q0i q0q
theorem q6g (w:World) (u:Value) (m:Int) (hu:PR w u 0):
  Calls Tryz.prog 18 #[u,.int .i64 m] w fun e w'=>e= .returned (.float .f64 0)∧G w w':=by
 obtain⟨b,rfl,hb,hr⟩:=hu;have HF:Hid _:=q5b w b _ hr;have HS:Hid (∀ w1,G w w1→_):=fun w1 g=>q4i w1 b 0 _ (hr.G hb g);rw[show (0:Int).sign=0 from rfl] at HS;clear hr;go_enter Tryz.func18,Tryz.ntmps18;go_wp2_with fail;refine q00 HF.out ?_;rintro e wa ⟨xx,rfl,ga⟩;go_wp2_with fail;refine q00 (HS.out wa ga) ?_;rintro e wb ⟨rfl,gb⟩;go_wp2_with fail;go_ret;exact⟨rfl,G.trans ga gb⟩
theorem qbk (w:World):Calls Tryz.prog 75 #[.int .i64 1,.int .i64 2] w (RetP w (mkRat 1 2)):=by
 have HF:Hid (∀ w1 z q p,Rec w1 z [.bool false,.slice none 0 0,.bool false,.slice none 0 0]→q<w1.heap.size→IntIs w1 q 0 1→p<w1.heap.size→IntIs w1 p 0 2→
   Calls Tryz.prog 49 #[.pointer (some ⟨z,0,none⟩),.pointer (some ⟨q,0,none⟩),.pointer (some ⟨p,0,none⟩)] w1 (SetRat w1 z (mkRat 1 2))):=fun w1 z q p hz hq FJ hp hi=>by
  have h:=q2q w1 z q 0 p 0 1 2 1 (by omega) (by decide) (by decide) (by decide) hq hp hz FJ hi;rw[show ((1:Int):Rat)/((2:Int):Rat)=mkRat 1 2 from by decide+kernel] at h;exact h
 generalize mkRat 1 2=q0 at *;go_enter Tryz.func75,Tryz.ntmps75;go_wp2_with fail;have hr0:=q7t w 40;have hga:=(G.refl w).alloc (.cells #[.bool false,.slice none 0 0,.bool false,.slice none 0 0] 40);have hz0:w.heap.size≤w.heap.size:=Nat.le_refl _;generalize w.alloc (.cells #[.bool false,.slice none 0 0,.bool false,.slice none 0 0] 40)=w1 at *;have HR1:Hid (Rec w1 w.heap.size [.bool false,.slice none 0 0,.bool false,.slice none 0 0]):=hr0;clear hr0;refine q00 (q1q w1 1 (by omega)) ?_;intro e w2 h;obtain⟨q,rfl,hg2,-,hq2,hqi⟩:=h;have HQ:Hid (IntIs w2 q 0 1):=hqi;have hG2:=G.trans hga hg2;have HR2:Hid (Rec w2 w.heap.size [.bool false,.slice none 0 0,.bool false,.slice none 0 0]):=Rec.G HR1.out hg2;clear hqi HR1 hga hg2;go_wp2_with fail;refine q00 (q1q w2 2 (by omega)) ?_;intro e w3 h;obtain⟨p,rfl,hg3,-,hp3,hpi⟩:=h;have hG3:=G.trans hG2 hg3;have Ho:=(Rec.G HR2.out hg3).lt;have HS:Hid _:=HF.out w3 w.heap.size q p (Rec.G HR2.out hg3) (G.lt hg3 hq2) (IntIs.G HQ.out hq2 hg3) hp3 hpi;clear HF hp3 hpi hG2 hg3 HR2 HQ hq2;go_wp2_with fail;refine q00 HS.out ?_;intro e w4 hs;obtain⟨r,rfl,k1,k2,k3,k4⟩:=SetRat.ret hG3 hz0 Ho hs;have xL:Hid (RIs w4 r q0):=k4;clear hs k4 HS;go_wp2_with fail;go_ret;exact⟨_,rfl,k1,r,rfl,k3,xL.out⟩
theorem q9G (w:World):Calls Tryz.prog 74 #[.int .i64 1024] w (RetP w (mkRat ((2^1024:Nat):Int) 1)):=by
 obtain⟨n,hn⟩:∃ n:Nat,n=1024:=⟨_,rfl⟩;have h:=qb2 (n:Int) (by omega) (by omega) w;rw[show (n:Int).toNat=n from rfl,show (-(n:Int)).toNat=0 from by omega,Nat.pow_zero] at h;rw[show ((1024:Int))=(n:Int) from by omega,← hn];generalize 2^n=P at *;refine h.mono ?_;rintro e w' ⟨p,rfl,g,-,k1,k2⟩;refine⟨_,rfl,g,p,rfl,k1,?_⟩;have e1:mkRat (P:Int) 1=((P:Int):Rat):=Rat.mkRat_one (P:Int);unfold RIs;rw[e1];exact k2
theorem q7h {x y:Rat} {a c:Int} {B D:Nat} (hB:0<B) (hD:0<D) (hx:x=mkRat a B) (hy:y=mkRat c D):(x.num*y.den-y.num*x.den).sign=(a*D-c*B).sign:=by
 rw[q7W hB hx];have h1:=mk_cross hD hy;have h3:(a*y.den-y.num*B)*(D:Int)=y.den*(a*D-c*B):=by
  rw[Int.sub_mul,Int.mul_sub,show y.num*(B:Int)*D=y.num*D*B from by ac_rfl,← h1]
  congr 1<;>ac_rfl
 have h4:=congrArg Int.sign h3;rw[Int.sign_mul,Int.sign_mul,Int.sign_eq_one_of_pos (show (0:Int)<D by omega),Int.sign_eq_one_of_pos (show (0:Int)<y.den by have:=y.den_pos;omega),Int.mul_one,Int.one_mul] at h4;exact h4
theorem q4e {x y:Rat} {a c:Int} {B D:Nat} (hx:x=mkRat a B) (hy:y=mkRat c D):x*y=mkRat (a*c) (B*D):=by
 rw[hx,hy,Rat.mkRat_mul_mkRat]
theorem q5y {x y:Rat} {a c:Int} {B:Nat} (hB:0<B) (hx:x=mkRat a B) (hy:y=mkRat c B):x+y=mkRat (a+c) B:=by
 rw[hx,hy,Rat.mkRat_add_mkRat _ _ (by omega) (by omega),← Int.add_mul];exact Rat.mkRat_mul_right (by omega)
end Go.Proofs.YtbfjihniphldaaaGreatDoor.EN
namespace Go.Proofs.YtbfjihniphldaaaGreatDoor.EN
open Go.ChangeShapes Go.WideShapes Go.ChangeAt Go.RowKit
attribute [local go_sem] q0i q0q
/-- What the reference's root rests on. -/
structure RootSet (q:Rat) (E F H S N T:Nat) (s:Rat):Prop where
 e0:0<E
 f0:0<F
 h2:F=2*H
 w:Whole q.num.natAbs q.den E F S
 n:N=q.num.natAbs*(E*F*(E*F))/q.den
 r1:S*S≤N
 r2:N<(S+1)*(S+1)
 sr:s=mkRat (S:Int) (E*F)
 t1:T<2047*2^52
 at_:RootAt E q.num.natAbs q.den T
 z:q1y E q.num.natAbs q.den T=0↔S*S*q.den=q.num.natAbs*(E*E)*(F*F)∧FT.v T*F=S
 l:q1y E q.num.natAbs q.den T≠0→q1y E q.num.natAbs q.den T=if S<(FT.v T+FT.v (T+1))*H then 1 else if S=(FT.v T+FT.v (T+1))*H∧S*S*q.den=q.num.natAbs*(E*E)*(F*F) then 2 else 3
 x:E*F=2^1200
 tz:S=0→T=0
 tn:S≠0→T=tV s.num.natAbs s.den
theorem qad (q:Rat) {E:Nat} (hE:E=2^1074):∃ F H S N T s,RootSet q E F H S N T s:=by
 obtain⟨n,hn⟩:∃ n:Nat,n=125:=⟨_,rfl⟩;obtain⟨S,hS1,hS2⟩:=q7X (q.num.natAbs*(E*2^(n+1)*(E*2^(n+1)))/q.den);have hE0:0<E:=by rw[hE];exact(by obtain⟨n9,aL⟩:∃ n:Nat,n=1074:=⟨_,rfl⟩;rw[← aL];exact Nat.two_pow_pos n9)
 have hx:E*2^(n+1)=2^1200:=by
  obtain⟨k,hk⟩:∃ k:Nat,k=1074:=⟨_,rfl⟩;rw[hE,← hk,← Nat.pow_add]
  congr 1
  omega
 have hH:0<2^n:=Nat.two_pow_pos n;have hF:2^(n+1)=2*2^n:=by rw[Nat.pow_succ,Nat.mul_comm]
 generalize 2^(n+1)=F at *;generalize 2^n=H at *;have MC:0<F:=by omega
 have hw:Whole q.num.natAbs q.den E F S:=q8m q.den_pos rfl hS1 hS2;obtain⟨s,hs⟩:∃ s,s=mkRat (S:Int) (E*F):=⟨_,rfl⟩;obtain⟨T,hT⟩:∃ T,T=if S=0 then 0 else tV s.num.natAbs s.den:=⟨_,rfl⟩;have ht:T<2047*2^52∧FT.v T*F≤S∧(T+1<2047*2^52→S<FT.v (T+1)*F):=by
  by_cases h0:S=0
  ·rw[if_pos h0] at hT;rw[hT,h0,show FT.v 0=0 from by decide,show FT.v (0+1)=1 from by decide];exact⟨by omega,by omega,fun _=>by omega⟩
  ·rw[if_neg h0] at hT;rw[hT];exact qbn hE MC hs h0
 obtain⟨t1,t2,t3⟩:=ht;obtain⟨k1,k2,k3⟩:=qal q.den_pos hF hH hw t1 t2 t3;exact⟨F,H,S,_,T,s,hE0,MC,hF,hw,rfl,hS1,hS2,hs,t1,k1,k2,k3,hx,fun h=>by rw[hT,if_pos h],fun h=>by rw[hT,if_neg h]⟩
theorem q3x {m:Int} {E A B T:Nat} (h:q1y E A B T=0∨m=2∨m=4):q2g m E A B T=T:=by
 unfold q2g;rw[if_neg,Nat.add_zero];rintro⟨h1,h2⟩;rcases h with h|rfl|rfl
 ·exact h1 h
 ·unfold onw at h2;simp at h2
 ·unfold onw at h2;simp at h2
theorem q8T {E A B T:Nat} (h:q1y E A B T≠0):q2g 3 E A B T=T+1:=by
 unfold q2g;rw[if_pos ⟨h,by unfold onw;simp⟩]
theorem q6Y {E A B T:Nat} (h:q1y E A B T≠0):q2g 1 E A B T=if q1y E A B T=3∨(q1y E A B T=2∧T%2=1) then T+1 else T:=by
 unfold q2g onw;generalize q1y E A B T=l at *;by_cases h3:l=3∨(l=2∧T%2=1)
 ·rw[if_pos h3,if_pos];refine⟨h,?_⟩;rcases h3 with rfl|⟨rfl,h4⟩
  ·simp
  ·simp [h4]
 ·rw[if_neg h3,if_neg]
  ·rfl
  ·rintro⟨-,h4⟩;apply h3;simp at h4;exact h4
end Go.Proofs.YtbfjihniphldaaaGreatDoor.EN
namespace Go.Proofs.YtbfjihniphldaaaGreatDoor.EN
open Go.ChangeShapes Go.WideShapes Go.ChangeAt Go.RowKit
attribute [local go_sem] q0i q0q
theorem q7r {q:Rat} (h0:0≤q.num):q.num=(q.num.natAbs:Int):=by omega
theorem qaC {q:Rat} {E F H S N T:Nat} {s:Rat} (h:RootSet q E F H S N T s) (hq:QB q 80):q.num.natAbs*(E*F*(E*F))<2^(32*235)∧N<2^(32*235)∧S<2^(32*235)∧E*F<2^(32*235)∧QB s 80∧QB (s*s) 160:=by
 obtain⟨k,hk⟩:∃ k:Nat,k=1200:=⟨_,rfl⟩;obtain⟨m8,fK⟩:∃ n:Nat,n=32*235:=⟨_,rfl⟩;obtain⟨m9,dw⟩:∃ n:Nat,n=16*235:=⟨_,rfl⟩;obtain⟨n8,pI⟩:∃ n:Nat,n=64*80:=⟨_,rfl⟩;obtain⟨n9,aL⟩:∃ n:Nat,n=64*160:=⟨_,rfl⟩;rw[← fK];have hx:=h.x;rw[← hk] at hx;have hq1:=hq.1;rw[← pI] at hq1;have h1:q.num.natAbs*(E*F*(E*F))<2^m8:=by
  rw[hx,← Nat.pow_add];refine Nat.lt_of_lt_of_le (Nat.mul_lt_mul_of_pos_right hq1 (Nat.two_pow_pos _)) ?_;rw[← Nat.pow_add];exact Nat.pow_le_pow_right (by omega) (by omega)
 have h2:N<2^m8:=by
  rw[h.n];exact Nat.lt_of_le_of_lt (Nat.div_le_self _ _) h1
 have h3:S*S<2^m8:=Nat.lt_of_le_of_lt h.r1 h2;have h4:S<2^m9:=by
  apply qac;rw[← Nat.pow_add,show m9+m9=m8 from by omega];exact h3
 have hX:E*F<2^m8:=by
  rw[hx];exact Nat.pow_lt_pow_right (by omega) (by omega)
 have hd:0<E*F:=Nat.mul_pos h.e0 h.f0;refine⟨h1,h2,Nat.lt_of_le_of_lt (Nat.le_mul_self S) h3,hX,?_,?_⟩
 ·refine q3C hd h.sr ?_ ?_
  ·rw[← pI,Int.natAbs_natCast];exact Nat.lt_of_lt_of_le h4 (Nat.pow_le_pow_right (by omega) (by omega))
  ·rw[← pI,hx];exact Nat.pow_lt_pow_right (by omega) (by omega)
 ·refine q3C (Nat.mul_pos hd hd) (q4e h.sr h.sr) ?_ ?_
  ·rw[← aL,← Int.natCast_mul,Int.natAbs_natCast];exact Nat.lt_of_lt_of_le h3 (Nat.pow_le_pow_right (by omega) (by omega))
  ·rw[← aL,hx,← Nat.pow_add];exact Nat.pow_lt_pow_right (by omega) (by omega)
/-- Three comparisons. -/
theorem q9j {q:Rat} {E F H S N T:Nat} {s:Rat} (h:RootSet q E F H S N T s) (h0:0≤q.num):((s*s).num*q.den-q.num*(s*s).den).sign=0↔S*S*q.den=q.num.natAbs*(E*E)*(F*F):=by
 have hd:0<E*F:=Nat.mul_pos h.e0 h.f0;rw[q7W (Nat.mul_pos hd hd) (q4e h.sr h.sr),Int.sign_eq_zero_iff_zero];have e:q.num.natAbs*(E*E)*(F*F)=q.num.natAbs*(E*F*(E*F)):=by ac_rfl
 rw[e,q7r h0,Int.natAbs_natCast,← Int.natCast_mul,← Int.natCast_mul,← Int.natCast_mul];omega
theorem qar {q:Rat} {E F H S N T:Nat} {s x:Rat} (h:RootSet q E F H S N T s) (hx:x=mkRat (FT.v T:Int) E):(x.num*s.den-s.num*x.den).sign=0↔FT.v T*F=S:=by
 rw[q7h h.e0 (Nat.mul_pos h.e0 h.f0) hx h.sr,Int.sign_eq_zero_iff_zero];have e:FT.v T*(E*F)=FT.v T*F*E:=by ac_rfl
 rw[← Int.natCast_mul,← Int.natCast_mul,e];have h1:=Nat.mul_left_inj (b:=FT.v T*F) (c:=S) (Nat.pos_iff_ne_zero.1 h.e0);omega
theorem qag {q:Rat} {E F H S N T:Nat} {s x y:Rat} (h:RootSet q E F H S N T s) (hx:x=mkRat (FT.v T:Int) E) (hy:y=mkRat (FT.v (T+1):Int) E):
  ((s.num*((x+y)*mkRat 1 2).den-((x+y)*mkRat 1 2).num*s.den).sign<0↔S<(FT.v T+FT.v (T+1))*H)∧((s.num*((x+y)*mkRat 1 2).den-((x+y)*mkRat 1 2).num*s.den).sign=0↔S=(FT.v T+FT.v (T+1))*H):=by
 rw[q7h (Nat.mul_pos h.e0 h.f0) (Nat.mul_pos h.e0 (by omega)) h.sr (q4e (q5y h.e0 hx hy) rfl),Int.sign_neg_iff,Int.sign_eq_zero_iff_zero,Int.mul_one,← Int.natCast_add,← Int.natCast_mul,← Int.natCast_mul];have e1:S*(E*2)=S*(2*E):=by ac_rfl
 have e2:(FT.v T+FT.v (T+1))*(E*F)=(FT.v T+FT.v (T+1))*H*(2*E):=by rw[h.h2];ac_rfl
 rw[e1,e2];have hE2:0<2*E:=by have:=h.e0;omega
 have h1:=Nat.mul_left_inj (b:=S) (c:=(FT.v T+FT.v (T+1))*H) (Nat.pos_iff_ne_zero.1 hE2);have h2:=Nat.mul_lt_mul_right (b:=S) (c:=(FT.v T+FT.v (T+1))*H) hE2;omega
theorem qbB {E T:Nat} (hE:E=2^1074) (hT:T<2047*2^52) {x y:Rat} (hx:x=mkRat (FT.v T:Int) E) (hy:y=mkRat (FT.v (T+1):Int) E):QB x 80∧QB y 80∧QB (x+y) 80∧QB ((x+y)*mkRat 1 2) 80:=by
 have hE0:0<E:=by rw[hE];exact(by obtain⟨n9,aL⟩:∃ n:Nat,n=1074:=⟨_,rfl⟩;rw[← aL];exact Nat.two_pow_pos n9)
 obtain⟨n,hn⟩:∃ n:Nat,n=2098:=⟨_,rfl⟩;have hv1:FT.v (2047*2^52)=2^n:=by
  obtain⟨k,hk⟩:∃ k:Nat,k=2045:=⟨_,rfl⟩;rw[show 2047*2^52=2047*2^52+0 from rfl,FT.v_nor' _ _ (by omega) (by omega),show 2047-1=1+k from by omega,show n=53+k from by omega,Nat.add_zero,Nat.pow_add 2 1 k,Nat.pow_add 2 53 k,← Nat.mul_assoc]
 have h1:FT.v T≤2^n:=by rw[← hv1];exact FT.v_le.2 (by omega)
 have h2:FT.v (T+1)≤2^n:=by rw[← hv1];exact FT.v_le.2 (by omega)
 have h3:2^n+2^n<2^(64*80):=by
  obtain⟨m8,fK⟩:∃ n:Nat,n=64*80:=⟨_,rfl⟩;rw[← Nat.two_mul,← Nat.pow_succ',← fK];exact Nat.pow_lt_pow_right (by omega) (by omega)
 have h4:E*2<2^(64*80):=by
  obtain⟨k,hk⟩:∃ k:Nat,k=1074:=⟨_,rfl⟩;obtain⟨m8,fK⟩:∃ n:Nat,n=64*80:=⟨_,rfl⟩;rw[hE,← hk,← Nat.pow_succ,← fK];exact Nat.pow_lt_pow_right (by omega) (by omega)
 refine⟨q3C hE0 hx ?_ (by omega),q3C hE0 hy ?_ (by omega),q3C hE0 (q5y hE0 hx hy) ?_ (by omega),q3C (Nat.mul_pos hE0 (by omega)) (q4e (q5y hE0 hx hy) rfl) ?_ h4⟩
 ·rw[Int.natAbs_natCast];omega
 ·rw[Int.natAbs_natCast];omega
 ·rw[← Int.natCast_add,Int.natAbs_natCast];omega
 ·rw[Int.mul_one,← Int.natCast_add,Int.natAbs_natCast];omega
theorem qaZ {E:Nat} (hE:E=2^1074):mkRat ((2^1024:Nat):Int) 1=mkRat (FT.v (2047*2^52):Int) E:=by
 obtain⟨k,hk⟩:∃ k:Nat,k=2045:=⟨_,rfl⟩;obtain⟨a,ha⟩:∃ a:Nat,a=1024:=⟨_,rfl⟩;obtain⟨b,hb⟩:∃ b:Nat,b=1074:=⟨_,rfl⟩;have hE0:E≠0:=by rw[hE];exact Nat.pos_iff_ne_zero.1 (by obtain⟨n9,aL⟩:∃ n:Nat,n=1074:=⟨_,rfl⟩;rw[← aL];exact Nat.two_pow_pos n9)
 have hv1:FT.v (2047*2^52)=2^a*E:=by
  rw[hE,← hb,← Nat.pow_add,show 2047*2^52=2047*2^52+0 from rfl,FT.v_nor' _ _ (by omega) (by omega),show 2047-1=1+k from by omega,show a+b=53+k from by omega,Nat.add_zero,Nat.pow_add 2 1 k,Nat.pow_add 2 53 k,← Nat.mul_assoc]
 rw[hv1,← ha];generalize 2^a=P;rw[Rat.mkRat_eq_iff (by omega) hE0,Int.natCast_mul,Int.natCast_one,Int.mul_one]
theorem q9x (w:World) {V E:Nat} (hE:E=2^1074) (h:V<2047*2^52):Calls Tryz.prog 10 #[.float .f64 V] w (RetP w (mkRat (FT.v V:Int) E)):=by
 obtain⟨hx1,hx2⟩:=fq_v false h;rw[show FT.wrd false V=V from rfl] at hx1 hx2;simp only[Bool.false_eq_true,if_false] at hx1;rw[← hE] at hx1;have h64:V<2^64:=by omega
 rw[← hx1,q5x h64 hx2];exact q41 w _ h64 hx2
theorem q8X (w:World) (u:Value) {q:Rat} {E F H S N T:Nat} {s:Rat} (h:RootSet q E F H S N T s) (hs:QB s 80) (hu:PR w u s):
  Calls Tryz.prog 18 #[u,.int .i64 2] w fun e w'=>e= .returned (.float .f64 T)∧G w w':=by
 have hd:0<E*F:=Nat.mul_pos h.e0 h.f0;by_cases h0:S=0
 ·have hs0:s=0:=by rw[h.sr,h0];exact Rat.zero_mkRat _
  rw[h.tz h0];rw[hs0] at hu;exact q6g w u 2 hu
 ·have hc:=mk_cross hd h.sr;have hpos:0<s.num:=by
   rcases Int.lt_or_le 0 s.num with h1|h1
   ·exact h1
   ·have k1:s.num*((E*F:Nat):Int)≤0:=Int.mul_nonpos_of_nonpos_of_nonneg h1 (by omega);have k2:0<(S:Int)*(s.den:Int):=Int.mul_pos (by omega) (by have:=s.den_pos;omega);omega
  have k:=q6q w u s 2 hpos (hs.mono (by omega)) (by omega) hu;have hneg:decide (s.num<0)=false:=decide_eq_false (by omega);have e:rdW 2 s=T:=by
   unfold rdW;rw[hneg,q5W,h.tn h0,if_neg (by simp)];rfl
  rw[e] at k;exact k
end Go.Proofs.YtbfjihniphldaaaGreatDoor.EN
