/- What is proved here: the law on rounded fractions, over this seat's translation. -/
import Derived.Test.YtemmkninoiclfaaGreatDoorC41
import Derived.Test.YtemmkninoiclfaaGreatDoorC36
import Derived.Test.YtemmkninoiclfaaGreatDoorC35
namespace Go.Proofs.YtemmkninoiclfaaGreatDoor.EN
open Go.ChangeShapes Go.WideShapes Go.ChangeAt Go.RowKit
theorem qaz {V:Nat} (h:V<2047*2^52):FT.v V<2^(64*33):=by
 obtain⟨n,hn⟩:∃ n:Nat,n=2098:=⟨_,rfl⟩
 have hv1:FT.v (2047*2^52)=2^n:=by
  obtain⟨k,hk⟩:∃ k:Nat,k=2045:=⟨_,rfl⟩
  rw[show 2047*2^52=2047*2^52+0 from rfl,FT.v_nor' _ _ (by omega) (by omega),show 2047-1=1+k from by omega,show n=53+k from by omega,Nat.add_zero,Nat.pow_add 2 1 k,Nat.pow_add 2 53 k,← Nat.mul_assoc]
 have h1:FT.v V≤2^n:=by rw[← hv1];exact FT.v_le.2 (by omega)
 obtain⟨m,hm⟩:∃ m:Nat,m=64*33:=⟨_,rfl⟩
 rw[← hm]
 exact Nat.lt_of_le_of_lt h1 (Nat.pow_lt_pow_right (by omega) (by omega))
/-- A float as so many units. -/
theorem q4k {b:Nat} (h:b<2^64) (hf:fex b<2047):∃ z:Int,z.natAbs<2^(64*33)∧FQ b=mkRat z (2^1074)∧(z=0↔FT.rung b=0):=by
 have hr:=(q5m b).1 hf
 have h1:=(fq_v (FT.neg b) hr).1
 rw[q61 h] at h1
 refine⟨_,?_,h1,?_⟩
 ·have:=qaz hr
  split<;>omega
 ·have h0:FT.v (FT.rung b)=0↔FT.rung b=0:=by
   constructor
   ·intro h2
    rcases Nat.eq_zero_or_pos (FT.rung b) with h3|h3
    ·exact h3
    ·have:=FT.v_lt h3
     omega
   ·intro h2;rw[h2];decide
  split<;>omega
theorem q7k {x y:Int} {E:Nat} (hE:0<E) (_:y≠0):mkRat x E/mkRat y E=(x:Rat)/(y:Rat):=by
 have e1:mkRat x E=Rat.divInt x E:=rfl
 have e2:mkRat y E=Rat.divInt y E:=rfl
 rw[e1,e2,Rat.div_def,Rat.inv_divInt,Rat.divInt_mul_divInt,← Rat.divInt_eq_div,Int.mul_comm (E:Int) y]
 exact Rat.divInt_mul_right (by omega)
theorem q4e {z:Int} (h:z.natAbs<2^(64*33)) {x:Rat} (hx:x=mkRat z (2^1074)):QB x 33:=by
 refine q3y q1Q hx h ?_
 obtain⟨m,hm⟩:∃ m:Nat,m=64*33:=⟨_,rfl⟩
 obtain⟨n,hn⟩:∃ n:Nat,n=1074:=⟨_,rfl⟩
 rw[← hm,← hn]
 exact Nat.pow_lt_pow_right (by omega) (by omega)
theorem q91 {x y:Int} (hy:y≠0) (h1:x.natAbs<2^(64*33)) (h2:y.natAbs<2^(64*33)):QB ((x:Rat)/(y:Rat)) 33:=
 q3y (by omega) (q6i hy) (by split<;>omega) h2
theorem q7l {m:Int} (hm:m<1∨4<m) (x:Rat):q74 m x:=by
 refine⟨fun w1 v hv=>q4R w1 v x m hm hv,fun w1 v hv=> ?_⟩
 rcases Int.lt_or_le x.num 0 with h|h
 ·exact q3v w1 v x m h hv
 ·exact q57 w1 v x m h hm hv
theorem qaC {m:Int} (hm:1≤m∧m≤4) (x:Rat) (hb:QB x 80):ElOk m x:=by
 have qX:m=1∨m=2∨m=3∨m=4:=by omega
 obtain⟨E,hE⟩:∃ E:Nat,E=2^1074:=⟨_,rfl⟩
 obtain⟨F,H,S,N,T,s,hR⟩:=qa9 x hE
 rcases Int.lt_trichotomy x.num 0 with h|h|h
 ·have h0:x≠0:=by rintro rfl;exact absurd h (by decide)
  exact⟨rdW m x,0,-1,3,fun w1 v hv=>q47 w1 v x m 80 (by omega) (by omega) qX hv h0 hb,fun w1 u hu=>q8y w1 u x m h hb qX hu,
   fun w1 u hu=>by have k:=q3o w1 u x hu;rw[Int.sign_eq_neg_one_of_neg h] at k;exact k,fun w1 v hv=>q3v w1 v x m h hv,Or.inl ⟨by decide,rfl,rfl⟩⟩
 ·have h0:x=0:=Rat.num_eq_zero.1 h
  subst h0
  have hN:N=0:=by rw[hR.n,show (0:Rat).num.natAbs=0 from rfl,Nat.zero_mul,Nat.zero_div]
  have hS:S=0:=by
   have:=hR.r1
   rw[hN] at this
   rcases Nat.eq_zero_or_pos S with k|k
   ·exact k
   ·have:=Nat.mul_pos k k;omega
  have hT:=hR.tz hS
  have hz:q1x E (0:Rat).num.natAbs (0:Rat).den T=0:=hR.z.2 ⟨by rw[hS];simp,by rw[hT,hS,show FT.v 0=0 from by decide,Nat.zero_mul]⟩
  have hv0:q2f m E (0:Rat).num.natAbs (0:Rat).den T=0:=by rw[q3u (Or.inl hz),hT]
  refine⟨0,0,0,0,fun w1 v hv=>q4s w1 v m qX hv,fun w1 u hu=>q6e w1 u m hu,fun w1 u hu=>q3o w1 u 0 hu,fun w1 v hv=>q5b w1 v m qX hv,Or.inr ⟨by decide,rfl,fun w1 u hu=> ?_⟩⟩
  have k:=q6c w1 u 0 m (by decide) hb qX hE hR hu
  rw[hv0] at k
  exact k
 ·have h0:x≠0:=by rintro rfl;exact absurd h (by decide)
  obtain⟨T2,hat,hroot⟩:=qae x 80 (by omega) (by omega) h hb hE
  have OH:T2=T:=hat.uniq hR.at_
  subst OH
  exact⟨rdW m x,q2f m E x.num.natAbs x.den T2,1,0,fun w1 v hv=>q47 w1 v x m 80 (by omega) (by omega) qX hv h0 hb,fun w1 u hu=>q6o w1 u x m h hb qX hu,
   fun w1 u hu=>by have k:=q3o w1 u x hu;rw[Int.sign_eq_one_of_pos h] at k;exact k,fun w1 v hv=>hroot w1 v m qX hv,Or.inr ⟨by decide,rfl,fun w1 u hu=>q6c w1 u x m (by omega) hb qX hE hR hu⟩⟩
theorem exactRounds_c (w:World) (a b c:Nat) (m:Int) (hT:Tab w) (ha:a<2^64) (hb:b<2^64) (hc:c<2^64):
  Calls Tryz.prog 3 #[.float .f64 a,.float .f64 b,.float .f64 c,.int .i64 m] w fun r w'=>r= .returned (.bool true)∧G w w':=by
 have nL:∀ w1,G w w1→Calls Tryz.prog 5 #[] w1 fun e w'=>e= .returned (.bool true)∧G w1 w':=fun w1 g=>qaO w1 (hT.G g)
 have fA:=fun w1=>q2m w1 a ha
 have fB:=fun w1=>q2m w1 b hb
 have fC:=fun w1=>q2m w1 c hc
 by_cases ka:fex a<2047
 case neg=>
  rw[decide_eq_false ka] at fA
  have HT3:Hid (∀ w1,G w w1→_):=nL
  have uB:Hid (∀ w1:World,_):=fA
  clear nL fA fB fC hT ka
  go_enter Tryz.func3,Tryz.ntmps3
  go_wp2_with fail
  refine Calls.mono (P:=Tryz.prog) (HT3.out _ (G.refl _)) ?_
  rintro e w1 ⟨rfl,g1⟩
  go_wp2_with fail
  refine Calls.mono (P:=Tryz.prog) (uB.out _) ?_
  rintro e w2 ⟨rfl,g2⟩
  go_wp2_with fail
  go_ret
  exact⟨rfl,G.trans g1 g2⟩
 by_cases kb:fex b<2047
 case neg=>
  rw[decide_eq_true ka] at fA
  rw[decide_eq_false kb] at fB
  have HT3:Hid (∀ w1,G w w1→_):=nL
  have uB:Hid (∀ w1:World,_):=fA
  have wI:Hid (∀ w1:World,_):=fB
  clear nL fA fB fC hT ka kb
  go_enter Tryz.func3,Tryz.ntmps3
  go_wp2_with fail
  refine Calls.mono (P:=Tryz.prog) (HT3.out _ (G.refl _)) ?_
  rintro e w1 ⟨rfl,g1⟩
  go_wp2_with fail
  refine Calls.mono (P:=Tryz.prog) (uB.out _) ?_
  rintro e w2 ⟨rfl,g2⟩
  go_wp2_with fail
  refine Calls.mono (P:=Tryz.prog) (wI.out _) ?_
  rintro e w3 ⟨rfl,g3⟩
  go_wp2_with fail
  go_ret
  exact⟨rfl,G.trans g1 (G.trans g2 g3)⟩
 by_cases kc:fex c<2047
 case neg=>
  rw[decide_eq_true ka] at fA
  rw[decide_eq_true kb] at fB
  rw[decide_eq_false kc] at fC
  have HT3:Hid (∀ w1,G w w1→_):=nL
  have uB:Hid (∀ w1:World,_):=fA
  have wI:Hid (∀ w1:World,_):=fB
  have AP:Hid (∀ w1:World,_):=fC
  clear nL fA fB fC hT ka kb kc
  go_enter Tryz.func3,Tryz.ntmps3
  go_wp2_with fail
  refine Calls.mono (P:=Tryz.prog) (HT3.out _ (G.refl _)) ?_
  rintro e w1 ⟨rfl,g1⟩
  go_wp2_with fail
  refine Calls.mono (P:=Tryz.prog) (uB.out _) ?_
  rintro e w2 ⟨rfl,g2⟩
  go_wp2_with fail
  refine Calls.mono (P:=Tryz.prog) (wI.out _) ?_
  rintro e w3 ⟨rfl,g3⟩
  go_wp2_with fail
  refine Calls.mono (P:=Tryz.prog) (AP.out _) ?_
  rintro e w4 ⟨rfl,g4⟩
  go_wp2_with fail
  go_ret
  exact⟨rfl,G.trans g1 (G.trans g2 (G.trans g3 g4))⟩
 obtain⟨za,qa,ea,-⟩:=q4k ha ka
 obtain⟨zb,qb,eb,Lm⟩:=q4k hb kb
 obtain⟨zc,qc,ec,-⟩:=q4k hc kc
 have Bp:∀ w1,G w w1→Calls Tryz.prog 7 #[.float .f64 a] w1 (q2I w1 (FQ a) 0):=fun w1 g=>of_c w1 a (hT.G g) ha ka
 have hOb:∀ w1,G w w1→Calls Tryz.prog 7 #[.float .f64 b] w1 (q2I w1 (FQ b) 0):=fun w1 g=>of_c w1 b (hT.G g) hb kb
 have Bq:∀ w1,G w w1→Calls Tryz.prog 7 #[.float .f64 c] w1 (q2I w1 (FQ c) 0):=fun w1 g=>of_c w1 c (hT.G g) hc kc
 have Br:∀ w1:World,Calls Tryz.prog 10 #[.float .f64 a] w1 (RetP w1 (FQ a)):=fun w1=>by rw[q5v ha ka];exact q3Z w1 a ha ka
 have hRb:∀ w1:World,Calls Tryz.prog 10 #[.float .f64 b] w1 (RetP w1 (FQ b)):=fun w1=>by rw[q5v hb kb];exact q3Z w1 b hb kb
 have Bt:∀ w1:World,Calls Tryz.prog 10 #[.float .f64 c] w1 (RetP w1 (FQ c)):=fun w1=>by rw[q5v hc kc];exact q3Z w1 c hc kc
 rw[decide_eq_true ka] at fA
 rw[decide_eq_true kb] at fB
 rw[decide_eq_true kc] at fC
 by_cases k0:FT.rung b=0
 case pos=>
  have hz:(FloatKind.f64.format.order b 0==some .eq)=true:=by rw[FT.eq_zero];exact decide_eq_true k0
  have HT3:Hid (∀ w1,G w w1→_):=nL
  have uB:Hid (∀ w1:World,_):=fA
  have wI:Hid (∀ w1:World,_):=fB
  have AP:Hid (∀ w1:World,_):=fC
  clear nL fA fB fC hT ka kb kc Bp hOb Bq Br hRb Bt k0 Lm ea eb ec qa qb qc
  go_enter Tryz.func3,Tryz.ntmps3
  go_wp2_with fail
  refine Calls.mono (P:=Tryz.prog) (HT3.out _ (G.refl _)) ?_
  rintro e w1 ⟨rfl,g1⟩
  go_wp2_with fail
  refine Calls.mono (P:=Tryz.prog) (uB.out _) ?_
  rintro e w2 ⟨rfl,g2⟩
  go_wp2_with fail
  refine Calls.mono (P:=Tryz.prog) (wI.out _) ?_
  rintro e w3 ⟨rfl,g3⟩
  go_wp2_with fail
  refine Calls.mono (P:=Tryz.prog) (AP.out _) ?_
  rintro e w4 ⟨rfl,g4⟩
  go_wp2_with fail
  go_ret
  exact⟨rfl,G.trans g1 (G.trans g2 (G.trans g3 g4))⟩
 have hz:(FloatKind.f64.format.order b 0==some .eq)=false:=by rw[FT.eq_zero];exact decide_eq_false k0
 have hy:zb≠0:=fun h=>k0 (Lm.1 h)
 have Lp:=q4e qa ea
 have uC:=q4e qb eb
 have hqc:=q4e qc ec
 have hq:QB (FQ a/FQ b) 33:=by rw[ea,eb,q7k q1Q hy];exact q91 hy qa qb
 have hyq:FQ b≠0:=by
  rw[eb]
  intro h
  exact hy (uz_eq_zero.1 h)
 have OI:QB (FQ a/FQ b+FQ c) 80:=(qbw hq hqc).mono (by omega)
 have OJ:QB (FQ a*FQ b) 80:=(qbt Lp uC).mono (by omega)
 have uT:QB (FQ a/FQ b) 80:=hq.mono (by omega)
 have uU:=Lp.mono (show 33≤80 by omega)
 have uV:=uC.mono (show 33≤80 by omega)
 have Bu:=hqc.mono (show 33≤80 by omega)
 generalize FQ a=xa at *
 generalize FQ b=xb at *
 generalize FQ c=xc at *
 have hQ:∀ w1 v u,G w w1→QIs w1 v xa→QIs w1 u xb→Calls Tryz.prog 8 #[v,u] w1 (q2I w1 (xa/xb) 0):=fun w1 v u g k1 k2=>by
  have k:=q9l w1 v u xa xb 80 (by omega) (by omega) (hT.G g) k1 k2 uU uV
  rw[if_neg hyq,if_neg hyq] at k
  exact k
 refine q5p w a b c m xa xb xc (xa/xb) (xa/xb+xc) (xa*xb) ?_ nL fA fB fC hz Bp hOb Bq hQ Br hRb Bt
  (fun w1 bz px py k1 k2 k3 k4 k5=>qbi w1 bz px py xa xb 80 (by omega) uU uV hyq k1.lt k2 k3 k1 k4 k5)
  (fun w1 v u g k1 k2=>qbM w1 v u _ xc 80 (by omega) (by omega) (hT.G g) k1 k2 uT Bu)
  (fun w1 v u g k1 k2=>q9K w1 v u xa xb 80 (by omega) (by omega) (hT.G g) k1 k2 uU uV)
  (fun w1 bz px py k1 k2 k3 k4 k5 k6=>q9w w1 bz px py 0 0 _ xc 80 (by omega) uT Bu k1 k2 k3 k4 k5 k6)
  (fun w1 bz px py k1 k2 k3 k4 k5 k6=>q7Y w1 bz px py 0 0 xa xb 80 (by omega) uU uV k1 k2 k3 k4 k5 k6)
 by_cases hm:1≤m∧m≤4
 ·exact Or.inr ⟨hm,qaC hm _ uT,qaC hm _ OI,qaC hm _ OJ⟩
 ·have hm2:m<1∨4<m:=by omega
  exact Or.inl ⟨hm2,q7l hm2 _,q7l hm2 _,q7l hm2 _⟩
end Go.Proofs.YtemmkninoiclfaaGreatDoor.EN
