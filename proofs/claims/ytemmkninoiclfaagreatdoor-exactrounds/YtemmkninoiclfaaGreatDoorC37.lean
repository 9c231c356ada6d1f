/- What is proved here: the reference's rounding of a fraction, over this seat's translation. -/
import Derived.Test.YtemmkninoiclfaaGreatDoorC36
namespace Go.Proofs.YtemmkninoiclfaaGreatDoor.EN
open Go.ChangeShapes Go.WideShapes Go.ChangeAt Go.RowKit
attribute [local go_sem] q0h q0p
theorem q3k (w:World) (u v:Value) (x y:Rat) (K:Nat) (hK:K≤40000) (qx:QB x K) (qy:QB y K) (hu:PR w u x) (hv:PR w v y):
  Calls Tryz.prog 65 #[u,v] w fun e w'=>e= .returned (.int .i64 (x.num*y.den-y.num*x.den).sign)∧G w w':=by
 obtain⟨bx,rfl,hbx,hx⟩:=hu
 obtain⟨b2,rfl,hby,hy⟩:=hv
 exact qbn w bx b2 x y K hK qx qy hbx hby (Or.inl hx) (Or.inl hy)
theorem q9J (w:World):Calls Tryz.prog 66 #[.int .i64 (-1)] w fun e w'=>e= .returned (.float .f64 FT.ninf)∧G w w':=by
 go_enter Tryz.func66,Tryz.ntmps66
 go_wp2
 go_ret
 exact⟨rfl,G.refl _⟩
theorem qbF {q:Rat} (h0:q≠0):q.num.sign=if decide (q.num<0)=true then -1 else 1:=qbl h0
set_option maxHeartbeats 4000000 in
set_option maxRecDepth 10000 in
/-- Rounding of a fraction above 0. -/
theorem q6p (w:World) (u:Value) (q:Rat) (m:Int) (h0:0<q.num) (hq:QB q 80) (hm:m=1∨m=2∨m=3∨m=4) (hu:PR w u q):
  Calls Tryz.prog 18 #[u,.int .i64 m] w fun e w'=>e= .returned (.float .f64 (rdW m q))∧G w w':=by
 have hs:decide (q.num<0)=false:=decide_eq_false (by omega)
 have hq0:q≠0:=by rintro rfl;exact absurd h0 (by decide)
 have hA:q.num.natAbs≠0:=by omega
 obtain⟨T,hT⟩:∃ T,T=tV q.num.natAbs q.den:=⟨_,rfl⟩
 obtain⟨l,hl⟩:∃ l,l=lV q.num.natAbs q.den:=⟨_,rfl⟩
 obtain⟨V,hV⟩:∃ V,V=rdV 1 false q.num.natAbs q.den:=⟨_,rfl⟩
 obtain⟨hw1,hw2,hw3,hw4⟩:=q53 hq0 hs.symm hT hl hV
 have oK:Hid _:=hw4
 have HT0:Hid (l=0→T≠0):=fun h e=>by
  have k:=(q1X hA q.den_nz).2.2.1 (by rw[← hl];exact h)
  rw[← hT,e,show FT.v 0=0 from by decide,Nat.zero_mul] at k
  have:=Nat.mul_pos (Nat.pos_of_ne_zero hA) (Nat.two_pow_pos 1074)
  omega
 have fV:Hid (rdW 2 q=FT.wrd false T):=by show _=_;unfold rdW;rw[hs,q5V,← hT,← hl];congr 1;simp
 have iM:Hid (rdW 3 q=FT.wrd false (if l≠0 then T+1 else T)):=by show _=_;unfold rdW;rw[hs,qbO,← hT,← hl];congr 1;simp
 have gP:Hid (rdW 4 q=FT.wrd false T):=by show _=_;unfold rdW;rw[hs,qbV,← hT]
 have xN:Hid (rdW 1 q=FT.wrd false V):=by show _=_;unfold rdW;rw[hs,hV]
 have nL:V≤2047*2^52:=by rw[hV];exact qbD 1 false hA q.den_nz
 have HF:Hid (∀ W,G w W→Calls Tryz.prog 63 #[u] W (q7z W (FT.wrd false V))):=fun W g=>by
  obtain⟨p,rfl,hp,hr⟩:=hu
  have k:=q4U W p q hq0 hq (G.lt g hp) (hr.G hp g)
  have e:nR q=FT.wrd false V:=by
   show FT.wrd (decide (q.num<0)) (rdV 1 (decide (q.num<0)) q.num.natAbs q.den)=_
   rw[hs,hV]
  rw[e] at k
  exact k
 have bn:Hid (∀ W,G w W→Calls Tryz.prog 19 #[u] W fun e w'=>e= .returned (.int .i64 1)∧G W w'):=fun W g=>by
  have k:=q3q W u q (hu.G g)
  rw[qbF hq0,hs] at k
  exact k
 have bC:Hid (∀ W:World,Calls Tryz.prog 64 #[.float .f64 0,.float .f64 4607182418800017408] W fun e w'=>e= .returned (.float .f64 (FT.wrd false 0))∧G W w'):=fun W=>q68 false W
 have hcv:=q8u
 have HI1:Hid (∀ W:World,Calls Tryz.prog 42 #[.float .f64 (FT.wrd false V),.int .i64 1] W fun e w'=>e= .returned (.bool (decide (V=2047*2^52)))∧G W w'):=fun W=>q63 false V W nL
 have HI2:Hid (∀ W:World,Calls Tryz.prog 42 #[.float .f64 (FT.wrd false V),.int .i64 (-1)] W fun e w'=>e= .returned (.bool false)∧G W w'):=fun W=>q6r false V W nL
 have bM:Hid (V<2047*2^52→∀ W,Calls Tryz.prog 10 #[.float .f64 (FT.wrd false V)] W (RetP W (FQ (FT.wrd false V)))):=fun h W=>by
  have hx:=(fq_v false h).2
  have h64:=FT.wrd_lt false V (by omega)
  rw[q5w h64 hx]
  exact q41 W _ h64 hx
 have cB:Hid (V<2047*2^52→∀ W v,G w W→PR W v (FQ (FT.wrd false V))→_):=fun h W v g hv=>q3k W v u _ q 80 (by omega) (qbb (fq_v false h).2) hq hv (hu.G g)
 have vP:Hid (∀ W:World,Calls Tryz.prog 66 #[.int .i64 (-1)] W fun e w'=>e= .returned (.float .f64 FT.ninf)∧G W w'):=fun W=>q9J W
 have oL:Hid (∀ W:World,Calls Tryz.prog 66 #[.int .i64 1] W fun e w'=>e= .returned (.float .f64 FT.infR)∧G W w'):=fun W=>q8Z 1 W (by omega)
 have fK:Hid True:=trivial
 have nM:True:=trivial
 have hzn:=q0k false (V:=V) (by omega)
 clear hT hl hV hs hA hq0 hw4 hq h0
 go_enter Tryz.func18,Tryz.ntmps18
 go_wp2_with fail
 refine Calls.mono (P:=Tryz.prog) (HF.out w (G.refl _)) ?_
 rintro e wa ⟨xx,rfl,ga⟩
 go_wp2_with fail
 refine Calls.mono (P:=Tryz.prog) (bn.out wa ga) ?_
 rintro e wb ⟨rfl,gb⟩
 by_cases qw:V=0
 ·skip
  rw[decide_eq_true qw] at hzn
  have sQ:Hid (V=0):=qw
  clear qw
  go_wp2_with fail
  refine Calls.mono (P:=Tryz.prog) (bn.out wb (by repeat' (first|exact G.refl _|assumption|refine G.alloc ?_ _|refine G.drew ?_ |refine G.drewN ?_ _|(refine G.trans ?_ (by assumption))))) ?_
  rintro e wc ⟨rfl,gc⟩
  go_wp2_with fail
  have vU:Hid (∀ W:World,Calls Tryz.prog 64 #[.float .f64 0,.float .f64 4607182418800017408] W fun e w'=>e= .returned (.float .f64 (FT.wrd false V))∧G W w'):=fun W=>by rw[sQ.out];exact bC.out W
  refine Calls.mono (P:=Tryz.prog) (vU.out wc) ?_
  rintro e w2 ⟨rfl,gd⟩
  have g2:G w w2:=(by repeat' (first|exact G.refl _|assumption|refine G.alloc ?_ _|refine G.drew ?_ |refine G.drewN ?_ _|(refine G.trans ?_ (by assumption))))
  clear ga gb gc gd vU
  clear HF
  rcases hm with rfl|hm
  ·go_wp2_with fail
   go_ret
   exact⟨by rw[xN.out];first|done|rfl,g2⟩
  ·have hm1:(m==1)=false:=by simp;omega
   clear hzn sQ xN nL
   go_wp2_with fail
   refine Calls.mono (P:=Tryz.prog) (HI1.out w2) ?_
   rintro e w3 ⟨rfl,g3⟩
   by_cases dK:V=2047*2^52
   ·obtain⟨lo,hlo⟩:∃ lo,lo=FT.wrd false V:=⟨_,rfl⟩
    have qF:T+1=V:=by rcases hw2 with h|h<;>omega
    have hl0:l≠0:=hw3 qF.symm
    have HZ1:(FloatKind.f64.format.order 9218868437227405311 0==some .eq)=false:=by decide+kernel
    have HZ2:(FloatKind.f64.format.order lo 0==some .eq)=false:=by rw[hlo,q0k false (by omega)];exact decide_eq_false (by omega)
    have HT1:Hid (FT.wrd false T=9218868437227405311):=by show _=_;rw[show T=2047*2^52-1 from by omega];rfl
    have fI:Hid (rdW 3 q=lo):=by show _=_;rw[iM.out,if_pos hl0,qF,hlo]
    have fJ:Hid (rdW 2 q=9218868437227405311):=by show _=_;rw[fV.out,HT1.out]
    have dD:Hid (rdW 4 q=9218868437227405311):=by show _=_;rw[gP.out,HT1.out]
    rw[decide_eq_true dK]
    rw[← hlo] at HI2 ⊢
    clear hlo qF hl0 dK HT1 hw1 hw2 hw3 bM cB fK fV iM gP
    clear hm1
    rcases hm with rfl|rfl|rfl
    ·skip
     go_wp2_with (first|(go_at_call 19;refine(bn.out _ (by repeat' (first|exact G.refl _|assumption|refine G.alloc ?_ _|refine G.drew ?_ |refine G.drewN ?_ _|(refine G.trans ?_ (by assumption))))).mono ?_;rintro e wn ⟨rfl,hbn⟩)|(go_at_call 64;refine(bC.out _).mono ?_;rintro e wn ⟨rfl,hbn⟩))
     go_ret
     exact⟨by rw[fJ.out];first|done|rfl,(by repeat' (first|exact G.refl _|assumption|refine G.alloc ?_ _|refine G.drew ?_ |refine G.drewN ?_ _|(refine G.trans ?_ (by assumption))))⟩
    ·skip
     go_wp2_with (first|(go_at_call 19;refine(bn.out _ (by repeat' (first|exact G.refl _|assumption|refine G.alloc ?_ _|refine G.drew ?_ |refine G.drewN ?_ _|(refine G.trans ?_ (by assumption))))).mono ?_;rintro e wn ⟨rfl,hbn⟩)|(go_at_call 64;refine(bC.out _).mono ?_;rintro e wn ⟨rfl,hbn⟩))
     go_ret
     exact⟨by rw[fI.out];first|done|rfl,(by repeat' (first|exact G.refl _|assumption|refine G.alloc ?_ _|refine G.drew ?_ |refine G.drewN ?_ _|(refine G.trans ?_ (by assumption))))⟩
    ·skip
     go_wp2_with (first|(go_at_call 19;refine(bn.out _ (by repeat' (first|exact G.refl _|assumption|refine G.alloc ?_ _|refine G.drew ?_ |refine G.drewN ?_ _|(refine G.trans ?_ (by assumption))))).mono ?_;rintro e wn ⟨rfl,hbn⟩)|(go_at_call 64;refine(bC.out _).mono ?_;rintro e wn ⟨rfl,hbn⟩))
     go_ret
     exact⟨by rw[dD.out];first|done|rfl,(by repeat' (first|exact G.refl _|assumption|refine G.alloc ?_ _|refine G.drew ?_ |refine G.drewN ?_ _|(refine G.trans ?_ (by assumption))))⟩
   ·have dX:V<2047*2^52:=by omega
    rw[decide_eq_false dK]
    go_wp2_with fail
    refine Calls.mono (P:=Tryz.prog) (HI2.out w3) ?_
    rintro e w4 ⟨rfl,g4⟩
    go_wp2_with fail
    refine Calls.mono (P:=Tryz.prog) (bM.out dX w4) ?_
    rintro e w5 ⟨v5,rfl,g5,k5⟩
    have ll:Hid (PR w5 v5 (FQ (FT.wrd false V))):=k5
    clear k5
    go_wp2_with fail
    refine Calls.mono (P:=Tryz.prog) (cB.out dX w5 v5 (by repeat' (first|exact G.refl _|assumption|refine G.alloc ?_ _|refine G.drew ?_ |refine G.drewN ?_ _|(refine G.trans ?_ (by assumption)))) ll.out) ?_
    rintro e w6 ⟨rfl,g6⟩
    have hc6:=(oK.out dX)
    by_cases hl0:l=0
    ·have dN:V=T:=by rcases hw2 with h|h;exact h;exact absurd hl0 (hw3 h)
     rw[if_pos hl0] at hc6
     rw[hc6]
     obtain⟨lo,hlo⟩:∃ lo,lo=FT.wrd false V:=⟨_,rfl⟩
     have hT0:V≠0:=by rw[dN];exact HT0.out hl0
     have HZ1:(FloatKind.f64.format.order lo 0==some .eq)=false:=by rw[hlo,q0k false (by omega)];exact decide_eq_false hT0
     have fI:Hid (rdW 3 q=lo):=by show _=_;rw[iM.out,if_neg (by simpa using hl0),← dN,hlo]
     have fJ:Hid (rdW 2 q=lo):=by show _=_;rw[fV.out,← dN,hlo]
     have dD:Hid (rdW 4 q=lo):=by show _=_;rw[gP.out,← dN,hlo]
     rw[← hlo] at bM cB ll ⊢
     have bM:Hid (∀ W,_):=fun W=>bM.out dX W
     have cB:Hid (∀ W v,G w W→PR W v (FQ lo)→Calls Tryz.prog 65 #[v,u] W fun e w'=>e= .returned (.int .i64 0)∧G W w'):=fun W v g h=>by have k:=cB.out dX W v g h;rw[hlo] at k;rw[hc6] at k;exact k
     clear hlo dN hl0 hT0 dK dX hc6 hw1 hw2 hw3 fK fV iM gP oK
     go_wp2_with fail
     refine Calls.mono (P:=Tryz.prog) (bM.out w6) ?_
     rintro e w7 ⟨v7,rfl,g7,k7⟩
     have dW:Hid (PR w7 v7 (FQ lo)):=k7
     clear k7
     go_wp2_with fail
     refine Calls.mono (P:=Tryz.prog) (cB.out w7 v7 (by repeat' (first|exact G.refl _|assumption|refine G.alloc ?_ _|refine G.drew ?_ |refine G.drewN ?_ _|(refine G.trans ?_ (by assumption)))) dW.out) ?_
     rintro e w8 ⟨rfl,g8⟩
     clear hm1
     rcases hm with rfl|rfl|rfl
     ·skip
      go_wp2_with (first|(go_at_call 19;refine(bn.out _ (by repeat' (first|exact G.refl _|assumption|refine G.alloc ?_ _|refine G.drew ?_ |refine G.drewN ?_ _|(refine G.trans ?_ (by assumption))))).mono ?_;rintro e wn ⟨rfl,hbn⟩)|(go_at_call 64;refine(bC.out _).mono ?_;rintro e wn ⟨rfl,hbn⟩))
      go_ret
      exact⟨by rw[fJ.out];first|done|rfl,(by repeat' (first|exact G.refl _|assumption|refine G.alloc ?_ _|refine G.drew ?_ |refine G.drewN ?_ _|(refine G.trans ?_ (by assumption))))⟩
     ·skip
      go_wp2_with (first|(go_at_call 19;refine(bn.out _ (by repeat' (first|exact G.refl _|assumption|refine G.alloc ?_ _|refine G.drew ?_ |refine G.drewN ?_ _|(refine G.trans ?_ (by assumption))))).mono ?_;rintro e wn ⟨rfl,hbn⟩)|(go_at_call 64;refine(bC.out _).mono ?_;rintro e wn ⟨rfl,hbn⟩))
      go_ret
      exact⟨by rw[fI.out];first|done|rfl,(by repeat' (first|exact G.refl _|assumption|refine G.alloc ?_ _|refine G.drew ?_ |refine G.drewN ?_ _|(refine G.trans ?_ (by assumption))))⟩
     ·skip
      go_wp2_with (first|(go_at_call 19;refine(bn.out _ (by repeat' (first|exact G.refl _|assumption|refine G.alloc ?_ _|refine G.drew ?_ |refine G.drewN ?_ _|(refine G.trans ?_ (by assumption))))).mono ?_;rintro e wn ⟨rfl,hbn⟩)|(go_at_call 64;refine(bC.out _).mono ?_;rintro e wn ⟨rfl,hbn⟩))
      go_ret
      exact⟨by rw[dD.out];first|done|rfl,(by repeat' (first|exact G.refl _|assumption|refine G.alloc ?_ _|refine G.drew ?_ |refine G.drewN ?_ _|(refine G.trans ?_ (by assumption))))⟩
    ·rw[if_neg hl0] at hc6
     by_cases dN:V=T
     ·skip
      rw[if_pos dN] at hc6
      simp only[Bool.false_eq_true,if_false] at hc6
      rw[hc6]
      obtain⟨nr,hnr⟩:∃ nr,nr=FT.wrd false V:=⟨_,rfl⟩
      obtain⟨fr,hfr⟩:∃ fr,fr=FT.wrd false (T+1):=⟨_,rfl⟩
      have dL:Hid (FT.wrd false T=nr):=by show _=_;rw[hnr,dN]
      have gI:Hid (FT.wrd false (T+1)=fr):=by show _=_;rw[hfr]
      have BV:(FloatKind.f64.format.order fr 0==some .eq)=false:=by rw[← gI.out,q0k false (by omega)];exact decide_eq_false (by omega)
      have l7:(FloatKind.f64.format.order nr 0==some .eq)=decide (T=0):=by rw[← dL.out,q0k false (by omega)]
      have fI:Hid (rdW 3 q=fr):=by show _=_;rw[iM.out,if_pos hl0,gI.out]
      have fJ:Hid (rdW 2 q=nr):=by show _=_;rw[fV.out,dL.out]
      have dD:Hid (rdW 4 q=nr):=by show _=_;rw[gP.out,dL.out]
      have fK:Hid (∀ W,Calls Tryz.prog 39 #[.float .f64 nr,.float .f64 FT.infR] W fun e w'=>e= .returned (.float .f64 fr)∧G W w'):=fun W=>by
       have k:=q0W nr W (by rw[hnr];exact FT.wrd_lt false _ (by omega))
       have e:upV nr=fr:=by rw[← dL.out,q7t (V:=T) (by omega)];exact gI.out
       rw[e] at k
       exact k
      rw[← hnr] at bM cB ll ⊢
      have bM:Hid (∀ W,_):=fun W=>bM.out dX W
      have cB:Hid (∀ W v,G w W→PR W v (FQ nr)→Calls Tryz.prog 65 #[v,u] W fun e w'=>e= .returned (.int .i64 (-1))∧G W w'):=fun W v g h=>by have k:=cB.out dX W v g h;rw[hnr] at k;rw[hc6] at k;exact k
      obtain⟨t0,ht0⟩:∃ t0,t0=decide (T=0):=⟨_,rfl⟩
      rw[← ht0] at l7
      have qG:Hid (t0=true→nr=FT.wrd false 0):=fun h=>by rw[h] at ht0;rw[← dL.out,of_decide_eq_true ht0.symm]
      clear nM ht0 hnr hfr dN hl0 dK dX hc6 hw1 hw2 hw3 fV iM gP oK dL gI
      go_wp2_with fail
      refine Calls.mono (P:=Tryz.prog) (oL.out w6) ?_
      rintro e w9 ⟨rfl,g9⟩
      go_wp2_with fail
      refine Calls.mono (P:=Tryz.prog) (fK.out w9) ?_
      rintro e bE ⟨rfl,g10⟩
      cases t0
      ·skip
       clear hm1
       rcases hm with rfl|rfl|rfl
       ·skip
        go_wp2_with (first|(go_at_call 19;refine(bn.out _ (by repeat' (first|exact G.refl _|assumption|refine G.alloc ?_ _|refine G.drew ?_ |refine G.drewN ?_ _|(refine G.trans ?_ (by assumption))))).mono ?_;rintro e wn ⟨rfl,hbn⟩)|(go_at_call 64;refine(bC.out _).mono ?_;rintro e wn ⟨rfl,hbn⟩))
        go_ret
        exact⟨by rw[fJ.out];first|done|rfl,(by repeat' (first|exact G.refl _|assumption|refine G.alloc ?_ _|refine G.drew ?_ |refine G.drewN ?_ _|(refine G.trans ?_ (by assumption))))⟩
       ·skip
        go_wp2_with (first|(go_at_call 19;refine(bn.out _ (by repeat' (first|exact G.refl _|assumption|refine G.alloc ?_ _|refine G.drew ?_ |refine G.drewN ?_ _|(refine G.trans ?_ (by assumption))))).mono ?_;rintro e wn ⟨rfl,hbn⟩)|(go_at_call 64;refine(bC.out _).mono ?_;rintro e wn ⟨rfl,hbn⟩))
        go_ret
        exact⟨by rw[fI.out];first|done|rfl,(by repeat' (first|exact G.refl _|assumption|refine G.alloc ?_ _|refine G.drew ?_ |refine G.drewN ?_ _|(refine G.trans ?_ (by assumption))))⟩
       ·skip
        go_wp2_with (first|(go_at_call 19;refine(bn.out _ (by repeat' (first|exact G.refl _|assumption|refine G.alloc ?_ _|refine G.drew ?_ |refine G.drewN ?_ _|(refine G.trans ?_ (by assumption))))).mono ?_;rintro e wn ⟨rfl,hbn⟩)|(go_at_call 64;refine(bC.out _).mono ?_;rintro e wn ⟨rfl,hbn⟩))
        go_ret
        exact⟨by rw[dD.out];first|done|rfl,(by repeat' (first|exact G.refl _|assumption|refine G.alloc ?_ _|refine G.drew ?_ |refine G.drewN ?_ _|(refine G.trans ?_ (by assumption))))⟩
      ·rw[qG.out rfl] at l7 fK fJ dD ⊢
       clear hm1
       rcases hm with rfl|rfl|rfl
       ·skip
        go_wp2_with (first|(go_at_call 19;refine(bn.out _ (by repeat' (first|exact G.refl _|assumption|refine G.alloc ?_ _|refine G.drew ?_ |refine G.drewN ?_ _|(refine G.trans ?_ (by assumption))))).mono ?_;rintro e wn ⟨rfl,hbn⟩)|(go_at_call 64;refine(bC.out _).mono ?_;rintro e wn ⟨rfl,hbn⟩))
        go_ret
        exact⟨by rw[fJ.out];first|done|rfl,(by repeat' (first|exact G.refl _|assumption|refine G.alloc ?_ _|refine G.drew ?_ |refine G.drewN ?_ _|(refine G.trans ?_ (by assumption))))⟩
       ·skip
        go_wp2_with (first|(go_at_call 19;refine(bn.out _ (by repeat' (first|exact G.refl _|assumption|refine G.alloc ?_ _|refine G.drew ?_ |refine G.drewN ?_ _|(refine G.trans ?_ (by assumption))))).mono ?_;rintro e wn ⟨rfl,hbn⟩)|(go_at_call 64;refine(bC.out _).mono ?_;rintro e wn ⟨rfl,hbn⟩))
        go_ret
        exact⟨by rw[fI.out];first|done|rfl,(by repeat' (first|exact G.refl _|assumption|refine G.alloc ?_ _|refine G.drew ?_ |refine G.drewN ?_ _|(refine G.trans ?_ (by assumption))))⟩
       ·skip
        go_wp2_with (first|(go_at_call 19;refine(bn.out _ (by repeat' (first|exact G.refl _|assumption|refine G.alloc ?_ _|refine G.drew ?_ |refine G.drewN ?_ _|(refine G.trans ?_ (by assumption))))).mono ?_;rintro e wn ⟨rfl,hbn⟩)|(go_at_call 64;refine(bC.out _).mono ?_;rintro e wn ⟨rfl,hbn⟩))
        go_ret
        exact⟨by rw[dD.out];first|done|rfl,(by repeat' (first|exact G.refl _|assumption|refine G.alloc ?_ _|refine G.drew ?_ |refine G.drewN ?_ _|(refine G.trans ?_ (by assumption))))⟩
     ·skip
      rw[if_neg dN] at hc6
      simp only[Bool.false_eq_true,if_false] at hc6
      rw[hc6]
      have l8:V=T+1:=by rcases hw2 with h|h;exact absurd h dN;exact h
      obtain⟨fr,hfr⟩:∃ fr,fr=FT.wrd false V:=⟨_,rfl⟩
      obtain⟨nr,hnr⟩:∃ nr,nr=FT.wrd false T:=⟨_,rfl⟩
      have dL:Hid (FT.wrd false T=nr):=hnr.symm
      have gI:Hid (FT.wrd false (T+1)=fr):=by show _=_;rw[hfr,l8]
      have BV:(FloatKind.f64.format.order fr 0==some .eq)=false:=by rw[← gI.out,q0k false (by omega)];exact decide_eq_false (by omega)
      have l7:(FloatKind.f64.format.order nr 0==some .eq)=decide (T=0):=by rw[← dL.out,q0k false (by omega)]
      have fI:Hid (rdW 3 q=fr):=by show _=_;rw[iM.out,if_pos hl0,gI.out]
      have fJ:Hid (rdW 2 q=nr):=by show _=_;rw[fV.out,dL.out]
      have dD:Hid (rdW 4 q=nr):=by show _=_;rw[gP.out,dL.out]
      have fK:Hid (∀ W,Calls Tryz.prog 39 #[.float .f64 fr,.float .f64 FT.ninf] W fun e w'=>e= .returned (.float .f64 nr)∧G W w'):=fun W=>by
       have k:=q14 fr W (by rw[hfr];exact FT.wrd_lt false _ (by omega))
       have e:q3G fr=nr:=by rw[← gI.out,q67 (V:=T) (by omega)];exact dL.out
       rw[e] at k
       exact k
      rw[← hfr] at bM cB ll ⊢
      have bM:Hid (∀ W,_):=fun W=>bM.out dX W
      have cB:Hid (∀ W v,G w W→PR W v (FQ fr)→Calls Tryz.prog 65 #[v,u] W fun e w'=>e= .returned (.int .i64 1)∧G W w'):=fun W v g h=>by have k:=cB.out dX W v g h;rw[hfr] at k;rw[hc6] at k;exact k
      obtain⟨t0,ht0⟩:∃ t0,t0=decide (T=0):=⟨_,rfl⟩
      rw[← ht0] at l7
      have qG:Hid (t0=true→nr=FT.wrd false 0):=fun h=>by rw[h] at ht0;rw[← dL.out,of_decide_eq_true ht0.symm]
      clear l8 nM ht0 hnr hfr dN hl0 dK dX hc6 hw1 hw2 hw3 fV iM gP oK dL gI
      go_wp2_with fail
      refine Calls.mono (P:=Tryz.prog) (bM.out w6) ?_
      rintro e w7 ⟨v7,rfl,g7,k7⟩
      have dW:Hid (PR w7 v7 (FQ fr)):=k7
      clear k7
      go_wp2_with fail
      refine Calls.mono (P:=Tryz.prog) (cB.out w7 v7 (by repeat' (first|exact G.refl _|assumption|refine G.alloc ?_ _|refine G.drew ?_ |refine G.drewN ?_ _|(refine G.trans ?_ (by assumption)))) dW.out) ?_
      rintro e w8 ⟨rfl,g8⟩
      go_wp2_with fail
      refine Calls.mono (P:=Tryz.prog) (vP.out w8) ?_
      rintro e w9 ⟨rfl,g9⟩
      go_wp2_with fail
      refine Calls.mono (P:=Tryz.prog) (fK.out w9) ?_
      rintro e bE ⟨rfl,g10⟩
      cases t0
      ·skip
       clear hm1
       rcases hm with rfl|rfl|rfl
       ·skip
        go_wp2_with (first|(go_at_call 19;refine(bn.out _ (by repeat' (first|exact G.refl _|assumption|refine G.alloc ?_ _|refine G.drew ?_ |refine G.drewN ?_ _|(refine G.trans ?_ (by assumption))))).mono ?_;rintro e wn ⟨rfl,hbn⟩)|(go_at_call 64;refine(bC.out _).mono ?_;rintro e wn ⟨rfl,hbn⟩))
        go_ret
        exact⟨by rw[fJ.out];first|done|rfl,(by repeat' (first|exact G.refl _|assumption|refine G.alloc ?_ _|refine G.drew ?_ |refine G.drewN ?_ _|(refine G.trans ?_ (by assumption))))⟩
       ·skip
        go_wp2_with (first|(go_at_call 19;refine(bn.out _ (by repeat' (first|exact G.refl _|assumption|refine G.alloc ?_ _|refine G.drew ?_ |refine G.drewN ?_ _|(refine G.trans ?_ (by assumption))))).mono ?_;rintro e wn ⟨rfl,hbn⟩)|(go_at_call 64;refine(bC.out _).mono ?_;rintro e wn ⟨rfl,hbn⟩))
        go_ret
        exact⟨by rw[fI.out];first|done|rfl,(by repeat' (first|exact G.refl _|assumption|refine G.alloc ?_ _|refine G.drew ?_ |refine G.drewN ?_ _|(refine G.trans ?_ (by assumption))))⟩
       ·skip
        go_wp2_with (first|(go_at_call 19;refine(bn.out _ (by repeat' (first|exact G.refl _|assumption|refine G.alloc ?_ _|refine G.drew ?_ |refine G.drewN ?_ _|(refine G.trans ?_ (by assumption))))).mono ?_;rintro e wn ⟨rfl,hbn⟩)|(go_at_call 64;refine(bC.out _).mono ?_;rintro e wn ⟨rfl,hbn⟩))
        go_ret
        exact⟨by rw[dD.out];first|done|rfl,(by repeat' (first|exact G.refl _|assumption|refine G.alloc ?_ _|refine G.drew ?_ |refine G.drewN ?_ _|(refine G.trans ?_ (by assumption))))⟩
      ·rw[qG.out rfl] at l7 fK fJ dD ⊢
       clear hm1
       rcases hm with rfl|rfl|rfl
       ·skip
        go_wp2_with (first|(go_at_call 19;refine(bn.out _ (by repeat' (first|exact G.refl _|assumption|refine G.alloc ?_ _|refine G.drew ?_ |refine G.drewN ?_ _|(refine G.trans ?_ (by assumption))))).mono ?_;rintro e wn ⟨rfl,hbn⟩)|(go_at_call 64;refine(bC.out _).mono ?_;rintro e wn ⟨rfl,hbn⟩))
        go_ret
        exact⟨by rw[fJ.out];first|done|rfl,(by repeat' (first|exact G.refl _|assumption|refine G.alloc ?_ _|refine G.drew ?_ |refine G.drewN ?_ _|(refine G.trans ?_ (by assumption))))⟩
       ·skip
        go_wp2_with (first|(go_at_call 19;refine(bn.out _ (by repeat' (first|exact G.refl _|assumption|refine G.alloc ?_ _|refine G.drew ?_ |refine G.drewN ?_ _|(refine G.trans ?_ (by assumption))))).mono ?_;rintro e wn ⟨rfl,hbn⟩)|(go_at_call 64;refine(bC.out _).mono ?_;rintro e wn ⟨rfl,hbn⟩))
        go_ret
        exact⟨by rw[fI.out];first|done|rfl,(by repeat' (first|exact G.refl _|assumption|refine G.alloc ?_ _|refine G.drew ?_ |refine G.drewN ?_ _|(refine G.trans ?_ (by assumption))))⟩
       ·skip
        go_wp2_with (first|(go_at_call 19;refine(bn.out _ (by repeat' (first|exact G.refl _|assumption|refine G.alloc ?_ _|refine G.drew ?_ |refine G.drewN ?_ _|(refine G.trans ?_ (by assumption))))).mono ?_;rintro e wn ⟨rfl,hbn⟩)|(go_at_call 64;refine(bC.out _).mono ?_;rintro e wn ⟨rfl,hbn⟩))
        go_ret
        exact⟨by rw[dD.out];first|done|rfl,(by repeat' (first|exact G.refl _|assumption|refine G.alloc ?_ _|refine G.drew ?_ |refine G.drewN ?_ _|(refine G.trans ?_ (by assumption))))⟩
 ·skip
  rw[decide_eq_false qw] at hzn
  have sQ:Hid (V≠0):=qw
  clear qw
  skip
  obtain⟨w2,qH⟩:∃ w2,w2=wb:=⟨_,rfl⟩
  rw[← qH]
  have g2:G w w2:=by rw[qH];exact G.trans ga gb
  clear ga gb qH
  clear HF
  rcases hm with rfl|hm
  ·go_wp2_with fail
   go_ret
   exact⟨by rw[xN.out];first|done|rfl,g2⟩
  ·have hm1:(m==1)=false:=by simp;omega
   clear sQ xN nL
   go_wp2_with fail
   refine Calls.mono (P:=Tryz.prog) (HI1.out w2) ?_
   rintro e w3 ⟨rfl,g3⟩
   by_cases dK:V=2047*2^52
   ·obtain⟨lo,hlo⟩:∃ lo,lo=FT.wrd false V:=⟨_,rfl⟩
    have qF:T+1=V:=by rcases hw2 with h|h<;>omega
    have hl0:l≠0:=hw3 qF.symm
    have HZ1:(FloatKind.f64.format.order 9218868437227405311 0==some .eq)=false:=by decide+kernel
    have HZ2:(FloatKind.f64.format.order lo 0==some .eq)=false:=by rw[hlo,q0k false (by omega)];exact decide_eq_false (by omega)
    have HT1:Hid (FT.wrd false T=9218868437227405311):=by show _=_;rw[show T=2047*2^52-1 from by omega];rfl
    have fI:Hid (rdW 3 q=lo):=by show _=_;rw[iM.out,if_pos hl0,qF,hlo]
    have fJ:Hid (rdW 2 q=9218868437227405311):=by show _=_;rw[fV.out,HT1.out]
    have dD:Hid (rdW 4 q=9218868437227405311):=by show _=_;rw[gP.out,HT1.out]
    rw[decide_eq_true dK]
    rw[← hlo] at HI2 ⊢
    clear hlo qF hl0 dK HT1 hw1 hw2 hw3 bM cB fK fV iM gP
    clear hm1
    rcases hm with rfl|rfl|rfl
    ·skip
     go_wp2_with (first|(go_at_call 19;refine(bn.out _ (by repeat' (first|exact G.refl _|assumption|refine G.alloc ?_ _|refine G.drew ?_ |refine G.drewN ?_ _|(refine G.trans ?_ (by assumption))))).mono ?_;rintro e wn ⟨rfl,hbn⟩)|(go_at_call 64;refine(bC.out _).mono ?_;rintro e wn ⟨rfl,hbn⟩))
     go_ret
     exact⟨by rw[fJ.out];first|done|rfl,(by repeat' (first|exact G.refl _|assumption|refine G.alloc ?_ _|refine G.drew ?_ |refine G.drewN ?_ _|(refine G.trans ?_ (by assumption))))⟩
    ·skip
     go_wp2_with (first|(go_at_call 19;refine(bn.out _ (by repeat' (first|exact G.refl _|assumption|refine G.alloc ?_ _|refine G.drew ?_ |refine G.drewN ?_ _|(refine G.trans ?_ (by assumption))))).mono ?_;rintro e wn ⟨rfl,hbn⟩)|(go_at_call 64;refine(bC.out _).mono ?_;rintro e wn ⟨rfl,hbn⟩))
     go_ret
     exact⟨by rw[fI.out];first|done|rfl,(by repeat' (first|exact G.refl _|assumption|refine G.alloc ?_ _|refine G.drew ?_ |refine G.drewN ?_ _|(refine G.trans ?_ (by assumption))))⟩
    ·skip
     go_wp2_with (first|(go_at_call 19;refine(bn.out _ (by repeat' (first|exact G.refl _|assumption|refine G.alloc ?_ _|refine G.drew ?_ |refine G.drewN ?_ _|(refine G.trans ?_ (by assumption))))).mono ?_;rintro e wn ⟨rfl,hbn⟩)|(go_at_call 64;refine(bC.out _).mono ?_;rintro e wn ⟨rfl,hbn⟩))
     go_ret
     exact⟨by rw[dD.out];first|done|rfl,(by repeat' (first|exact G.refl _|assumption|refine G.alloc ?_ _|refine G.drew ?_ |refine G.drewN ?_ _|(refine G.trans ?_ (by assumption))))⟩
   ·have dX:V<2047*2^52:=by omega
    rw[decide_eq_false dK]
    go_wp2_with fail
    refine Calls.mono (P:=Tryz.prog) (HI2.out w3) ?_
    rintro e w4 ⟨rfl,g4⟩
    go_wp2_with fail
    refine Calls.mono (P:=Tryz.prog) (bM.out dX w4) ?_
    rintro e w5 ⟨v5,rfl,g5,k5⟩
    have ll:Hid (PR w5 v5 (FQ (FT.wrd false V))):=k5
    clear k5
    go_wp2_with fail
    refine Calls.mono (P:=Tryz.prog) (cB.out dX w5 v5 (by repeat' (first|exact G.refl _|assumption|refine G.alloc ?_ _|refine G.drew ?_ |refine G.drewN ?_ _|(refine G.trans ?_ (by assumption)))) ll.out) ?_
    rintro e w6 ⟨rfl,g6⟩
    have hc6:=(oK.out dX)
    by_cases hl0:l=0
    ·have dN:V=T:=by rcases hw2 with h|h;exact h;exact absurd hl0 (hw3 h)
     rw[if_pos hl0] at hc6
     rw[hc6]
     obtain⟨lo,hlo⟩:∃ lo,lo=FT.wrd false V:=⟨_,rfl⟩
     have hT0:V≠0:=by rw[dN];exact HT0.out hl0
     have HZ1:(FloatKind.f64.format.order lo 0==some .eq)=false:=by rw[hlo,q0k false (by omega)];exact decide_eq_false hT0
     have fI:Hid (rdW 3 q=lo):=by show _=_;rw[iM.out,if_neg (by simpa using hl0),← dN,hlo]
     have fJ:Hid (rdW 2 q=lo):=by show _=_;rw[fV.out,← dN,hlo]
     have dD:Hid (rdW 4 q=lo):=by show _=_;rw[gP.out,← dN,hlo]
     rw[← hlo] at bM cB ll ⊢
     have bM:Hid (∀ W,_):=fun W=>bM.out dX W
     have cB:Hid (∀ W v,G w W→PR W v (FQ lo)→Calls Tryz.prog 65 #[v,u] W fun e w'=>e= .returned (.int .i64 0)∧G W w'):=fun W v g h=>by have k:=cB.out dX W v g h;rw[hlo] at k;rw[hc6] at k;exact k
     clear hlo dN hl0 hT0 dK dX hc6 hw1 hw2 hw3 fK fV iM gP oK
     go_wp2_with fail
     refine Calls.mono (P:=Tryz.prog) (bM.out w6) ?_
     rintro e w7 ⟨v7,rfl,g7,k7⟩
     have dW:Hid (PR w7 v7 (FQ lo)):=k7
     clear k7
     go_wp2_with fail
     refine Calls.mono (P:=Tryz.prog) (cB.out w7 v7 (by repeat' (first|exact G.refl _|assumption|refine G.alloc ?_ _|refine G.drew ?_ |refine G.drewN ?_ _|(refine G.trans ?_ (by assumption)))) dW.out) ?_
     rintro e w8 ⟨rfl,g8⟩
     clear hm1
     rcases hm with rfl|rfl|rfl
     ·skip
      go_wp2_with (first|(go_at_call 19;refine(bn.out _ (by repeat' (first|exact G.refl _|assumption|refine G.alloc ?_ _|refine G.drew ?_ |refine G.drewN ?_ _|(refine G.trans ?_ (by assumption))))).mono ?_;rintro e wn ⟨rfl,hbn⟩)|(go_at_call 64;refine(bC.out _).mono ?_;rintro e wn ⟨rfl,hbn⟩))
      go_ret
      exact⟨by rw[fJ.out];first|done|rfl,(by repeat' (first|exact G.refl _|assumption|refine G.alloc ?_ _|refine G.drew ?_ |refine G.drewN ?_ _|(refine G.trans ?_ (by assumption))))⟩
     ·skip
      go_wp2_with (first|(go_at_call 19;refine(bn.out _ (by repeat' (first|exact G.refl _|assumption|refine G.alloc ?_ _|refine G.drew ?_ |refine G.drewN ?_ _|(refine G.trans ?_ (by assumption))))).mono ?_;rintro e wn ⟨rfl,hbn⟩)|(go_at_call 64;refine(bC.out _).mono ?_;rintro e wn ⟨rfl,hbn⟩))
      go_ret
      exact⟨by rw[fI.out];first|done|rfl,(by repeat' (first|exact G.refl _|assumption|refine G.alloc ?_ _|refine G.drew ?_ |refine G.drewN ?_ _|(refine G.trans ?_ (by assumption))))⟩
     ·skip
      go_wp2_with (first|(go_at_call 19;refine(bn.out _ (by repeat' (first|exact G.refl _|assumption|refine G.alloc ?_ _|refine G.drew ?_ |refine G.drewN ?_ _|(refine G.trans ?_ (by assumption))))).mono ?_;rintro e wn ⟨rfl,hbn⟩)|(go_at_call 64;refine(bC.out _).mono ?_;rintro e wn ⟨rfl,hbn⟩))
      go_ret
      exact⟨by rw[dD.out];first|done|rfl,(by repeat' (first|exact G.refl _|assumption|refine G.alloc ?_ _|refine G.drew ?_ |refine G.drewN ?_ _|(refine G.trans ?_ (by assumption))))⟩
    ·rw[if_neg hl0] at hc6
     by_cases dN:V=T
     ·skip
      rw[if_pos dN] at hc6
      simp only[Bool.false_eq_true,if_false] at hc6
      rw[hc6]
      obtain⟨nr,hnr⟩:∃ nr,nr=FT.wrd false V:=⟨_,rfl⟩
      obtain⟨fr,hfr⟩:∃ fr,fr=FT.wrd false (T+1):=⟨_,rfl⟩
      have dL:Hid (FT.wrd false T=nr):=by show _=_;rw[hnr,dN]
      have gI:Hid (FT.wrd false (T+1)=fr):=by show _=_;rw[hfr]
      have BV:(FloatKind.f64.format.order fr 0==some .eq)=false:=by rw[← gI.out,q0k false (by omega)];exact decide_eq_false (by omega)
      have l7:(FloatKind.f64.format.order nr 0==some .eq)=decide (T=0):=by rw[← dL.out,q0k false (by omega)]
      have fI:Hid (rdW 3 q=fr):=by show _=_;rw[iM.out,if_pos hl0,gI.out]
      have fJ:Hid (rdW 2 q=nr):=by show _=_;rw[fV.out,dL.out]
      have dD:Hid (rdW 4 q=nr):=by show _=_;rw[gP.out,dL.out]
      have fK:Hid (∀ W,Calls Tryz.prog 39 #[.float .f64 nr,.float .f64 FT.infR] W fun e w'=>e= .returned (.float .f64 fr)∧G W w'):=fun W=>by
       have k:=q0W nr W (by rw[hnr];exact FT.wrd_lt false _ (by omega))
       have e:upV nr=fr:=by rw[← dL.out,q7t (V:=T) (by omega)];exact gI.out
       rw[e] at k
       exact k
      rw[← hnr] at bM cB ll ⊢
      have bM:Hid (∀ W,_):=fun W=>bM.out dX W
      have cB:Hid (∀ W v,G w W→PR W v (FQ nr)→Calls Tryz.prog 65 #[v,u] W fun e w'=>e= .returned (.int .i64 (-1))∧G W w'):=fun W v g h=>by have k:=cB.out dX W v g h;rw[hnr] at k;rw[hc6] at k;exact k
      obtain⟨t0,ht0⟩:∃ t0,t0=decide (T=0):=⟨_,rfl⟩
      rw[← ht0] at l7
      have qG:Hid (t0=true→nr=FT.wrd false 0):=fun h=>by rw[h] at ht0;rw[← dL.out,of_decide_eq_true ht0.symm]
      clear nM ht0 hnr hfr dN hl0 dK dX hc6 hw1 hw2 hw3 fV iM gP oK dL gI
      go_wp2_with fail
      refine Calls.mono (P:=Tryz.prog) (oL.out w6) ?_
      rintro e w9 ⟨rfl,g9⟩
      go_wp2_with fail
      refine Calls.mono (P:=Tryz.prog) (fK.out w9) ?_
      rintro e bE ⟨rfl,g10⟩
      cases t0
      ·skip
       clear hm1
       rcases hm with rfl|rfl|rfl
       ·skip
        go_wp2_with (first|(go_at_call 19;refine(bn.out _ (by repeat' (first|exact G.refl _|assumption|refine G.alloc ?_ _|refine G.drew ?_ |refine G.drewN ?_ _|(refine G.trans ?_ (by assumption))))).mono ?_;rintro e wn ⟨rfl,hbn⟩)|(go_at_call 64;refine(bC.out _).mono ?_;rintro e wn ⟨rfl,hbn⟩))
        go_ret
        exact⟨by rw[fJ.out];first|done|rfl,(by repeat' (first|exact G.refl _|assumption|refine G.alloc ?_ _|refine G.drew ?_ |refine G.drewN ?_ _|(refine G.trans ?_ (by assumption))))⟩
       ·skip
        go_wp2_with (first|(go_at_call 19;refine(bn.out _ (by repeat' (first|exact G.refl _|assumption|refine G.alloc ?_ _|refine G.drew ?_ |refine G.drewN ?_ _|(refine G.trans ?_ (by assumption))))).mono ?_;rintro e wn ⟨rfl,hbn⟩)|(go_at_call 64;refine(bC.out _).mono ?_;rintro e wn ⟨rfl,hbn⟩))
        go_ret
        exact⟨by rw[fI.out];first|done|rfl,(by repeat' (first|exact G.refl _|assumption|refine G.alloc ?_ _|refine G.drew ?_ |refine G.drewN ?_ _|(refine G.trans ?_ (by assumption))))⟩
       ·skip
        go_wp2_with (first|(go_at_call 19;refine(bn.out _ (by repeat' (first|exact G.refl _|assumption|refine G.alloc ?_ _|refine G.drew ?_ |refine G.drewN ?_ _|(refine G.trans ?_ (by assumption))))).mono ?_;rintro e wn ⟨rfl,hbn⟩)|(go_at_call 64;refine(bC.out _).mono ?_;rintro e wn ⟨rfl,hbn⟩))
        go_ret
        exact⟨by rw[dD.out];first|done|rfl,(by repeat' (first|exact G.refl _|assumption|refine G.alloc ?_ _|refine G.drew ?_ |refine G.drewN ?_ _|(refine G.trans ?_ (by assumption))))⟩
      ·rw[qG.out rfl] at l7 fK fJ dD ⊢
       clear hm1
       rcases hm with rfl|rfl|rfl
       ·skip
        go_wp2_with (first|(go_at_call 19;refine(bn.out _ (by repeat' (first|exact G.refl _|assumption|refine G.alloc ?_ _|refine G.drew ?_ |refine G.drewN ?_ _|(refine G.trans ?_ (by assumption))))).mono ?_;rintro e wn ⟨rfl,hbn⟩)|(go_at_call 64;refine(bC.out _).mono ?_;rintro e wn ⟨rfl,hbn⟩))
        go_ret
        exact⟨by rw[fJ.out];first|done|rfl,(by repeat' (first|exact G.refl _|assumption|refine G.alloc ?_ _|refine G.drew ?_ |refine G.drewN ?_ _|(refine G.trans ?_ (by assumption))))⟩
       ·skip
        go_wp2_with (first|(go_at_call 19;refine(bn.out _ (by repeat' (first|exact G.refl _|assumption|refine G.alloc ?_ _|refine G.drew ?_ |refine G.drewN ?_ _|(refine G.trans ?_ (by assumption))))).mono ?_;rintro e wn ⟨rfl,hbn⟩)|(go_at_call 64;refine(bC.out _).mono ?_;rintro e wn ⟨rfl,hbn⟩))
        go_ret
        exact⟨by rw[fI.out];first|done|rfl,(by repeat' (first|exact G.refl _|assumption|refine G.alloc ?_ _|refine G.drew ?_ |refine G.drewN ?_ _|(refine G.trans ?_ (by assumption))))⟩
       ·skip
        go_wp2_with (first|(go_at_call 19;refine(bn.out _ (by repeat' (first|exact G.refl _|assumption|refine G.alloc ?_ _|refine G.drew ?_ |refine G.drewN ?_ _|(refine G.trans ?_ (by assumption))))).mono ?_;rintro e wn ⟨rfl,hbn⟩)|(go_at_call 64;refine(bC.out _).mono ?_;rintro e wn ⟨rfl,hbn⟩))
        go_ret
        exact⟨by rw[dD.out];first|done|rfl,(by repeat' (first|exact G.refl _|assumption|refine G.alloc ?_ _|refine G.drew ?_ |refine G.drewN ?_ _|(refine G.trans ?_ (by assumption))))⟩
     ·skip
      rw[if_neg dN] at hc6
      simp only[Bool.false_eq_true,if_false] at hc6
      rw[hc6]
      have l8:V=T+1:=by rcases hw2 with h|h;exact absurd h dN;exact h
      obtain⟨fr,hfr⟩:∃ fr,fr=FT.wrd false V:=⟨_,rfl⟩
      obtain⟨nr,hnr⟩:∃ nr,nr=FT.wrd false T:=⟨_,rfl⟩
      have dL:Hid (FT.wrd false T=nr):=hnr.symm
      have gI:Hid (FT.wrd false (T+1)=fr):=by show _=_;rw[hfr,l8]
      have BV:(FloatKind.f64.format.order fr 0==some .eq)=false:=by rw[← gI.out,q0k false (by omega)];exact decide_eq_false (by omega)
      have l7:(FloatKind.f64.format.order nr 0==some .eq)=decide (T=0):=by rw[← dL.out,q0k false (by omega)]
      have fI:Hid (rdW 3 q=fr):=by show _=_;rw[iM.out,if_pos hl0,gI.out]
      have fJ:Hid (rdW 2 q=nr):=by show _=_;rw[fV.out,dL.out]
      have dD:Hid (rdW 4 q=nr):=by show _=_;rw[gP.out,dL.out]
      have fK:Hid (∀ W,Calls Tryz.prog 39 #[.float .f64 fr,.float .f64 FT.ninf] W fun e w'=>e= .returned (.float .f64 nr)∧G W w'):=fun W=>by
       have k:=q14 fr W (by rw[hfr];exact FT.wrd_lt false _ (by omega))
       have e:q3G fr=nr:=by rw[← gI.out,q67 (V:=T) (by omega)];exact dL.out
       rw[e] at k
       exact k
      rw[← hfr] at bM cB ll ⊢
      have bM:Hid (∀ W,_):=fun W=>bM.out dX W
      have cB:Hid (∀ W v,G w W→PR W v (FQ fr)→Calls Tryz.prog 65 #[v,u] W fun e w'=>e= .returned (.int .i64 1)∧G W w'):=fun W v g h=>by have k:=cB.out dX W v g h;rw[hfr] at k;rw[hc6] at k;exact k
      obtain⟨t0,ht0⟩:∃ t0,t0=decide (T=0):=⟨_,rfl⟩
      rw[← ht0] at l7
      have qG:Hid (t0=true→nr=FT.wrd false 0):=fun h=>by rw[h] at ht0;rw[← dL.out,of_decide_eq_true ht0.symm]
      clear l8 nM ht0 hnr hfr dN hl0 dK dX hc6 hw1 hw2 hw3 fV iM gP oK dL gI
      go_wp2_with fail
      refine Calls.mono (P:=Tryz.prog) (bM.out w6) ?_
      rintro e w7 ⟨v7,rfl,g7,k7⟩
      have dW:Hid (PR w7 v7 (FQ fr)):=k7
      clear k7
      go_wp2_with fail
      refine Calls.mono (P:=Tryz.prog) (cB.out w7 v7 (by repeat' (first|exact G.refl _|assumption|refine G.alloc ?_ _|refine G.drew ?_ |refine G.drewN ?_ _|(refine G.trans ?_ (by assumption)))) dW.out) ?_
      rintro e w8 ⟨rfl,g8⟩
      go_wp2_with fail
      refine Calls.mono (P:=Tryz.prog) (vP.out w8) ?_
      rintro e w9 ⟨rfl,g9⟩
      go_wp2_with fail
      refine Calls.mono (P:=Tryz.prog) (fK.out w9) ?_
      rintro e bE ⟨rfl,g10⟩
      cases t0
      ·skip
       clear hm1
       rcases hm with rfl|rfl|rfl
       ·skip
        go_wp2_with (first|(go_at_call 19;refine(bn.out _ (by repeat' (first|exact G.refl _|assumption|refine G.alloc ?_ _|refine G.drew ?_ |refine G.drewN ?_ _|(refine G.trans ?_ (by assumption))))).mono ?_;rintro e wn ⟨rfl,hbn⟩)|(go_at_call 64;refine(bC.out _).mono ?_;rintro e wn ⟨rfl,hbn⟩))
        go_ret
        exact⟨by rw[fJ.out];first|done|rfl,(by repeat' (first|exact G.refl _|assumption|refine G.alloc ?_ _|refine G.drew ?_ |refine G.drewN ?_ _|(refine G.trans ?_ (by assumption))))⟩
       ·skip
        go_wp2_with (first|(go_at_call 19;refine(bn.out _ (by repeat' (first|exact G.refl _|assumption|refine G.alloc ?_ _|refine G.drew ?_ |refine G.drewN ?_ _|(refine G.trans ?_ (by assumption))))).mono ?_;rintro e wn ⟨rfl,hbn⟩)|(go_at_call 64;refine(bC.out _).mono ?_;rintro e wn ⟨rfl,hbn⟩))
        go_ret
        exact⟨by rw[fI.out];first|done|rfl,(by repeat' (first|exact G.refl _|assumption|refine G.alloc ?_ _|refine G.drew ?_ |refine G.drewN ?_ _|(refine G.trans ?_ (by assumption))))⟩
       ·skip
        go_wp2_with (first|(go_at_call 19;refine(bn.out _ (by repeat' (first|exact G.refl _|assumption|refine G.alloc ?_ _|refine G.drew ?_ |refine G.drewN ?_ _|(refine G.trans ?_ (by assumption))))).mono ?_;rintro e wn ⟨rfl,hbn⟩)|(go_at_call 64;refine(bC.out _).mono ?_;rintro e wn ⟨rfl,hbn⟩))
        go_ret
        exact⟨by rw[dD.out];first|done|rfl,(by repeat' (first|exact G.refl _|assumption|refine G.alloc ?_ _|refine G.drew ?_ |refine G.drewN ?_ _|(refine G.trans ?_ (by assumption))))⟩
      ·rw[qG.out rfl] at l7 fK fJ dD ⊢
       clear hm1
       rcases hm with rfl|rfl|rfl
       ·skip
        go_wp2_with (first|(go_at_call 19;refine(bn.out _ (by repeat' (first|exact G.refl _|assumption|refine G.alloc ?_ _|refine G.drew ?_ |refine G.drewN ?_ _|(refine G.trans ?_ (by assumption))))).mono ?_;rintro e wn ⟨rfl,hbn⟩)|(go_at_call 64;refine(bC.out _).mono ?_;rintro e wn ⟨rfl,hbn⟩))
        go_ret
        exact⟨by rw[fJ.out];first|done|rfl,(by repeat' (first|exact G.refl _|assumption|refine G.alloc ?_ _|refine G.drew ?_ |refine G.drewN ?_ _|(refine G.trans ?_ (by assumption))))⟩
       ·skip
        go_wp2_with (first|(go_at_call 19;refine(bn.out _ (by repeat' (first|exact G.refl _|assumption|refine G.alloc ?_ _|refine G.drew ?_ |refine G.drewN ?_ _|(refine G.trans ?_ (by assumption))))).mono ?_;rintro e wn ⟨rfl,hbn⟩)|(go_at_call 64;refine(bC.out _).mono ?_;rintro e wn ⟨rfl,hbn⟩))
        go_ret
        exact⟨by rw[fI.out];first|done|rfl,(by repeat' (first|exact G.refl _|assumption|refine G.alloc ?_ _|refine G.drew ?_ |refine G.drewN ?_ _|(refine G.trans ?_ (by assumption))))⟩
       ·skip
        go_wp2_with (first|(go_at_call 19;refine(bn.out _ (by repeat' (first|exact G.refl _|assumption|refine G.alloc ?_ _|refine G.drew ?_ |refine G.drewN ?_ _|(refine G.trans ?_ (by assumption))))).mono ?_;rintro e wn ⟨rfl,hbn⟩)|(go_at_call 64;refine(bC.out _).mono ?_;rintro e wn ⟨rfl,hbn⟩))
        go_ret
        exact⟨by rw[dD.out];first|done|rfl,(by repeat' (first|exact G.refl _|assumption|refine G.alloc ?_ _|refine G.drew ?_ |refine G.drewN ?_ _|(refine G.trans ?_ (by assumption))))⟩
set_option maxHeartbeats 4000000 in
set_option maxRecDepth 10000 in
/-- Rounding of a fraction below 0. -/
theorem q8z (w:World) (u:Value) (q:Rat) (m:Int) (h0:q.num<0) (hq:QB q 80) (hm:m=1∨m=2∨m=3∨m=4) (hu:PR w u q):
  Calls Tryz.prog 18 #[u,.int .i64 m] w fun e w'=>e= .returned (.float .f64 (rdW m q))∧G w w':=by
 have hs:decide (q.num<0)=true:=decide_eq_true h0
 have hq0:q≠0:=by rintro rfl;exact absurd h0 (by decide)
 have hA:q.num.natAbs≠0:=by omega
 obtain⟨T,hT⟩:∃ T,T=tV q.num.natAbs q.den:=⟨_,rfl⟩
 obtain⟨l,hl⟩:∃ l,l=lV q.num.natAbs q.den:=⟨_,rfl⟩
 obtain⟨V,hV⟩:∃ V,V=rdV 1 true q.num.natAbs q.den:=⟨_,rfl⟩
 obtain⟨hw1,hw2,hw3,hw4⟩:=q53 hq0 hs.symm hT hl hV
 have oK:Hid _:=hw4
 have HT0:Hid (l=0→T≠0):=fun h e=>by
  have k:=(q1X hA q.den_nz).2.2.1 (by rw[← hl];exact h)
  rw[← hT,e,show FT.v 0=0 from by decide,Nat.zero_mul] at k
  have:=Nat.mul_pos (Nat.pos_of_ne_zero hA) (Nat.two_pow_pos 1074)
  omega
 have fV:Hid (rdW 2 q=FT.wrd true (if l≠0 then T+1 else T)):=by show _=_;unfold rdW;rw[hs,q5V,← hT,← hl];congr 1;simp
 have iM:Hid (rdW 3 q=FT.wrd true T):=by show _=_;unfold rdW;rw[hs,qbO,← hT,← hl];congr 1;simp
 have gP:Hid (rdW 4 q=FT.wrd true T):=by show _=_;unfold rdW;rw[hs,qbV,← hT]
 have xN:Hid (rdW 1 q=FT.wrd true V):=by show _=_;unfold rdW;rw[hs,hV]
 have nL:V≤2047*2^52:=by rw[hV];exact qbD 1 true hA q.den_nz
 have HF:Hid (∀ W,G w W→Calls Tryz.prog 63 #[u] W (q7z W (FT.wrd true V))):=fun W g=>by
  obtain⟨p,rfl,hp,hr⟩:=hu
  have k:=q4U W p q hq0 hq (G.lt g hp) (hr.G hp g)
  have e:nR q=FT.wrd true V:=by
   show FT.wrd (decide (q.num<0)) (rdV 1 (decide (q.num<0)) q.num.natAbs q.den)=_
   rw[hs,hV]
  rw[e] at k
  exact k
 have bn:Hid (∀ W,G w W→Calls Tryz.prog 19 #[u] W fun e w'=>e= .returned (.int .i64 (-1))∧G W w'):=fun W g=>by
  have k:=q3q W u q (hu.G g)
  rw[qbF hq0,hs] at k
  exact k
 have bC:Hid (∀ W:World,Calls Tryz.prog 64 #[.float .f64 0,.float .f64 13830554455654793216] W fun e w'=>e= .returned (.float .f64 (FT.wrd true 0))∧G W w'):=fun W=>q68 true W
 have hcv:=q8o
 have HI1:Hid (∀ W:World,Calls Tryz.prog 42 #[.float .f64 (FT.wrd true V),.int .i64 1] W fun e w'=>e= .returned (.bool false)∧G W w'):=fun W=>q63 true V W nL
 have HI2:Hid (∀ W:World,Calls Tryz.prog 42 #[.float .f64 (FT.wrd true V),.int .i64 (-1)] W fun e w'=>e= .returned (.bool (decide (V=2047*2^52)))∧G W w'):=fun W=>q6r true V W nL
 have bM:Hid (V<2047*2^52→∀ W,Calls Tryz.prog 10 #[.float .f64 (FT.wrd true V)] W (RetP W (FQ (FT.wrd true V)))):=fun h W=>by
  have hx:=(fq_v true h).2
  have h64:=FT.wrd_lt true V (by omega)
  rw[q5w h64 hx]
  exact q41 W _ h64 hx
 have cB:Hid (V<2047*2^52→∀ W v,G w W→PR W v (FQ (FT.wrd true V))→_):=fun h W v g hv=>q3k W v u _ q 80 (by omega) (qbb (fq_v true h).2) hq hv (hu.G g)
 have vP:Hid (∀ W:World,Calls Tryz.prog 66 #[.int .i64 (-1)] W fun e w'=>e= .returned (.float .f64 FT.ninf)∧G W w'):=fun W=>q9J W
 have oL:Hid (∀ W:World,Calls Tryz.prog 66 #[.int .i64 1] W fun e w'=>e= .returned (.float .f64 FT.infR)∧G W w'):=fun W=>q8Z 1 W (by omega)
 have fK:Hid True:=trivial
 have nM:True:=trivial
 have hzn:=q0k true (V:=V) (by omega)
 clear hT hl hV hs hA hq0 hw4 hq h0
 go_enter Tryz.func18,Tryz.ntmps18
 go_wp2_with fail
 refine Calls.mono (P:=Tryz.prog) (HF.out w (G.refl _)) ?_
 rintro e wa ⟨xx,rfl,ga⟩
 go_wp2_with fail
 refine Calls.mono (P:=Tryz.prog) (bn.out wa ga) ?_
 rintro e wb ⟨rfl,gb⟩
 by_cases qw:V=0
 ·skip
  rw[decide_eq_true qw] at hzn
  have sQ:Hid (V=0):=qw
  clear qw
  go_wp2_with fail
  refine Calls.mono (P:=Tryz.prog) (bn.out wb (by repeat' (first|exact G.refl _|assumption|refine G.alloc ?_ _|refine G.drew ?_ |refine G.drewN ?_ _|(refine G.trans ?_ (by assumption))))) ?_
  rintro e wc ⟨rfl,gc⟩
  go_wp2_with fail
  have vU:Hid (∀ W:World,Calls Tryz.prog 64 #[.float .f64 0,.float .f64 13830554455654793216] W fun e w'=>e= .returned (.float .f64 (FT.wrd true V))∧G W w'):=fun W=>by rw[sQ.out];exact bC.out W
  refine Calls.mono (P:=Tryz.prog) (vU.out wc) ?_
  rintro e w2 ⟨rfl,gd⟩
  have g2:G w w2:=(by repeat' (first|exact G.refl _|assumption|refine G.alloc ?_ _|refine G.drew ?_ |refine G.drewN ?_ _|(refine G.trans ?_ (by assumption))))
  clear ga gb gc gd vU
  clear HF
  rcases hm with rfl|hm
  ·go_wp2_with fail
   go_ret
   exact⟨by rw[xN.out];first|done|rfl,g2⟩
  ·have hm1:(m==1)=false:=by simp;omega
   clear hzn sQ xN nL
   go_wp2_with fail
   refine Calls.mono (P:=Tryz.prog) (HI1.out w2) ?_
   rintro e w3 ⟨rfl,g3⟩
   by_cases dK:V=2047*2^52
   ·obtain⟨lo,hlo⟩:∃ lo,lo=FT.wrd true V:=⟨_,rfl⟩
    have qF:T+1=V:=by rcases hw2 with h|h<;>omega
    have hl0:l≠0:=hw3 qF.symm
    have HZ1:(FloatKind.f64.format.order 18442240474082181119 0==some .eq)=false:=by decide+kernel
    have HZ2:(FloatKind.f64.format.order lo 0==some .eq)=false:=by rw[hlo,q0k true (by omega)];exact decide_eq_false (by omega)
    have HT1:Hid (FT.wrd true T=18442240474082181119):=by show _=_;rw[show T=2047*2^52-1 from by omega];rfl
    have fJ:Hid (rdW 2 q=lo):=by show _=_;rw[fV.out,if_pos hl0,qF,hlo]
    have fI:Hid (rdW 3 q=18442240474082181119):=by show _=_;rw[iM.out,HT1.out]
    have dD:Hid (rdW 4 q=18442240474082181119):=by show _=_;rw[gP.out,HT1.out]
    rw[decide_eq_true dK] at HI2
    rw[← hlo] at HI2 ⊢
    clear hlo qF hl0 dK HT1 hw1 hw2 hw3 bM cB fK fV iM gP
    go_wp2_with fail
    refine Calls.mono (P:=Tryz.prog) (HI2.out w3) ?_
    rintro e w4 ⟨rfl,g4⟩
    clear hm1
    rcases hm with rfl|rfl|rfl
    ·skip
     go_wp2_with (first|(go_at_call 19;refine(bn.out _ (by repeat' (first|exact G.refl _|assumption|refine G.alloc ?_ _|refine G.drew ?_ |refine G.drewN ?_ _|(refine G.trans ?_ (by assumption))))).mono ?_;rintro e wn ⟨rfl,hbn⟩)|(go_at_call 64;refine(bC.out _).mono ?_;rintro e wn ⟨rfl,hbn⟩))
     go_ret
     exact⟨by rw[fJ.out];first|done|rfl,(by repeat' (first|exact G.refl _|assumption|refine G.alloc ?_ _|refine G.drew ?_ |refine G.drewN ?_ _|(refine G.trans ?_ (by assumption))))⟩
    ·skip
     go_wp2_with (first|(go_at_call 19;refine(bn.out _ (by repeat' (first|exact G.refl _|assumption|refine G.alloc ?_ _|refine G.drew ?_ |refine G.drewN ?_ _|(refine G.trans ?_ (by assumption))))).mono ?_;rintro e wn ⟨rfl,hbn⟩)|(go_at_call 64;refine(bC.out _).mono ?_;rintro e wn ⟨rfl,hbn⟩))
     go_ret
     exact⟨by rw[fI.out];first|done|rfl,(by repeat' (first|exact G.refl _|assumption|refine G.alloc ?_ _|refine G.drew ?_ |refine G.drewN ?_ _|(refine G.trans ?_ (by assumption))))⟩
    ·skip
     go_wp2_with (first|(go_at_call 19;refine(bn.out _ (by repeat' (first|exact G.refl _|assumption|refine G.alloc ?_ _|refine G.drew ?_ |refine G.drewN ?_ _|(refine G.trans ?_ (by assumption))))).mono ?_;rintro e wn ⟨rfl,hbn⟩)|(go_at_call 64;refine(bC.out _).mono ?_;rintro e wn ⟨rfl,hbn⟩))
     go_ret
     exact⟨by rw[dD.out];first|done|rfl,(by repeat' (first|exact G.refl _|assumption|refine G.alloc ?_ _|refine G.drew ?_ |refine G.drewN ?_ _|(refine G.trans ?_ (by assumption))))⟩
   ·have dX:V<2047*2^52:=by omega
    rw[decide_eq_false dK] at HI2
    go_wp2_with fail
    refine Calls.mono (P:=Tryz.prog) (HI2.out w3) ?_
    rintro e w4 ⟨rfl,g4⟩
    go_wp2_with fail
    refine Calls.mono (P:=Tryz.prog) (bM.out dX w4) ?_
    rintro e w5 ⟨v5,rfl,g5,k5⟩
    have ll:Hid (PR w5 v5 (FQ (FT.wrd true V))):=k5
    clear k5
    go_wp2_with fail
    refine Calls.mono (P:=Tryz.prog) (cB.out dX w5 v5 (by repeat' (first|exact G.refl _|assumption|refine G.alloc ?_ _|refine G.drew ?_ |refine G.drewN ?_ _|(refine G.trans ?_ (by assumption)))) ll.out) ?_
    rintro e w6 ⟨rfl,g6⟩
    have hc6:=(oK.out dX)
    by_cases hl0:l=0
    ·have dN:V=T:=by rcases hw2 with h|h;exact h;exact absurd hl0 (hw3 h)
     rw[if_pos hl0] at hc6
     rw[hc6]
     obtain⟨lo,hlo⟩:∃ lo,lo=FT.wrd true V:=⟨_,rfl⟩
     have hT0:V≠0:=by rw[dN];exact HT0.out hl0
     have HZ1:(FloatKind.f64.format.order lo 0==some .eq)=false:=by rw[hlo,q0k true (by omega)];exact decide_eq_false hT0
     have fJ:Hid (rdW 2 q=lo):=by show _=_;rw[fV.out,if_neg (by simpa using hl0),← dN,hlo]
     have fI:Hid (rdW 3 q=lo):=by show _=_;rw[iM.out,← dN,hlo]
     have dD:Hid (rdW 4 q=lo):=by show _=_;rw[gP.out,← dN,hlo]
     rw[← hlo] at bM cB ll ⊢
     have bM:Hid (∀ W,_):=fun W=>bM.out dX W
     have cB:Hid (∀ W v,G w W→PR W v (FQ lo)→Calls Tryz.prog 65 #[v,u] W fun e w'=>e= .returned (.int .i64 0)∧G W w'):=fun W v g h=>by have k:=cB.out dX W v g h;rw[hlo] at k;rw[hc6] at k;exact k
     clear hlo dN hl0 hT0 dK dX hc6 hw1 hw2 hw3 fK fV iM gP oK
     go_wp2_with fail
     refine Calls.mono (P:=Tryz.prog) (bM.out w6) ?_
     rintro e w7 ⟨v7,rfl,g7,k7⟩
     have dW:Hid (PR w7 v7 (FQ lo)):=k7
     clear k7
     go_wp2_with fail
     refine Calls.mono (P:=Tryz.prog) (cB.out w7 v7 (by repeat' (first|exact G.refl _|assumption|refine G.alloc ?_ _|refine G.drew ?_ |refine G.drewN ?_ _|(refine G.trans ?_ (by assumption)))) dW.out) ?_
     rintro e w8 ⟨rfl,g8⟩
     clear hm1
     rcases hm with rfl|rfl|rfl
     ·skip
      go_wp2_with (first|(go_at_call 19;refine(bn.out _ (by repeat' (first|exact G.refl _|assumption|refine G.alloc ?_ _|refine G.drew ?_ |refine G.drewN ?_ _|(refine G.trans ?_ (by assumption))))).mono ?_;rintro e wn ⟨rfl,hbn⟩)|(go_at_call 64;refine(bC.out _).mono ?_;rintro e wn ⟨rfl,hbn⟩))
      go_ret
      exact⟨by rw[fJ.out];first|done|rfl,(by repeat' (first|exact G.refl _|assumption|refine G.alloc ?_ _|refine G.drew ?_ |refine G.drewN ?_ _|(refine G.trans ?_ (by assumption))))⟩
     ·skip
      go_wp2_with (first|(go_at_call 19;refine(bn.out _ (by repeat' (first|exact G.refl _|assumption|refine G.alloc ?_ _|refine G.drew ?_ |refine G.drewN ?_ _|(refine G.trans ?_ (by assumption))))).mono ?_;rintro e wn ⟨rfl,hbn⟩)|(go_at_call 64;refine(bC.out _).mono ?_;rintro e wn ⟨rfl,hbn⟩))
      go_ret
      exact⟨by rw[fI.out];first|done|rfl,(by repeat' (first|exact G.refl _|assumption|refine G.alloc ?_ _|refine G.drew ?_ |refine G.drewN ?_ _|(refine G.trans ?_ (by assumption))))⟩
     ·skip
      go_wp2_with (first|(go_at_call 19;refine(bn.out _ (by repeat' (first|exact G.refl _|assumption|refine G.alloc ?_ _|refine G.drew ?_ |refine G.drewN ?_ _|(refine G.trans ?_ (by assumption))))).mono ?_;rintro e wn ⟨rfl,hbn⟩)|(go_at_call 64;refine(bC.out _).mono ?_;rintro e wn ⟨rfl,hbn⟩))
      go_ret
      exact⟨by rw[dD.out];first|done|rfl,(by repeat' (first|exact G.refl _|assumption|refine G.alloc ?_ _|refine G.drew ?_ |refine G.drewN ?_ _|(refine G.trans ?_ (by assumption))))⟩
    ·rw[if_neg hl0] at hc6
     by_cases dN:V=T
     ·skip
      rw[if_pos dN] at hc6
      simp only[if_true] at hc6
      rw[hc6]
      obtain⟨nr,hnr⟩:∃ nr,nr=FT.wrd true V:=⟨_,rfl⟩
      obtain⟨fr,hfr⟩:∃ fr,fr=FT.wrd true (T+1):=⟨_,rfl⟩
      have dL:Hid (FT.wrd true T=nr):=by show _=_;rw[hnr,dN]
      have gI:Hid (FT.wrd true (T+1)=fr):=by show _=_;rw[hfr]
      have BV:(FloatKind.f64.format.order fr 0==some .eq)=false:=by rw[← gI.out,q0k true (by omega)];exact decide_eq_false (by omega)
      have l7:(FloatKind.f64.format.order nr 0==some .eq)=decide (T=0):=by rw[← dL.out,q0k true (by omega)]
      have fJ:Hid (rdW 2 q=fr):=by show _=_;rw[fV.out,if_pos hl0,gI.out]
      have fI:Hid (rdW 3 q=nr):=by show _=_;rw[iM.out,dL.out]
      have dD:Hid (rdW 4 q=nr):=by show _=_;rw[gP.out,dL.out]
      have fK:Hid (∀ W,Calls Tryz.prog 39 #[.float .f64 nr,.float .f64 FT.ninf] W fun e w'=>e= .returned (.float .f64 fr)∧G W w'):=fun W=>by
       have k:=q14 nr W (by rw[hnr];exact FT.wrd_lt true _ (by omega))
       have e:q3G nr=fr:=by rw[← dL.out,q6q (V:=T) (by omega)];exact gI.out
       rw[e] at k
       exact k
      rw[← hnr] at bM cB ll ⊢
      have bM:Hid (∀ W,_):=fun W=>bM.out dX W
      have cB:Hid (∀ W v,G w W→PR W v (FQ nr)→Calls Tryz.prog 65 #[v,u] W fun e w'=>e= .returned (.int .i64 1)∧G W w'):=fun W v g h=>by have k:=cB.out dX W v g h;rw[hnr] at k;rw[hc6] at k;exact k
      obtain⟨t0,ht0⟩:∃ t0,t0=decide (T=0):=⟨_,rfl⟩
      rw[← ht0] at l7
      have qG:Hid (t0=true→nr=FT.wrd true 0):=fun h=>by rw[h] at ht0;rw[← dL.out,of_decide_eq_true ht0.symm]
      clear nM ht0 hnr hfr dN hl0 dK dX hc6 hw1 hw2 hw3 fV iM gP oK dL gI
      go_wp2_with fail
      refine Calls.mono (P:=Tryz.prog) (bM.out w6) ?_
      rintro e w7 ⟨v7,rfl,g7,k7⟩
      have dW:Hid (PR w7 v7 (FQ nr)):=k7
      clear k7
      go_wp2_with fail
      refine Calls.mono (P:=Tryz.prog) (cB.out w7 v7 (by repeat' (first|exact G.refl _|assumption|refine G.alloc ?_ _|refine G.drew ?_ |refine G.drewN ?_ _|(refine G.trans ?_ (by assumption)))) dW.out) ?_
      rintro e w8 ⟨rfl,g8⟩
      go_wp2_with fail
      refine Calls.mono (P:=Tryz.prog) (vP.out w8) ?_
      rintro e w9 ⟨rfl,g9⟩
      go_wp2_with fail
      refine Calls.mono (P:=Tryz.prog) (fK.out w9) ?_
      rintro e bE ⟨rfl,g10⟩
      cases t0
      ·skip
       clear hm1
       rcases hm with rfl|rfl|rfl
       ·skip
        go_wp2_with (first|(go_at_call 19;refine(bn.out _ (by repeat' (first|exact G.refl _|assumption|refine G.alloc ?_ _|refine G.drew ?_ |refine G.drewN ?_ _|(refine G.trans ?_ (by assumption))))).mono ?_;rintro e wn ⟨rfl,hbn⟩)|(go_at_call 64;refine(bC.out _).mono ?_;rintro e wn ⟨rfl,hbn⟩))
        go_ret
        exact⟨by rw[fJ.out];first|done|rfl,(by repeat' (first|exact G.refl _|assumption|refine G.alloc ?_ _|refine G.drew ?_ |refine G.drewN ?_ _|(refine G.trans ?_ (by assumption))))⟩
       ·skip
        go_wp2_with (first|(go_at_call 19;refine(bn.out _ (by repeat' (first|exact G.refl _|assumption|refine G.alloc ?_ _|refine G.drew ?_ |refine G.drewN ?_ _|(refine G.trans ?_ (by assumption))))).mono ?_;rintro e wn ⟨rfl,hbn⟩)|(go_at_call 64;refine(bC.out _).mono ?_;rintro e wn ⟨rfl,hbn⟩))
        go_ret
        exact⟨by rw[fI.out];first|done|rfl,(by repeat' (first|exact G.refl _|assumption|refine G.alloc ?_ _|refine G.drew ?_ |refine G.drewN ?_ _|(refine G.trans ?_ (by assumption))))⟩
       ·skip
        go_wp2_with (first|(go_at_call 19;refine(bn.out _ (by repeat' (first|exact G.refl _|assumption|refine G.alloc ?_ _|refine G.drew ?_ |refine G.drewN ?_ _|(refine G.trans ?_ (by assumption))))).mono ?_;rintro e wn ⟨rfl,hbn⟩)|(go_at_call 64;refine(bC.out _).mono ?_;rintro e wn ⟨rfl,hbn⟩))
        go_ret
        exact⟨by rw[dD.out];first|done|rfl,(by repeat' (first|exact G.refl _|assumption|refine G.alloc ?_ _|refine G.drew ?_ |refine G.drewN ?_ _|(refine G.trans ?_ (by assumption))))⟩
      ·rw[qG.out rfl] at l7 fK fI dD ⊢
       clear hm1
       rcases hm with rfl|rfl|rfl
       ·skip
        go_wp2_with (first|(go_at_call 19;refine(bn.out _ (by repeat' (first|exact G.refl _|assumption|refine G.alloc ?_ _|refine G.drew ?_ |refine G.drewN ?_ _|(refine G.trans ?_ (by assumption))))).mono ?_;rintro e wn ⟨rfl,hbn⟩)|(go_at_call 64;refine(bC.out _).mono ?_;rintro e wn ⟨rfl,hbn⟩))
        go_ret
        exact⟨by rw[fJ.out];first|done|rfl,(by repeat' (first|exact G.refl _|assumption|refine G.alloc ?_ _|refine G.drew ?_ |refine G.drewN ?_ _|(refine G.trans ?_ (by assumption))))⟩
       ·skip
        go_wp2_with (first|(go_at_call 19;refine(bn.out _ (by repeat' (first|exact G.refl _|assumption|refine G.alloc ?_ _|refine G.drew ?_ |refine G.drewN ?_ _|(refine G.trans ?_ (by assumption))))).mono ?_;rintro e wn ⟨rfl,hbn⟩)|(go_at_call 64;refine(bC.out _).mono ?_;rintro e wn ⟨rfl,hbn⟩))
        go_ret
        exact⟨by rw[fI.out];first|done|rfl,(by repeat' (first|exact G.refl _|assumption|refine G.alloc ?_ _|refine G.drew ?_ |refine G.drewN ?_ _|(refine G.trans ?_ (by assumption))))⟩
       ·skip
        go_wp2_with (first|(go_at_call 19;refine(bn.out _ (by repeat' (first|exact G.refl _|assumption|refine G.alloc ?_ _|refine G.drew ?_ |refine G.drewN ?_ _|(refine G.trans ?_ (by assumption))))).mono ?_;rintro e wn ⟨rfl,hbn⟩)|(go_at_call 64;refine(bC.out _).mono ?_;rintro e wn ⟨rfl,hbn⟩))
        go_ret
        exact⟨by rw[dD.out];first|done|rfl,(by repeat' (first|exact G.refl _|assumption|refine G.alloc ?_ _|refine G.drew ?_ |refine G.drewN ?_ _|(refine G.trans ?_ (by assumption))))⟩
     ·skip
      rw[if_neg dN] at hc6
      simp only[if_true] at hc6
      rw[hc6]
      have l8:V=T+1:=by rcases hw2 with h|h;exact absurd h dN;exact h
      obtain⟨fr,hfr⟩:∃ fr,fr=FT.wrd true V:=⟨_,rfl⟩
      obtain⟨nr,hnr⟩:∃ nr,nr=FT.wrd true T:=⟨_,rfl⟩
      have dL:Hid (FT.wrd true T=nr):=hnr.symm
      have gI:Hid (FT.wrd true (T+1)=fr):=by show _=_;rw[hfr,l8]
      have BV:(FloatKind.f64.format.order fr 0==some .eq)=false:=by rw[← gI.out,q0k true (by omega)];exact decide_eq_false (by omega)
      have l7:(FloatKind.f64.format.order nr 0==some .eq)=decide (T=0):=by rw[← dL.out,q0k true (by omega)]
      have fJ:Hid (rdW 2 q=fr):=by show _=_;rw[fV.out,if_pos hl0,gI.out]
      have fI:Hid (rdW 3 q=nr):=by show _=_;rw[iM.out,dL.out]
      have dD:Hid (rdW 4 q=nr):=by show _=_;rw[gP.out,dL.out]
      have fK:Hid (∀ W,Calls Tryz.prog 39 #[.float .f64 fr,.float .f64 FT.infR] W fun e w'=>e= .returned (.float .f64 nr)∧G W w'):=fun W=>by
       have k:=q0W fr W (by rw[hfr];exact FT.wrd_lt true _ (by omega))
       have e:upV fr=nr:=by rw[← gI.out,q9D (V:=T) (by omega)];exact dL.out
       rw[e] at k
       exact k
      rw[← hfr] at bM cB ll ⊢
      have bM:Hid (∀ W,_):=fun W=>bM.out dX W
      have cB:Hid (∀ W v,G w W→PR W v (FQ fr)→Calls Tryz.prog 65 #[v,u] W fun e w'=>e= .returned (.int .i64 (-1))∧G W w'):=fun W v g h=>by have k:=cB.out dX W v g h;rw[hfr] at k;rw[hc6] at k;exact k
      obtain⟨t0,ht0⟩:∃ t0,t0=decide (T=0):=⟨_,rfl⟩
      rw[← ht0] at l7
      have qG:Hid (t0=true→nr=FT.wrd true 0):=fun h=>by rw[h] at ht0;rw[← dL.out,of_decide_eq_true ht0.symm]
      clear l8 nM ht0 hnr hfr dN hl0 dK dX hc6 hw1 hw2 hw3 fV iM gP oK dL gI
      go_wp2_with fail
      refine Calls.mono (P:=Tryz.prog) (oL.out w6) ?_
      rintro e w9 ⟨rfl,g9⟩
      go_wp2_with fail
      refine Calls.mono (P:=Tryz.prog) (fK.out w9) ?_
      rintro e bE ⟨rfl,g10⟩
      cases t0
      ·skip
       clear hm1
       rcases hm with rfl|rfl|rfl
       ·skip
        go_wp2_with (first|(go_at_call 19;refine(bn.out _ (by repeat' (first|exact G.refl _|assumption|refine G.alloc ?_ _|refine G.drew ?_ |refine G.drewN ?_ _|(refine G.trans ?_ (by assumption))))).mono ?_;rintro e wn ⟨rfl,hbn⟩)|(go_at_call 64;refine(bC.out _).mono ?_;rintro e wn ⟨rfl,hbn⟩))
        go_ret
        exact⟨by rw[fJ.out];first|done|rfl,(by repeat' (first|exact G.refl _|assumption|refine G.alloc ?_ _|refine G.drew ?_ |refine G.drewN ?_ _|(refine G.trans ?_ (by assumption))))⟩
       ·skip
        go_wp2_with (first|(go_at_call 19;refine(bn.out _ (by repeat' (first|exact G.refl _|assumption|refine G.alloc ?_ _|refine G.drew ?_ |refine G.drewN ?_ _|(refine G.trans ?_ (by assumption))))).mono ?_;rintro e wn ⟨rfl,hbn⟩)|(go_at_call 64;refine(bC.out _).mono ?_;rintro e wn ⟨rfl,hbn⟩))
        go_ret
        exact⟨by rw[fI.out];first|done|rfl,(by repeat' (first|exact G.refl _|assumption|refine G.alloc ?_ _|refine G.drew ?_ |refine G.drewN ?_ _|(refine G.trans ?_ (by assumption))))⟩
       ·skip
        go_wp2_with (first|(go_at_call 19;refine(bn.out _ (by repeat' (first|exact G.refl _|assumption|refine G.alloc ?_ _|refine G.drew ?_ |refine G.drewN ?_ _|(refine G.trans ?_ (by assumption))))).mono ?_;rintro e wn ⟨rfl,hbn⟩)|(go_at_call 64;refine(bC.out _).mono ?_;rintro e wn ⟨rfl,hbn⟩))
        go_ret
        exact⟨by rw[dD.out];first|done|rfl,(by repeat' (first|exact G.refl _|assumption|refine G.alloc ?_ _|refine G.drew ?_ |refine G.drewN ?_ _|(refine G.trans ?_ (by assumption))))⟩
      ·rw[qG.out rfl] at l7 fK fI dD ⊢
       clear hm1
       rcases hm with rfl|rfl|rfl
       ·skip
        go_wp2_with (first|(go_at_call 19;refine(bn.out _ (by repeat' (first|exact G.refl _|assumption|refine G.alloc ?_ _|refine G.drew ?_ |refine G.drewN ?_ _|(refine G.trans ?_ (by assumption))))).mono ?_;rintro e wn ⟨rfl,hbn⟩)|(go_at_call 64;refine(bC.out _).mono ?_;rintro e wn ⟨rfl,hbn⟩))
        go_ret
        exact⟨by rw[fJ.out];first|done|rfl,(by repeat' (first|exact G.refl _|assumption|refine G.alloc ?_ _|refine G.drew ?_ |refine G.drewN ?_ _|(refine G.trans ?_ (by assumption))))⟩
       ·skip
        go_wp2_with (first|(go_at_call 19;refine(bn.out _ (by repeat' (first|exact G.refl _|assumption|refine G.alloc ?_ _|refine G.drew ?_ |refine G.drewN ?_ _|(refine G.trans ?_ (by assumption))))).mono ?_;rintro e wn ⟨rfl,hbn⟩)|(go_at_call 64;refine(bC.out _).mono ?_;rintro e wn ⟨rfl,hbn⟩))
        go_ret
        exact⟨by rw[fI.out];first|done|rfl,(by repeat' (first|exact G.refl _|assumption|refine G.alloc ?_ _|refine G.drew ?_ |refine G.drewN ?_ _|(refine G.trans ?_ (by assumption))))⟩
       ·skip
        go_wp2_with (first|(go_at_call 19;refine(bn.out _ (by repeat' (first|exact G.refl _|assumption|refine G.alloc ?_ _|refine G.drew ?_ |refine G.drewN ?_ _|(refine G.trans ?_ (by assumption))))).mono ?_;rintro e wn ⟨rfl,hbn⟩)|(go_at_call 64;refine(bC.out _).mono ?_;rintro e wn ⟨rfl,hbn⟩))
        go_ret
        exact⟨by rw[dD.out];first|done|rfl,(by repeat' (first|exact G.refl _|assumption|refine G.alloc ?_ _|refine G.drew ?_ |refine G.drewN ?_ _|(refine G.trans ?_ (by assumption))))⟩
 ·skip
  rw[decide_eq_false qw] at hzn
  have sQ:Hid (V≠0):=qw
  clear qw
  skip
  obtain⟨w2,qH⟩:∃ w2,w2=wb:=⟨_,rfl⟩
  rw[← qH]
  have g2:G w w2:=by rw[qH];exact G.trans ga gb
  clear ga gb qH
  clear HF
  rcases hm with rfl|hm
  ·go_wp2_with fail
   go_ret
   exact⟨by rw[xN.out];first|done|rfl,g2⟩
  ·have hm1:(m==1)=false:=by simp;omega
   clear sQ xN nL
   go_wp2_with fail
   refine Calls.mono (P:=Tryz.prog) (HI1.out w2) ?_
   rintro e w3 ⟨rfl,g3⟩
   by_cases dK:V=2047*2^52
   ·obtain⟨lo,hlo⟩:∃ lo,lo=FT.wrd true V:=⟨_,rfl⟩
    have qF:T+1=V:=by rcases hw2 with h|h<;>omega
    have hl0:l≠0:=hw3 qF.symm
    have HZ1:(FloatKind.f64.format.order 18442240474082181119 0==some .eq)=false:=by decide+kernel
    have HZ2:(FloatKind.f64.format.order lo 0==some .eq)=false:=by rw[hlo,q0k true (by omega)];exact decide_eq_false (by omega)
    have HT1:Hid (FT.wrd true T=18442240474082181119):=by show _=_;rw[show T=2047*2^52-1 from by omega];rfl
    have fJ:Hid (rdW 2 q=lo):=by show _=_;rw[fV.out,if_pos hl0,qF,hlo]
    have fI:Hid (rdW 3 q=18442240474082181119):=by show _=_;rw[iM.out,HT1.out]
    have dD:Hid (rdW 4 q=18442240474082181119):=by show _=_;rw[gP.out,HT1.out]
    rw[decide_eq_true dK] at HI2
    rw[← hlo] at HI2 ⊢
    clear hlo qF hl0 dK HT1 hw1 hw2 hw3 bM cB fK fV iM gP
    go_wp2_with fail
    refine Calls.mono (P:=Tryz.prog) (HI2.out w3) ?_
    rintro e w4 ⟨rfl,g4⟩
    clear hm1
    rcases hm with rfl|rfl|rfl
    ·skip
     go_wp2_with (first|(go_at_call 19;refine(bn.out _ (by repeat' (first|exact G.refl _|assumption|refine G.alloc ?_ _|refine G.drew ?_ |refine G.drewN ?_ _|(refine G.trans ?_ (by assumption))))).mono ?_;rintro e wn ⟨rfl,hbn⟩)|(go_at_call 64;refine(bC.out _).mono ?_;rintro e wn ⟨rfl,hbn⟩))
     go_ret
     exact⟨by rw[fJ.out];first|done|rfl,(by repeat' (first|exact G.refl _|assumption|refine G.alloc ?_ _|refine G.drew ?_ |refine G.drewN ?_ _|(refine G.trans ?_ (by assumption))))⟩
    ·skip
     go_wp2_with (first|(go_at_call 19;refine(bn.out _ (by repeat' (first|exact G.refl _|assumption|refine G.alloc ?_ _|refine G.drew ?_ |refine G.drewN ?_ _|(refine G.trans ?_ (by assumption))))).mono ?_;rintro e wn ⟨rfl,hbn⟩)|(go_at_call 64;refine(bC.out _).mono ?_;rintro e wn ⟨rfl,hbn⟩))
     go_ret
     exact⟨by rw[fI.out];first|done|rfl,(by repeat' (first|exact G.refl _|assumption|refine G.alloc ?_ _|refine G.drew ?_ |refine G.drewN ?_ _|(refine G.trans ?_ (by assumption))))⟩
    ·skip
     go_wp2_with (first|(go_at_call 19;refine(bn.out _ (by repeat' (first|exact G.refl _|assumption|refine G.alloc ?_ _|refine G.drew ?_ |refine G.drewN ?_ _|(refine G.trans ?_ (by assumption))))).mono ?_;rintro e wn ⟨rfl,hbn⟩)|(go_at_call 64;refine(bC.out _).mono ?_;rintro e wn ⟨rfl,hbn⟩))
     go_ret
     exact⟨by rw[dD.out];first|done|rfl,(by repeat' (first|exact G.refl _|assumption|refine G.alloc ?_ _|refine G.drew ?_ |refine G.drewN ?_ _|(refine G.trans ?_ (by assumption))))⟩
   ·have dX:V<2047*2^52:=by omega
    rw[decide_eq_false dK] at HI2
    go_wp2_with fail
    refine Calls.mono (P:=Tryz.prog) (HI2.out w3) ?_
    rintro e w4 ⟨rfl,g4⟩
    go_wp2_with fail
    refine Calls.mono (P:=Tryz.prog) (bM.out dX w4) ?_
    rintro e w5 ⟨v5,rfl,g5,k5⟩
    have ll:Hid (PR w5 v5 (FQ (FT.wrd true V))):=k5
    clear k5
    go_wp2_with fail
    refine Calls.mono (P:=Tryz.prog) (cB.out dX w5 v5 (by repeat' (first|exact G.refl _|assumption|refine G.alloc ?_ _|refine G.drew ?_ |refine G.drewN ?_ _|(refine G.trans ?_ (by assumption)))) ll.out) ?_
    rintro e w6 ⟨rfl,g6⟩
    have hc6:=(oK.out dX)
    by_cases hl0:l=0
    ·have dN:V=T:=by rcases hw2 with h|h;exact h;exact absurd hl0 (hw3 h)
     rw[if_pos hl0] at hc6
     rw[hc6]
     obtain⟨lo,hlo⟩:∃ lo,lo=FT.wrd true V:=⟨_,rfl⟩
     have hT0:V≠0:=by rw[dN];exact HT0.out hl0
     have HZ1:(FloatKind.f64.format.order lo 0==some .eq)=false:=by rw[hlo,q0k true (by omega)];exact decide_eq_false hT0
     have fJ:Hid (rdW 2 q=lo):=by show _=_;rw[fV.out,if_neg (by simpa using hl0),← dN,hlo]
     have fI:Hid (rdW 3 q=lo):=by show _=_;rw[iM.out,← dN,hlo]
     have dD:Hid (rdW 4 q=lo):=by show _=_;rw[gP.out,← dN,hlo]
     rw[← hlo] at bM cB ll ⊢
     have bM:Hid (∀ W,_):=fun W=>bM.out dX W
     have cB:Hid (∀ W v,G w W→PR W v (FQ lo)→Calls Tryz.prog 65 #[v,u] W fun e w'=>e= .returned (.int .i64 0)∧G W w'):=fun W v g h=>by have k:=cB.out dX W v g h;rw[hlo] at k;rw[hc6] at k;exact k
     clear hlo dN hl0 hT0 dK dX hc6 hw1 hw2 hw3 fK fV iM gP oK
     go_wp2_with fail
     refine Calls.mono (P:=Tryz.prog) (bM.out w6) ?_
     rintro e w7 ⟨v7,rfl,g7,k7⟩
     have dW:Hid (PR w7 v7 (FQ lo)):=k7
     clear k7
     go_wp2_with fail
     refine Calls.mono (P:=Tryz.prog) (cB.out w7 v7 (by repeat' (first|exact G.refl _|assumption|refine G.alloc ?_ _|refine G.drew ?_ |refine G.drewN ?_ _|(refine G.trans ?_ (by assumption)))) dW.out) ?_
     rintro e w8 ⟨rfl,g8⟩
     clear hm1
     rcases hm with rfl|rfl|rfl
     ·skip
      go_wp2_with (first|(go_at_call 19;refine(bn.out _ (by repeat' (first|exact G.refl _|assumption|refine G.alloc ?_ _|refine G.drew ?_ |refine G.drewN ?_ _|(refine G.trans ?_ (by assumption))))).mono ?_;rintro e wn ⟨rfl,hbn⟩)|(go_at_call 64;refine(bC.out _).mono ?_;rintro e wn ⟨rfl,hbn⟩))
      go_ret
      exact⟨by rw[fJ.out];first|done|rfl,(by repeat' (first|exact G.refl _|assumption|refine G.alloc ?_ _|refine G.drew ?_ |refine G.drewN ?_ _|(refine G.trans ?_ (by assumption))))⟩
     ·skip
      go_wp2_with (first|(go_at_call 19;refine(bn.out _ (by repeat' (first|exact G.refl _|assumption|refine G.alloc ?_ _|refine G.drew ?_ |refine G.drewN ?_ _|(refine G.trans ?_ (by assumption))))).mono ?_;rintro e wn ⟨rfl,hbn⟩)|(go_at_call 64;refine(bC.out _).mono ?_;rintro e wn ⟨rfl,hbn⟩))
      go_ret
      exact⟨by rw[fI.out];first|done|rfl,(by repeat' (first|exact G.refl _|assumption|refine G.alloc ?_ _|refine G.drew ?_ |refine G.drewN ?_ _|(refine G.trans ?_ (by assumption))))⟩
     ·skip
      go_wp2_with (first|(go_at_call 19;refine(bn.out _ (by repeat' (first|exact G.refl _|assumption|refine G.alloc ?_ _|refine G.drew ?_ |refine G.drewN ?_ _|(refine G.trans ?_ (by assumption))))).mono ?_;rintro e wn ⟨rfl,hbn⟩)|(go_at_call 64;refine(bC.out _).mono ?_;rintro e wn ⟨rfl,hbn⟩))
      go_ret
      exact⟨by rw[dD.out];first|done|rfl,(by repeat' (first|exact G.refl _|assumption|refine G.alloc ?_ _|refine G.drew ?_ |refine G.drewN ?_ _|(refine G.trans ?_ (by assumption))))⟩
    ·rw[if_neg hl0] at hc6
     by_cases dN:V=T
     ·skip
      rw[if_pos dN] at hc6
      simp only[if_true] at hc6
      rw[hc6]
      obtain⟨nr,hnr⟩:∃ nr,nr=FT.wrd true V:=⟨_,rfl⟩
      obtain⟨fr,hfr⟩:∃ fr,fr=FT.wrd true (T+1):=⟨_,rfl⟩
      have dL:Hid (FT.wrd true T=nr):=by show _=_;rw[hnr,dN]
      have gI:Hid (FT.wrd true (T+1)=fr):=by show _=_;rw[hfr]
      have BV:(FloatKind.f64.format.order fr 0==some .eq)=false:=by rw[← gI.out,q0k true (by omega)];exact decide_eq_false (by omega)
      have l7:(FloatKind.f64.format.order nr 0==some .eq)=decide (T=0):=by rw[← dL.out,q0k true (by omega)]
      have fJ:Hid (rdW 2 q=fr):=by show _=_;rw[fV.out,if_pos hl0,gI.out]
      have fI:Hid (rdW 3 q=nr):=by show _=_;rw[iM.out,dL.out]
      have dD:Hid (rdW 4 q=nr):=by show _=_;rw[gP.out,dL.out]
      have fK:Hid (∀ W,Calls Tryz.prog 39 #[.float .f64 nr,.float .f64 FT.ninf] W fun e w'=>e= .returned (.float .f64 fr)∧G W w'):=fun W=>by
       have k:=q14 nr W (by rw[hnr];exact FT.wrd_lt true _ (by omega))
       have e:q3G nr=fr:=by rw[← dL.out,q6q (V:=T) (by omega)];exact gI.out
       rw[e] at k
       exact k
      rw[← hnr] at bM cB ll ⊢
      have bM:Hid (∀ W,_):=fun W=>bM.out dX W
      have cB:Hid (∀ W v,G w W→PR W v (FQ nr)→Calls Tryz.prog 65 #[v,u] W fun e w'=>e= .returned (.int .i64 1)∧G W w'):=fun W v g h=>by have k:=cB.out dX W v g h;rw[hnr] at k;rw[hc6] at k;exact k
      obtain⟨t0,ht0⟩:∃ t0,t0=decide (T=0):=⟨_,rfl⟩
      rw[← ht0] at l7
      have qG:Hid (t0=true→nr=FT.wrd true 0):=fun h=>by rw[h] at ht0;rw[← dL.out,of_decide_eq_true ht0.symm]
      clear nM ht0 hnr hfr dN hl0 dK dX hc6 hw1 hw2 hw3 fV iM gP oK dL gI
      go_wp2_with fail
      refine Calls.mono (P:=Tryz.prog) (bM.out w6) ?_
      rintro e w7 ⟨v7,rfl,g7,k7⟩
      have dW:Hid (PR w7 v7 (FQ nr)):=k7
      clear k7
      go_wp2_with fail
      refine Calls.mono (P:=Tryz.prog) (cB.out w7 v7 (by repeat' (first|exact G.refl _|assumption|refine G.alloc ?_ _|refine G.drew ?_ |refine G.drewN ?_ _|(refine G.trans ?_ (by assumption)))) dW.out) ?_
      rintro e w8 ⟨rfl,g8⟩
      go_wp2_with fail
      refine Calls.mono (P:=Tryz.prog) (vP.out w8) ?_
      rintro e w9 ⟨rfl,g9⟩
      go_wp2_with fail
      refine Calls.mono (P:=Tryz.prog) (fK.out w9) ?_
      rintro e bE ⟨rfl,g10⟩
      cases t0
      ·skip
       clear hm1
       rcases hm with rfl|rfl|rfl
       ·skip
        go_wp2_with (first|(go_at_call 19;refine(bn.out _ (by repeat' (first|exact G.refl _|assumption|refine G.alloc ?_ _|refine G.drew ?_ |refine G.drewN ?_ _|(refine G.trans ?_ (by assumption))))).mono ?_;rintro e wn ⟨rfl,hbn⟩)|(go_at_call 64;refine(bC.out _).mono ?_;rintro e wn ⟨rfl,hbn⟩))
        go_ret
        exact⟨by rw[fJ.out];first|done|rfl,(by repeat' (first|exact G.refl _|assumption|refine G.alloc ?_ _|refine G.drew ?_ |refine G.drewN ?_ _|(refine G.trans ?_ (by assumption))))⟩
       ·skip
        go_wp2_with (first|(go_at_call 19;refine(bn.out _ (by repeat' (first|exact G.refl _|assumption|refine G.alloc ?_ _|refine G.drew ?_ |refine G.drewN ?_ _|(refine G.trans ?_ (by assumption))))).mono ?_;rintro e wn ⟨rfl,hbn⟩)|(go_at_call 64;refine(bC.out _).mono ?_;rintro e wn ⟨rfl,hbn⟩))
        go_ret
        exact⟨by rw[fI.out];first|done|rfl,(by repeat' (first|exact G.refl _|assumption|refine G.alloc ?_ _|refine G.drew ?_ |refine G.drewN ?_ _|(refine G.trans ?_ (by assumption))))⟩
       ·skip
        go_wp2_with (first|(go_at_call 19;refine(bn.out _ (by repeat' (first|exact G.refl _|assumption|refine G.alloc ?_ _|refine G.drew ?_ |refine G.drewN ?_ _|(refine G.trans ?_ (by assumption))))).mono ?_;rintro e wn ⟨rfl,hbn⟩)|(go_at_call 64;refine(bC.out _).mono ?_;rintro e wn ⟨rfl,hbn⟩))
        go_ret
        exact⟨by rw[dD.out];first|done|rfl,(by repeat' (first|exact G.refl _|assumption|refine G.alloc ?_ _|refine G.drew ?_ |refine G.drewN ?_ _|(refine G.trans ?_ (by assumption))))⟩
      ·rw[qG.out rfl] at l7 fK fI dD ⊢
       clear hm1
       rcases hm with rfl|rfl|rfl
       ·skip
        go_wp2_with (first|(go_at_call 19;refine(bn.out _ (by repeat' (first|exact G.refl _|assumption|refine G.alloc ?_ _|refine G.drew ?_ |refine G.drewN ?_ _|(refine G.trans ?_ (by assumption))))).mono ?_;rintro e wn ⟨rfl,hbn⟩)|(go_at_call 64;refine(bC.out _).mono ?_;rintro e wn ⟨rfl,hbn⟩))
        go_ret
        exact⟨by rw[fJ.out];first|done|rfl,(by repeat' (first|exact G.refl _|assumption|refine G.alloc ?_ _|refine G.drew ?_ |refine G.drewN ?_ _|(refine G.trans ?_ (by assumption))))⟩
       ·skip
        go_wp2_with (first|(go_at_call 19;refine(bn.out _ (by repeat' (first|exact G.refl _|assumption|refine G.alloc ?_ _|refine G.drew ?_ |refine G.drewN ?_ _|(refine G.trans ?_ (by assumption))))).mono ?_;rintro e wn ⟨rfl,hbn⟩)|(go_at_call 64;refine(bC.out _).mono ?_;rintro e wn ⟨rfl,hbn⟩))
        go_ret
        exact⟨by rw[fI.out];first|done|rfl,(by repeat' (first|exact G.refl _|assumption|refine G.alloc ?_ _|refine G.drew ?_ |refine G.drewN ?_ _|(refine G.trans ?_ (by assumption))))⟩
       ·skip
        go_wp2_with (first|(go_at_call 19;refine(bn.out _ (by repeat' (first|exact G.refl _|assumption|refine G.alloc ?_ _|refine G.drew ?_ |refine G.drewN ?_ _|(refine G.trans ?_ (by assumption))))).mono ?_;rintro e wn ⟨rfl,hbn⟩)|(go_at_call 64;refine(bC.out _).mono ?_;rintro e wn ⟨rfl,hbn⟩))
        go_ret
        exact⟨by rw[dD.out];first|done|rfl,(by repeat' (first|exact G.refl _|assumption|refine G.alloc ?_ _|refine G.drew ?_ |refine G.drewN ?_ _|(refine G.trans ?_ (by assumption))))⟩
     ·skip
      rw[if_neg dN] at hc6
      simp only[if_true] at hc6
      rw[hc6]
      have l8:V=T+1:=by rcases hw2 with h|h;exact absurd h dN;exact h
      obtain⟨fr,hfr⟩:∃ fr,fr=FT.wrd true V:=⟨_,rfl⟩
      obtain⟨nr,hnr⟩:∃ nr,nr=FT.wrd true T:=⟨_,rfl⟩
      have dL:Hid (FT.wrd true T=nr):=hnr.symm
      have gI:Hid (FT.wrd true (T+1)=fr):=by show _=_;rw[hfr,l8]
      have BV:(FloatKind.f64.format.order fr 0==some .eq)=false:=by rw[← gI.out,q0k true (by omega)];exact decide_eq_false (by omega)
      have l7:(FloatKind.f64.format.order nr 0==some .eq)=decide (T=0):=by rw[← dL.out,q0k true (by omega)]
      have fJ:Hid (rdW 2 q=fr):=by show _=_;rw[fV.out,if_pos hl0,gI.out]
      have fI:Hid (rdW 3 q=nr):=by show _=_;rw[iM.out,dL.out]
      have dD:Hid (rdW 4 q=nr):=by show _=_;rw[gP.out,dL.out]
      have fK:Hid (∀ W,Calls Tryz.prog 39 #[.float .f64 fr,.float .f64 FT.infR] W fun e w'=>e= .returned (.float .f64 nr)∧G W w'):=fun W=>by
       have k:=q0W fr W (by rw[hfr];exact FT.wrd_lt true _ (by omega))
       have e:upV fr=nr:=by rw[← gI.out,q9D (V:=T) (by omega)];exact dL.out
       rw[e] at k
       exact k
      rw[← hfr] at bM cB ll ⊢
      have bM:Hid (∀ W,_):=fun W=>bM.out dX W
      have cB:Hid (∀ W v,G w W→PR W v (FQ fr)→Calls Tryz.prog 65 #[v,u] W fun e w'=>e= .returned (.int .i64 (-1))∧G W w'):=fun W v g h=>by have k:=cB.out dX W v g h;rw[hfr] at k;rw[hc6] at k;exact k
      obtain⟨t0,ht0⟩:∃ t0,t0=decide (T=0):=⟨_,rfl⟩
      rw[← ht0] at l7
      have qG:Hid (t0=true→nr=FT.wrd true 0):=fun h=>by rw[h] at ht0;rw[← dL.out,of_decide_eq_true ht0.symm]
      clear l8 nM ht0 hnr hfr dN hl0 dK dX hc6 hw1 hw2 hw3 fV iM gP oK dL gI
      go_wp2_with fail
      refine Calls.mono (P:=Tryz.prog) (oL.out w6) ?_
      rintro e w9 ⟨rfl,g9⟩
      go_wp2_with fail
      refine Calls.mono (P:=Tryz.prog) (fK.out w9) ?_
      rintro e bE ⟨rfl,g10⟩
      cases t0
      ·skip
       clear hm1
       rcases hm with rfl|rfl|rfl
       ·skip
        go_wp2_with (first|(go_at_call 19;refine(bn.out _ (by repeat' (first|exact G.refl _|assumption|refine G.alloc ?_ _|refine G.drew ?_ |refine G.drewN ?_ _|(refine G.trans ?_ (by assumption))))).mono ?_;rintro e wn ⟨rfl,hbn⟩)|(go_at_call 64;refine(bC.out _).mono ?_;rintro e wn ⟨rfl,hbn⟩))
        go_ret
        exact⟨by rw[fJ.out];first|done|rfl,(by repeat' (first|exact G.refl _|assumption|refine G.alloc ?_ _|refine G.drew ?_ |refine G.drewN ?_ _|(refine G.trans ?_ (by assumption))))⟩
       ·skip
        go_wp2_with (first|(go_at_call 19;refine(bn.out _ (by repeat' (first|exact G.refl _|assumption|refine G.alloc ?_ _|refine G.drew ?_ |refine G.drewN ?_ _|(refine G.trans ?_ (by assumption))))).mono ?_;rintro e wn ⟨rfl,hbn⟩)|(go_at_call 64;refine(bC.out _).mono ?_;rintro e wn ⟨rfl,hbn⟩))
        go_ret
        exact⟨by rw[fI.out];first|done|rfl,(by repeat' (first|exact G.refl _|assumption|refine G.alloc ?_ _|refine G.drew ?_ |refine G.drewN ?_ _|(refine G.trans ?_ (by assumption))))⟩
       ·skip
        go_wp2_with (first|(go_at_call 19;refine(bn.out _ (by repeat' (first|exact G.refl _|assumption|refine G.alloc ?_ _|refine G.drew ?_ |refine G.drewN ?_ _|(refine G.trans ?_ (by assumption))))).mono ?_;rintro e wn ⟨rfl,hbn⟩)|(go_at_call 64;refine(bC.out _).mono ?_;rintro e wn ⟨rfl,hbn⟩))
        go_ret
        exact⟨by rw[dD.out];first|done|rfl,(by repeat' (first|exact G.refl _|assumption|refine G.alloc ?_ _|refine G.drew ?_ |refine G.drewN ?_ _|(refine G.trans ?_ (by assumption))))⟩
      ·rw[qG.out rfl] at l7 fK fI dD ⊢
       clear hm1
       rcases hm with rfl|rfl|rfl
       ·skip
        go_wp2_with (first|(go_at_call 19;refine(bn.out _ (by repeat' (first|exact G.refl _|assumption|refine G.alloc ?_ _|refine G.drew ?_ |refine G.drewN ?_ _|(refine G.trans ?_ (by assumption))))).mono ?_;rintro e wn ⟨rfl,hbn⟩)|(go_at_call 64;refine(bC.out _).mono ?_;rintro e wn ⟨rfl,hbn⟩))
        go_ret
        exact⟨by rw[fJ.out];first|done|rfl,(by repeat' (first|exact G.refl _|assumption|refine G.alloc ?_ _|refine G.drew ?_ |refine G.drewN ?_ _|(refine G.trans ?_ (by assumption))))⟩
       ·skip
        go_wp2_with (first|(go_at_call 19;refine(bn.out _ (by repeat' (first|exact G.refl _|assumption|refine G.alloc ?_ _|refine G.drew ?_ |refine G.drewN ?_ _|(refine G.trans ?_ (by assumption))))).mono ?_;rintro e wn ⟨rfl,hbn⟩)|(go_at_call 64;refine(bC.out _).mono ?_;rintro e wn ⟨rfl,hbn⟩))
        go_ret
        exact⟨by rw[fI.out];first|done|rfl,(by repeat' (first|exact G.refl _|assumption|refine G.alloc ?_ _|refine G.drew ?_ |refine G.drewN ?_ _|(refine G.trans ?_ (by assumption))))⟩
       ·skip
        go_wp2_with (first|(go_at_call 19;refine(bn.out _ (by repeat' (first|exact G.refl _|assumption|refine G.alloc ?_ _|refine G.drew ?_ |refine G.drewN ?_ _|(refine G.trans ?_ (by assumption))))).mono ?_;rintro e wn ⟨rfl,hbn⟩)|(go_at_call 64;refine(bC.out _).mono ?_;rintro e wn ⟨rfl,hbn⟩))
        go_ret
        exact⟨by rw[dD.out];first|done|rfl,(by repeat' (first|exact G.refl _|assumption|refine G.alloc ?_ _|refine G.drew ?_ |refine G.drewN ?_ _|(refine G.trans ?_ (by assumption))))⟩
end Go.Proofs.YtemmkninoiclfaaGreatDoor.EN
